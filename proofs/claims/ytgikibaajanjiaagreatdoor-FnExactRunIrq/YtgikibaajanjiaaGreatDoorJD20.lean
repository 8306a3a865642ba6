/- Part 20 of what the last text leans on. -/
import Derived.Test.YtgikibaajanjiaaGreatDoorJD17
import Derived.Test.YtgikibaajanjiaaGreatDoorJD19
set_option maxRecDepth 100000
set_option maxHeartbeats 16000000
namespace Go.Proofs.YtgikibaajanjiaaGreatDoor
open Pl
open Go.RowKit Go.Proofs.Tryz
set_option linter.unusedVariables false
namespace Pl
def both (k:Int):Bool:=k-k%2==12||k-k%2==14
def said (b:Bool) (s:Int):Bool:=s==0||(b&&s==10)
theorem Jf:∀k:Nat,k<16->∀f:Nat,f<32->(said (both (k:Int)) (bits .and .i64 (f:Int) (need (k:Int)))==((k:Int)==bits .andNot .i64 (k:Int) 1))=tst k f:=by decide +kernel
theorem QM:∀k:Nat,k<16->(bits .andNot .i64 (k:Int) 1=0/\need k=0/\both k=false)\/(bits .andNot .i64 (k:Int) 1=2/\need k=5/\both k=false)\/(bits .andNot .i64 (k:Int) 1=4/\need k=1/\both k=false)\/(bits .andNot .i64 (k:Int) 1=6/\need k=4/\both k=false)\/(bits .andNot .i64 (k:Int) 1=8/\need k=2/\both k=false)\/(bits .andNot .i64 (k:Int) 1=10/\need k=8/\both k=false)\/(bits .andNot .i64 (k:Int) 1=12/\need k=10/\both k=true)\/(bits .andNot .i64 (k:Int) 1=14/\need k=14/\both k=true):=by decide +kernel
end Pl
theorem zq (a:Addr) (fn:Fn) (m:Mode) (w:World):(store a (.func fn #[] #[]) m).run prog w=stored prog w a (.func fn #[] #[]) m:=run_store prog w a _ m rfl
theorem Dj (c:Int) (w:World):Calls prog 284 #[iv c] w fun e w'=>e=.returned (iv (bits .andNot .i64 c 1))/\w'=w:=by
 go_enter func284,ntmps284;go_wp2;go_ret;exact⟨rfl,rfl⟩
theorem isNone (s:Int) (w:World):Calls prog 312 #[iv s] w fun e w'=>e=.returned (.bool (Pl.said false s))/\w'=w:=by
 go_enter func312,ntmps312;go_wp2;go_ret;exact⟨rB (by unfold Pl.said;simp),rfl⟩
theorem RX (s:Int) (w:World):Calls prog 313 #[iv s] w fun e w'=>e=.returned (.bool (Pl.said true s))/\w'=w:=by
 by_cases h:s=0
 ·go_enter func313,ntmps313;go_wp2;go_ret;exact⟨rB (by unfold Pl.said;simp[h]),rfl⟩
 ·go_enter func313,ntmps313;go_wp2;go_ret;exact⟨rB (by unfold Pl.said;simp),rfl⟩
def qV (k:Int):Value:=.agg #[iv (Pl.need k),.func (.func (bif Pl.both k then 313 else 312)) #[] #[]]
theorem vG (k:Nat) (hk:k<16) (w:World):Calls prog 283 #[iv (k:Int)] w fun e w'=>e=.returned (qV k)/\Kept 0 0 w w':=by
 have hst:=zq;rcases QM k hk with⟨hE,hn,hb⟩|⟨hE,hn,hb⟩|⟨hE,hn,hb⟩|⟨hE,hn,hb⟩|⟨hE,hn,hb⟩|⟨hE,hn,hb⟩|⟨hE,hn,hb⟩|⟨hE,hn,hb⟩
 all_goals
  unfold qV;rw[hn,hb];clear hn hb;simp only[cond_true,cond_false];go_enter func283,ntmps283;go_wp2_with (go_at_call 284;refine st (Dj _ _) ?_;rw[hE]);refine bodyPost_ret (v:=_) ?_ rfl ⟨rfl,?_⟩
  ·rw[aj rfl];go_simp
  ·exact kept_alloc _ _
theorem He (k j:Nat) (hk:k<16) (hj:j<32) (w:World):Calls prog 259 #[iv (k:Int),iv (j:Int)] w fun e w'=>e=.returned (.bool (Pl.tst k j))/\Kept 0 0 w w':=by
 have hst:=zq;rw[<-Jf k hk j hj];cases hb:Pl.both (k:Int)
 ·have hQ:qV k=.agg #[iv (Pl.need k),.func (.func 312) #[] #[]]:=by unfold qV;rw[hb];rfl
  go_enter func259,ntmps259;go_wp2_with fail;refine(vG k hk _).mono ?_;rintro e9 W⟨rfl,hk9⟩;rw[hQ];have HK:=aba hk9;clear hk9;go_wp2_with (first|(go_at_call 312;refine st (isNone _ _) ?_)|(go_at_call 284;refine st (Dj _ _) ?_));go_ret;exact⟨rfl,ah HK.o _⟩
 ·have hQ:qV k=.agg #[iv (Pl.need k),.func (.func 313) #[] #[]]:=by unfold qV;rw[hb];rfl
  go_enter func259,ntmps259;go_wp2_with fail;refine(vG k hk _).mono ?_;rintro e9 W⟨rfl,hk9⟩;rw[hQ];have HK:=aba hk9;clear hk9;go_wp2_with (first|(go_at_call 313;refine st (RX _ _) ?_)|(go_at_call 284;refine st (Dj _ _) ?_));go_ret;exact⟨rfl,ah HK.o _⟩
theorem listOf (x0 x1 x2 x3:Int) (w:World) :
  Calls prog 180 #[.agg #[iv x0,iv x1,iv x2,iv x3]] w fun e w'=>∃g:Nat,e=.returned (.slice (some (abb g 0)) 4 4)/\w.heap.size<=g/\Blk w' g (cellsOf [x0,x1,x2,x3]) 3/\Kept 0 0 w w':=
 (PW x0 x1 x2 x3 w).mono (fun e w' h=>⟨_,h.1,by omega,h.2⟩)
theorem bkS {w:World} {b:Nat} {r:Rg} {t:TypeId} (h:Blk w b (bkR r) t):w.cell? (abb b 0)=some (iv (el r.xs 0))/\w.cell? (abb b 1)=some (iv (el r.xs 1))/\w.cell? (abb b 2)=some (iv (el r.xs 2))/\w.cell? (abb b 3)=some (iv (el r.xs 3))/\w.cell? (abb b 4)=some (iv (el r.ys 0))/\w.cell? (abb b 5)=some (iv (el r.ys 1))/\w.cell? (abb b 6)=some (iv (el r.ys 2))/\w.cell? (abb b 7)=some (iv (el r.ys 3))/\w.cell? (abb b 8)=some (iv r.o)/\w.cell? (abb b 9)=some (iv r.p)/\w.cell? (abb b 10)=some (iv r.f)/\w.cell? (abb b 11)=some (iv r.m)/\w.cell? (abb b 12)=some (.bool r.s)/\w.cell? (abb b 13)=some (.bool r.t):=
 ⟨h.cell (i:=0) rfl,h.cell (i:=1) rfl,h.cell (i:=2) rfl,h.cell (i:=3) rfl,h.cell (i:=4) rfl,h.cell (i:=5) rfl,h.cell (i:=6) rfl,h.cell (i:=7) rfl,h.cell (i:=8) rfl,h.cell (i:=9) rfl,h.cell (i:=10) rfl,h.cell (i:=11) rfl,h.cell (i:=12) rfl,h.cell (i:=13) rfl⟩
theorem lC (r:Rg) (w:World) (f0:0<=r.f) (f1:r.f<=31) (m0:0<=r.m) (m1:r.m<=7) :
  Calls prog 199 #[.agg (bkR r)] w fun e w'=>e=.returned (iv (Pl.status r))/\Kept 0 0 w w':=by
 obtain⟨s0,s1⟩:0<=fl1 r.s 256/\fl1 r.s 256<=256:=by cases r.s<;>simp[fl1]
 obtain⟨t0,t1⟩:0<=fl1 r.t 512/\fl1 r.t 512<=512:=by cases r.t<;>simp[fl1]
 have w64:∀ {n:Int},-9223372036854775808<=n->n<=9223372036854775807->IntKind.i64.wrap n=n:=fun h0 h1=>by rw[IntKind.wrap_i64];omega
 have e1:IntKind.i64.wrap (r.m*32)=r.m*32:=w64 (by omega) (by omega);have e2:IntKind.i64.wrap (r.f+r.m*32)=r.f+r.m*32:=w64 (by omega) (by omega);have e3:IntKind.i64.wrap (r.f+r.m*32+fl1 r.s 256)=r.f+r.m*32+fl1 r.s 256:=w64 (by omega) (by omega);have e4:IntKind.i64.wrap (r.f+r.m*32+fl1 r.s 256+fl1 r.t 512)=r.f+r.m*32+fl1 r.s 256+fl1 r.t 512:=w64 (by omega) (by omega);clear w64;have HK:=aba (kept_alloc w (.cells (bkR r) 151));have E:Hid (r.f+r.m*32+fl1 r.s 256+fl1 r.t 512=Pl.status r):=aba (by unfold Pl.status;omega);unfold bkR;go_enter func199,ntmps199;go_wp2_with fail;go_quiet (first|(go_at_call 242;exact Calls.quiet_of_same (Ap _ _ _))|fail);go_wp2_with fail;go_ret;exact⟨rI E.o,ax HK.o _⟩
theorem Bd {w:World} {b:Nat} {cs:Array Value} {t:TypeId} (h:Blk w b cs t):Blk w.drew b cs t:=h
theorem NP (r:Rg) (w:World) (lx:r.xs.length=4) (ly:r.ys.length=4) :
  Calls prog 124 #[.agg (bkR r)] w fun e w'=>∃(a' b':Option Addr) (ca' cb':Nat),e=.returned (.agg #[.slice a' r.xs.length ca',.slice b' r.ys.length cb',iv r.o,iv r.p,iv r.f,iv r.m,.bool r.s,.bool r.t])/\Bh w' w.heap.size r a' b'/\Kept 0 0 w w':=by
 have LX:=aba lx;have LY:=aba ly;clear lx ly;have B0:=aba ((Blk.new w (bkR r) 151).alloc (.cells #[.slice none 0 0,.slice none 0 0,iv 0,iv 0,iv 0,iv 0,.bool false,.bool false] 35));have R0:=Blk.new (w.alloc (.cells (bkR r) 151)) #[.slice none 0 0,.slice none 0 0,iv 0,iv 0,iv 0,iv 0,.bool false,.bool false] 35;simp only[World.size_alloc]at R0;replace R0:=aba R0;have K0:=aba (ah (kept_alloc w (.cells (bkR r) 151)) (.cells #[.slice none 0 0,.slice none 0 0,iv 0,iv 0,iv 0,iv 0,.bool false,.bool false] 35));unfold bkR;go_enter func124,ntmps124;go_wp2_with fail;obtain⟨W,hW⟩:∃W:World,W=(w.alloc (.cells (bkR r) 151)).alloc (.cells #[.slice none 0 0,.slice none 0 0,iv 0,iv 0,iv 0,iv 0,.bool false,.bool false] 35):=⟨_,rfl⟩
 have hW2:(w.alloc (.cells #[iv (el r.xs 0),iv (el r.xs 1),iv (el r.xs 2),iv (el r.xs 3),iv (el r.ys 0),iv (el r.ys 1),iv (el r.ys 2),iv (el r.ys 3),iv r.o,iv r.p,iv r.f,iv r.m,.bool r.s,.bool r.t] 151)).alloc (.cells #[.slice none 0 0,.slice none 0 0,iv 0,iv 0,iv 0,iv 0,.bool false,.bool false] 35)=W:=hW.symm;rw[<-hW]at B0 R0 K0;rw[hW2];clear hW hW2;obtain⟨c0,c1,c2,c3,c4,c5,c6,c7,c8,c9,c10,c11,c12,c13⟩:=bkS B0.o
 go_region_held3 (fun w'=>w'.cell? (abb w.heap.size 0)=some (iv (el r.xs 0))/\w'.cell? (abb w.heap.size 1)=some (iv (el r.xs 1))/\w'.cell? (abb w.heap.size 2)=some (iv (el r.xs 2))/\w'.cell? (abb w.heap.size 3)=some (iv (el r.xs 3))/\w'.cell? (abb w.heap.size 4)=some (iv (el r.ys 0))/\w'.cell? (abb w.heap.size 5)=some (iv (el r.ys 1))/\w'.cell? (abb w.heap.size 6)=some (iv (el r.ys 2))/\w'.cell? (abb w.heap.size 7)=some (iv (el r.ys 3))/\w'.cell? (abb w.heap.size 8)=some (iv r.o)/\w'.cell? (abb w.heap.size 9)=some (iv r.p)/\w'.cell? (abb w.heap.size 10)=some (iv r.f)/\w'.cell? (abb w.heap.size 11)=some (iv r.m)/\w'.cell? (abb w.heap.size 12)=some (.bool r.s)/\w'.cell? (abb w.heap.size 13)=some (.bool r.t)) (first|with_reducible exact bkS B4.o|with_reducible exact bkS B3.o|with_reducible exact bkS (Bd B0.o)|exact bkS ((((((((B4.o.other _ _ _ (by omega)).other _ _ _ (by omega)).other _ _ _ (by omega)).other _ _ _ (by omega)).other _ _ _ (by omega)).other _ _ _ (by omega)).other _ _ _ (by omega)).other _ _ _ (by omega)))
  (first|(go_at_call 180;have B4:=B3;clear B4;refine(listOf _ _ _ _ _).mono ?_;rintro e w4⟨g',rfl,hg4,hb4,kd⟩;have B4:=aba (B3.o.ae kd);have R4:=aba (R3.o.ae kd);have q0:=R4.o.cell (i:=0) rfl;have fq0:=R4.o.frozen 0;have q1:=R4.o.cell (i:=1) rfl;have fq1:=R4.o.frozen 1;have q2:=R4.o.cell (i:=2) rfl;have fq2:=R4.o.frozen 2;have q3:=R4.o.cell (i:=3) rfl;have fq3:=R4.o.frozen 3;have q4:=R4.o.cell (i:=4) rfl;have fq4:=R4.o.frozen 4;have q5:=R4.o.cell (i:=5) rfl;have fq5:=R4.o.frozen 5;have q6:=R4.o.cell (i:=6) rfl;have fq6:=R4.o.frozen 6;have q7:=R4.o.cell (i:=7) rfl;have fq7:=R4.o.frozen 7;have G4:=aba (G3.o.ae kd);have H4:=aba hb4;have L4:=aba hg4;have K4:=aba (K3.o.trans kd);clear hg4 hb4 kd)|(go_at_call 180;refine(listOf _ _ _ _ _).mono ?_;rintro e w3⟨g,rfl,hg3,hb3,kd⟩;have k3:=aN kd;have B3:=aba (B0.o.ae k3);have R3:=aba (R0.o.ae k3);have G3:=aba hb3;have L3:Hid (W.heap.size<=g):=aba hg3;have K3:=aba (K0.o.trans k3);clear hg3 hb3 kd k3))
 go_wp2_with fail;have l0:=R0.o.lt;have l3:=L3.o;have l4:=L4.o;have l5:=G3.o.lt;have l6:=H4.o.lt;have l7:=G4.o.lt;have k0:=K0.o.size;refine bodyPost_ret (v:=.agg #[.slice (some (abb g 0)) 4 4,.slice (some (abb g' 0)) 4 4,iv r.o,iv r.p,iv r.f,iv r.m,.bool r.s,.bool r.t]) ?_ rfl ⟨some (abb g 0),some (abb g' 0),4,4,?_,⟨.inr ⟨g,rfl,by omega,?_,?_⟩,.inr ⟨g',rfl,by omega,?_,?_⟩,?_⟩,?_⟩
 ·rw[aj rfl];go_simp
 ·rw[LX.o,LY.o]
 ·simpa using l7
 ·rw[list4 LX.o];exact iF ((((((((G4.o.other _ _ _ (by omega)).other _ _ _ (by omega)).other _ _ _ (by omega)).other _ _ _ (by omega)).other _ _ _ (by omega)).other _ _ _ (by omega)).other _ _ _ (by omega)).other _ _ _ (by omega))
 ·simpa using l6
 ·rw[list4 LY.o];exact iF ((((((((H4.o.other _ _ _ (by omega)).other _ _ _ (by omega)).other _ _ _ (by omega)).other _ _ _ (by omega)).other _ _ _ (by omega)).other _ _ _ (by omega)).other _ _ _ (by omega)).other _ _ _ (by omega))
 ·intro g2 h2 h3;simp[blk]at h2 h3;omega
 ·exact(af (af (af (af (af (af (af (af K4.o _ _ _ (.inr (by omega))) _ _ _ (.inr (by omega))) _ _ _ (.inr (by omega))) _ _ _ (.inr (by omega))) _ _ _ (.inr (by omega))) _ _ _ (.inr (by omega))) _ _ _ (.inr (by omega))) _ _ _ (.inr (by omega)))
theorem yS (w:World) (op z r m k e s:Int) (r0:0<=r) (r1:r<=3) (s0:0<=s) (s1:s<=7):Calls prog 260 #[.agg (inA op z r m k e s)] w fun e' w'=>e'=.returned (iv (s+8*r))/\Kept 0 0 w w':=by
 have K0:=aba (kept_alloc w (.cells (inA op z r m k e s) 48));have ew1:IntKind.i64.wrap (8*r)=8*r:=by rw[IntKind.wrap_i64];omega
 have ew2:IntKind.i64.wrap (s+8*r)=s+8*r:=by rw[IntKind.wrap_i64];omega
 go_enter func260,ntmps260;go_wp2_with fail;go_ret;exact⟨rI (by simp),K0.o⟩
namespace Pl
theorem YB {c:Mc} (h:GM c) {z q k s:Int} (hz:z=1\/z=2) (hq:okv z q=true) (s0:0<=s) (s1:s<=7) (k0:0<=k) (k1:k<=3):okv z (iV s z c.r.f q (k+1))=true:=by
 have g:=Df hq h.g.f0 h.g.f1 s s0 s1;have ft:=(pO g).2.2.2.2.2;have ob:qE s z c.r.f q (k+1)=true:=by unfold qE cnt;rw[g];simp;omega
 have vb:=oL (k:=s) ft (k+1).toNat;unfold iV;rw[if_pos ob];obtain⟨v1,v2,v3,_⟩:=vb;unfold okv;simp only[Bool.and_eq_true,Bool.or_eq_true,decide_eq_true_eq];exact⟨v1,v2,v3⟩
end Pl
variable (w:World) (lo b g:Nat) (c:Mc) (h:Hl)
theorem Vw (op z r m k e s:Int) (hC:CAt w lo b g c h) (G:GM c) (B:InB ⟨op,z,r,m,k,e,s⟩) :
  Calls prog 228 #[.pointer (some (abb b 0)),.agg (inA op z r m k e s)] w fun e' w'=>e'=.returned (.tuple #[])/\CAt w' lo b g ((c.put z r (iV s z c.r.f (c.low z r) (k+1))).aJ (oh s z c.r.f (c.low z r) (k+1))) h/\Kept b (b+1) w w':=by
 obtain⟨l0,l1,l2,l3,l4⟩:=hC.lt;have HG:=aba G;have HB:=aba B;have K0:=aba (kept_alloc w (.cells (inA op z r m k e s) 48));have C0:=aba (hC.alloc (.cells (inA op z r m k e s) 48));have A0:=aba (Blk.new w (inA op z r m k e s) 48);obtain⟨X,hX⟩:∃X:World,w.alloc (.cells (inA op z r m k e s) 48)=X:=⟨_,rfl⟩
 rw[hX]at K0 C0 A0;have sX:w.heap.size<X.heap.size:=A0.o.lt;have p:=A0.o.all;clear hC G B;have OQ:okv z (c.low z r)=true:=iH HG.o HB.o.z HB.o.r0 HB.o.r1;have OV:=aba (YB (s:=s) (k:=k) HG.o HB.o.z OQ HB.o.s0 HB.o.s1 HB.o.k0 HB.o.k1);obtain⟨Q,hQ⟩:∃Q,Q=c.low z r:=⟨_,rfl⟩
 rw[<-hQ]at OV OQ ⊢;have tq:=aS OQ;have kb0:0<=k:=HB.o.k0;have kb1:k<=3:=HB.o.k1;have ew:IntKind.i64.wrap (k+1)=k+1:=by rw[IntKind.wrap_i64];omega
 obtain⟨V,hV⟩:∃V,V=iV s z c.r.f Q (k+1):=⟨_,rfl⟩
 obtain⟨F,hF⟩:∃F,F=oh s z c.r.f Q (k+1):=⟨_,rfl⟩
 rw[<-hV]at OV ⊢;rw[<-hF];have HQ:=aba hQ;have HV:=aba hV;have HF:=aba hF;have W6:W64 Q:=⟨by omega,by omega⟩
 clear hQ hV hF OQ tq;go_enter func228,ntmps228;go_wp2_with fail;clear hX p;obtain⟨u0,u1,u2,u3,u4,u5,u6⟩:=A0.o.c7;have u10:=C0.o.cF
 go_region_held3 (fun w'=>w'.cell? (abb w.heap.size 0)=some (iv op)/\w'.cell? (abb w.heap.size 1)=some (iv z)/\w'.cell? (abb w.heap.size 2)=some (iv r)/\w'.cell? (abb w.heap.size 3)=some (iv m)/\w'.cell? (abb w.heap.size 4)=some (iv k)/\w'.cell? (abb w.heap.size 5)=some (iv e)/\w'.cell? (abb w.heap.size 6)=some (iv s)/\w'.cell? (abb b 10)=some (iv c.r.f)) (first|with_reducible exact and7 A2.o.c7 C2.o.cF|with_reducible exact and7 A1.o.c7 C1.o.cF|exact and7 (show Blk _ _ _ _ from A0.o).c7 C0.o.drew.cF)
  (first|(go_at_call 258;have z9:=C1;refine(OU s z c.r.f Q (k+1) _ W6).mono ?_;rintro e9 W2⟨rfl,b2⟩;rw[<-HV.o,<-HF.o];have k2:=nG b2;have C2:=aba (C1.o.any k2);have A2:=aba (A1.o.ae k2);have K2:=aba (K1.o.trans k2);clear b2 k2)|(go_at_call 251;refine(nM _ lo b g c h z r C0.o.drew HB.o.z HB.o.r0 HB.o.r1).mono ?_;rintro e9 W1⟨rfl,kd⟩;rw[<-HQ.o];have k1:=aN kd;have C1:=aba (C0.o.any k1);have A1:=aba (A0.o.ae k1);have K1:=aba (K0.o.trans k1);clear kd k1))
 clear u0 u1 u2 u3 u4 u5 u6 u10;go_wp2_with fail;have u1:=A2.o.cell (i:=1) rfl;have u2:=A2.o.cell (i:=2) rfl
 go_region_held3 (fun w'=>w'.cell? (abb w.heap.size 1)=some (iv z)/\w'.cell? (abb w.heap.size 2)=some (iv r)) (first|with_reducible exact⟨A3.o.cell (i:=1) rfl,A3.o.cell (i:=2) rfl⟩|exact⟨(show Blk _ _ _ _ from A2.o).cell (i:=1) rfl,(show Blk _ _ _ _ from A2.o).cell (i:=2) rfl⟩)
  (first|(go_at_call 252;refine(ND _ lo b g c h z r V C2.o.drew HG.o.g HB.o.r0 HB.o.r1 HB.o.z OV.o).mono ?_;rintro e9 W3⟨rfl,hc3,kd⟩;have k3:=aN kd;have C3:=aba hc3;have A3:=aba (A2.o.kept k3 (by omega));have K3:=aba (K2.o.any.trans k3);clear hc3 kd k3))
 have cf:=C3.o.cF;have cz:=C3.o.fz;go_wp2_with fail;go_end0;exact⟨rfl,C3.o.aJ F,af K3.o _ _ _ (.inl ⟨by omega,by omega⟩)⟩
theorem Dp (k j:Int) (k0:0<=k) (k1:k<16) (j0:0<=j) (j1:j<32) (w:World):Calls prog 259 #[iv k,iv j] w fun e w'=>e=.returned (.bool (Pl.tst k j))/\Kept 0 0 w w':=by
 obtain⟨n,rfl⟩:∃n:Nat,k=(n:Int):=⟨k.toNat,by omega⟩
 obtain⟨m,rfl⟩:∃m:Nat,j=(m:Int):=⟨j.toNat,by omega⟩
 exact He n m (by omega) (by omega) w
theorem RF (op z r m k e s:Int) (hC:CAt w lo b g c h) (G:GM c) (B:InB ⟨op,z,r,m,k,e,s⟩) (hr:r<=1) :
  Calls prog 229 #[.pointer (some (abb b 0)),.agg (inA op z r m k e s)] w fun e' w'=>e'=.returned (.tuple #[])/\CAt w' lo b g (bif Pl.tst (s+8*r) c.r.f then c.aH ((c.r.p-2+e)%65536) else c) h/\Kept b (b+1) w w':=by
 obtain⟨l0,l1,l2,l3,l4⟩:=hC.lt;have HG:=aba G;have HB:=aba B;have K0:=aba (kept_alloc w (.cells (inA op z r m k e s) 48));have C0:=aba (hC.alloc (.cells (inA op z r m k e s) 48));have A0:=aba (Blk.new w (inA op z r m k e s) 48);obtain⟨X,hX⟩:∃X:World,w.alloc (.cells (inA op z r m k e s) 48)=X:=⟨_,rfl⟩
 rw[hX]at K0 C0 A0;have sX:w.heap.size<X.heap.size:=A0.o.lt;have p:=A0.o.all;clear hC G B;have r0:0<=r:=HB.o.r0;have s0:0<=s:=HB.o.s0;have s1:s<=7:=HB.o.s1;have e0:0<=e:=HB.o.e0;have e1:e<=65535:=HB.o.e1;have f0:=HG.o.g.f0;have f1:=HG.o.g.f1;have p0:=HG.o.p0;have p1:=HG.o.p1;have ew1:IntKind.i64.wrap (8*r)=8*r:=by rw[IntKind.wrap_i64];omega
 have ew2:IntKind.i64.wrap (s+8*r)=s+8*r:=by rw[IntKind.wrap_i64];omega
 have ew3:IntKind.i64.wrap (c.r.p-2)=c.r.p-2:=by rw[IntKind.wrap_i64];omega
 have ew4:IntKind.i64.wrap (c.r.p-2+e)=c.r.p-2+e:=by rw[IntKind.wrap_i64];omega
 go_enter func229,ntmps229;go_wp2_with fail;clear hX p;obtain⟨u0,u1,u2,u3,u4,u5,u6⟩:=A0.o.c7;have u10:=C0.o.cF
 go_region_held3 (fun w'=>w'.cell? (abb w.heap.size 0)=some (iv op)/\w'.cell? (abb w.heap.size 1)=some (iv z)/\w'.cell? (abb w.heap.size 2)=some (iv r)/\w'.cell? (abb w.heap.size 3)=some (iv m)/\w'.cell? (abb w.heap.size 4)=some (iv k)/\w'.cell? (abb w.heap.size 5)=some (iv e)/\w'.cell? (abb w.heap.size 6)=some (iv s)/\w'.cell? (abb b 10)=some (iv c.r.f)) (first|with_reducible exact and7 A1.o.c7 C1.o.cF|with_reducible exact and7 A9.o.c7 C9.o.cF|exact and7 (show Blk _ _ _ _ from A0.o).c7 C0.o.drew.cF)
  (first|(go_at_call 259;have z9:=C9;refine(Dp _ _ (by omega) (by omega) f0 (by omega) _).mono ?_;rintro e9 W1⟨rfl,k1⟩;have C1:=aba (C9.o.any k1);have A1:=aba (A9.o.ae k1);have K1:=aba (K9.o.trans k1);clear k1)|(go_at_call 260;refine(yS _ op z r m k e s r0 (by omega) s0 s1).mono ?_;rintro e9 W9⟨rfl,kd⟩;have k1:=aN kd;have C9:=aba (C0.o.any k1);have A9:=aba (A0.o.ae k1);have K9:=aba (K0.o.trans k1);clear kd k1))
 clear u0 u1 u2 u3 u4 u5 u6 u10;have q9:=C1.o.cP;have qz:=C1.o.fz;have q5:=A1.o.cell (i:=5) rfl;cases ht:Pl.tst (s+8*r) c.r.f
 ·go_wp2_with fail;go_end0;exact⟨rfl,by rw[ht];exact C1.o,K1.o.any⟩
 ·go_wp2_with fail;go_region_with (first|(go_at_call 178;refine st (gZ _ _) ?_))
  all_goals
   go_end0;exact⟨rfl,by rw[ht];exact(C1.o.aH _).drew,ai (af K1.o.any _ _ _ (.inl ⟨by omega,by omega⟩))⟩
theorem CAt.Bf {w:World} {lo b g:Nat} {c:Mc} {h:Hl} (a:CAt w lo b g c h):w.cell? (abb b 0)=some (iv (el c.r.xs 0))/\w.cell? (abb b 1)=some (iv (el c.r.xs 1))/\w.cell? (abb b 2)=some (iv (el c.r.xs 2))/\w.cell? (abb b 3)=some (iv (el c.r.xs 3))/\w.cell? (abb b 4)=some (iv (el c.r.ys 0))/\w.cell? (abb b 5)=some (iv (el c.r.ys 1))/\w.cell? (abb b 6)=some (iv (el c.r.ys 2))/\w.cell? (abb b 7)=some (iv (el c.r.ys 3))/\w.cell? (abb b 8)=some (iv c.r.o)/\w.cell? (abb b 9)=some (iv c.r.p)/\w.cell? (abb b 10)=some (iv c.r.f)/\w.cell? (abb b 11)=some (iv c.r.m)/\w.cell? (abb b 12)=some (.bool c.r.s)/\w.cell? (abb b 13)=some (.bool c.r.t):=
 ⟨a.cX (by omega),a.cX (by omega),a.cX (by omega),a.cX (by omega),a.cY (k:=0) (by omega),a.cY (k:=1) (by omega),a.cY (k:=2) (by omega),a.cY (k:=3) (by omega),a.cO,a.cP,a.cF,a.cM,a.cS,a.cT⟩
theorem vg (T:TypeId) (U:Value) (z a:Int) (w:World):(Instr.field 239 (.agg #[.iface T U,iv z,iv a]) 2).run prog w=.ok (iv a) w:=by kernel_rfl
def Pl.Mc.jp (c:Mc) (x:Pl.In):Mc:=bif x.s==1 then (bif ((c.slot x.z x.m x.k x.e).push c.r.p).fine then ((c.slot x.z x.m x.k x.e).push c.r.p).aH (c.readA x.z x.m x.k x.e) else (c.slot x.z x.m x.k x.e).push c.r.p) else (c.slot x.z x.m x.k x.e).aH (c.readA x.z x.m x.k x.e)
theorem Pl.IR (c:Mc) (z m k e:Int):(c.slot z m k e).r.p=c.r.p:=by
 unfold Mc.slot;cases Mc.gK m
 ·exact rD c.r z m k e
 ·rfl
theorem Pl.Uw (c:Mc) (v:Int):(c.push v).f=Mc.dA c.f 2 2 c.spA:=by
 unfold Mc.push;cases (c.acc 2 2 c.spA v).fine<;>rfl
theorem Pl.Py {c E:Mc} {v:Int} (hf:c.f=aI) (hE:E=c.push v) (h:(E.f.v != 0)=false):E.f=aI:=by
 rw[hE,Uw,hf]at h ⊢;exact(nN h).2
theorem VI (op z r m k e:Int) (hC:CAt w lo b g c h) (G:GM c) (hf:c.f=aI) (B:InB ⟨op,z,r,m,k,e,0⟩) :
  Calls prog 230 #[.pointer (some (abb b 0)),.agg (inA op z r m k e 0)] w fun e' w'=>∃g',e'=.returned (.agg (ftC (c.jp ⟨op,z,r,m,k,e,0⟩).f))/\CAt w' lo b g' (c.jp ⟨op,z,r,m,k,e,0⟩) h/\Since w b (b+1) g w' g':=by
 have HB:=aba B;clear B;obtain⟨l0,l1,l2,l3,l4⟩:=hC.lt;have HG:=aba G;obtain⟨X,hX,K0,C0,A0,R0,sX⟩:=hC.lw op z r m k e 0;have p:=A0.o.all;clear hC G;obtain⟨D,hD⟩:∃D,D=c.slot z m k e:=⟨_,rfl⟩
 have GD:Hid (GM D):=aba (by rw[hD];exact HG.o.slot HB.o.k0 HB.o.k1);have DF:Hid (D.f=aI):=aba (by rw[hD];unfold Mc.slot;cases Mc.gK m<;>exact hf);have DP:Hid (D.r.p=c.r.p):=aba (by rw[hD];exact IR c z m k e);obtain⟨a,ha⟩:∃a,a=c.readA z m k e:=⟨_,rfl⟩
 have HA:=aba ha;obtain⟨T,U,hW⟩:=qh m k e;have HW:=aba hW;have HD:=aba hD;have sa:=vg T U z a;have ET:Hid (c.jp ⟨op,z,r,m,k,e,0⟩=D.aH a):=aba (by rw[hD,ha];rfl);clear ha hW hD;have rr:=fun W (R:Blk W (w.heap.size+1) ftZ 42)=>(R.other b 9 (iv a) (by omega)).all;have rz:=fun W (R:Blk W (w.heap.size+1) ftZ 42)=>(R.other b 9 (iv a) (by omega)).fz;go_enter func230,ntmps230;go_wp2_with (go_at_call 227;refine(wH _ lo b g c h ⟨op,z,r,m,k,e,0⟩ C0.o HG.o HB.o).mono ?_;rintro e9 W1⟨rfl,hc,hk⟩;rw[<-HA.o,HW.o];rw[<-HD.o]at hc;have C1:=aba hc;have A1:=aba (A0.o.kept hk (by omega));have R1:=aba (R0.o.kept hk (by omega));have S1:=aba (((Since.refl w b (b+1) g).any K0.o).ag hk (Nat.le_refl _) (Nat.le_refl _));have p1:=A1.o.all;have r1:=R1.o.all;have rf1:=R1.o.fz;have q9:W1.cell? (abb b 9)=some (iv c.r.p):=(by have q:=hc.cP;rw[DP.o]at q;exact q);have qz:=hc.fz;have r2:=rr _ R1.o;have rz2:=rz _ R1.o;clear hc hk);have KR:=(((((ak (W1.setCell (abb b 9) (iv a)) (w.heap.size+1) 0 (iv 0)).one 1 (iv 0)).one 2 (iv 0)).one 3 (iv 0)).one 4 (.bool false))
 refine bodyPost_ret (v:=.agg ftZ) ?_ rfl ⟨g,?_,?_,(S1.o.set b 9 (iv a) (.inl (by omega))).mine KR (by omega)⟩
 ·rw[aj rfl];go_simp
 ·rw[ET.o,show(D.aH a).f=aI from DF.o];rfl
 ·rw[ET.o];exact((C1.o.aH a).kept KR (by omega) (by omega))
theorem VH (op z r m k e:Int) (hC:CAt w lo b g c h) (G:GM c) (hf:c.f=aI) (B:InB ⟨op,z,r,m,k,e,1⟩) :
  Calls prog 230 #[.pointer (some (abb b 0)),.agg (inA op z r m k e 1)] w fun e' w'=>∃g',e'=.returned (.agg (ftC (c.jp ⟨op,z,r,m,k,e,1⟩).f))/\CAt w' lo b g' (c.jp ⟨op,z,r,m,k,e,1⟩) h/\Since w b (b+1) g w' g':=by
 have HB:=aba B;clear B;obtain⟨l0,l1,l2,l3,l4⟩:=hC.lt;have HG:=aba G;obtain⟨X,hX,K0,C0,A0,R0,sX⟩:=hC.lw op z r m k e 1;have p:=A0.o.all;clear hC G;obtain⟨D,hD⟩:∃D,D=c.slot z m k e:=⟨_,rfl⟩
 have GD:Hid (GM D):=aba (by rw[hD];exact HG.o.slot HB.o.k0 HB.o.k1);have DF:Hid (D.f=aI):=aba (by rw[hD];unfold Mc.slot;cases Mc.gK m<;>exact hf);have DP:Hid (D.r.p=c.r.p):=aba (by rw[hD];exact IR c z m k e);obtain⟨a,ha⟩:∃a,a=c.readA z m k e:=⟨_,rfl⟩
 have HA:=aba ha;obtain⟨T,U,hW⟩:=qh m k e;have HW:=aba hW;have HD:=aba hD;have sa:=vg T U z a;obtain⟨E,hE⟩:∃E,E=D.push c.r.p:=⟨_,rfl⟩
 obtain⟨F,hF⟩:∃F,F=E.f:=⟨_,rfl⟩
 have ET:Hid (c.jp ⟨op,z,r,m,k,e,1⟩=bif !(F.v != 0) then E.aH a else E):=aba (by
  show(bif ((c.slot z m k e).push c.r.p).fine then ((c.slot z m k e).push c.r.p).aH (c.readA z m k e) else (c.slot z m k e).push c.r.p)=_
  rw[<-hD,<-ha,<-hE,hF];unfold Mc.fine;simp[bne])
 have HE:=aba hE;have HF:=aba hF;have HP0:=aba HG.o.p0;have HP1:=aba HG.o.p1;clear ha hW hD hE hF;go_enter func230,ntmps230;go_wp2_with (first|(go_at_call 201;have z9:=C1;refine(NE _ lo b g D h c.r.p C1.o GD.o DF.o HP0.o HP1.o).mono ?_;rintro e9 W2⟨g',rfl,hc,hs⟩;rw[<-HE.o]at hc ⊢;rw[<-HF.o];unfold ftC;have C2:=aba (hc.alloc (.cells (ftA F) 42));have A2:=aba ((hs.blk A1.o (by omega) (by omega)).alloc (.cells (ftA F) 42));have R2:=aba ((hs.blk R1.o (by omega) (by omega)).alloc (.cells (ftA F) 42));have S2:=aba ((S1.o.trans hs).alloc (.cells (ftA F) 42));have L2:=aba (Blk.new W2 (ftA F) 42);have z2:=hs.size;have n2:=hs.ne (b:=w.heap.size+1) R1.o.lt (by omega);clear hc hs)|(go_at_call 227;refine(wH _ lo b g c h ⟨op,z,r,m,k,e,1⟩ C0.o HG.o HB.o).mono ?_;rintro e9 W1⟨rfl,hc,hk⟩;rw[<-HA.o,HW.o];rw[<-HD.o]at hc;have C1:=aba hc;have A1:=aba (A0.o.kept hk (by omega));have R1:=aba (R0.o.kept hk (by omega));have S1:=aba (((Since.refl w b (b+1) g).any K0.o).ag hk (Nat.le_refl _) (Nat.le_refl _));have p1:=A1.o.all;have r1:=R1.o.all;have rf1:=R1.o.fz;have q9:W1.cell? (abb b 9)=some (iv c.r.p):=(by have q:=hc.cP;rw[DP.o]at q;exact q);have qz:=hc.fz;clear hc hk));refine(bV F _).mono ?_;rintro e9 W4⟨rfl,kf⟩;have C4:=aba (C2.o.any kf);have A4:=aba (A2.o.ae kf);have R4:=aba (R2.o.ae kf);have L4:=aba (L2.o.ae kf);have S4:=aba (S2.o.any kf);have p4:=A4.o.all;have q4:=L4.o.all;have r4:=R4.o.all;have rf4:=R4.o.fz;clear kf;have qa:=C4.o.cP;have qb:=C4.o.fz;have r5:=(R4.o.other b 9 (iv a) (by omega)).all;have rf5:=(R4.o.other b 9 (iv a) (by omega)).fz;clear hX p p1 q9 qz r1 rf1;cases hv:(F.v != 0)
 ·have E1:Hid (c.jp ⟨op,z,r,m,k,e,1⟩=E.aH a):=aba (by rw[ET.o,hv];rfl);have EF:Hid (E.f=aI):=aba (Py DF.o HE.o (by rw[<-HF.o];exact hv));go_wp2_with fail;have KR:=(((((ak (W4.setCell (abb b 9) (iv a)) (w.heap.size+1) 0 (iv 0)).one 1 (iv 0)).one 2 (iv 0)).one 3 (iv 0)).one 4 (.bool false))
  refine bodyPost_ret (v:=.agg ftZ) ?_ rfl ⟨g',?_,?_,(S4.o.set b 9 (iv a) (.inl (by omega))).mine KR (by omega)⟩
  ·rw[aj rfl];go_simp
  ·rw[E1.o,show(E.aH a).f=aI from EF.o];rfl
  ·rw[E1.o];exact((C4.o.aH a).kept KR (by omega) (by omega))
 ·have E1:Hid (c.jp ⟨op,z,r,m,k,e,1⟩=E):=aba (by rw[ET.o,hv];rfl);go_wp2_with fail;have KR:=(((((ak W4 (w.heap.size+1) 0 (iv F.v)).one 1 (iv F.pc)).one 2 (iv F.ad)).one 3 (iv F.wo)).one 4 (.bool F.wr))
  refine bodyPost_ret (v:=.agg (ftA F)) ?_ rfl ⟨g',?_,?_,(S4.o).mine KR (by omega)⟩
  ·rw[aj rfl];go_simp
  ·rw[E1.o,<-HF.o];rfl
  ·rw[E1.o];exact((C4.o).kept KR (by omega) (by omega))
namespace Pl
theorem zg {r:Rg} (h:Good r) {r':Rg} (h0:r'.s=r.s) (h1:r'.t=r.t) (h2:r'.m=r.m) (h3:r'.f=r.f):aY r' (status r)=r':=by
 have a:=h.f0;have b:=h.f1;have c:=h.m0;have d:=h.m1;have e1:bK (status r)=r.s:=by unfold bK status fl1;cases r.s<;>cases r.t<;>simp<;>omega
 have e2:dD (status r)=r.t:=by unfold dD status fl1;cases r.s<;>cases r.t<;>simp<;>omega
 have e3:status r/32%8=r.m:=by unfold status fl1;cases r.s<;>cases r.t<;>simp<;>omega
 have e4:status r%32=r.f:=by unfold status fl1;cases r.s<;>cases r.t<;>simp<;>omega
 unfold aY;rw[e1,e2,e3,e4,if_pos h0.symm];obtain⟨xs,ys,o,p,f,m,s,t⟩:=r';simp only at h0 h1 h2 h3;rw[h0,h1,h2,h3]
theorem Xp (c:Mc):c.pop.f=Mc.dA c.f 1 2 (el c.r.ys 3):=by
 unfold Mc.pop;cases (c.acc 1 2 (el c.r.ys 3) 0).fine<;>rfl
theorem Ci {c E:Mc} (hf:c.f=aI) (hE:E=c.pop) (h:(E.f.v != 0)=false):E.f=aI:=by
 rw[hE,Xp,hf]at h ⊢;exact(nN h).2
def Mc.cb0 (c:Mc):Mc:=bif c.pop.fine then (c.pop.aH c.dK).bC (aY (c.pop.aH c.dK).r (status c.r)) else c.pop.aH c.dK
def Mc.cb1 (c:Mc):Mc:=bif c.pop.fine then (bif c.pop.pop.fine then (c.pop.pop.aH c.pop.dK).bC (aY (c.pop.pop.aH c.pop.dK).r (c.dK%1024)) else c.pop.pop.aH c.pop.dK) else c.pop
end Pl
theorem VF (op z r m k e:Int) (hC:CAt w lo b g c h) (G:GM c) (B:InB ⟨op,z,r,m,k,e,0⟩) (he:e<=1023) :
  Calls prog 233 #[.pointer (some (abb b 0)),.agg (inA op z r m k e 0)] w fun e' w'=>e'=.returned (.tuple #[])/\CAt w' lo b g (c.bC (aY c.r e)) h/\Kept b (b+1) w w':=by
 obtain⟨l0,l1,l2,l3,l4⟩:=hC.lt;have HG:=aba G;have HB:=aba B;have K0:=aba (kept_alloc w (.cells (inA op z r m k e 0) 48));have C0:=aba (hC.alloc (.cells (inA op z r m k e 0) 48));have A0:=aba (Blk.new w (inA op z r m k e 0) 48);obtain⟨X,hX⟩:∃X:World,w.alloc (.cells (inA op z r m k e 0) 48)=X:=⟨_,rfl⟩
 rw[hX]at K0 C0 A0;have sX:w.heap.size<X.heap.size:=A0.o.lt;have p:=A0.o.all;clear hC G B;have e0:0<=e:=HB.o.e0;go_enter func233,ntmps233;go_wp2_with fail;clear hX p;have u5:=A0.o.cell (i:=5) rfl
 go_region_held3 (fun w'=>w'.cell? (abb w.heap.size 5)=some (iv e)) (first|with_reducible exact A1.o.cell (i:=5) rfl|exact(show Blk _ _ _ _ from A0.o).cell (i:=5) rfl)
  (first|(go_at_call 198;refine(AP _ lo b g c h e C0.o.drew HG.o.g e0 he).mono ?_;rintro e9 W1⟨rfl,hc,kd⟩;have k1:=aN kd;have C1:=aba hc;have A1:=aba (A0.o.kept k1 (by omega));have K1:=aba (K0.o.any.trans k1);clear hc kd k1))
 go_wp2_with fail;first|go_end0|refine bodyPost_ret (results_none rfl _ _ _) rfl ?_
 exact⟨rfl,C1.o,K1.o⟩
theorem VE (op z r m k e:Int) (hC:CAt w lo b g c h) (G:GM c) (B:InB ⟨op,z,r,m,k,e,1⟩) :
  Calls prog 233 #[.pointer (some (abb b 0)),.agg (inA op z r m k e 1)] w fun e' w'=>e'=.returned (.tuple #[])/\CAt w' lo b g (c.bC {c.r with xs:=c.r.xs.set r.toNat (Pl.status c.r)}) h/\Kept b (b+1) w w':=by
 obtain⟨l0,l1,l2,l3,l4⟩:=hC.lt;have HG:=aba G;have HB:=aba B;have K0:=aba (kept_alloc w (.cells (inA op z r m k e 1) 48));have C0:=aba (hC.alloc (.cells (inA op z r m k e 1) 48));have A0:=aba (Blk.new w (inA op z r m k e 1) 48);obtain⟨X,hX⟩:∃X:World,w.alloc (.cells (inA op z r m k e 1) 48)=X:=⟨_,rfl⟩
 rw[hX]at K0 C0 A0;have sX:w.heap.size<X.heap.size:=A0.o.lt;have p:=A0.o.all;clear hC G B;obtain⟨n,rfl⟩:∃n:Nat,r=(n:Int):=⟨r.toNat,by have:0<=r:=HB.o.r0;omega⟩
 have hn:n<4:=by have:(n:Int)<=3:=HB.o.r1;omega
 have i0:(0:Int)<=(n:Int):=by omega
 have i1:(n:Int)<4:=by omega
 go_enter func233,ntmps233;go_wp2_with fail;clear hX p;have u2:=A0.o.cell (i:=2) rfl;obtain⟨v0,v1,v2,v3,v4,v5,v6,v7,v8,v9,v10,v11,v12,v13⟩:=C0.o.Bf;go_region_with (first|(go_at_call 199;refine(lC c.r _ HG.o.g.f0 HG.o.g.f1 HG.o.g.m0 HG.o.g.m1).mono ?_;rintro e9 W1⟨rfl,kd⟩;have k1:=aN kd;have C1:=aba (C0.o.any k1);have K1:=aba (K0.o.trans k1);have q1:=C1.o.cX hn;have qz:=C1.o.fz;have u2':=(A0.o.ae k1).cell (i:=2) rfl;clear kd k1))
 all_goals
  go_wp2_with fail;first|go_end0|refine bodyPost_ret (results_none rfl _ _ _) rfl ?_
  exact⟨rfl,C1.o.zy HG.o.g.d4 hn _,af K1.o.any _ _ _ (.inl ⟨by omega,by omega⟩)⟩
theorem VV (op z r m k e:Int) (hC:CAt w lo b g c h) (G:GM c) (hf:c.f=aI) :
  Calls prog 261 #[.pointer (some (abb b 0)),.agg (inA op z r m k e 0)] w fun e' w'=>∃g',e'=.returned (.agg (ftC c.cb0.f))/\CAt w' lo b g' (c.cb0) h/\Since w b (b+1) g w' g':=by
 obtain⟨l0,l1,l2,l3,l4⟩:=hC.lt;have HG:=aba G;obtain⟨X,hX,K0,C0,A0,R0,sX⟩:=hC.lw op z r m k e 0;have p:=A0.o.all;clear hC G;obtain⟨ST,hST⟩:∃x,x=Pl.status c.r:=⟨_,rfl⟩
 have st:=qi HG.o.g;rw[<-hST]at st;obtain⟨st0,st1⟩:=st;obtain⟨E,hE⟩:∃E,E=c.pop:=⟨_,rfl⟩
 obtain⟨V,hV⟩:∃V,V=c.dK:=⟨_,rfl⟩
 obtain⟨F,hF⟩:∃F,F=E.f:=⟨_,rfl⟩
 have vb:=kM HG.o;rw[<-hV]at vb;have GE:Hid (GM (E.aH V)):=aba (by have q:=HG.o.pop;rw[<-hE]at q;exact q.aH vb.1 vb.2)
 have ET:Hid (c.cb0=bif !(F.v != 0) then (E.aH V).bC (aY (E.aH V).r ST) else E.aH V):=aba (by
  unfold Mc.cb0
  rw[<-hE,<-hV,<-hST,hF];unfold Mc.fine;simp[bne])
 have HS:=aba hST;have HE:=aba hE;have HV:=aba hV;have HF:=aba hF;have er:ST%1024=ST:=by omega
 have er2:ST.tmod 1024=ST:=by rw[Int.tmod_eq_emod_of_nonneg st0];exact er
 clear hST hE hV hF vb;obtain⟨v0,v1,v2,v3,v4,v5,v6,v7,v8,v9,v10,v11,v12,v13⟩:=C0.o.Bf;go_enter func261,ntmps261;go_wp2_with (first|(go_at_call 285;have z9:=C1;refine(VB _ lo b g c h C1.o HG.o hf).mono ?_;rintro e9 W2⟨g',rfl,hc,hs⟩;rw[<-HE.o]at hc ⊢;rw[<-HV.o,<-HF.o];unfold ftC;have C2:=aba hc;have A2:=aba (hs.blk A1.o (by omega) (by omega));have R2:=aba (hs.blk R1.o (by omega) (by omega));have L2:=aba (hs.blk L1.o (by omega) (by omega));have S2:=aba (((Since.refl w b (b+1) g).any K1.o).trans hs);have z2:=hs.size;have n2:=hs.ne (b:=w.heap.size+1) R1.o.lt (by omega);have m2:=hs.ne (b:=W1.heap.size) L1.o.lt (by omega);have o2:=hs.ne (b:=w.heap.size) A1.o.lt (by omega);have c9:=hc.cP;have cz:=hc.fz;have lb:=((hs.blk L1.o (by omega) (by omega)).other b 9 (iv V) (by omega)).all;have lf:=((hs.blk L1.o (by omega) (by omega)).other b 9 (iv V) (by omega)).fz;clear hc hs)|(go_at_call 199;refine(lC c.r _ HG.o.g.f0 HG.o.g.f1 HG.o.g.m0 HG.o.g.m1).mono ?_;rintro e9 W1⟨rfl,k1⟩;rw[<-HS.o];have C1:=aba ((C0.o.any k1).alloc (.cells ftZ 42));have A1:=aba ((A0.o.ae k1).alloc (.cells ftZ 42));have R1:=aba ((R0.o.ae k1).alloc (.cells ftZ 42));have K1:=aba (ah (K0.o.trans k1) (.cells ftZ 42));have L1:=aba (Blk.new W1 ftZ 42);have s1:=k1.size;have p1:=A1.o.all;have l1a:=L1.o.all;have l1f:=L1.o.fz;clear k1));have KF4:=(((((ak (W2.setCell (abb b 9) (iv V)) W1.heap.size 0 (iv F.v)).one 1 (iv F.pc)).one 2 (iv F.ad)).one 3 (iv F.wo)).one 4 (.bool F.wr))
 refine(bV F _).mono ?_;rintro e9 W4⟨rfl,kf⟩;have C4:=aba (((C2.o.aH V).kept KF4 (by omega) (by omega)).any kf);have A4:=aba (((A2.o.other b 9 (iv V) (by omega)).kept KF4 (by omega)).ae kf);have R4:=aba (((R2.o.other b 9 (iv V) (by omega)).kept KF4 (by omega)).ae kf);have S4:=aba (((S2.o.set b 9 (iv V) (.inl (by omega))).mine KF4 (by omega)).any kf);have L4:Hid (Blk W4 W1.heap.size (ftA F) 42):=aba (Blk.ae (((((((L2.o.other b 9 (iv V) (by omega))).set 0 (iv F.v)).set 1 (iv F.pc)).set 2 (iv F.ad)).set 3 (iv F.wo)).set 4 (.bool F.wr)) kf);have p4:=A4.o.all;have q4:=L4.o.all;have r4:=R4.o.all;have rf4:=R4.o.fz;have qf4:=L4.o.fz;clear kf KF4;clear hX p p1 l1a l1f lb lf c9 cz v0 v1 v2 v3 v4 v5 v6 v7 v8 v9 v10 v11 v12 v13;cases hv:(F.v != 0)
 ·have E1:Hid (c.cb0=(E.aH V).bC (aY (E.aH V).r ST)):=aba (by rw[ET.o,hv];rfl);have EF:Hid (E.f=aI):=aba (Ci hf HE.o (by rw[<-HF.o];exact hv));go_wp2_with (first|(go_at_call 198;refine(AP _ lo b g' (E.aH V) h ST C4.o GE.o.g st0 st1).mono ?_;rintro e9 W5⟨rfl,hc,hk⟩;have C5:=aba hc;have R5:=aba (R4.o.kept hk (by omega));have S5:=aba (S4.o.ag hk (Nat.le_refl _) (Nat.le_refl _));have r5:=R5.o.all;have rf5:=R5.o.fz;clear hc hk));have KR:=(((((ak W5 (w.heap.size+1) 0 (iv 0)).one 1 (iv 0)).one 2 (iv 0)).one 3 (iv 0)).one 4 (.bool false))
  refine bodyPost_ret (v:=.agg ftZ) ?_ rfl ⟨g',?_,?_,(S5.o).mine KR (by omega)⟩
  ·rw[aj rfl];go_simp
  ·rw[E1.o,show((E.aH V).bC (aY (E.aH V).r ST)).f=aI from EF.o];rfl
  ·rw[E1.o];exact((C5.o).kept KR (by omega) (by omega))
 ·have E1:Hid (c.cb0=E.aH V):=aba (by rw[ET.o,hv];rfl);go_wp2_with fail;have KR:=(((((ak W4 (w.heap.size+1) 0 (iv F.v)).one 1 (iv F.pc)).one 2 (iv F.ad)).one 3 (iv F.wo)).one 4 (.bool F.wr))
  refine bodyPost_ret (v:=.agg (ftA F)) ?_ rfl ⟨g',?_,?_,(S4.o).mine KR (by omega)⟩
  ·rw[aj rfl];go_simp
  ·rw[E1.o,show(E.aH V).f=F from HF.o.symm];rfl
  ·rw[E1.o];exact((C4.o).kept KR (by omega) (by omega))
theorem VU (op z r m k e:Int) (hC:CAt w lo b g c h) (G:GM c) (hf:c.f=aI) :
  Calls prog 261 #[.pointer (some (abb b 0)),.agg (inA op z r m k e 1)] w fun e' w'=>∃g',e'=.returned (.agg (ftC c.cb1.f))/\CAt w' lo b g' (c.cb1) h/\Since w b (b+1) g w' g':=by
 obtain⟨l0,l1,l2,l3,l4⟩:=hC.lt;have HG:=aba G;obtain⟨X,hX,K0,C0,A0,R0,sX⟩:=hC.lw op z r m k e 1;have p:=A0.o.all;clear hC G;obtain⟨E,hE⟩:∃E,E=c.pop:=⟨_,rfl⟩
 obtain⟨V,hV⟩:∃V,V=c.dK:=⟨_,rfl⟩
 obtain⟨F,hF⟩:∃F,F=E.f:=⟨_,rfl⟩
 have vb:=kM HG.o;rw[<-hV]at vb;obtain⟨vb0,vb1⟩:=vb;have GE:Hid (GM E):=aba (by rw[hE];exact HG.o.pop);obtain⟨D,hD⟩:∃D,D=E.pop:=⟨_,rfl⟩
 obtain⟨U,hU⟩:∃U,U=E.dK:=⟨_,rfl⟩
 obtain⟨J,hJ⟩:∃J,J=D.f:=⟨_,rfl⟩
 have ub:=kM GE.o;rw[<-hU]at ub;have GD:Hid (GM (D.aH U)):=aba (by have q:=GE.o.pop;rw[<-hD]at q;exact q.aH ub.1 ub.2)
 have ET:Hid (c.cb1=bif !(F.v != 0) then (bif !(J.v != 0) then (D.aH U).bC (aY (D.aH U).r (V%1024)) else D.aH U) else E):=aba (by
  unfold Mc.cb1
  rw[<-hE,<-hV,<-hD,<-hU,hF,hJ];unfold Mc.fine;simp[bne])
 have HE:=aba hE;have HV:=aba hV;have HF:=aba hF;have HD:=aba hD;have HU:=aba hU;have HJ:=aba hJ;have er0:0<=V%1024:=by omega
 have er1:V%1024<=1023:=by omega
 have er2:V.tmod 1024=V%1024:=Int.tmod_eq_emod_of_nonneg vb0;clear hE hV hF hD hU hJ ub;obtain⟨v0,v1,v2,v3,v4,v5,v6,v7,v8,v9,v10,v11,v12,v13⟩:=C0.o.Bf;go_enter func261,ntmps261;go_wp2_with (first|(go_at_call 285;have z9:=C1;refine(VB _ lo b g c h C1.o HG.o hf).mono ?_;rintro e9 W2⟨g2,rfl,hc,hs⟩;rw[<-HE.o]at hc ⊢;rw[<-HV.o,<-HF.o];unfold ftC;have C2:=aba hc;have A2:=aba (hs.blk A1.o (by omega) (by omega));have R2:=aba (hs.blk R1.o (by omega) (by omega));have L2:=aba (hs.blk L1.o (by omega) (by omega));have S2:=aba (((Since.refl w b (b+1) g).any K1.o).trans hs);have z2:=hs.size;have n2:=hs.ne (b:=w.heap.size+1) R1.o.lt (by omega);have m2:=hs.ne (b:=W1.heap.size) L1.o.lt (by omega);have o2:=hs.ne (b:=w.heap.size) A1.o.lt (by omega);have lb:=(hs.blk L1.o (by omega) (by omega)).all;have lf:=(hs.blk L1.o (by omega) (by omega)).fz;clear hc hs)|(go_at_call 199;refine(lC c.r _ HG.o.g.f0 HG.o.g.f1 HG.o.g.m0 HG.o.g.m1).mono ?_;rintro e9 W1⟨rfl,k1⟩;have C1:=aba ((C0.o.any k1).alloc (.cells ftZ 42));have A1:=aba ((A0.o.ae k1).alloc (.cells ftZ 42));have R1:=aba ((R0.o.ae k1).alloc (.cells ftZ 42));have K1:=aba (ah (K0.o.trans k1) (.cells ftZ 42));have L1:=aba (Blk.new W1 ftZ 42);have s1:=k1.size;have p1:=A1.o.all;have l1a:=L1.o.all;have l1f:=L1.o.fz;clear k1));have KF4:=(((((ak W2 W1.heap.size 0 (iv F.v)).one 1 (iv F.pc)).one 2 (iv F.ad)).one 3 (iv F.wo)).one 4 (.bool F.wr))
 refine(bV F _).mono ?_;rintro e9 W4⟨rfl,kf⟩;have C4:=aba ((C2.o.kept KF4 (by omega) (by omega)).any kf);have A4:=aba ((A2.o.kept KF4 (by omega)).ae kf);have R4:=aba ((R2.o.kept KF4 (by omega)).ae kf);have S4:=aba ((S2.o.mine KF4 (by omega)).any kf);have L4:Hid (Blk W4 W1.heap.size (ftA F) 42):=aba (Blk.ae ((((((L2.o).set 0 (iv F.v)).set 1 (iv F.pc)).set 2 (iv F.ad)).set 3 (iv F.wo)).set 4 (.bool F.wr)) kf);have p4:=A4.o.all;have q4:=L4.o.all;have r4:=R4.o.all;have rf4:=R4.o.fz;have qf4:=L4.o.fz;clear kf KF4;clear hX p p1 l1a l1f lb lf v0 v1 v2 v3 v4 v5 v6 v7 v8 v9 v10 v11 v12 v13;cases hv:(F.v != 0)
 ·have EF:Hid (E.f=aI):=aba (Ci hf HE.o (by rw[<-HF.o];exact hv));go_wp2_with (first|(go_at_call 285;have z9:=C4;refine(VB _ lo b g2 E h C4.o GE.o EF.o).mono ?_;rintro e9 W6⟨g6,rfl,hc,hs⟩;rw[<-HD.o]at hc ⊢;rw[<-HU.o,<-HJ.o];unfold ftC;have C6:=aba hc;have A6:=aba (hs.blk A4.o (by omega) (by omega));have R6:=aba (hs.blk R4.o (by omega) (by omega));have L6:=aba (hs.blk L4.o (by omega) (by omega));have S6:=aba (S4.o.trans hs);have z6:=hs.size;have n6:=hs.ne (b:=w.heap.size+1) R4.o.lt (by omega);have m6:=hs.ne (b:=W1.heap.size) L4.o.lt (by omega);have o6:=hs.ne (b:=w.heap.size) A4.o.lt (by omega);have c9:=hc.cP;have cz:=hc.fz;have lb:=((hs.blk L4.o (by omega) (by omega)).other b 9 (iv U) (by omega)).all;have lf:=((hs.blk L4.o (by omega) (by omega)).other b 9 (iv U) (by omega)).fz;clear hc hs));have KF8:=(((((ak (W6.setCell (abb b 9) (iv U)) W1.heap.size 0 (iv J.v)).one 1 (iv J.pc)).one 2 (iv J.ad)).one 3 (iv J.wo)).one 4 (.bool J.wr))
  refine(bV J _).mono ?_;rintro e9 W8⟨rfl,kf⟩;have C8:=aba (((C6.o.aH U).kept KF8 (by omega) (by omega)).any kf);have A8:=aba (((A6.o.other b 9 (iv U) (by omega)).kept KF8 (by omega)).ae kf);have R8:=aba (((R6.o.other b 9 (iv U) (by omega)).kept KF8 (by omega)).ae kf);have S8:=aba (((S6.o.set b 9 (iv U) (.inl (by omega))).mine KF8 (by omega)).any kf);have L8:Hid (Blk W8 W1.heap.size (ftA J) 42):=aba (Blk.ae (((((((L6.o.other b 9 (iv U) (by omega))).set 0 (iv J.v)).set 1 (iv J.pc)).set 2 (iv J.ad)).set 3 (iv J.wo)).set 4 (.bool J.wr)) kf);have p8:=A8.o.all;have q8:=L8.o.all;have r8:=R8.o.all;have rf8:=R8.o.fz;have qf8:=L8.o.fz;clear kf KF8;clear lb lf c9 cz p4 q4 r4 rf4 qf4;cases hw:(J.v != 0)
  ·have E1:Hid (c.cb1=(D.aH U).bC (aY (D.aH U).r (V%1024))):=aba (by rw[ET.o,hv,hw];rfl);have DF:Hid (D.f=aI):=aba (Ci EF.o HD.o (by rw[<-HJ.o];exact hw));go_wp2_with (first|(go_at_call 198;refine(AP _ lo b g6 (D.aH U) h (V%1024) C8.o GD.o.g er0 er1).mono ?_;rintro e9 W9⟨rfl,hc,hk⟩;have C9:=aba hc;have R9:=aba (R8.o.kept hk (by omega));have S9:=aba (S8.o.ag hk (Nat.le_refl _) (Nat.le_refl _));have r9:=R9.o.all;have rf9:=R9.o.fz;clear hc hk));have KR:=(((((ak W9 (w.heap.size+1) 0 (iv 0)).one 1 (iv 0)).one 2 (iv 0)).one 3 (iv 0)).one 4 (.bool false))
   refine bodyPost_ret (v:=.agg ftZ) ?_ rfl ⟨g6,?_,?_,(S9.o).mine KR (by omega)⟩
   ·rw[aj rfl];go_simp
   ·rw[E1.o,show((D.aH U).bC (aY (D.aH U).r (V%1024))).f=aI from DF.o];rfl
   ·rw[E1.o];exact((C9.o).kept KR (by omega) (by omega))
  ·have E1:Hid (c.cb1=D.aH U):=aba (by rw[ET.o,hv,hw];rfl);go_wp2_with fail;have KR:=(((((ak W8 (w.heap.size+1) 0 (iv J.v)).one 1 (iv J.pc)).one 2 (iv J.ad)).one 3 (iv J.wo)).one 4 (.bool J.wr))
   refine bodyPost_ret (v:=.agg (ftA J)) ?_ rfl ⟨g6,?_,?_,(S8.o).mine KR (by omega)⟩
   ·rw[aj rfl];go_simp
   ·rw[E1.o,show(D.aH U).f=J from HJ.o.symm];rfl
   ·rw[E1.o];exact((C8.o).kept KR (by omega) (by omega))
 ·have E1:Hid (c.cb1=E):=aba (by rw[ET.o,hv];rfl);go_wp2_with fail;have KR:=(((((ak W4 (w.heap.size+1) 0 (iv F.v)).one 1 (iv F.pc)).one 2 (iv F.ad)).one 3 (iv F.wo)).one 4 (.bool F.wr))
  refine bodyPost_ret (v:=.agg (ftA F)) ?_ rfl ⟨g2,?_,?_,(S4.o).mine KR (by omega)⟩
  ·rw[aj rfl];go_simp
  ·rw[E1.o,<-HF.o];rfl
  ·rw[E1.o];exact((C4.o).kept KR (by omega) (by omega))
namespace Pl
def Mc.fw (c:Mc) (x:In):Mc:=
 bif x.s==0 then c.cb0 else bif x.s==1 then c.cb1 else bif x.s==3 then {c.bC (aY c.r x.e) with st:=true} else bif x.s==4 then {c with f:=⟨18+x.r,0,0,0,false⟩}
 else bif x.s==5 then (c.put 2 x.r (lU (el c.r.xs x.r.toNat))).aJ (dB 2 c.r.f (lU (el c.r.xs x.r.toNat))) else bif x.s==6 then (c.put 2 x.r (mM (c.low 1 x.r))).aJ (dB 2 c.r.f (mM (c.low 1 x.r))) else c
end Pl
theorem VQ (op z r m k e:Int) (hC:CAt w lo b g c h) (G:GM c) (hf:c.f=aI) (B:InB ⟨op,z,r,m,k,e,0⟩) :
  Calls prog 231 #[.pointer (some (abb b 0)),.agg (inA op z r m k e 0)] w fun e' w'=>∃g',e'=.returned (.agg (ftC (c.fw ⟨op,z,r,m,k,e,0⟩).f))/\CAt w' lo b g' (c.fw ⟨op,z,r,m,k,e,0⟩) h/\Since w b (b+1) g w' g':=by
 have HB:=aba B;clear B;obtain⟨l0,l1,l2,l3,l4⟩:=hC.lt;have HG:=aba G;obtain⟨X,hX,K0,C0,A0,R0,sX⟩:=hC.lw op z r m k e 0;have p:=A0.o.all;clear hC G;have r0:=R0.o.all;have rf0:=R0.o.fz;obtain⟨E,hE⟩:∃E,E=c.cb0:=⟨_,rfl⟩
 obtain⟨F,hF⟩:∃F,F=E.f:=⟨_,rfl⟩
 have ET:Hid (c.fw ⟨op,z,r,m,k,e,0⟩=E):=aba (by rw[hE];rfl);have HE:=aba hE;have HF:=aba hF;clear hE hF;go_enter func231,ntmps231;go_wp2_with (go_at_call 261;refine(VV _ lo b g c h op z r m k e C0.o HG.o hf).mono ?_;rintro e9 W1⟨g',rfl,hc,hs⟩;rw[<-HE.o]at hc ⊢;rw[<-HF.o];unfold ftC;have C1:=aba hc;have R1:=aba (hs.blk R0.o (by omega) (by omega));have n1:=hs.ne (b:=w.heap.size+1) R0.o.lt (by omega);have S1:=aba (((Since.refl w b (b+1) g).any K0.o).trans hs);have r1:=R1.o.all;have rf1:=R1.o.fz;clear hc hs);have KR:=(((((ak W1 (w.heap.size+1) 0 (iv F.v)).one 1 (iv F.pc)).one 2 (iv F.ad)).one 3 (iv F.wo)).one 4 (.bool F.wr))
 refine bodyPost_ret (v:=.agg (ftA F)) ?_ rfl ⟨g',?_,?_,(S1.o).mine KR (by omega)⟩
 ·rw[aj rfl];go_simp
 ·rw[ET.o,<-HF.o];rfl
 ·rw[ET.o];exact((C1.o).kept KR (by omega) (by omega))
theorem VP (op z r m k e:Int) (hC:CAt w lo b g c h) (G:GM c) (hf:c.f=aI) (B:InB ⟨op,z,r,m,k,e,1⟩) :
  Calls prog 231 #[.pointer (some (abb b 0)),.agg (inA op z r m k e 1)] w fun e' w'=>∃g',e'=.returned (.agg (ftC (c.fw ⟨op,z,r,m,k,e,1⟩).f))/\CAt w' lo b g' (c.fw ⟨op,z,r,m,k,e,1⟩) h/\Since w b (b+1) g w' g':=by
 have HB:=aba B;clear B;obtain⟨l0,l1,l2,l3,l4⟩:=hC.lt;have HG:=aba G;obtain⟨X,hX,K0,C0,A0,R0,sX⟩:=hC.lw op z r m k e 1;have p:=A0.o.all;clear hC G;have r0:=R0.o.all;have rf0:=R0.o.fz;obtain⟨E,hE⟩:∃E,E=c.cb1:=⟨_,rfl⟩
 obtain⟨F,hF⟩:∃F,F=E.f:=⟨_,rfl⟩
 have ET:Hid (c.fw ⟨op,z,r,m,k,e,1⟩=E):=aba (by rw[hE];rfl);have HE:=aba hE;have HF:=aba hF;clear hE hF;go_enter func231,ntmps231;go_wp2_with (go_at_call 261;refine(VU _ lo b g c h op z r m k e C0.o HG.o hf).mono ?_;rintro e9 W1⟨g',rfl,hc,hs⟩;rw[<-HE.o]at hc ⊢;rw[<-HF.o];unfold ftC;have C1:=aba hc;have R1:=aba (hs.blk R0.o (by omega) (by omega));have n1:=hs.ne (b:=w.heap.size+1) R0.o.lt (by omega);have S1:=aba (((Since.refl w b (b+1) g).any K0.o).trans hs);have r1:=R1.o.all;have rf1:=R1.o.fz;clear hc hs);have KR:=(((((ak W1 (w.heap.size+1) 0 (iv F.v)).one 1 (iv F.pc)).one 2 (iv F.ad)).one 3 (iv F.wo)).one 4 (.bool F.wr))
 refine bodyPost_ret (v:=.agg (ftA F)) ?_ rfl ⟨g',?_,?_,(S1.o).mine KR (by omega)⟩
 ·rw[aj rfl];go_simp
 ·rw[ET.o,<-HF.o];rfl
 ·rw[ET.o];exact((C1.o).kept KR (by omega) (by omega))
theorem VO (op z r m k e:Int) (hC:CAt w lo b g c h) (G:GM c) (hf:c.f=aI) (B:InB ⟨op,z,r,m,k,e,2⟩) :
  Calls prog 231 #[.pointer (some (abb b 0)),.agg (inA op z r m k e 2)] w fun e' w'=>∃g',e'=.returned (.agg (ftC (c.fw ⟨op,z,r,m,k,e,2⟩).f))/\CAt w' lo b g' (c.fw ⟨op,z,r,m,k,e,2⟩) h/\Since w b (b+1) g w' g':=by
 have HB:=aba B;clear B;obtain⟨l0,l1,l2,l3,l4⟩:=hC.lt;have HG:=aba G;obtain⟨X,hX,K0,C0,A0,R0,sX⟩:=hC.lw op z r m k e 2;have p:=A0.o.all;clear hC G;have r0:=R0.o.all;have rf0:=R0.o.fz;have ET:Hid (c.fw ⟨op,z,r,m,k,e,2⟩=c):=aba rfl;go_enter func231,ntmps231;go_wp2_with fail;have KR:=(((((ak X (w.heap.size+1) 0 (iv 0)).one 1 (iv 0)).one 2 (iv 0)).one 3 (iv 0)).one 4 (.bool false))
 refine bodyPost_ret (v:=.agg ftZ) ?_ rfl ⟨g,?_,?_,((Since.refl w b (b+1) g).any K0.o).mine KR (by omega)⟩
 ·rw[aj rfl];go_simp
 ·rw[ET.o,hf];rfl
 ·rw[ET.o];exact((C0.o).kept KR (by omega) (by omega))
theorem VM (op z r m k e:Int) (hC:CAt w lo b g c h) (G:GM c) (hf:c.f=aI) (B:InB ⟨op,z,r,m,k,e,4⟩) :
  Calls prog 231 #[.pointer (some (abb b 0)),.agg (inA op z r m k e 4)] w fun e' w'=>∃g',e'=.returned (.agg (ftC (c.fw ⟨op,z,r,m,k,e,4⟩).f))/\CAt w' lo b g' (c.fw ⟨op,z,r,m,k,e,4⟩) h/\Since w b (b+1) g w' g':=by
 have HB:=aba B;clear B;obtain⟨l0,l1,l2,l3,l4⟩:=hC.lt;have HG:=aba G;obtain⟨X,hX,K0,C0,A0,R0,sX⟩:=hC.lw op z r m k e 4;have p:=A0.o.all;clear hC G;have r0:=R0.o.all;have rf0:=R0.o.fz;have rb0:0<=r:=HB.o.r0;have rb1:r<=3:=HB.o.r1;have ET:Hid (c.fw ⟨op,z,r,m,k,e,4⟩={c with f:=⟨18+r,0,0,0,false⟩}):=aba rfl;go_enter func231,ntmps231;go_wp2_with fail;have KR:=(((((ak X (w.heap.size+1) 0 (iv (18+r))).one 1 (iv 0)).one 2 (iv 0)).one 3 (iv 0)).one 4 (.bool false))
 refine bodyPost_ret (v:=.agg #[iv (18+r),iv 0,iv 0,iv 0,.bool false]) ?_ rfl ⟨g,?_,?_,((Since.refl w b (b+1) g).any K0.o).mine KR (by omega)⟩
 ·rw[aj rfl];go_simp
 ·rw[ET.o];rfl
 ·rw[ET.o];exact((C0.o).kept KR (by omega) (by omega)).fx rfl rfl rfl rfl rfl
theorem VN (op z r m k e:Int) (hC:CAt w lo b g c h) (G:GM c) (hf:c.f=aI) (B:InB ⟨op,z,r,m,k,e,3⟩) (he:e<=1023) :
  Calls prog 231 #[.pointer (some (abb b 0)),.agg (inA op z r m k e 3)] w fun e' w'=>∃g',e'=.returned (.agg (ftC (c.fw ⟨op,z,r,m,k,e,3⟩).f))/\CAt w' lo b g' (c.fw ⟨op,z,r,m,k,e,3⟩) h/\Since w b (b+1) g w' g':=by
 have HB:=aba B;clear B;obtain⟨l0,l1,l2,l3,l4⟩:=hC.lt;have HG:=aba G;obtain⟨X,hX,K0,C0,A0,R0,sX⟩:=hC.lw op z r m k e 3;have p:=A0.o.all;clear hC G;have r0:=R0.o.all;have rf0:=R0.o.fz;have e0:0<=e:=HB.o.e0;have ET:Hid (c.fw ⟨op,z,r,m,k,e,3⟩={c.bC (aY c.r e) with st:=true}):=aba rfl;go_enter func231,ntmps231;go_wp2_with fail;clear hX p r0 rf0;have u5:=A0.o.cell (i:=5) rfl
 go_region_held3 (fun w'=>w'.cell? (abb w.heap.size 5)=some (iv e)) (first|with_reducible exact A1.o.cell (i:=5) rfl|exact(show Blk _ _ _ _ from A0.o).cell (i:=5) rfl)
  (first|(go_at_call 198;refine(AP _ lo b g c h e C0.o.drew HG.o.g e0 he).mono ?_;rintro e9 W1⟨rfl,hc,kd⟩;have k1:=aN kd;have C1:=aba hc;have A1:=aba (A0.o.kept k1 (by omega));have R1:=aba (R0.o.kept k1 (by omega));have S1:=aba (((Since.refl w b (b+1) g).any K0.o).ag k1 (Nat.le_refl _) (Nat.le_refl _));clear hc kd k1))
 have c7:=C1.o.cSt HG.o.bx;have cz:=C1.o.fz;have r2:=(R1.o.other b 527 (.bool true) (by omega)).all;have rf2:=(R1.o.other b 527 (.bool true) (by omega)).fz;go_wp2_with fail;have KR:=(((((ak (W1.setCell (abb b 527) (.bool true)) (w.heap.size+1) 0 (iv 0)).one 1 (iv 0)).one 2 (iv 0)).one 3 (iv 0)).one 4 (.bool false))
 refine bodyPost_ret (v:=.agg ftZ) ?_ rfl ⟨g,?_,?_,(S1.o.set b 527 (.bool true) (.inl (by omega))).mine KR (by omega)⟩
 ·rw[aj rfl];go_simp
 ·rw[ET.o,show({c.bC (aY c.r e) with st:=true}:Mc).f=aI from hf];rfl
 ·rw[ET.o];exact((C1.o.Xa HG.o.bx true).kept KR (by omega) (by omega))
theorem Bd' {w:World} {b:Nat} {cs:Array Value} {t:TypeId} (h:Blk w b cs t):Blk w.drew b cs t:=h
theorem Pl.xY {c:Mc} (h:GM c) {n:Nat} (hn:n<4) {v:Int}:el (c.put 2 (n:Int) v).r.xs n=v:=by
 show el (c.r.xs.set n _) n=v
 rw[Pl.wC (by have:=h.g.d4;omega),if_pos rfl];rfl
theorem VL (op z r m k e:Int) (hC:CAt w lo b g c h) (G:GM c) (hf:c.f=aI) (B:InB ⟨op,z,r,m,k,e,5⟩) :
  Calls prog 231 #[.pointer (some (abb b 0)),.agg (inA op z r m k e 5)] w fun e' w'=>∃g',e'=.returned (.agg (ftC (c.fw ⟨op,z,r,m,k,e,5⟩).f))/\CAt w' lo b g' (c.fw ⟨op,z,r,m,k,e,5⟩) h/\Since w b (b+1) g w' g':=by
 have HB:=aba B;clear B;obtain⟨l0,l1,l2,l3,l4⟩:=hC.lt;have HG:=aba G;obtain⟨X,hX,K0,C0,A0,R0,sX⟩:=hC.lw op z r m k e 5;have p:=A0.o.all;clear hC G;have r0:=R0.o.all;have rf0:=R0.o.fz;obtain⟨n,rfl⟩:∃n:Nat,r=(n:Int):=⟨r.toNat,by have:0<=r:=HB.o.r0;omega⟩
 have hn:n<4:=by have:(n:Int)<=3:=HB.o.r1;omega
 have i0:(0:Int)<=(n:Int):=by omega
 have i1:(n:Int)<4:=by omega
 have xb:=HG.o.g.dw n hn;obtain⟨xb0,xb1⟩:=xb;obtain⟨V,hV⟩:∃V,V=lU (el c.r.xs n):=⟨_,rfl⟩
 have vb:okv 2 V=true:=by rw[hV];exact Eb _
 have vb2:=aS vb;obtain⟨vb0,vb1⟩:0<=V/\V<=65535:=by omega
 have ET:Hid (c.fw ⟨op,z,(n:Int),m,k,e,5⟩=(c.put 2 (n:Int) V).aJ (dB 2 c.r.f V)):=aba (by rw[hV];rfl);have eV:lU (el c.r.xs n)=V:=hV.symm;clear hV vb vb2;go_enter func231,ntmps231;go_wp2_with fail;clear hX p r0 rf0;have q1:=C0.o.cX hn;have qf:=C0.o.fz n;have u1:=A0.o.cell (i:=2) rfl;go_region_with (first|(go_at_call 262;refine st (FV _ _ (by omega) (by omega)) ?_;rw[eV]))
 all_goals
  go_wp2_with fail;have C3:Hid (CAt (X.setCell ⟨b,n,none⟩ (iv V)).drew lo b g (c.put 2 (n:Int) V) h):=aba (C0.o.zy HG.o.g.d4 hn V).drew;have A3:=aba (Bd' (A0.o.other b n (iv V) (by omega)));have R3:=aba (Bd' (R0.o.other b n (iv V) (by omega)));have S3:=aba ((((Since.refl w b (b+1) g).any K0.o).set b n (iv V) (.inl (by omega))).drew);obtain⟨W3,hW⟩:∃W:World,(X.setCell ⟨b,n,none⟩ (iv V)).drew=W:=⟨_,rfl⟩
  rw[hW]at C3 A3 R3 S3 ⊢;clear hW q1 qf u1;have u2:=A3.o.cell (i:=2) rfl;have q3:=C3.o.cX hn;rw[show el (c.put 2 (n:Int) V).r.xs n=V from xY HG.o hn]at q3
  go_region_held3 (fun w'=>w'.cell? (abb w.heap.size 2)=some (iv (n:Int))/\w'.cell? ⟨b,n,none⟩=some (iv V)) (first|with_reducible exact⟨A4.o.cell (i:=2) rfl,q4⟩|exact⟨(show Blk _ _ _ _ from A3.o).cell (i:=2) rfl,q3⟩)
   (first|(go_at_call 253;refine(tJ _ lo b g (c.put 2 (n:Int) V) h 2 V C3.o.drew vb0 vb1).mono ?_;rintro e9 W4⟨rfl,hc,kd⟩;have k4:=aN kd;have C4:=aba hc;have A4:=aba (A3.o.kept k4 (by omega));have R4:=aba (R3.o.kept k4 (by omega));have S4:=aba (S3.o.ag k4 (Nat.le_refl _) (Nat.le_refl _));have q4:=hc.cX hn;rw[show el ((c.put 2 (n:Int) V).aJ (dB 2 (c.put 2 (n:Int) V).r.f V)).r.xs n=V from xY HG.o hn]at q4;clear hc kd k4))
  have r4:=R4.o.all;have rf4:=R4.o.fz;go_wp2_with fail;have KR:=(((((ak W4 (w.heap.size+1) 0 (iv 0)).one 1 (iv 0)).one 2 (iv 0)).one 3 (iv 0)).one 4 (.bool false))
  refine bodyPost_ret (v:=.agg ftZ) ?_ rfl ⟨g,?_,?_,(S4.o).mine KR (by omega)⟩
  ·rw[aj rfl];go_simp
  ·rw[ET.o,show((c.put 2 (n:Int) V).aJ (dB 2 c.r.f V)).f=aI from hf];rfl
  ·rw[ET.o];exact((C4.o).kept KR (by omega) (by omega))
theorem VK (op z r m k e:Int) (hC:CAt w lo b g c h) (G:GM c) (hf:c.f=aI) (B:InB ⟨op,z,r,m,k,e,6⟩) :
  Calls prog 231 #[.pointer (some (abb b 0)),.agg (inA op z r m k e 6)] w fun e' w'=>∃g',e'=.returned (.agg (ftC (c.fw ⟨op,z,r,m,k,e,6⟩).f))/\CAt w' lo b g' (c.fw ⟨op,z,r,m,k,e,6⟩) h/\Since w b (b+1) g w' g':=by
 have HB:=aba B;clear B;obtain⟨l0,l1,l2,l3,l4⟩:=hC.lt;have HG:=aba G;obtain⟨X,hX,K0,C0,A0,R0,sX⟩:=hC.lw op z r m k e 6;have p:=A0.o.all;clear hC G;have r0:=R0.o.all;have rf0:=R0.o.fz;obtain⟨n,rfl⟩:∃n:Nat,r=(n:Int):=⟨r.toNat,by have:0<=r:=HB.o.r0;omega⟩
 have hn:n<4:=by have:(n:Int)<=3:=HB.o.r1;omega
 have i0:(0:Int)<=(n:Int):=by omega
 have i1:(n:Int)<4:=by omega
 have OQ:Hid (okv 1 (c.low 1 (n:Int))=true):=aba (iH HG.o (.inl rfl) i0 (by omega));obtain⟨Q,hQ⟩:∃Q,Q=c.low 1 (n:Int):=⟨_,rfl⟩
 rw[<-hQ]at OQ;have tq:=aS OQ.o;obtain⟨qb0,qb1⟩:0<=Q/\Q<=255:=by omega
 obtain⟨V,hV⟩:∃V,V=mM Q:=⟨_,rfl⟩
 have vb:okv 2 V=true:=by rw[hV];exact Ed _
 have vb2:=aS vb;obtain⟨vb0,vb1⟩:0<=V/\V<=65535:=by omega
 have ET:Hid (c.fw ⟨op,z,(n:Int),m,k,e,6⟩=(c.put 2 (n:Int) V).aJ (dB 2 c.r.f V)):=aba (by rw[hV,hQ];rfl);have HV:=aba hV;have HQ:=aba hQ;clear hV vb vb2 hQ tq;go_enter func231,ntmps231;go_wp2_with fail;clear hX p r0 rf0;have u1:=A0.o.cell (i:=2) rfl
 go_region_held3 (fun w'=>w'.cell? (abb w.heap.size 2)=some (iv (n:Int))) (first|with_reducible exact A1.o.cell (i:=2) rfl|exact(show Blk _ _ _ _ from A0.o).cell (i:=2) rfl|exact(A1.o.other b n (iv V) (by omega)).cell (i:=2) rfl)
  (first|(go_at_call 263;have z9:=C1;refine st (Di Q _ (by omega) (by omega)) ?_;rw[<-HV.o])|(go_at_call 251;refine(nM _ lo b g c h 1 (n:Int) C0.o.drew (.inl rfl) i0 (by omega)).mono ?_;rintro e9 W1⟨rfl,kd⟩;rw[<-HQ.o];have k1:=aN kd;have C1:=aba (C0.o.any k1);have A1:=aba (A0.o.ae k1);have R1:=aba (R0.o.ae k1);have K1:=aba (K0.o.trans k1);have q1:=C1.o.cX hn;have qz:=C1.o.fz;clear kd k1))
 go_wp2_with fail;have C3:Hid (CAt (W1.setCell ⟨b,n,none⟩ (iv V)) lo b g (c.put 2 (n:Int) V) h):=aba (C1.o.zy HG.o.g.d4 hn V);have A3:=aba (A1.o.other b n (iv V) (by omega));have R3:=aba (R1.o.other b n (iv V) (by omega));have S3:=aba (((Since.refl w b (b+1) g).any K1.o).set b n (iv V) (.inl (by omega)));obtain⟨W3,hW⟩:∃W:World,W1.setCell ⟨b,n,none⟩ (iv V)=W:=⟨_,rfl⟩
 rw[hW]at C3 A3 R3 S3 ⊢;clear hW q1 qz;have u2:=A3.o.cell (i:=2) rfl;have q3:=C3.o.cX hn;rw[show el (c.put 2 (n:Int) V).r.xs n=V from xY HG.o hn]at q3
 go_region_held3 (fun w'=>w'.cell? (abb w.heap.size 2)=some (iv (n:Int))/\w'.cell? ⟨b,n,none⟩=some (iv V)) (first|with_reducible exact⟨A4.o.cell (i:=2) rfl,q4⟩|exact⟨(show Blk _ _ _ _ from A3.o).cell (i:=2) rfl,q3⟩)
  (first|(go_at_call 253;refine(tJ _ lo b g (c.put 2 (n:Int) V) h 2 V C3.o.drew vb0 vb1).mono ?_;rintro e9 W4⟨rfl,hc,kd⟩;have k4:=aN kd;have C4:=aba hc;have A4:=aba (A3.o.kept k4 (by omega));have R4:=aba (R3.o.kept k4 (by omega));have S4:=aba (S3.o.ag k4 (Nat.le_refl _) (Nat.le_refl _));have q4:=hc.cX hn;rw[show el ((c.put 2 (n:Int) V).aJ (dB 2 (c.put 2 (n:Int) V).r.f V)).r.xs n=V from xY HG.o hn]at q4;clear hc kd k4))
 have r4:=R4.o.all;have rf4:=R4.o.fz;go_wp2_with fail;have KR:=(((((ak W4 (w.heap.size+1) 0 (iv 0)).one 1 (iv 0)).one 2 (iv 0)).one 3 (iv 0)).one 4 (.bool false))
 refine bodyPost_ret (v:=.agg ftZ) ?_ rfl ⟨g,?_,?_,(S4.o).mine KR (by omega)⟩
 ·rw[aj rfl];go_simp
 ·rw[ET.o,show((c.put 2 (n:Int) V).aJ (dB 2 c.r.f V)).f=aI from hf];rfl
 ·rw[ET.o];exact((C4.o).kept KR (by omega) (by omega))
theorem Pl.Ai (u l:Int) (u0:0<=u) (u1:u<=15) (l0:0<=l) (l1:l<=15):bits .or .i64 (u*16) l=u*16+l:=
 bits_join .i64 62 (by decide) ik 4 (u*16) l (by omega) (by omega) (by omega) (by omega) (by omega) (by omega)
theorem mJ (v:Int) (w:World) (lv : -9223372036854775808<=v) (hv:v<=9223372036854775807) :
  Calls prog 314 #[iv v] w fun e w'=>e=.returned (.tuple #[iv (v/16),iv (v%16)])/\w'=w:=by
 have k:=NT v;go_enter func314,ntmps314;go_wp2;go_ret2;exact⟨rII (by omega) (by omega),rfl⟩
theorem byteOf (u l:Int) (w:World) (u0:0<=u) (u1:u<=15) (l0:0<=l) (l1:l<=15) :
  Calls prog 315 #[iv u,iv l] w fun e w'=>e=.returned (iv (u*16+l))/\w'=w:=by
 have k:=Ai u l u0 u1 l0 l1;go_enter func315,ntmps315;go_wp2;go_ret;exact⟨rI (by omega),rfl⟩
theorem qG (v:Int) (w:World) (lv : -9223372036854775808<=v) (hv:v<=9223372036854775807) :
  Calls prog 287 #[iv v] w fun e w'=>e=.returned (.bool (bcd v))/\w'=w:=by
 cases ko:okv 1 v
 ·have kn:bcd v=false:=by
   cases c:bcd v
   ·rfl
   ·have:=pY c
    rw[Ec (by omega) (by omega)]at ko;cases ko
  go_enter func287,ntmps287;go_wp2_with fail;refine(bW 1 v _ lv hv).mono ?_;rintro e w'⟨rfl,rfl⟩;go_wp2_with fail;go_ret;exact⟨rB kn.symm,rfl⟩
 ·have kr:=aS ko;have k0:0<=v/\v<256:=by omega
  obtain⟨k0,k1⟩:=k0;clear kr;by_cases h9:v/16<=9
  all_goals
   by_cases h8:v%16<=9
   all_goals
    go_enter func287,ntmps287;go_wp2_with fail;refine(bW 1 v _ lv hv).mono ?_;rintro e w'⟨rfl,rfl⟩;go_wp2_with fail;refine(mJ v _ lv hv).mono ?_;rintro e w'⟨rfl,rfl⟩;go_wp2_with fail;go_ret;exact⟨rB (by simp[bcd,h9,h8]<;>omega),rfl⟩
theorem pI (x:Int) (w:World) :
  Calls prog 286 #[iv x] w fun e w'=>e=.returned (.bool (Pl.bit x))/\w'=w:=by
 by_cases h0:x=0
 ·subst h0;go_enter func286,ntmps286;go_wp2;go_ret;exact⟨rfl,rfl⟩
 ·by_cases h1:x=1
  ·subst h1;go_enter func286,ntmps286;go_wp2;go_ret;exact⟨rfl,rfl⟩
  ·have k0:(x==0)=false:=by simpa using h0
   have k1:(x==1)=false:=by simpa using h1
   go_enter func286,ntmps286;go_wp2;go_ret;exact⟨rB (by simp[Pl.bit];omega),rfl⟩
def nO (w:World):Prop:=∀i:Nat,i<20->w.cell? ⟨0,i,none⟩=some (iv ((i:Int)/10*16+(i:Int)%10))
def qW (w:World):Prop:=∀i:Nat,i<10->w.cell? ⟨1,i,none⟩=some (iv (9-(i:Int)))
theorem nO.below {w w':World} (h:nO w) (hb:Below w.heap.size w w'):nO w':=by
 intro i hi;have hc:=h i hi;rw[hb.cell (World.block_lt_of_cell? _ _ hc)];exact hc
theorem qW.below {w w':World} (h:qW w) (hb:Below w.heap.size w w'):qW w':=by
 intro i hi;have hc:=h i hi;rw[hb.cell (World.block_lt_of_cell? _ _ hc)];exact hc
theorem nO.drewN {w:World} (h:nO w) (n:Nat):nO (w.drewN n):=h
theorem nO.at {w:World} (h:nO w) (s:Int) (s0:0<=s) (s1:s<20):∃d:Int,w.cell? ⟨0,s.toNat,none⟩=some (iv d)/\0<=d/\d<=25/\d/16=s/10/\d%16=s%10:=
 ⟨_,h s.toNat (by omega),by omega,by omega,by omega,by omega⟩
theorem qW.at {w:World} (h:qW w) (s:Int) (s0:0<=s) (s1:s<10):w.cell? ⟨1,s.toNat,none⟩=some (iv (9-s)):=by
 rw[h s.toNat (by omega),Int.toNat_of_nonneg s0]
theorem uU (c a b:Int) (w:World) (ht:nO w) (c0:0<=c) (c1:c<=1) (ka:bcd a=true) (kb:bcd b=true) :
  Calls prog 288 #[iv c,iv a,iv b] w fun e w'=>e=.returned (.tuple #[iv (aV c a b),iv (aC c a b)])/\w'=w:=by
 have K:=ry c0 c1 ka kb;obtain⟨a0,a1,a2,a3⟩:=pY ka;obtain⟨b0,b1,b2,b3⟩:=pY kb;obtain⟨d,hd,d0,d1,d2,d3⟩:=ht.at (a%16+b%16+c) (by omega) (by omega);have d4:d/16<=1:=by omega
 have d5:0<=d/16:=by omega
 obtain⟨f,hf,f0,f1,f2,f3⟩:=ht.at (a/16+b/16+d/16) (by omega) (by omega);have f4:f/16<=1:=by omega
 have E:Hid (aV c a b=f%16*16+d%16/\aC c a b=f/16):=by
  refine aba ?_;rw[Ff K,Fg K];unfold ofN Pl.num;omega
 clear ka kb K ht d2 d3 f2 f3;go_enter func288,ntmps288;go_wp2_with fail;refine(mJ a _ (by omega) (by omega)).mono ?_;rintro e w'⟨rfl,rfl⟩;go_wp2_with fail;refine(mJ b _ (by omega) (by omega)).mono ?_;rintro e w'⟨rfl,rfl⟩;go_wp2_with fail;refine(mJ d _ (by omega) (by omega)).mono ?_;rintro e w'⟨rfl,rfl⟩;go_wp2_with fail;refine(mJ f _ (by omega) (by omega)).mono ?_;rintro e w'⟨rfl,rfl⟩;go_wp2_with fail;refine(byteOf (f%16) (d%16) _ (by omega) (by omega) (by omega) (by omega)).mono ?_;rintro e w'⟨rfl,rfl⟩;go_wp2_with fail;go_ret2;exact⟨rII E.o.1.symm E.o.2.symm,rfl⟩
theorem rV (v:Int) (w:World) (ht:qW w) (kv:bcd v=true) :
  Calls prog 289 #[iv v] w fun e w'=>e=.returned (iv (tC v))/\∃n,w'=w.drewN n:=by
 obtain⟨v0,v1,v2,v3⟩:=pY kv;have h1:=ht.at (v/16) (by omega) (by omega);have h2:=ht.at (v%16) (by omega) (by omega)
 have E:Hid (tC v=(9-v/16)*16+(9-v%16)):=by
  refine aba ?_;simp only[tC,kv,if_true];unfold ofN Pl.num;omega
 clear kv ht;go_enter func289,ntmps289;go_wp2_with fail;refine(mJ v _ (by omega) (by omega)).mono ?_;rintro e w'⟨rfl,rfl⟩;go_wp2_with fail;go_quiet ((go_at_call 315;exact Calls.quiet_of_same (byteOf (9-v/16) (9-v%16) _ (by omega) (by omega) (by omega) (by omega))));go_wp2_with fail;go_ret;exact⟨rI E.o.symm,_,rfl⟩
theorem V8 (x a b:Int) (w:World) (ht:nO w) (lx : -9223372036854775808<=x) (hx:x<=9223372036854775807) (la : -9223372036854775808<=a) (ha:a<=9223372036854775807) (lb : -9223372036854775808<=b) (hb:b<=9223372036854775807) :
  Calls prog 264 #[iv x,iv a,iv b] w fun e w'=>e=.returned (.tuple #[iv (aV x a b),iv (aC x a b),.bool (eY x a b)])/\w'=w:=by
 cases kx:Pl.bit x
 ·have K:Hid (eY x a b=false):=aba (by simp[eY,kx]);go_enter func264,ntmps264;go_wp2_with fail;refine(pI x _).mono ?_;rintro e w'⟨rfl,rfl⟩;go_wp2_with fail;go_ret3;exact⟨lW (by simp[aV,K.o]) (by simp[aC,K.o]) K.o.symm,rfl⟩
 ·cases ka:bcd a
  ·have K:Hid (eY x a b=false):=aba (by simp[eY,ka]);go_enter func264,ntmps264;go_wp2_with fail;refine(pI x _).mono ?_;rintro e w'⟨rfl,rfl⟩;go_wp2_with fail;refine(qG a _ la ha).mono ?_;rintro e w'⟨rfl,rfl⟩;go_wp2_with fail;go_ret3;exact⟨lW (by simp[aV,K.o]) (by simp[aC,K.o]) K.o.symm,rfl⟩
  ·cases kb:bcd b
   ·have K:Hid (eY x a b=false):=aba (by simp[eY,kb]);go_enter func264,ntmps264;go_wp2_with fail;refine(pI x _).mono ?_;rintro e w'⟨rfl,rfl⟩;go_wp2_with fail;refine(qG a _ la ha).mono ?_;rintro e w'⟨rfl,rfl⟩;go_wp2_with fail;refine(qG b _ lb hb).mono ?_;rintro e w'⟨rfl,rfl⟩;go_wp2_with fail;go_ret3;exact⟨lW (by simp[aV,K.o]) (by simp[aC,K.o]) K.o.symm,rfl⟩
   ·obtain⟨x0,x1⟩:=tK kx;have K:Hid (eY x a b=true):=aba (by simp[eY,kx,ka,kb]);go_enter func264,ntmps264;go_wp2_with fail;refine(pI x _).mono ?_;rintro e w'⟨rfl,rfl⟩;go_wp2_with fail;refine(qG a _ la ha).mono ?_;rintro e w'⟨rfl,rfl⟩;go_wp2_with fail;refine(qG b _ lb hb).mono ?_;rintro e w'⟨rfl,rfl⟩;go_wp2_with fail;refine(uU x a b _ ht x0 x1 ka kb).mono ?_;rintro e w'⟨rfl,rfl⟩;go_wp2_with fail;go_ret3;exact⟨lW rfl rfl K.o.symm,rfl⟩
theorem Pl.BN {x a b:Int} (x0:0<=x) (x1:x<=1) (ka:bcd a=true) (kb:bcd b=true) :
  bcd (tC b)=true/\aV (1-x) a (tC b)=sV x a b/\1-aC (1-x) a (tC b)=Pl.sC x a b:=by
 have nb:=lX kb;have na:=lX ka;have ec:tC b=ofN (99-Pl.num b):=by simp[tC,kb]
 have kc:bcd (tC b)=true:=by rw[ec];exact yu (by omega) (by omega)
 have nc:Pl.num (tC b)=99-Pl.num b:=by rw[ec];exact PK (by omega) (by omega)
 have k1:eY (1-x) a (tC b)=true:=ry (by omega) (by omega) ka kc;have k2:eY x a b=true:=ry x0 x1 ka kb;refine⟨kc,?_,?_⟩
 ·rw[Ff k1,Jg k2,nc,Dl];congr 1;split<;>omega
 ·rw[Fg k1,SI k2,nc,MK];split<;>omega
theorem Uh (x a b:Int) (w:World) (ht:nO w) (hn:qW w) (lx : -9223372036854775808<=x) (hx:x<=9223372036854775807) (la : -9223372036854775808<=a) (ha:a<=9223372036854775807) (lb : -9223372036854775808<=b) (hb:b<=9223372036854775807) :
  Calls prog 265 #[iv x,iv a,iv b] w fun e w'=>e=.returned (.tuple #[iv (sV x a b),iv (Pl.sC x a b),.bool (eY x a b)])/\∃n,w'=w.drewN n:=by
 cases kx:Pl.bit x
 ·have K:Hid (eY x a b=false):=aba (by simp[eY,kx]);go_enter func265,ntmps265;go_wp2_with fail;refine(pI x _).mono ?_;rintro e w'⟨rfl,rfl⟩;go_wp2_with fail;go_ret3;exact⟨lW (by simp[sV,K.o]) (by simp[Pl.sC,K.o]) K.o.symm,0,rfl⟩
 ·cases ka:bcd a
  ·have K:Hid (eY x a b=false):=aba (by simp[eY,ka]);go_enter func265,ntmps265;go_wp2_with fail;refine(pI x _).mono ?_;rintro e w'⟨rfl,rfl⟩;go_wp2_with fail;refine(qG a _ la ha).mono ?_;rintro e w'⟨rfl,rfl⟩;go_wp2_with fail;go_ret3;exact⟨lW (by simp[sV,K.o]) (by simp[Pl.sC,K.o]) K.o.symm,0,rfl⟩
  ·cases kb:bcd b
   ·have K:Hid (eY x a b=false):=aba (by simp[eY,kb]);go_enter func265,ntmps265;go_wp2_with fail;refine(pI x _).mono ?_;rintro e w'⟨rfl,rfl⟩;go_wp2_with fail;refine(qG a _ la ha).mono ?_;rintro e w'⟨rfl,rfl⟩;go_wp2_with fail;refine(qG b _ lb hb).mono ?_;rintro e w'⟨rfl,rfl⟩;go_wp2_with fail;go_ret3;exact⟨lW (by simp[sV,K.o]) (by simp[Pl.sC,K.o]) K.o.symm,0,rfl⟩
   ·obtain⟨x0,x1⟩:=tK kx;have K:Hid (eY x a b=true):=aba (by simp[eY,kx,ka,kb]);obtain⟨kc,e1,e2⟩:=BN x0 x1 ka kb;obtain⟨c0,c1⟩:=Fh (1-x) a (tC b);have E1:=aba e1;have E2:=aba e2;clear e1 e2;go_enter func265,ntmps265;go_wp2_with fail;refine(pI x _).mono ?_;rintro e w'⟨rfl,rfl⟩;go_wp2_with fail;refine(qG a _ la ha).mono ?_;rintro e w'⟨rfl,rfl⟩;go_wp2_with fail;refine(qG b _ lb hb).mono ?_;rintro e w'⟨rfl,rfl⟩;go_wp2_with fail;refine(rV b _ hn kb).mono ?_;rintro e w'⟨rfl,n,rfl⟩;go_wp2_with fail;refine(uU (1-x) a (tC b) _ (ht.drewN n) (by omega) (by omega) ka kc).mono ?_;rintro e w'⟨rfl,rfl⟩;go_wp2_with fail;go_ret3;exact⟨lW E1.o E2.o K.o.symm,n,rfl⟩
structure jd (w:World) (lo:Nat):Prop where
 s:nO w
 n:qW w
 s0:0<lo
 n0:1<lo
theorem jd.since {w w':World} {lo b g g':Nat} (h:jd w lo) (k:Since w b (b+1) g w' g') (hb:lo<=b) (hg:lo<=g):jd w' lo:=by
 have e:∀i,i<lo->i<w.heap.size->w'.heap[i]? = w.heap[i]? := fun i h1 h2=>k.2.block i h2 (by unfold own;omega);have hs:=h.s0;have hn:=h.n0;refine⟨fun i hi => ?_,fun i hi => ?_,hs,hn⟩
 ·have q:=h.s i hi;rw[World.cell?_of_block (w:=w) (e _ hs (World.block_lt_of_cell? _ _ q))];exact q
 ·have q:=h.n i hi;rw[World.cell?_of_block (w:=w) (e _ hn (World.block_lt_of_cell? _ _ q))];exact q
theorem jd.any {w w':World} {lo:Nat} (h:jd w lo) (k:Kept 0 0 w w'):jd w' lo:=by
 have b:=k.below;exact⟨h.s.below b,h.n.below b,h.s0,h.n0⟩
namespace Pl
def dcV (s x a q:Int):Int:=bif s==1 then sV x a q else aV x a q
def dcC (s x a q:Int):Int:=bif s==1 then sC x a q else aC x a q
def dcF (s f x a q:Int):Int:=bits .or .i64 (fl (dcV s x a q==0) (bits .and .i64 f 4)) (fl (dcC s x a q==1) 17)
def Mc.bd (c:Mc) (x:In):Mc:=bif eY (c.r.f/16) (c.low 1 x.r) (c.low 1 x.k) then (c.put 1 x.r (dcV x.s (c.r.f/16) (c.low 1 x.r) (c.low 1 x.k))).aJ (dcF x.s c.r.f (c.r.f/16) (c.low 1 x.r) (c.low 1 x.k)) else {c with f:=⟨4,0,0,0,false⟩}
theorem TF {s x a q:Int}:okv 1 (dcV s x a q)=true:=by
 have q':∀v,bcd v=true->okv 1 v=true:=by
  intro v h;have:=pY h;simp[okv,top];omega
 unfold dcV;cases s==1
 ·cases h:eY x a q
  ·unfold aV;rw[h];rfl
  ·exact q' _ (Dy h)
 ·cases h:eY x a q
  ·unfold sV;rw[h];rfl
  ·exact q' _ (Cb h)
end Pl
theorem YA (op z r m k e:Int) (hC:CAt w lo b g c h) (G:GM c) (hf:c.f=aI) (B:InB ⟨op,z,r,m,k,e,0⟩) (ht:jd w lo) :
  Calls prog 232 #[.pointer (some (abb b 0)),.agg (inA op z r m k e 0)] w fun e' w'=>∃g',e'=.returned (.agg (ftC (c.bd ⟨op,z,r,m,k,e,0⟩).f))/\CAt w' lo b g' (c.bd ⟨op,z,r,m,k,e,0⟩) h/\Since w b (b+1) g w' g':=by
 have HB:=aba B;clear B;obtain⟨l0,l1,l2,l3,l4⟩:=hC.lt;have HG:=aba G;obtain⟨X,hX,K0,C0,A0,R0,sX⟩:=hC.lw op z r m k e 0;have p:=A0.o.all;clear hC G;have T0:=aba (ht.any K0.o);have f0:=HG.o.g.f0;have f1:=HG.o.g.f1;have OA:okv 1 (c.low 1 r)=true:=iH HG.o (.inl rfl) HB.o.r0 HB.o.r1;have OQ:okv 1 (c.low 1 k)=true:=iH HG.o (.inl rfl) HB.o.k0 HB.o.k1;obtain⟨A,hA⟩:∃A,A=c.low 1 r:=⟨_,rfl⟩
 obtain⟨Q,hQ⟩:∃Q,Q=c.low 1 k:=⟨_,rfl⟩
 rw[<-hA]at OA;rw[<-hQ]at OQ;have ta:=aS OA;have tq:=aS OQ;obtain⟨a0,a1⟩:0<=A/\A<=255:=by omega
 obtain⟨q0,q1⟩:0<=Q/\Q<=255:=by omega
 obtain⟨V,hV⟩:∃V,V=dcV 0 (c.r.f/16) A Q:=⟨_,rfl⟩
 obtain⟨Y,hY⟩:∃Y,Y=dcC 0 (c.r.f/16) A Q:=⟨_,rfl⟩
 obtain⟨P,hP⟩:∃P,P=eY (c.r.f/16) A Q:=⟨_,rfl⟩
 have OV:Hid (okv 1 V=true):=aba (by rw[hV];exact TF);have ET:Hid (c.bd ⟨op,z,r,m,k,e,0⟩=bif P then (c.put 1 r V).aJ (bits .or .i64 (Pl.fl (V==0) (bits .and .i64 c.r.f 4)) (Pl.fl (Y==1) 17)) else {c with f:=⟨4,0,0,0,false⟩}):=aba (by rw[hP,hV,hY,hA,hQ];rfl);have HA:=aba hA;have HQ:=aba hQ;have HV:Hid (V=aV (c.r.f/16) A Q):=aba hV;have HY:Hid (Y=aC (c.r.f/16) A Q):=aba hY;have HP:=aba hP;have ed:c.r.f.tdiv 16=c.r.f/16:=Int.tdiv_eq_ediv_of_nonneg f0;have ew1:IntKind.i64.wrap (c.r.f/16)=c.r.f/16:=by rw[IntKind.wrap_i64];omega
 have ew2:IntKind.i64.wrap (c.r.f.tdiv 16)=c.r.f/16:=by rw[ed,ew1]
 clear hA hQ hV hY hP OA OQ ta tq ht;go_enter func232,ntmps232;go_wp2_with fail;clear hX p;have u2:=A0.o.cell (i:=2) rfl;have u4:=A0.o.cell (i:=4) rfl;have u10:=C0.o.cF
 go_region_held3 (fun w'=>w'.cell? (abb w.heap.size 2)=some (iv r)/\w'.cell? (abb w.heap.size 4)=some (iv k)/\w'.cell? (abb b 10)=some (iv c.r.f)) (first|with_reducible exact⟨A7.o.cell (i:=2) rfl,A7.o.cell (i:=4) rfl,C7.o.cF⟩|with_reducible exact⟨A6.o.cell (i:=2) rfl,A6.o.cell (i:=4) rfl,C6.o.cF⟩|with_reducible exact⟨A5.o.cell (i:=2) rfl,A5.o.cell (i:=4) rfl,C5.o.cF⟩|exact⟨(show Blk _ _ _ _ from A0.o).cell (i:=2) rfl,(show Blk _ _ _ _ from A0.o).cell (i:=4) rfl,C0.o.drew.cF⟩)
  (first|(go_at_call 264;have z9:=C6;refine st (V8 (c.r.f/16) A Q _ T6.o.s (by omega) (by omega) (by omega) (by omega) (by omega) (by omega)) ?_;rw[<-HV.o,<-HY.o,<-HP.o];skip)|(go_at_call 251;have z9:=C5;refine(nM _ lo b g c h 1 k C5.o (.inl rfl) HB.o.k0 HB.o.k1).mono ?_;rintro e9 W6⟨rfl,k6⟩;rw[<-HQ.o];have C6:=aba (C5.o.any k6);have A6:=aba (A5.o.ae k6);have R6:=aba (R5.o.ae k6);have K6:=aba (K5.o.trans k6);have T6:=aba (T5.o.any k6);clear k6)|(go_at_call 251;refine(nM _ lo b g c h 1 r C0.o.drew (.inl rfl) HB.o.r0 HB.o.r1).mono ?_;rintro e9 W5⟨rfl,kd⟩;rw[<-HA.o];have k5:=aN kd;have C5:=aba (C0.o.any k5);have A5:=aba (A0.o.ae k5);have R5:=aba (R0.o.ae k5);have K5:=aba (K0.o.trans k5);have T5:=aba (T0.o.any k5);clear kd k5))
 clear u2 u4 u10;have r6:=R6.o.all;have rf6:=R6.o.fz;cases hp:P
 ·have E1:Hid (c.bd ⟨op,z,r,m,k,e,0⟩={c with f:=⟨4,0,0,0,false⟩}):=aba (by rw[ET.o,hp];rfl);go_wp2_with fail;have KR:=(((((ak W6 (w.heap.size+1) 0 (iv 4)).one 1 (iv 0)).one 2 (iv 0)).one 3 (iv 0)).one 4 (.bool false))
  refine bodyPost_ret (v:=.agg #[iv 4,iv 0,iv 0,iv 0,.bool false]) ?_ rfl ⟨g,?_,?_,((Since.refl w b (b+1) g).any K6.o).mine KR (by omega)⟩
  ·rw[aj rfl];go_simp
  ·rw[E1.o];rfl
  ·rw[E1.o];exact((C6.o).kept KR (by omega) (by omega)).fx rfl rfl rfl rfl rfl
 ·obtain⟨FL,hFL⟩:∃x,x=bits .or .i64 (Pl.fl (V==0) (bits .and .i64 c.r.f 4)) (Pl.fl (Y==1) 17):=⟨_,rfl⟩
  have E1:Hid (c.bd ⟨op,z,r,m,k,e,0⟩=(c.put 1 r V).aJ FL):=aba (by rw[ET.o,hp,hFL];rfl);have eFL:=hFL.symm;clear hFL;go_wp2_with fail;have u2:=A6.o.cell (i:=2) rfl
  go_region_held3 (fun w'=>w'.cell? (abb w.heap.size 2)=some (iv r)) (first|with_reducible exact A8.o.cell (i:=2) rfl|exact(show Blk _ _ _ _ from A6.o).cell (i:=2) rfl)
   (first|(go_at_call 252;refine(ND _ lo b g c h 1 r V C6.o.drew HG.o.g HB.o.r0 HB.o.r1 (.inl rfl) OV.o).mono ?_;rintro e9 W8⟨rfl,hc,kd⟩;have k8:=aN kd;have C8:=aba hc;have A8:=aba (A6.o.kept k8 (by omega));have R8:=aba (R6.o.kept k8 (by omega));have S8:=aba (((Since.refl w b (b+1) g).any K6.o).ag k8 (Nat.le_refl _) (Nat.le_refl _));clear hc kd k8))
  have c8:W8.cell? (abb b 10)=some (iv c.r.f):=C8.o.cF;have cz:=C8.o.fz;have r9:=(R8.o.other b 10 (iv FL) (by omega)).all;have rf9:=(R8.o.other b 10 (iv FL) (by omega)).fz;go_wp2_with (first|(go_at_call 242;refine st (gz _ _ _) ?_));have KR:=(((((ak (W8.setCell (abb b 10) (iv FL)) (w.heap.size+1) 0 (iv 0)).one 1 (iv 0)).one 2 (iv 0)).one 3 (iv 0)).one 4 (.bool false))
  refine bodyPost_ret (v:=.agg ftZ) ?_ rfl ⟨g,?_,?_,(S8.o.set b 10 (iv FL) (.inl (by omega))).mine KR (by omega)⟩
  ·rw[aj rfl];go_simp
  ·rw[E1.o,show((c.put 1 r V).aJ FL).f=aI from hf];rfl
  ·rw[E1.o];exact((C8.o.aJ FL).kept KR (by omega) (by omega))
theorem Yz (op z r m k e:Int) (hC:CAt w lo b g c h) (G:GM c) (hf:c.f=aI) (B:InB ⟨op,z,r,m,k,e,1⟩) (ht:jd w lo) :
  Calls prog 232 #[.pointer (some (abb b 0)),.agg (inA op z r m k e 1)] w fun e' w'=>∃g',e'=.returned (.agg (ftC (c.bd ⟨op,z,r,m,k,e,1⟩).f))/\CAt w' lo b g' (c.bd ⟨op,z,r,m,k,e,1⟩) h/\Since w b (b+1) g w' g':=by
 have HB:=aba B;clear B;obtain⟨l0,l1,l2,l3,l4⟩:=hC.lt;have HG:=aba G;obtain⟨X,hX,K0,C0,A0,R0,sX⟩:=hC.lw op z r m k e 1;have p:=A0.o.all;clear hC G;have T0:=aba (ht.any K0.o);have f0:=HG.o.g.f0;have f1:=HG.o.g.f1;have OA:okv 1 (c.low 1 r)=true:=iH HG.o (.inl rfl) HB.o.r0 HB.o.r1;have OQ:okv 1 (c.low 1 k)=true:=iH HG.o (.inl rfl) HB.o.k0 HB.o.k1;obtain⟨A,hA⟩:∃A,A=c.low 1 r:=⟨_,rfl⟩
 obtain⟨Q,hQ⟩:∃Q,Q=c.low 1 k:=⟨_,rfl⟩
 rw[<-hA]at OA;rw[<-hQ]at OQ;have ta:=aS OA;have tq:=aS OQ;obtain⟨a0,a1⟩:0<=A/\A<=255:=by omega
 obtain⟨q0,q1⟩:0<=Q/\Q<=255:=by omega
 obtain⟨V,hV⟩:∃V,V=dcV 1 (c.r.f/16) A Q:=⟨_,rfl⟩
 obtain⟨Y,hY⟩:∃Y,Y=dcC 1 (c.r.f/16) A Q:=⟨_,rfl⟩
 obtain⟨P,hP⟩:∃P,P=eY (c.r.f/16) A Q:=⟨_,rfl⟩
 have OV:Hid (okv 1 V=true):=aba (by rw[hV];exact TF);have ET:Hid (c.bd ⟨op,z,r,m,k,e,1⟩=bif P then (c.put 1 r V).aJ (bits .or .i64 (Pl.fl (V==0) (bits .and .i64 c.r.f 4)) (Pl.fl (Y==1) 17)) else {c with f:=⟨4,0,0,0,false⟩}):=aba (by rw[hP,hV,hY,hA,hQ];rfl);have HA:=aba hA;have HQ:=aba hQ;have HV:Hid (V=sV (c.r.f/16) A Q):=aba hV;have HY:Hid (Y=Pl.sC (c.r.f/16) A Q):=aba hY;have HP:=aba hP;have ed:c.r.f.tdiv 16=c.r.f/16:=Int.tdiv_eq_ediv_of_nonneg f0;have ew1:IntKind.i64.wrap (c.r.f/16)=c.r.f/16:=by rw[IntKind.wrap_i64];omega
 have ew2:IntKind.i64.wrap (c.r.f.tdiv 16)=c.r.f/16:=by rw[ed,ew1]
 clear hA hQ hV hY hP OA OQ ta tq ht;go_enter func232,ntmps232;go_wp2_with fail;clear hX p;have u2:=A0.o.cell (i:=2) rfl;have u4:=A0.o.cell (i:=4) rfl;have u10:=C0.o.cF
 go_region_held3 (fun w'=>w'.cell? (abb w.heap.size 2)=some (iv r)/\w'.cell? (abb w.heap.size 4)=some (iv k)/\w'.cell? (abb b 10)=some (iv c.r.f)) (first|with_reducible exact⟨A7.o.cell (i:=2) rfl,A7.o.cell (i:=4) rfl,C7.o.cF⟩|with_reducible exact⟨A6.o.cell (i:=2) rfl,A6.o.cell (i:=4) rfl,C6.o.cF⟩|with_reducible exact⟨A5.o.cell (i:=2) rfl,A5.o.cell (i:=4) rfl,C5.o.cF⟩|exact⟨(show Blk _ _ _ _ from A0.o).cell (i:=2) rfl,(show Blk _ _ _ _ from A0.o).cell (i:=4) rfl,C0.o.drew.cF⟩)
  (first|(go_at_call 265;have z9:=C6;refine(Uh (c.r.f/16) A Q _ T6.o.s T6.o.n (by omega) (by omega) (by omega) (by omega) (by omega) (by omega)).mono ?_;rintro e9 W7⟨rfl,nn,hw⟩;have k7:Kept 0 0 W6 W7:=(by rw[hw];exact ax (Kept.refl _ _ _) _);rw[<-HV.o,<-HY.o,<-HP.o];have C7:=aba (C6.o.any k7);have A7:=aba (A6.o.ae k7);have R7:=aba (R6.o.ae k7);have K7:=aba (K6.o.trans k7);clear k7 hw)|(go_at_call 251;have z9:=C5;refine(nM _ lo b g c h 1 k C5.o (.inl rfl) HB.o.k0 HB.o.k1).mono ?_;rintro e9 W6⟨rfl,k6⟩;rw[<-HQ.o];have C6:=aba (C5.o.any k6);have A6:=aba (A5.o.ae k6);have R6:=aba (R5.o.ae k6);have K6:=aba (K5.o.trans k6);have T6:=aba (T5.o.any k6);clear k6)|(go_at_call 251;refine(nM _ lo b g c h 1 r C0.o.drew (.inl rfl) HB.o.r0 HB.o.r1).mono ?_;rintro e9 W5⟨rfl,kd⟩;rw[<-HA.o];have k5:=aN kd;have C5:=aba (C0.o.any k5);have A5:=aba (A0.o.ae k5);have R5:=aba (R0.o.ae k5);have K5:=aba (K0.o.trans k5);have T5:=aba (T0.o.any k5);clear kd k5))
 clear u2 u4 u10;have r7:=R7.o.all;have rf7:=R7.o.fz;cases hp:P
 ·have E1:Hid (c.bd ⟨op,z,r,m,k,e,1⟩={c with f:=⟨4,0,0,0,false⟩}):=aba (by rw[ET.o,hp];rfl);go_wp2_with fail;have KR:=(((((ak W7 (w.heap.size+1) 0 (iv 4)).one 1 (iv 0)).one 2 (iv 0)).one 3 (iv 0)).one 4 (.bool false))
  refine bodyPost_ret (v:=.agg #[iv 4,iv 0,iv 0,iv 0,.bool false]) ?_ rfl ⟨g,?_,?_,((Since.refl w b (b+1) g).any K7.o).mine KR (by omega)⟩
  ·rw[aj rfl];go_simp
  ·rw[E1.o];rfl
  ·rw[E1.o];exact((C7.o).kept KR (by omega) (by omega)).fx rfl rfl rfl rfl rfl
 ·obtain⟨FL,hFL⟩:∃x,x=bits .or .i64 (Pl.fl (V==0) (bits .and .i64 c.r.f 4)) (Pl.fl (Y==1) 17):=⟨_,rfl⟩
  have E1:Hid (c.bd ⟨op,z,r,m,k,e,1⟩=(c.put 1 r V).aJ FL):=aba (by rw[ET.o,hp,hFL];rfl);have eFL:=hFL.symm;clear hFL;go_wp2_with fail;have u2:=A7.o.cell (i:=2) rfl
  go_region_held3 (fun w'=>w'.cell? (abb w.heap.size 2)=some (iv r)) (first|with_reducible exact A8.o.cell (i:=2) rfl|exact(show Blk _ _ _ _ from A7.o).cell (i:=2) rfl)
   (first|(go_at_call 252;refine(ND _ lo b g c h 1 r V C7.o.drew HG.o.g HB.o.r0 HB.o.r1 (.inl rfl) OV.o).mono ?_;rintro e9 W8⟨rfl,hc,kd⟩;have k8:=aN kd;have C8:=aba hc;have A8:=aba (A7.o.kept k8 (by omega));have R8:=aba (R7.o.kept k8 (by omega));have S8:=aba (((Since.refl w b (b+1) g).any K7.o).ag k8 (Nat.le_refl _) (Nat.le_refl _));clear hc kd k8))
  have c8:W8.cell? (abb b 10)=some (iv c.r.f):=C8.o.cF;have cz:=C8.o.fz;have r9:=(R8.o.other b 10 (iv FL) (by omega)).all;have rf9:=(R8.o.other b 10 (iv FL) (by omega)).fz;go_wp2_with (first|(go_at_call 242;refine st (gz _ _ _) ?_));have KR:=(((((ak (W8.setCell (abb b 10) (iv FL)) (w.heap.size+1) 0 (iv 0)).one 1 (iv 0)).one 2 (iv 0)).one 3 (iv 0)).one 4 (.bool false))
  refine bodyPost_ret (v:=.agg ftZ) ?_ rfl ⟨g,?_,?_,(S8.o.set b 10 (iv FL) (.inl (by omega))).mine KR (by omega)⟩
  ·rw[aj rfl];go_simp
  ·rw[E1.o,show((c.put 1 r V).aJ FL).f=aI from hf];rfl
  ·rw[E1.o];exact((C8.o.aJ FL).kept KR (by omega) (by omega))
end Go.Proofs.YtgikibaajanjiaaGreatDoor
