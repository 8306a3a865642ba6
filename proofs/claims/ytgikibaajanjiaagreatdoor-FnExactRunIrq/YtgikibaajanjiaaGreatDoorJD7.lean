/- Part 7 of what the last text leans on. -/
import Derived.Test.YtgikibaajanjiaaGreatDoorJD6
set_option maxRecDepth 100000
set_option maxHeartbeats 16000000
namespace Go.Proofs.YtgikibaajanjiaaGreatDoor
open Pl
open Go.RowKit Go.Proofs.Tryz
set_option linter.unusedVariables false
theorem Pl.yY {z a:Int} (hz:z=1\/z=2) (h0:0<=a) (h1:a<=65535):eU 1 z a 0=true:=by
 rcases hz with rfl|rfl<;>simp[eU,dP,okv,Pl.top,Pl.addr]<;>omega
theorem JX (w:World) (lo mid hi p g2:Nat) (c:Mc) (z m k x:Int) (h:MAt w lo mid hi p g2 c) (G:GM c) (hz:z=1\/z=2) (k0:0<=k) (k1:k<=3) (x0:0<=x) (x1:x<=65535) (hm2:m=2\/m=3\/m=4\/m=5\/m=6) :
  Calls prog 150 #[.pointer (some (abb p 0)),iv z,.agg #[iv m,iv k,iv x]] w fun e w'=>e=.returned (.tuple #[iv (c.bH z m k x),iv (c.readA z m k x)])/\∃g3,MAt w' lo mid hi p g3 (c.read z m k x)/\Since w lo hi g2 w' g3:=by
 have hl:=h.lo;have q0:(m==0)=false:=by simp;omega
 have q1:(m==1)=false:=by simp;omega
 have q7:(m==7)=false:=by simp;omega
 have HG:=aba G;have KA:=aba (kept_alloc w (.cells #[iv m,iv k,iv x] 46));have BA:=Blk.new w #[iv m,iv k,iv x] 46;obtain⟨X,hX⟩:∃X:World,w.alloc (.cells #[iv m,iv k,iv x] 46)=X:=⟨_,rfl⟩
 rw[hX]at KA BA;have b0:=BA.all;have hbw:=BA.lt;have h2:=h.any KA.o;have hl2:=h2.lo;clear h BA;have HM:=aba h2;obtain⟨gd,cd,ga,ca,g1,c1,c2,HB,HO⟩:=h2.op;obtain⟨t0,t1,t2,t3,t4,t5,t6,t7⟩:=HB.o.c8;have f0:=HB.o.fz;have hp:=HO.o.p0;have hd:=HO.o.d0;have hd1:=HO.o.d1;have hs:=HB.o.lt;have HMH:Hid (mid<=hi):=aba (by have:=HO.o.p1;omega);have HPH:Hid (lo<=p/\p<hi):=aba (by have:=HO.o.p1;omega);have HRD:=aba (MO.reg (r:=c.r) (HO.o.any (ai (Kept.refl 0 0 X))));have HOD:=aba (HO.o.any (ai (Kept.refl 0 0 X)));have HBD:=aba (HB.o.any (ai (Kept.refl 0 0 X)));have HMD:Hid (mid<=X.drew.heap.size):=aba hl2.2.1;have KZ:Kept 0 0 X (X.drew.alloc (.cells #[.slice none 0 0,.slice none 0 0,iv 0,iv 0,iv 0,iv 0,.bool false,.bool false] 35)):=ah (ai (Kept.refl 0 0 X)) _;have HRZ:=aba (MO.reg (r:=c.r) (HO.o.any KZ));have HOZ:=aba (HO.o.any KZ);have HBZ:=aba (HB.o.any KZ);have HMZ:Hid (mid<=(X.drew.alloc (.cells #[.slice none 0 0,.slice none 0 0,iv 0,iv 0,iv 0,iv 0,.bool false,.bool false] 35)).heap.size):=aba (by rw[World.size_alloc];exact Nat.le_trans hl2.2.1 (Nat.le_succ _));have BZ:Hid (Blk (X.drew.alloc (.cells #[.slice none 0 0,.slice none 0 0,iv 0,iv 0,iv 0,iv 0,.bool false,.bool false] 35)) X.heap.size #[.slice none 0 0,.slice none 0 0,iv 0,iv 0,iv 0,iv 0,.bool false,.bool false] 35):=aba (Blk.new X.drew #[.slice none 0 0,.slice none 0 0,iv 0,iv 0,iv 0,iv 0,.bool false,.bool false] 35);have HKZ:=aba KZ;have hb1:=HO.o.b.lt (by rw[HG.o.bx];decide);have hb2:=HO.o.g2.2;clear KZ;have HP:=fun (w9:World) (hr:fQ w9 lo mid c.r (some (abb gd 0)) (some (abb ga 0))) (hh:mid<=w9.heap.size)=>Js w9 lo mid gd cd ga ca c.r z m k x hr hh HG.o.g k0 k1 x0 x1 hm2;have HV:=ji (m:=m) (z:=z) HG.o.g k0 k1 x0 x1;have HG2:=G.plc (z:=z) (m:=m) (e:=x) k0 k1;obtain⟨R,hR⟩:∃R,bG c.r z m k x=R:=⟨_,rfl⟩
 obtain⟨V,hV⟩:∃V,bu c.r z m k x=V:=⟨_,rfl⟩
 simp only[hR,hV,jK]at HP;rw[hV]at HV;have HG3:Hid (GM (c.bC R)):=aba (by unfold Mc.plc at HG2;rw[hR]at HG2;exact HG2);have HA3:=aba (yY hz HV.1 HV.2);have E:Hid (c.read z m k x=(c.bC R).acc 1 z V 0):=aba (by unfold Mc.read Mc.gK Mc.plc;rw[q0,q1,q7,hR,hV];rfl);have E2:Hid (c.bH z m k x=(c.bC R).gI 1 z V 0):=aba (by unfold Mc.bH Mc.plc;rw[q0,q1,q7,hR,hV];rfl);have E3:Hid (c.readA z m k x=V):=aba (by unfold Mc.readA Mc.gK;rw[q0,q1,q7,hV];rfl);clear hR hV HG2 HV;have HNZ:Hid (¬(lo<=X.heap.size/\X.heap.size<mid)):=aba (by have q:=hl2.2.1;omega);have HPZ:Hid (p<X.heap.size):=aba hs;clear G;go_enter func150,ntmps150;go_wp2_with fail;go_region_with (first|(go_at_call 204;refine(HP _ HRD.o HMD.o).mono ?_;rintro e9 W⟨rfl,hr9,hk9⟩;have HO2:=aba (HOD.o.regs hr9 hk9);have HB2:=aba (HBD.o.regs hk9 hp);have HK2:=aba hk9;have HA1:=aba hk9;have hpW:=HB2.o.lt;clear hr9 hk9;clear t0 t1 t2 t3 t4 t5 t6 t7 f0;obtain⟨t0,t1,t2,t3,t4,t5,t6,t7,_⟩:=HB2.o.cells;have f0:=HB2.o.frozen 0;have f1:=HB2.o.frozen 1;have f2:=HB2.o.frozen 2;have f3:=HB2.o.frozen 3;have f4:=HB2.o.frozen 4;have f5:=HB2.o.frozen 5;have f6:=HB2.o.frozen 6;have f7:=HB2.o.frozen 7)|(go_at_call 204;refine(HP _ HRZ.o HMZ.o).mono ?_;rintro e9 W⟨rfl,hr9,hk9⟩;have HO2:=aba (HOZ.o.regs hr9 hk9);have HB2:=aba (HBZ.o.regs hk9 hp);have HK2:=aba hk9;have HA2:=aba hk9;have BZ2:=aba (Blk.kept BZ.o hk9 HNZ.o);clear hr9 hk9;clear t0 t1 t2 t3 t4 t5 t6 t7 f0;obtain⟨t0,t1,t2,t3,t4,t5,t6,t7,_⟩:=HB2.o.cells;have f0:=HB2.o.frozen 0;have f1:=HB2.o.frozen 1;have f2:=HB2.o.frozen 2;have f3:=HB2.o.frozen 3;have f4:=HB2.o.frozen 4;have f5:=HB2.o.frozen 5;have f6:=HB2.o.frozen 6;have f7:=HB2.o.frozen 7;have y0:=BZ2.o.cell (i:=0) rfl;have v0:=BZ2.o.frozen 0;have y1:=BZ2.o.cell (i:=1) rfl;have v1:=BZ2.o.frozen 1;have y2:=BZ2.o.cell (i:=2) rfl;have v2:=BZ2.o.frozen 2;have y3:=BZ2.o.cell (i:=3) rfl;have v3:=BZ2.o.frozen 3;have y4:=BZ2.o.cell (i:=4) rfl;have v4:=BZ2.o.frozen 4;have y5:=BZ2.o.cell (i:=5) rfl;have v5:=BZ2.o.frozen 5;have y6:=BZ2.o.cell (i:=6) rfl;have v6:=BZ2.o.frozen 6;have y7:=BZ2.o.cell (i:=7) rfl;have v7:=BZ2.o.frozen 7))
 all_goals
  go_wp2_with fail;refine(fZ _ lo mid hi p g2 (c.bC R) 1 z V 0 ?hm HG3.o HA3.o).mono ?_
  case hm=>
   first
    | (have z9:=HA1;exact(MAt.laid HB2.o HO2.o).any (kept_alloc _ _))
    | (have z9:=HA2;exact MAt.laid (HB2.o.past (MB.lN _ _ _ _ _ _ _ _) HPZ.o) (HO2.o.past (MB.lN _ _ _ _ _ _ _ _) hl2.2.1 hb1 hb2))
  rintro e9 W2⟨rfl,g3,hm9,hb9⟩;have HM2:=aba hm9
  have HL2:Hid (Since w lo hi g2 W2 g3):=by
   first
    | (have z9:=HA1;exact aba (((jw (((Since.refl w lo hi g2).any KA.o).drew.ag HK2.o (Nat.le_refl _) HMH.o) (.inl HPH.o) _ _ _ _ _ _ _ _).alloc _).trans hb9))
    | (have z9:=HA2;exact aba ((jw (jw ((((Since.refl w lo hi g2).any KA.o).any HKZ.o).ag HK2.o (Nat.le_refl _) HMH.o) (.inr KA.o.size) _ _ _ _ _ _ _ _) (.inl HPH.o) _ _ _ _ _ _ _ _).trans hb9))
  clear hm9 hb9;go_wp2_with fail;go_ret2;exact⟨rII E2.o.symm E3.o.symm,g3,by rw[E.o];exact HM2.o,HL2.o⟩
theorem rJ (w:World) (lo mid hi p g2:Nat) (c:Mc) (z m k x:Int) (h:MAt w lo mid hi p g2 c) (G:GM c) (hz:z=1\/z=2) (k0:0<=k) (k1:k<=3) (x0:0<=x) (x1:x<=65535) (m0:0<=m) (m1:m<=7) :
  Calls prog 150 #[.pointer (some (abb p 0)),iv z,.agg #[iv m,iv k,iv x]] w fun e w'=>e=.returned (.tuple #[iv (c.bH z m k x),iv (c.readA z m k x)])/\∃g3,MAt w' lo mid hi p g3 (c.read z m k x)/\Since w lo hi g2 w' g3:=by
 by_cases hm:m=2\/m=3\/m=4\/m=5\/m=6
 ·exact JX w lo mid hi p g2 c z m k x h G hz k0 k1 x0 x1 hm
 have hl:=h.lo;have hm':m=0\/m=1\/m=7:=by omega
 have HG:=aba G;rcases hm' with rfl|rfl|rfl
 ·have E:Hid (c.bH z 0 k x=el c.r.xs k.toNat%Pl.top z):=aba rfl;have KA:=aba (kept_alloc w (.cells #[iv 0,iv k,iv x] 46));have BA:=Blk.new w #[iv 0,iv k,iv x] 46;obtain⟨X,hX⟩:∃X:World,w.alloc (.cells #[iv 0,iv k,iv x] 46)=X:=⟨_,rfl⟩
  rw[hX]at KA BA;have b0:=BA.all;have hbw:=BA.lt;have h2:=h.any KA.o;have hl2:=h2.lo;clear h BA;have HM:=aba h2;obtain⟨gd,cd,ga,ca,g1,c1,c2,HB,HO⟩:=h2.op;obtain⟨t0,t1,t2,t3,t4,t5,t6,t7⟩:=HB.o.c8;have f0:=HB.o.fz;have hp:=HO.o.p0;have hd:=HO.o.d0;have hd1:=HO.o.d1;have hs:=HB.o.lt;have HMH:Hid (mid<=hi):=aba (by have:=HO.o.p1;omega);have HPH:Hid (lo<=p/\p<hi):=aba (by have:=HO.o.p1;omega);have HD:=aba (HO.o.any (ai (Kept.refl 0 0 X))).d;clear G hm;go_enter func150,ntmps150;go_wp2_with fail;go_region_with (go_at_call 152;refine(J6 _ gd cd ga ca c.r z k HD.o HG.o.g hz k0 k1).mono ?_;rintro e9 W⟨rfl,hk9⟩;have HK:=aba hk9;clear hk9)
  all_goals
   go_wp2_with fail;go_ret2;exact⟨rII E.o.symm rfl,g2,HM.o.any ((ai (Kept.refl 0 0 X)).trans HK.o),((Since.refl w lo hi g2).any KA.o).drew.any HK.o⟩
 ·obtain⟨n,rfl⟩:∃n:Nat,k=(n:Int):=⟨k.toNat,by omega⟩
  have k4:(n:Int)<4:=by omega
  have E:Hid (c.bH z 1 n x=el c.r.ys n):=aba rfl;have KA:=aba (kept_alloc w (.cells #[iv 1,iv (n:Int),iv x] 46));have BA:=Blk.new w #[iv 1,iv (n:Int),iv x] 46;obtain⟨X,hX⟩:∃X:World,w.alloc (.cells #[iv 1,iv (n:Int),iv x] 46)=X:=⟨_,rfl⟩
  rw[hX]at KA BA;have b0:=BA.all;have hbw:=BA.lt;have h2:=h.any KA.o;have hl2:=h2.lo;clear h BA;have HM:=aba h2;obtain⟨gd,cd,ga,ca,g1,c1,c2,HB,HO⟩:=h2.op;obtain⟨t0,t1,t2,t3,t4,t5,t6,t7⟩:=HB.o.c8;have f0:=HB.o.fz;have hp:=HO.o.p0;have hd:=HO.o.d0;have hd1:=HO.o.d1;have hs:=HB.o.lt;have HMH:Hid (mid<=hi):=aba (by have:=HO.o.p1;omega);have HPH:Hid (lo<=p/\p<hi):=aba (by have:=HO.o.p1;omega);obtain⟨hc,_⟩:=rU HO.o.a n (by rw[HG.o.g.a4];omega);clear G hm;go_enter func150,ntmps150;go_wp2_with fail;go_region;go_wp2_with fail;go_ret2;exact⟨rII E.o.symm rfl,g2,HM.o.any (ai (Kept.refl 0 0 X)),((Since.refl w lo hi g2).any KA.o).drew⟩
 ·have E:Hid (c.bH z 7 k x=x):=aba rfl;have KA:=aba (kept_alloc w (.cells #[iv 7,iv k,iv x] 46));have BA:=Blk.new w #[iv 7,iv k,iv x] 46;obtain⟨X,hX⟩:∃X:World,w.alloc (.cells #[iv 7,iv k,iv x] 46)=X:=⟨_,rfl⟩
  rw[hX]at KA BA;have b0:=BA.all;have hbw:=BA.lt;have h2:=h.any KA.o;have hl2:=h2.lo;clear h BA;have HM:=aba h2;obtain⟨gd,cd,ga,ca,g1,c1,c2,HB,HO⟩:=h2.op;obtain⟨t0,t1,t2,t3,t4,t5,t6,t7⟩:=HB.o.c8;have f0:=HB.o.fz;have hp:=HO.o.p0;have hd:=HO.o.d0;have hd1:=HO.o.d1;have hs:=HB.o.lt;have HMH:Hid (mid<=hi):=aba (by have:=HO.o.p1;omega);have HPH:Hid (lo<=p/\p<hi):=aba (by have:=HO.o.p1;omega);clear G hm;go_enter func150,ntmps150;go_wp2_with fail;go_ret2;exact⟨rII E.o.symm rfl,g2,HM.o,(Since.refl w lo hi g2).any KA.o⟩
theorem oV {fn:Func} {p u1 u2:Tmp} {ty:TypeId} (h:fn.results=#[.cell p ty,.tmp u1,.tmp u2]) (tmps:Array Value) (P:Program) (w:World) :
  (results fn tmps).run P w=((asAddr (tmps.getD p undef)).run P w).andThen fun a w₁=>((loadVar ty a).run P w₁).andThen fun v w₂=>.ok (.tuple #[v,tmps.getD u1 undef,tmps.getD u2 undef]) w₂:=by
 simp only[results,h];simp[Sem.run_bind,Result.andThen]
theorem Pl.and7 (a:Int):bits .and .i64 a 7=a%8:=by
 show IntKind.i64.wrap ((BitVec.ofInt 64 a &&& BitVec.ofInt 64 7).toNat:Int)=_
 rw[BitVec.toNat_and,BitVec.toNat_ofInt,show(BitVec.ofInt 64 7).toNat=2^3-1 from by decide,Nat.and_two_pow_sub_one_eq_mod,IntKind.wrap_i64];omega
theorem Pl.YG (a:Int):bits .and .i64 a 3=a%4:=by
 show IntKind.i64.wrap ((BitVec.ofInt 64 a &&& BitVec.ofInt 64 3).toNat:Int)=_
 rw[BitVec.toNat_and,BitVec.toNat_ofInt,show(BitVec.ofInt 64 3).toNat=2^2-1 from by decide,Nat.and_two_pow_sub_one_eq_mod,IntKind.wrap_i64];omega
theorem lI (m:Int) (w:World):Calls prog 105 #[iv m] w fun e w'=>e=.returned (.bool (kH m))/\w'=w:=by
 go_enter func105,ntmps105;go_wp2_with (go_at_call 75;refine st (dF _ _ _ _) ?_);go_ret;exact⟨rfl,rfl⟩
theorem je (m:Int) (w:World):Calls prog 106 #[iv m] w fun e w'=>e=.returned (.bool (fF m))/\w'=w:=by
 cases h1:(m==2)<;>cases h2:(m==5)<;>cases h3:(m==6)
 all_goals
  go_enter func106,ntmps106;go_wp2;go_ret;exact⟨rB (by simp only[fF,h1,h2,h3];rfl),rfl⟩
theorem dV (m k e:Int) (w:World):Calls prog 108 #[.agg #[iv m,iv k,iv e]] w fun r w'=>r=.returned (.bool (iw m k e))/\Kept 0 0 w w':=by
 have K0:=aba (kept_alloc w (.cells #[iv m,iv k,iv e] 46));cases h1:(m==0)<;>cases h2:(k==0)<;>cases h3:(e==0)
 all_goals
  go_enter func108,ntmps108;go_wp2;go_ret;exact⟨rB (by simp only[iw,h1,h2,h3];rfl),K0.o⟩
theorem lH (m k e:Int) (w:World):Calls prog 107 #[.agg #[iv m,iv k,iv e]] w fun r w'=>r=.returned (.bool (jq m e))/\Kept 0 0 w w':=by
 have K0:=aba (kept_alloc w (.cells #[iv m,iv k,iv e] 46));cases h1:(m==7)<;>cases h2:decide (e<=1023)
 all_goals
  go_enter func107,ntmps107;go_wp2;go_ret;exact⟨rB (by simp only[jq,h1,h2];rfl),K0.o⟩
theorem yt (op:Int):op=1\/op=2\/op=3\/op=4\/op=5\/op=6\/op=7\/op=8\/op=9\/op=10\/op=11\/op=12\/op=13\/op=14\/op=15\/op=16\/op=17\/op=18\/op=19\/(¬op=1/\¬op=2/\¬op=3/\¬op=4/\¬op=5/\¬op=6/\¬op=7/\¬op=8/\¬op=9/\¬op=10/\¬op=11/\¬op=12/\¬op=13/\¬op=14/\¬op=15/\¬op=16/\¬op=17/\¬op=18/\¬op=19):=by omega
set_option linter.unusedSimpArgs false
theorem GV (w:World) (op r m k e s:Int) (h2:within r 0 3=true) (h3:iP m k e=true) (h4:within s 0 7=true) (h6:(m==7)=false) :
  Calls prog 56 #[.agg (inA op 1 r m k e s)] w fun r' w'=>r'=.returned (.bool (bP ⟨op,1,r,m,k,e,s⟩))/\Kept 0 0 w w':=by
 have K0:=aba (kept_alloc w (.cells (inA op 1 r m k e s) 48));have B0:=aba (Blk.new w (inA op 1 r m k e s) 48);have G:Hid (bP ⟨op,1,r,m,k,e,s⟩=az ⟨op,1,r,m,k,e,s⟩):=aba (by simp only[bP,Pl.inBase,lS,h2,h3,h4,h6];rfl);have hN:jq m e=false:=by simp only[jq,h6];rfl
 go_enter func56,ntmps56;go_upto_region 5 with (first|(go_at_call 75;have z9:=B2;refine st (dF _ _ _ _) ?_;rw[show(decide (0<=s)&&decide (s<=7))=within s 0 7 from rfl,h4])|(go_at_call 103;refine st (uK _) ?_)|(go_at_call 75;refine st (dF _ _ _ _) ?_;rw[show(decide (0<=r)&&decide (r<=3))=within r 0 3 from rfl,h2])|(go_at_call 104;refine(dS _ m k e).mono ?_;rintro e9 w2⟨rfl,k2⟩;rw[h3];have B2:=aba (B0.o.ae k2);have K2:=aba (K0.o.trans k2);have c0:=B2.o.all;clear k2));rcases yt op with rfl|rfl|rfl|rfl|rfl|rfl|rfl|rfl|rfl|rfl|rfl|rfl|rfl|rfl|rfl|rfl|rfl|rfl|rfl|hno
 ·have KND:Hid (az ⟨1,1,r,m,k,e,s⟩=((s==0)&&(((1:Int)==2) || !(m==1)))):=aba rfl;cases a1:(s==0)
  all_goals
   go_wp2_with fail;go_ret;exact⟨rB (by rw[G.o,KND.o]<;>first|rfl|(simp only[a1,hN,h6];done)|(simp only[a1,hN,h6];rfl)|simp[a1,hN,h6]),by first|exact K4.o|exact K3.o|exact K2.o⟩
 ·have KND:Hid (az ⟨2,1,r,m,k,e,s⟩=((s==0)&&((m==0)||kH m))):=aba rfl;cases a1:(s==0)<;>cases b1:(m==0)
  all_goals
   go_wp2_with (first|(go_at_call 105;refine st (lI _ _) ?_));go_ret;exact⟨rB (by rw[G.o,KND.o]<;>first|rfl|(simp only[a1,b1,hN,h6];done)|(simp only[a1,b1,hN,h6];rfl)|simp[a1,b1,hN,h6]),by first|exact K4.o|exact K3.o|exact K2.o⟩
 ·have KND:Hid (az ⟨3,1,r,m,k,e,s⟩=((s==0)&&(((1:Int)==2) || !(m==1)))):=aba rfl;cases a1:(s==0)
  all_goals
   go_wp2_with fail;go_ret;exact⟨rB (by rw[G.o,KND.o]<;>first|rfl|(simp only[a1,hN,h6];done)|(simp only[a1,hN,h6];rfl)|simp[a1,hN,h6]),by first|exact K4.o|exact K3.o|exact K2.o⟩
 ·have KND:Hid (az ⟨4,1,r,m,k,e,s⟩=((s==0)&&(((1:Int)==2) || !(m==1)))):=aba rfl;cases a1:(s==0)
  all_goals
   go_wp2_with fail;go_ret;exact⟨rB (by rw[G.o,KND.o]<;>first|rfl|(simp only[a1,hN,h6];done)|(simp only[a1,hN,h6];rfl)|simp[a1,hN,h6]),by first|exact K4.o|exact K3.o|exact K2.o⟩
 ·have KND:Hid (az ⟨5,1,r,m,k,e,s⟩=((s==0)&&(((1:Int)==2) || !(m==1)))):=aba rfl;cases a1:(s==0)
  all_goals
   go_wp2_with fail;go_ret;exact⟨rB (by rw[G.o,KND.o]<;>first|rfl|(simp only[a1,hN,h6];done)|(simp only[a1,hN,h6];rfl)|simp[a1,hN,h6]),by first|exact K4.o|exact K3.o|exact K2.o⟩
 ·have KND:Hid (az ⟨6,1,r,m,k,e,s⟩=((s==0)&&(((1:Int)==2) || !(m==1)))):=aba rfl;cases a1:(s==0)
  all_goals
   go_wp2_with fail;go_ret;exact⟨rB (by rw[G.o,KND.o]<;>first|rfl|(simp only[a1,hN,h6];done)|(simp only[a1,hN,h6];rfl)|simp[a1,hN,h6]),by first|exact K4.o|exact K3.o|exact K2.o⟩
 ·have KND:Hid (az ⟨7,1,r,m,k,e,s⟩=((s==0)&&(((1:Int)==2) || !(m==1)))):=aba rfl;cases a1:(s==0)
  all_goals
   go_wp2_with fail;go_ret;exact⟨rB (by rw[G.o,KND.o]<;>first|rfl|(simp only[a1,hN,h6];done)|(simp only[a1,hN,h6];rfl)|simp[a1,hN,h6]),by first|exact K4.o|exact K3.o|exact K2.o⟩
 ·have KND:Hid (az ⟨8,1,r,m,k,e,s⟩=((s==0)&&(((1:Int)==2) || !(m==1)))):=aba rfl;cases a1:(s==0)
  all_goals
   go_wp2_with fail;go_ret;exact⟨rB (by rw[G.o,KND.o]<;>first|rfl|(simp only[a1,hN,h6];done)|(simp only[a1,hN,h6];rfl)|simp[a1,hN,h6]),by first|exact K4.o|exact K3.o|exact K2.o⟩
 ·have KND:Hid (az ⟨9,1,r,m,k,e,s⟩=(((1:Int)==2)&&(s==0))):=aba rfl;go_wp2_with fail;go_ret;exact⟨rB (by rw[G.o,KND.o]<;>first|rfl|(simp only[hN,h6];done)|(simp only[hN,h6];rfl)|simp[hN,h6]),by first|exact K4.o|exact K3.o|exact K2.o⟩
 ·have KND:Hid (az ⟨10,1,r,m,k,e,s⟩=((((1:Int)==2)&&(s==0))&&fF m)):=aba rfl;go_wp2_with (first|(go_at_call 106;refine st (je _ _) ?_));go_ret;exact⟨rB (by rw[G.o,KND.o]<;>first|rfl|(simp only[hN,h6];done)|(simp only[hN,h6];rfl)|simp[hN,h6]),by first|exact K4.o|exact K3.o|exact K2.o⟩
 ·have KND:Hid (az ⟨11,1,r,m,k,e,s⟩=(((r==0)&&decide (s<=3))&&((m==0)||kH m))):=aba rfl;cases a1:(r==0)<;>cases a2:decide (s<=3)<;>cases b1:(m==0)
  all_goals
   go_wp2_with (first|(go_at_call 105;refine st (lI _ _) ?_));go_ret;exact⟨rB (by rw[G.o,KND.o]<;>first|rfl|(simp only[a1,a2,b1,hN,h6];done)|(simp only[a1,a2,b1,hN,h6];rfl)|simp[a1,a2,b1,hN,h6]),by first|exact K4.o|exact K3.o|exact K2.o⟩
 ·have KND:Hid (az ⟨12,1,r,m,k,e,s⟩=((m==0))):=aba rfl;go_wp2_with fail;go_ret;exact⟨rB (by rw[G.o,KND.o]<;>first|rfl|(simp only[hN,h6];done)|(simp only[hN,h6];rfl)|simp[hN,h6]),by first|exact K4.o|exact K3.o|exact K2.o⟩
 ·have KND:Hid (az ⟨13,1,r,m,k,e,s⟩=((((1:Int)==2)&&decide (r<=1))&&(m==7))):=aba rfl;go_wp2_with fail;go_ret;exact⟨rB (by rw[G.o,KND.o]<;>first|rfl|(simp only[hN,h6];done)|(simp only[hN,h6];rfl)|simp[hN,h6]),by first|exact K4.o|exact K3.o|exact K2.o⟩
 ·have KND:Hid (az ⟨14,1,r,m,k,e,s⟩=(((((1:Int)==2)&&(r==0))&&decide (s<=1))&&fF m)):=aba rfl;go_wp2_with (first|(go_at_call 106;refine st (je _ _) ?_));go_ret;exact⟨rB (by rw[G.o,KND.o]<;>first|rfl|(simp only[hN,h6];done)|(simp only[hN,h6];rfl)|simp[hN,h6]),by first|exact K4.o|exact K3.o|exact K2.o⟩
 ·have KND:Hid (az ⟨15,1,r,m,k,e,s⟩=(bif s==3 then (((1:Int)==2)&&(r==0))&&jq m e else ((((1:Int)==2)&&decide (s<=6))&&iw m k e)&&(decide (3<s)||(r==0)))):=aba rfl;cases a0:(s==3)
  all_goals
   go_wp2_with (first|(go_at_call 107;refine(lH m k e _).mono ?_;rintro e9 w3⟨rfl,k3⟩;rw[hN];have B3:=aba (B2.o.ae k3);have K3:=aba (K2.o.trans k3);have d0:=B3.o.all;clear k3)|(go_at_call 108;have z9:=B3;refine(dV m k e _).mono ?_;rintro e9 w4⟨rfl,k4⟩;rw[a3];have B4:=aba (B3.o.ae k4);have K4:=aba (K3.o.trans k4);have f0:=B4.o.all;clear k4)|(go_at_call 108;refine(dV m k e _).mono ?_;rintro e9 w4⟨rfl,k4⟩;rw[a3];have B4:=aba (B2.o.ae k4);have K4:=aba (K2.o.trans k4);have f0:=B4.o.all;clear k4));go_ret;exact⟨rB (by rw[G.o,KND.o]<;>first|rfl|(simp only[a0,hN,h6];done)|(simp only[a0,hN,h6];rfl)|simp[a0,hN,h6]),by first|exact K4.o|exact K3.o|exact K2.o⟩
 ·have KND:Hid (az ⟨16,1,r,m,k,e,s⟩=((((1:Int)==2)&&(s==0)) && !(m==1))):=aba rfl;go_wp2_with fail;go_ret;exact⟨rB (by rw[G.o,KND.o]<;>first|rfl|(simp only[hN,h6];done)|(simp only[hN,h6];rfl)|simp[hN,h6]),by first|exact K4.o|exact K3.o|exact K2.o⟩
 ·have KND:Hid (az ⟨17,1,r,m,k,e,s⟩=((((1:Int)==2)&&(s==0)) && !(m==1))):=aba rfl;go_wp2_with fail;go_ret;exact⟨rB (by rw[G.o,KND.o]<;>first|rfl|(simp only[hN,h6];done)|(simp only[hN,h6];rfl)|simp[hN,h6]),by first|exact K4.o|exact K3.o|exact K2.o⟩
 ·have KND:Hid (az ⟨18,1,r,m,k,e,s⟩=(((!((1:Int)==2))&&decide (s<=1))&&(m==0))):=aba rfl;cases a1:decide (s<=1)
  all_goals
   go_wp2_with fail;go_ret;exact⟨rB (by rw[G.o,KND.o]<;>first|rfl|(simp only[a1,hN,h6];done)|(simp only[a1,hN,h6];rfl)|simp[a1,hN,h6]),by first|exact K4.o|exact K3.o|exact K2.o⟩
 ·have KND:Hid (az ⟨19,1,r,m,k,e,s⟩=(((1:Int)==2)&&((((s==0)&&(r==0))&&jq m e)||((s==1)&&iw m k e)))):=aba rfl;go_wp2_with (first|(go_at_call 107;refine(lH m k e _).mono ?_;rintro e9 w3⟨rfl,k3⟩;rw[hN];have B3:=aba (B2.o.ae k3);have K3:=aba (K2.o.trans k3);have d0:=B3.o.all;clear k3)|(go_at_call 108;have z9:=B3;refine(dV m k e _).mono ?_;rintro e9 w4⟨rfl,k4⟩;have B4:=aba (B3.o.ae k4);have K4:=aba (K3.o.trans k4);have f0:=B4.o.all;clear k4)|(go_at_call 108;refine(dV m k e _).mono ?_;rintro e9 w4⟨rfl,k4⟩;have B4:=aba (B2.o.ae k4);have K4:=aba (K2.o.trans k4);have f0:=B4.o.all;clear k4));go_ret;exact⟨rB (by rw[G.o,KND.o]<;>first|rfl|(simp only[hN,h6];done)|(simp only[hN,h6];rfl)|simp[hN,h6]),by first|exact K4.o|exact K3.o|exact K2.o⟩
 ·obtain⟨q1,q2,q3,q4,q5,q6,q7,q8,q9,q10,q11,q12,q13,q14,q15,q16,q17,q18,q19⟩:=hno;have KND:Hid (az ⟨op,1,r,m,k,e,s⟩=false):=aba (by simp[az,q1,q2,q3,q4,q5,q6,q7,q8,q9,q10,q11,q12,q13,q14,q15,q16,q17,q18,q19]);go_wp2_with fail;go_ret;exact⟨rB (by rw[G.o,KND.o]),K2.o⟩
end Go.Proofs.YtgikibaajanjiaaGreatDoor
