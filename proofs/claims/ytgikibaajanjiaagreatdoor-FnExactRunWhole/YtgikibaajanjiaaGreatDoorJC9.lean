/- Part 9 of what the last text leans on. -/
import Derived.Test.YtgikibaajanjiaaGreatDoorJC2
import Derived.Test.YtgikibaajanjiaaGreatDoorJC3
import Derived.Test.YtgikibaajanjiaaGreatDoorJC1
import Derived.Deep.AppendLies
import Derived.Test.YtgikibaajanjiaaGreatDoorJC8
set_option maxRecDepth 100000
set_option maxHeartbeats 16000000
namespace Go.Proofs.YtgikibaajanjiaaGreatDoor
open Pl
open Go.RowKit Go.Proofs.Tryz
set_option linter.unusedVariables false
theorem Ic (c:Int) (j:Nat) (hj:j<32) (w:World) (hc:c=0∨c=2∨c=4∨c=6∨c=8∨c=10∨c=12∨c=14) :
  Calls prog 246 #[iv c,iv (j:Int)] w fun e w'=>e=.returned (.bool (Pl.ev c j))∧w'=w:=by
 have HC:=aab (XC j hj);have HV:=aab (XA j hj);have HZ:=aab (Xz j hj);have HN:=aab (XB j hj);have HX:=aab (U8 j hj);rcases hc with rfl|rfl|rfl|rfl|rfl|rfl|rfl|rfl
 ·go_enter func246,ntmps246;go_wp2;go_ret;exact ⟨rB rfl,rfl⟩
 ·go_enter func246,ntmps246;go_wp2;go_ret;exact ⟨rB (by rw [HX.o];rfl),rfl⟩
 ·go_enter func246,ntmps246;go_wp2;go_ret;exact ⟨rB (by rw [HC.o];rfl),rfl⟩
 ·go_enter func246,ntmps246;go_wp2;go_ret;exact ⟨rB (by rw [HZ.o];rfl),rfl⟩
 ·go_enter func246,ntmps246;go_wp2;go_ret;exact ⟨rB (by rw [HV.o];rfl),rfl⟩
 ·go_enter func246,ntmps246;go_wp2;go_ret;exact ⟨rB (by rw [HN.o];rfl),rfl⟩
 ·go_enter func246,ntmps246;go_wp2;go_ret;exact ⟨rB (by simp only [bne,HN.o,HV.o];simp [Pl.ev]),rfl⟩
 ·cases hl:((bits .and .i64 (j:Int) 8 != 0)==(bits .and .i64 (j:Int) 2 != 0))
  ·go_enter func246,ntmps246;go_wp2;go_ret;exact ⟨rB (by simp only [bne,HN.o,HV.o] at hl;simp [Pl.ev];simp at hl;simp [hl]),rfl⟩
  ·go_enter func246,ntmps246;go_wp2;go_ret;exact ⟨rB (by simp only [bne,HN.o,HV.o] at hl;rw [HZ.o];simp [Pl.ev];simp at hl;simp [hl]),rfl⟩
theorem NW (k j:Nat) (hk:k<16) (hj:j<32) (w:World) :
  Calls prog 210 #[iv (k:Int),iv (j:Int)] w fun e w'=>e=.returned (.bool (Pl.tst k j))∧w'=w:=by
 have hE:=ML k hk;have hO:=and1 (k:Int);go_enter func210,ntmps210;go_wp2_with (go_at_call 246;refine st (Ic _ j hj _ (by omega)) ?_);go_ret;exact ⟨rB (by unfold Pl.tst;rfl),rfl⟩
theorem O9 {k f:Int} (w:World) (k0:0<=k) (k1:k<=15) (f0:0<=f) (f1:f<=31):Calls prog 210 #[iv k,iv f] w fun e w'=>e=.returned (.bool (Pl.tst k f))∧w'=w:=by
 obtain ⟨n,hn,rfl⟩:=oM (n:=16) k0 (by omega);obtain ⟨j,hj,rfl⟩:=oM (n:=32) f0 (by omega);exact NW n j hn hj w
theorem Pl.GM.push {c:Mc} (h:GM c) {v:Int} (v0:0<=v) (v1:v<=65535):GM (c.push v):=by
 have q:=h.acc (rG (c:=c) v0 v1);unfold Mc.push;cases (c.acc 2 2 c.spA v).fine
 ·exact q
 ·exact q.fB 3 (by unfold Mc.spA;omega) (by unfold Mc.spA;omega)
variable (w:World) (lo mid hi p g2:Nat) (c:Mc) (x:Pl.In)
theorem JA (t:Int) (h:MAt w lo mid hi p g2 c) (G:GM c) (B:InB x) (ho:x.op=13) (r2:x.r<=1) (t0:0<=t) (t1:t<=65535) :
  Calls prog 158 #[.pointer (some (aac p 0)),.agg (inX x),iv t] w fun e w'=>e=.returned (.tuple #[])∧∃g3,MAt w' lo mid hi p g3 (c.jump x t)∧Since w lo hi g2 w' g3:=by
 have HG:=aab G;have HI:=aab B;have HOP:=aab ho;clear ho;have hl:=h.lo;obtain ⟨X,hX,KA,HX,hbw,HHB,HGB,HPH,HPB,HMH,HS,HM⟩:=h.lM x;obtain ⟨b0,b1,b2,b3,b4,b5,b6⟩:=aY HX.o;rw [HOP.o] at b0;clear h;obtain ⟨gd,cd,ga,ca,g1,c1,c2,HB,HO⟩:=HM.o.op;have t3:=HB.o.k3;have t4:=HB.o.k4;have f3:=HB.o.frozen 3;clear G B;obtain ⟨tb,hb⟩:∃tb,Pl.tst (x.s+8*x.r) c.r.f=tb:=⟨_,rfl⟩
 have E:Hid (c.jump x t=bif tb then c.aF ((t+2+x.e)%65536) else c):=aab (by unfold Mc.jump;rw [HOP.o,hb];cases tb<;>rfl);have s0:=HI.o.s0;have s1:=HI.o.s1;have r0:=HI.o.r0;have e0:=HI.o.e0;have e1:=HI.o.e1;have hm:=qA (t+2+x.e);have HL:=fun w9=>O9 (k:=x.s+8*x.r) (f:=c.r.f) w9 (by omega) (by omega) HG.o.g.f0 HG.o.g.f1;rw [hb] at HL;have hw1:IntKind.i64.wrap (8*x.r)=8*x.r:=by rw [IntKind.wrap_i64];omega
 have hw2:IntKind.i64.wrap (x.s+8*x.r)=x.s+8*x.r:=by rw [IntKind.wrap_i64];omega
 have HL2:∀w9:World,Calls prog 210 #[iv (IntKind.i64.wrap (x.s+IntKind.i64.wrap (8*x.r))),iv c.r.f] w9 fun e w'=>e=.returned (.bool tb)∧w'=w9:=by
  intro w9;rw [hw1,hw2];exact HL w9
 have HLL:=aab HL2;clear hw1 hw2 HL HL2;have KD:=aab (ah (Kept.refl 0 0 X));have HM_D:=aab (HM.o.any KD.o);have HS_D:=aab HS.o.drew;cases tb
 all_goals
  simp only [cond_true,cond_false] at E;go_enter func158,ntmps158;go_wp2_with fail;go_region_held3 (fun w'=>w'.cell? (aac p 4)=some (iv c.r.f)∧w'.cell? (aac w.heap.size 6)=some (iv x.s)∧w'.cell? (aac w.heap.size 2)=some (iv x.r)) (first|go_keep) (first|(go_at_call 210;refine st (HLL.o _) ?_));go_wp2_with fail;first|go_end0|refine bodyPost_ret (results_none rfl _ _ _) rfl ?_
  rw [E.o];first|exact ⟨rfl,g2,(HM.o.cP _).drew,(HS.o.set p 3 _ HPH.o).drew⟩|exact ⟨rfl,g2,HM_D.o,HS_D.o⟩
theorem Jz (t:Int) (h:MAt w lo mid hi p g2 c) (G:GM c) (B:InB x) (ho:x.op=14) (hm:x.m=0∨x.m=2∨x.m=3∨x.m=4∨x.m=5∨x.m=6) (hfc:c.fine=true) (hs:(x.s==1)=false) :
  Calls prog 158 #[.pointer (some (aac p 0)),.agg (inX x),iv t] w fun e w'=>e=.returned (.tuple #[])∧∃g3,MAt w' lo mid hi p g3 (c.jump x t)∧Since w lo hi g2 w' g3:=by
 have HG:=aab G;have HI:=aab B;have HOP:=aab ho;clear ho;have hl:=h.lo;obtain ⟨X,hX,KA,HX,hbw,HHB,HGB,HPH,HPB,HMH,HS,HM⟩:=h.lM x;obtain ⟨b0,b1,b2,b3,b4,b5,b6⟩:=aY HX.o;rw [HOP.o] at b0;clear h;obtain ⟨gd,cd,ga,ca,g1,c1,c2,HB,HO⟩:=HM.o.op;clear G B;have HG1:=aab (HG.o.place (z:=2) (m:=x.m) (e:=x.e) HI.o.k0 HI.o.k1);have HFP:=Dq c 2 x.m x.k x.e
 have hf:(c.place 2 x.m x.k x.e).fine=true:=by
  rw [<-hfc];unfold Mc.place;cases x.m==0<;>rfl
 have HRD:=fun w9 h9=>vJ w9 lo mid hi p g2 c 2 x.m x.k x.e h9 HG.o HI.o.k0 HI.o.k1 HI.o.e0 HI.o.e1 hm;have E:Hid (c.jump x t=(c.place 2 x.m x.k x.e).aF (c.iI 2 x.m x.k x.e)):=aab (by unfold Mc.jump;rw [HOP.o,hs];rfl);obtain ⟨d,hd⟩:∃d,c.place 2 x.m x.k x.e=d:=⟨_,rfl⟩
 obtain ⟨a,hA⟩:∃a,c.iI 2 x.m x.k x.e=a:=⟨_,rfl⟩
 rw [hd] at hf HG1 HFP;first|rw [hd,hA] at E|rw [hd] at E
 simp only [hd,hA] at HRD;clear hd hA hfc hm;go_enter func158,ntmps158;go_wp2_with (first|(go_at_call 151;refine (HRD _ HM.o).mono ?_;rintro e9 W_1 ⟨rfl,bK,hm9,hb9⟩;obtain ⟨dK,fP,fO⟩:=hb9.nx HX HHB HGB HS;clear hb9;have bW:=aab hm9;obtain ⟨gK,gU,gQ,gV,jA,jD,jC,dC,dE⟩:=hm9.op;have ui:=dC.o.k3;have KT:=dC.o.frozen 3;clear b0 b1 b2 b3 b4 b5 b6;obtain ⟨b0,b1,b2,b3,b4,b5,b6⟩:=aY dK.o;rw [HOP.o] at b0)|(go_at_call 112;refine st (bV _ lo mid hi p bK _ bW.o) ?_;rw [hf]));first|go_end0|refine bodyPost_ret (results_none rfl _ _ _) rfl ?_
 exact ⟨rfl,bK,by rw [E.o];exact bW.o.cP _,fO.o.set p 3 _ HPH.o⟩
theorem FK (t:Int) (h:MAt w lo mid hi p g2 c) (G:GM c) (B:InB x) (ho:x.op=14) (hm:x.m=0∨x.m=2∨x.m=3∨x.m=4∨x.m=5∨x.m=6) (hfc:c.fine=true) (hs:x.s=1) :
  Calls prog 158 #[.pointer (some (aac p 0)),.agg (inX x),iv t] w fun e w'=>e=.returned (.tuple #[])∧∃g3,MAt w' lo mid hi p g3 (c.jump x t)∧Since w lo hi g2 w' g3:=by
 have HG:=aab G;have HI:=aab B;have HOP:=aab ho;have HSU:=aab hs;clear hs;clear ho;have hl:=h.lo;obtain ⟨X,hX,KA,HX,hbw,HHB,HGB,HPH,HPB,HMH,HS,HM⟩:=h.lM x;obtain ⟨b0,b1,b2,b3,b4,b5,b6⟩:=aY HX.o;rw [HOP.o] at b0;rw [HSU.o] at b6;clear h;obtain ⟨gd,cd,ga,ca,g1,c1,c2,HB,HO⟩:=HM.o.op;clear G B;have HG1:=aab (HG.o.place (z:=2) (m:=x.m) (e:=x.e) HI.o.k0 HI.o.k1);have HFP:=Dq c 2 x.m x.k x.e
 have hf:(c.place 2 x.m x.k x.e).fine=true:=by
  rw [<-hfc];unfold Mc.place;cases x.m==0<;>rfl
 have HRD:=fun w9 h9=>vJ w9 lo mid hi p g2 c 2 x.m x.k x.e h9 HG.o HI.o.k0 HI.o.k1 HI.o.e0 HI.o.e1 hm;obtain ⟨fb,hf2⟩:∃fb,((c.place 2 x.m x.k x.e).push c.r.p).fine=fb:=⟨_,rfl⟩
 have E:Hid (c.jump x t=bif fb then ((c.place 2 x.m x.k x.e).push c.r.p).aF (c.iI 2 x.m x.k x.e) else (c.place 2 x.m x.k x.e).push c.r.p):=aab (by unfold Mc.jump;rw [HOP.o,HSU.o,hf2];cases fb<;>rfl);obtain ⟨d,hd⟩:∃d,c.place 2 x.m x.k x.e=d:=⟨_,rfl⟩
 obtain ⟨a,hA⟩:∃a,c.iI 2 x.m x.k x.e=a:=⟨_,rfl⟩
 rw [hd] at hf HG1 HFP;first|rw [hd,hA] at E|rw [hd] at E
 simp only [hd,hA] at HRD;rw [hd,<-HFP] at hf2;rw [<-HFP] at E;have HP0:=aab HG1.o.p0;have HP1:=aab HG1.o.p1;clear HFP;clear hd hA hfc hm;cases fb
 all_goals
  simp only [cond_true,cond_false] at E;go_enter func158,ntmps158;go_wp2_with (first|(go_at_call 195;refine (Rn _ lo mid hi p bK d d.r.p bW.o HG1.o HP0.o HP1.o).mono ?_;rintro e9 W_2 ⟨rfl,lK,hm9,hb9⟩;obtain ⟨iH,qp,jE⟩:=hb9.nx dK HHB fP fO;clear hb9;have jk:=aab hm9;obtain ⟨yl,yF,yt,yG,zO,Ap,Am,bG,jY⟩:=hm9.op;have Hr:=bG.o.k3;have KO:=bG.o.frozen 3;clear b0 b1 b2 b3 b4 b5 b6;obtain ⟨b0,b1,b2,b3,b4,b5,b6⟩:=aY iH.o;rw [HOP.o] at b0;rw [HSU.o] at b6)|(go_at_call 112;have z9:=jk;refine st (bV _ lo mid hi p lK _ jk.o) ?_;rw [hf2])|(go_at_call 151;refine (HRD _ HM.o).mono ?_;rintro e9 W_1 ⟨rfl,bK,hm9,hb9⟩;obtain ⟨dK,fP,fO⟩:=hb9.nx HX HHB HGB HS;clear hb9;have bW:=aab hm9;obtain ⟨gK,gU,gQ,gV,jA,jD,jC,dC,dE⟩:=hm9.op;have ui:=dC.o.k3;have KT:=dC.o.frozen 3;clear b0 b1 b2 b3 b4 b5 b6;obtain ⟨b0,b1,b2,b3,b4,b5,b6⟩:=aY dK.o;rw [HOP.o] at b0;rw [HSU.o] at b6));first|go_end0|refine bodyPost_ret (results_none rfl _ _ _) rfl ?_
  rw [E.o];first|exact ⟨rfl,lK,jk.o.cP _,jE.o.set p 3 _ HPH.o⟩|exact ⟨rfl,lK,jk.o,jE.o⟩
theorem Ro (t:Int) (h:MAt w lo mid hi p g2 c) (G:GM c) (B:InB x) (t0:0<=t) (t1:t<=65535) (hfc:c.fine=true) (ho:(x.op=13∧x.r<=1)∨(x.op=14∧(x.m=0∨x.m=2∨x.m=3∨x.m=4∨x.m=5∨x.m=6))) :
  Calls prog 158 #[.pointer (some (aac p 0)),.agg (inX x),iv t] w fun e w'=>e=.returned (.tuple #[])∧∃g3,MAt w' lo mid hi p g3 (c.jump x t)∧Since w lo hi g2 w' g3:=by
 rcases ho with ⟨ho,r1⟩|⟨ho,hm⟩
 ·exact JA w lo mid hi p g2 c x t h G B ho r1 t0 t1
 ·by_cases hs:x.s=1
  ·exact FK w lo mid hi p g2 c x t h G B ho hm hfc hs
  ·exact Jz w lo mid hi p g2 c x t h G B ho hm hfc (by simpa using hs)
def MTo (f:Nat) (a:Array Value) (lo mid hi p g2:Nat) (c d:Mc):Prop:=∀w,MAt w lo mid hi p g2 c->Calls prog f a w fun e w'=>e=.returned (.tuple #[])∧∃g3,MAt w' lo mid hi p g3 d∧Since w lo hi g2 w' g3
theorem oN (w:World) (lo mid hi p g2:Nat) (c d:Mc) (x:Pl.In) (t:Int) (h:MAt w lo mid hi p g2 c) (E:c.doI x t=d)
  (H:(x.op=11∧MTo 155 #[.pointer (some (aac p 0)),.agg (inX x)] lo mid hi p g2 c d)∨((x.op=13∨x.op=14)∧MTo 158 #[.pointer (some (aac p 0)),.agg (inX x),iv t] lo mid hi p g2 c d)∨(x.op=15∧MTo 159 #[.pointer (some (aac p 0)),.agg (inX x)] lo mid hi p g2 c d)∨((x.op=16∨x.op=17)∧MTo 160 #[.pointer (some (aac p 0)),.agg (inX x)] lo mid hi p g2 c d)∨(x.op=18∧MTo 161 #[.pointer (some (aac p 0)),.agg (inX x)] lo mid hi p g2 c d)∨((x.op=1∨x.op=3∨x.op=4∨x.op=5∨x.op=6∨x.op=7∨x.op=8)∧MTo 164 #[.pointer (some (aac p 0)),.agg (inX x)] lo mid hi p g2 c d)) :
  Calls prog 111 #[.pointer (some (aac p 0)),.agg (inX x),iv t] w fun e w'=>e=.returned (.tuple #[])∧∃g3,MAt w' lo mid hi p g3 (c.doI x t)∧Since w lo hi g2 w' g3:=by
 have hl:=h.lo;obtain ⟨X,hX,KA,HX,hbw,HHB,HGB,HPH,HPB,HMH,HS,HM⟩:=h.lM x;rw [E];clear h E;rcases H with ⟨ho,HC⟩|⟨ho|ho,HC⟩|⟨ho,HC⟩|⟨ho|ho,HC⟩|⟨ho,HC⟩|⟨ho|ho|ho|ho|ho|ho|ho,HC⟩
 all_goals
  unfold MTo inX at HC;rw [ho] at HC;obtain ⟨b0,b1,b2,b3,b4,b5,b6⟩:=aY HX.o;rw [ho] at b0;clear ho;obtain ⟨gd,cd,ga,ca,g1,c1,c2,HB,HO⟩:=HM.o.op;go_enter func111,ntmps111;go_wp2_with ((first|go_at_call 155|go_at_call 158|go_at_call 159|go_at_call 160|go_at_call 161|go_at_call 164);refine (HC _ HM.o).mono ?_;rintro e9 W_1 ⟨rfl,bK,hm9,hb9⟩;obtain ⟨dK,fP,fO⟩:=hb9.nx HX HHB HGB HS;clear hb9;have bW:=aab hm9;obtain ⟨gK,gU,gQ,gV,jA,jD,jC,dC,dE⟩:=hm9.op);first|go_end0|refine bodyPost_ret (results_none rfl _ _ _) rfl ?_
  exact ⟨rfl,bK,bW.o,fO.o⟩
theorem zC (t:Int) (h:MAt w lo mid hi p g2 c) (G:GM c) (B:InB x) (ho:x.op=9) (hf:(c.read 2 x.m x.k x.e).fine=false) :
  Calls prog 111 #[.pointer (some (aac p 0)),.agg (inX x),iv t] w fun e w'=>e=.returned (.tuple #[])∧∃g3,MAt w' lo mid hi p g3 (c.doI x t)∧Since w lo hi g2 w' g3:=by
 have HG:=aab G;have HI:=aab B;have HOP:=aab ho;clear ho;have hl:=h.lo;obtain ⟨X,hX,KA,HX,hbw,HHB,HGB,HPH,HPB,HMH,HS,HM⟩:=h.lM x;obtain ⟨b0,b1,b2,b3,b4,b5,b6⟩:=aY HX.o;rw [HOP.o] at b0;clear h;obtain ⟨gd,cd,ga,ca,g1,c1,c2,HB,HO⟩:=HM.o.op;clear G B;have r0:=HI.o.r0;have r1:=HI.o.r1;have r4:x.r<4:=by omega
 have HR4:Hid (x.r.toNat<4):=aab (by omega);have E:Hid (c.doI x t=c.read 2 x.m x.k x.e):=aab (by unfold Mc.doI;rw [HOP.o,hf];rfl);have HG1:=aab (HG.o.read (z:=2) (m:=x.m) (.inr rfl) HI.o.k0 HI.o.k1 HI.o.e0 HI.o.e1);have HRD:=fun w9 h9=>qU w9 lo mid hi p g2 c 2 x.m x.k x.e h9 HG.o (.inr rfl) HI.o.k0 HI.o.k1 HI.o.e0 HI.o.e1 HI.o.m0 HI.o.m1;obtain ⟨d,hd⟩:∃d,c.read 2 x.m x.k x.e=d:=⟨_,rfl⟩
 obtain ⟨v,hv⟩:∃v,c.bC 2 x.m x.k x.e=v:=⟨_,rfl⟩
 rw [hd] at hf HG1;first|rw [hd,hv] at E|rw [hd] at E
 simp only [hd,hv] at HRD;clear hd hv;go_enter func111,ntmps111;go_wp2_with (first|(go_at_call 150;refine (HRD _ HM.o).mono ?_;rintro e9 W_1 ⟨rfl,bK,hm9,hb9⟩;obtain ⟨dK,fP,fO⟩:=hb9.nx HX HHB HGB HS;clear hb9;have bW:=aab hm9;obtain ⟨gK,gU,gQ,gV,jA,jD,jC,dC,dE⟩:=hm9.op;clear b0 b1 b2 b3 b4 b5 b6;obtain ⟨b0,b1,b2,b3,b4,b5,b6⟩:=aY dK.o;rw [HOP.o] at b0)|(go_at_call 112;refine st (bV _ lo mid hi p bK _ bW.o) ?_;rw [hf]));first|go_end0|refine bodyPost_ret (results_none rfl _ _ _) rfl ?_
 exact ⟨rfl,bK,by rw [E.o];exact bW.o,fO.o⟩
theorem JC (t:Int) (h:MAt w lo mid hi p g2 c) (G:GM c) (B:InB x) (ho:x.op=9) (hf:(c.read 2 x.m x.k x.e).fine=true) :
  Calls prog 111 #[.pointer (some (aac p 0)),.agg (inX x),iv t] w fun e w'=>e=.returned (.tuple #[])∧∃g3,MAt w' lo mid hi p g3 (c.doI x t)∧Since w lo hi g2 w' g3:=by
 have HG:=aab G;have HI:=aab B;have HOP:=aab ho;clear ho;have hl:=h.lo;obtain ⟨X,hX,KA,HX,hbw,HHB,HGB,HPH,HPB,HMH,HS,HM⟩:=h.lM x;obtain ⟨b0,b1,b2,b3,b4,b5,b6⟩:=aY HX.o;rw [HOP.o] at b0;clear h;obtain ⟨gd,cd,ga,ca,g1,c1,c2,HB,HO⟩:=HM.o.op;clear G B;have r0:=HI.o.r0;have r1:=HI.o.r1;have r4:x.r<4:=by omega
 have HR4:Hid (x.r.toNat<4):=aab (by omega);have E:Hid (c.doI x t=(c.read 2 x.m x.k x.e).fB x.r.toNat (c.bC 2 x.m x.k x.e)):=aab (by unfold Mc.doI;rw [HOP.o,hf];rfl);have HG1:=aab (HG.o.read (z:=2) (m:=x.m) (.inr rfl) HI.o.k0 HI.o.k1 HI.o.e0 HI.o.e1);have HRD:=fun w9 h9=>qU w9 lo mid hi p g2 c 2 x.m x.k x.e h9 HG.o (.inr rfl) HI.o.k0 HI.o.k1 HI.o.e0 HI.o.e1 HI.o.m0 HI.o.m1;obtain ⟨d,hd⟩:∃d,c.read 2 x.m x.k x.e=d:=⟨_,rfl⟩
 obtain ⟨v,hv⟩:∃v,c.bC 2 x.m x.k x.e=v:=⟨_,rfl⟩
 rw [hd] at hf HG1;first|rw [hd,hv] at E|rw [hd] at E
 simp only [hd,hv] at HRD;clear hd hv;go_enter func111,ntmps111;go_wp2_with (first|(go_at_call 150;refine (HRD _ HM.o).mono ?_;rintro e9 W_1 ⟨rfl,bK,hm9,hb9⟩;obtain ⟨dK,fP,fO⟩:=hb9.nx HX HHB HGB HS;clear hb9;have bW:=aab hm9;obtain ⟨gK,gU,gQ,gV,jA,jD,jC,dC,dE⟩:=hm9.op;have wJ:=dC.o.k1;clear b0 b1 b2 b3 b4 b5 b6;obtain ⟨b0,b1,b2,b3,b4,b5,b6⟩:=aY dK.o;rw [HOP.o] at b0;obtain ⟨hc9,hf9⟩:=rC dE.o.a x.r.toNat (by rw [HG1.o.g.a4];exact HR4.o))|(go_at_call 112;refine st (bV _ lo mid hi p bK _ bW.o) ?_;rw [hf]));go_region;go_wp2_with fail;first|go_end0|refine bodyPost_ret (results_none rfl _ _ _) rfl ?_
 have q0:=dE.o.a0;have q1:=dE.o.a1;have q2:=dE.o.p0;have q3:=dE.o.p1;refine ⟨rfl,bK,MAt.drew ?_,(fO.o.set _ _ _ (.inl (by omega))).drew⟩;rw [E.o];exact ⟨gK,gU,gQ,gV,jA,jD,jC,dC.o.rY _ _ _ (by omega),dE.o.fB _ _⟩
theorem OU (t:Int) (h:MAt w lo mid hi p g2 c) (G:GM c) (B:InB x) (ho:x.op=10) (hm:x.m=0∨x.m=2∨x.m=3∨x.m=4∨x.m=5∨x.m=6) :
  Calls prog 111 #[.pointer (some (aac p 0)),.agg (inX x),iv t] w fun e w'=>e=.returned (.tuple #[])∧∃g3,MAt w' lo mid hi p g3 (c.doI x t)∧Since w lo hi g2 w' g3:=by
 have HG:=aab G;have HI:=aab B;have HOP:=aab ho;clear ho;have hl:=h.lo;obtain ⟨X,hX,KA,HX,hbw,HHB,HGB,HPH,HPB,HMH,HS,HM⟩:=h.lM x;obtain ⟨b0,b1,b2,b3,b4,b5,b6⟩:=aY HX.o;rw [HOP.o] at b0;clear h;obtain ⟨gd,cd,ga,ca,g1,c1,c2,HB,HO⟩:=HM.o.op;clear G B;have r0:=HI.o.r0;have r1:=HI.o.r1;have r4:x.r<4:=by omega
 have HR4:Hid (x.r.toNat<4):=aab (by omega);have E:Hid (c.doI x t=(c.place 2 x.m x.k x.e).fB x.r.toNat (c.iI 2 x.m x.k x.e)):=aab (by unfold Mc.doI;rw [HOP.o];rfl);have HG1:=aab (HG.o.place (z:=2) (m:=x.m) (e:=x.e) HI.o.k0 HI.o.k1);have HRD:=fun w9 h9=>vJ w9 lo mid hi p g2 c 2 x.m x.k x.e h9 HG.o HI.o.k0 HI.o.k1 HI.o.e0 HI.o.e1 hm;obtain ⟨d,hd⟩:∃d,c.place 2 x.m x.k x.e=d:=⟨_,rfl⟩
 obtain ⟨a,hA⟩:∃a,c.iI 2 x.m x.k x.e=a:=⟨_,rfl⟩
 rw [hd] at HG1;rw [hd,hA] at E;simp only [hd,hA] at HRD;clear hd hA hm;go_enter func111,ntmps111;go_wp2_with (go_at_call 151;refine (HRD _ HM.o).mono ?_;rintro e9 W_1 ⟨rfl,bK,hm9,hb9⟩;obtain ⟨dK,fP,fO⟩:=hb9.nx HX HHB HGB HS;clear hb9;have bW:=aab hm9;obtain ⟨gK,gU,gQ,gV,jA,jD,jC,dC,dE⟩:=hm9.op;have wJ:=dC.o.k1;clear b0 b1 b2 b3 b4 b5 b6;obtain ⟨b0,b1,b2,b3,b4,b5,b6⟩:=aY dK.o;rw [HOP.o] at b0;obtain ⟨hc9,hf9⟩:=rC dE.o.a x.r.toNat (by rw [HG1.o.g.a4];exact HR4.o));go_region;go_wp2_with fail;first|go_end0|refine bodyPost_ret (results_none rfl _ _ _) rfl ?_
 have q0:=dE.o.a0;have q1:=dE.o.a1;have q2:=dE.o.p0;have q3:=dE.o.p1;refine ⟨rfl,bK,MAt.drew ?_,(fO.o.set _ _ _ (.inl (by omega))).drew⟩;rw [E.o];exact ⟨gK,gU,gQ,gV,jA,jD,jC,dC.o.rY _ _ _ (by omega),dE.o.fB _ _⟩
theorem NV (w:World) (gd cd ga ca:Nat) (r:Rg) (hg:Pl.Good r):Calls prog 163 #[jF r gd cd ga ca] w fun e w'=>e=.returned (iv (Pl.status r))∧Kept 0 0 w w':=by
 have h:=uQ w r (some (aac gd 0)) (some (aac ga 0)) cd ca hg;rw [hg.d4,hg.a4] at h;exact h
theorem FN (t:Int) (h:MAt w lo mid hi p g2 c) (G:GM c) (B:InB x) (ho:x.op=19) (hs:x.s=1) :
  Calls prog 111 #[.pointer (some (aac p 0)),.agg (inX x),iv t] w fun e w'=>e=.returned (.tuple #[])∧∃g3,MAt w' lo mid hi p g3 (c.doI x t)∧Since w lo hi g2 w' g3:=by
 have HG:=aab G;have HI:=aab B;have HOP:=aab ho;have HSU:=aab hs;clear hs;clear ho;have hl:=h.lo;obtain ⟨X,hX,KA,HX,hbw,HHB,HGB,HPH,HPB,HMH,HS,HM⟩:=h.lM x;obtain ⟨b0,b1,b2,b3,b4,b5,b6⟩:=aY HX.o;rw [HOP.o] at b0;rw [HSU.o] at b6;clear h;obtain ⟨gd,cd,ga,ca,g1,c1,c2,HB,HO⟩:=HM.o.op;clear G B;have r0:=HI.o.r0;have r1:=HI.o.r1;have r4:x.r<4:=by omega
 have HR4:Hid (x.r.toNat<4):=aab (by omega);have E:Hid (c.doI x t=c.bi {c.r with xs:=c.r.xs.set x.r.toNat (Pl.status c.r)}):=aab (by unfold Mc.doI Mc.stat;rw [HOP.o,HSU.o];rfl);have HST:=fun w9=>NV w9 gd cd ga ca c.r HG.o.g;simp only [jF] at HST;obtain ⟨V,hV⟩:∃V,Pl.status c.r=V:=⟨_,rfl⟩
 rw [hV] at E;simp only [hV] at HST;clear hV;have KD:=aab (ah (Kept.refl 0 0 X));have S1D:=cellsS (HB.o.any KD.o) (HX.o.ae KD.o);go_enter func111,ntmps111;go_wp2_with fail;go_region_held3 (fun w'=>w'.cell? (aac p 0)=some (.slice (some (aac gd 0)) 4 cd)∧w'.cell? (aac p 1)=some (.slice (some (aac ga 0)) 4 ca)∧w'.cell? (aac p 2)=some (iv c.r.o)∧w'.cell? (aac p 3)=some (iv c.r.p)∧w'.cell? (aac p 4)=some (iv c.r.f)∧w'.cell? (aac p 5)=some (iv c.r.m)∧w'.cell? (aac p 6)=some (.bool c.r.s)∧w'.cell? (aac p 7)=some (.bool c.r.t)∧w'.cell? (aac w.heap.size 1)=some (iv x.z)∧w'.cell? (aac w.heap.size 2)=some (iv x.r)) (first|with_reducible exact S1D|with_reducible exact cellsS bG.o iH.o|exact cellsS (bG.o.rY _ _ _ HPG.o) (iH.o.other _ _ _ HBG.o)|go_keep) (first|(go_at_call 163;refine (HST _).mono ?_;rintro e9 W_2 ⟨rfl,hk9⟩;have K2:=aab ((ah (Kept.refl 0 0 X)).trans hk9);clear hk9;have bG:=aab (HB.o.any K2.o);have jY:=aab (HO.o.any K2.o);have iH:=aab (HX.o.ae K2.o);have jE:=aab (HS.o.any K2.o);obtain ⟨hc9,hf9⟩:=rC jY.o.d x.r.toNat (by rw [HG.o.g.d4];exact HR4.o);have HPG:Hid (p≠gd):=aab (by have:=jY.o.d1;have:=jY.o.p0;omega);have HBG:Hid (w.heap.size≠gd):=aab (by have:=jY.o.d1;have:=HHB.o;have:=HMH.o;omega)));go_wp2_with fail;first|go_end0|refine bodyPost_ret (results_none rfl _ _ _) rfl ?_
 have q0:=jY.o.d0;have q1:=jY.o.d1;have q2:=jY.o.p0;have q3:=jY.o.p1;refine ⟨rfl,g2,?_,jE.o.set _ _ _ (.inl (by omega))⟩;rw [E.o];exact ⟨gd,cd,ga,ca,g1,c1,c2,bG.o.rY _ _ _ (by omega),jY.o.N9 _ _⟩
set_option linter.unusedSimpArgs false
theorem Pl.jX {f:Int} (h0:0<=f) (h1:f<=31):bits .and .i64 f 16=f/16*16:=by
 obtain ⟨n,rfl⟩:=Int.eq_ofNat_of_zero_le h0;have hn:n<32:=by omega
 have:∀m:Nat,m<32->bits .and .i64 (m:Int) 16=(m:Int)/16*16:=by decide
 exact this n hn
theorem Pl.oI {a q:Int} (h0:0<=a) (h1:a<65536) (h2:a%2=0) (q0:0<=q) (q1:q<=1):bits .or .i64 a q=a+q:=
 bits_join .i64 62 (by decide) gY 1 a q (by omega) (by omega) (by omega) (by omega) (by omega) (by omega)
theorem Pl.oK {a q:Int} (h0:0<=a) (h1:a<128) (q0:0<=q) (q1:q<=1):bits .or .i64 a (q*128)=a+q*128:=by
 rw [Pl.or_comm,bits_join .i64 62 (by decide) gY 7 (q*128) a (by omega) (by omega) (by omega) (by omega) (by omega) (by omega)];omega
theorem Pl.oJ {a q:Int} (h0:0<=a) (h1:a<32768) (q0:0<=q) (q1:q<=1):bits .or .i64 a (q*32768)=a+q*32768:=by
 rw [Pl.or_comm,bits_join .i64 62 (by decide) gY 15 (q*32768) a (by omega) (by omega) (by omega) (by omega) (by omega) (by omega)];omega
theorem Pl.dV {c o x:Int} {z n:Bool} (hc:c=0∨c=1) (ho:o=0∨o=2) (hx:x=0∨x=16) :
  bits .or .i64 (bits .or .i64 (bits .or .i64 c (bits .or .i64 (Pl.fl z 4) (Pl.fl n 8))) o) x=c+o+(Pl.fl z 4+Pl.fl n 8)+x:=by
 rcases hc with rfl|rfl<;>rcases ho with rfl|rfl<;>rcases hx with rfl|rfl<;>cases z<;>cases n<;>decide
theorem Pl.iQ (b:Bool):Pl.fl b 2=0∨Pl.fl b 2=2:=by cases b<;>simp [Pl.fl]
theorem jo (v:Int) (w:World):Calls prog 208 #[.bool (decide (128<=v)),iv 1] w fun e w'=>e=.returned (iv (Pl.hi 1 v))∧w'=w:=by
 have e:Pl.hi 1 v=Pl.fl (decide (128<=v)) 1:=by simp [Pl.hi,Pl.fl,Pl.top]
 rw [e];exact bP _ 1 w
theorem jm (v:Int) (w:World):Calls prog 208 #[.bool (decide (32768<=v)),iv 1] w fun e w'=>e=.returned (iv (Pl.hi 2 v))∧w'=w:=by
 have e:Pl.hi 2 v=Pl.fl (decide (32768<=v)) 1:=by simp [Pl.hi,Pl.fl,Pl.top]
 rw [e];exact bP _ 1 w
theorem uG (f:Int) (f0:0<=f) (f1:f<=31) (w:World):Calls prog 208 #[.bool (f/16*16 != 0),iv 1] w fun e w'=>e=.returned (iv (f/16))∧w'=w:=by
 refine (bP _ 1 w).mono ?_;rintro e w' ⟨rfl,rfl⟩;refine ⟨rI ?_,rfl⟩;obtain h|h:f/16=0∨f/16=1:=by omega
 all_goals rw [h];decide
theorem JX (k:Int) (w:World):Calls prog 245 #[iv k] w fun e w'=>e=.returned (.bool (k%2==0))∧w'=w:=by
 have h:=and1 k;go_enter func245,ntmps245;go_wp2;go_ret;exact ⟨rfl,rfl⟩
theorem fV (k:Int) (h:(k%2==0)=true) (w:World):Calls prog 245 #[iv k] w fun e w'=>e=.returned (.bool true)∧w'=w:=by
 rw [<-h];exact JX k w
theorem fZ (k:Int) (h:(k%2==0)=false) (w:World):Calls prog 245 #[iv k] w fun e w'=>e=.returned (.bool false)∧w'=w:=by
 rw [<-h];exact JX k w
theorem JW (f v:Int) (w:World) (f0:0<=f) (f1:f<=31) (v0:0<=v) (v1:v<256) :
  Calls prog 209 #[iv 0,iv 1,iv f,iv v] w fun e w'=>e=.returned (.tuple #[iv (nv 0 1 (f/16) v),iv (onF 0 1 (f/16) v)])∧w'=w:=by
 have hA:=and1 v;have hB:=jX f0 f1;obtain ⟨q0,q1⟩:=dF 1 v;have hC:=gW (v*2);have hD:=oI (a:=v*2%256) (q:=0) (by omega) (by omega) (by omega) (by omega) (by omega);rw [Int.add_zero] at hD;have hW:Hid (nv 0 1 (f/16) v=(v*2%256)):=aab (by simp only [nv,inn,fell,Pl.top,Int.reduceMod,Int.reduceEq,Int.reduceLE,if_true,if_false,or_self]<;>omega);have hO:Hid (onF 0 1 (f/16) v=Pl.hi 1 v+Pl.fl (Pl.hi 1 v != Pl.hi 1 (v*2%256)) 2+(Pl.fl ((v*2%256)==0) 4+Pl.fl (decide (128<=(v*2%256))) 8)+Pl.hi 1 v*16):=aab (by simp only [onF,vfl,hW.o,zn,nx,fell,Pl.top,Int.reduceMod,Int.reduceEq,Int.reduceDiv,if_true,if_false,decide_true,Bool.true_and,or_self]<;>omega);go_enter func209,ntmps209;go_wp2_with fail;refine (iO _).mono ?_;rintro e w' ⟨rfl,rfl⟩;go_wp2_with fail;refine (jo _ _).mono ?_;rintro e w' ⟨rfl,rfl⟩;go_wp2_with fail;refine (fV 0 rfl _).mono ?_;rintro e w' ⟨rfl,rfl⟩;go_wp2_with fail;refine (fV 0 rfl _).mono ?_;rintro e w' ⟨rfl,rfl⟩;go_wp2_with fail;refine (nD _ _).mono ?_;rintro e w' ⟨rfl,rfl⟩;go_wp2_with fail;refine (jo _ _).mono ?_;rintro e w' ⟨rfl,rfl⟩;go_wp2_with fail;refine (bP _ _ _).mono ?_;rintro e w' ⟨rfl,rfl⟩;go_wp2_with fail;go_ret2;exact ⟨rII hW.o.symm (by rw [dV (by omega) (iQ _) (by omega)];exact hO.o.symm),rfl⟩
theorem JU (f v:Int) (w:World) (f0:0<=f) (f1:f<=31) (v0:0<=v) (v1:v<256) :
  Calls prog 209 #[iv 1,iv 1,iv f,iv v] w fun e w'=>e=.returned (.tuple #[iv (nv 1 1 (f/16) v),iv (onF 1 1 (f/16) v)])∧w'=w:=by
 have hA:=and1 v;have hB:=jX f0 f1;obtain ⟨q0,q1⟩:=dF 1 v;have hD:=oK (a:=v/2) (q:=Pl.hi 1 v) (by omega) (by omega) (by omega) (by omega);have hW:Hid (nv 1 1 (f/16) v=(v/2+Pl.hi 1 v*128)):=aab (by simp only [nv,inn,fell,Pl.top,Int.reduceMod,Int.reduceEq,Int.reduceLE,if_true,if_false]<;>omega);have hO:Hid (onF 1 1 (f/16) v=v%2+Pl.fl false 2+(Pl.fl ((v/2+Pl.hi 1 v*128)==0) 4+Pl.fl (decide (128<=(v/2+Pl.hi 1 v*128))) 8)+v%2*16):=aab (by simp only [onF,vfl,hW.o,zn,nx,fell,Pl.top,Int.reduceMod,Int.reduceEq,Int.reduceDiv,if_true,if_false,decide_false,Bool.false_and,or_self]<;>omega);go_enter func209,ntmps209;go_wp2_with fail;refine (iO _).mono ?_;rintro e w' ⟨rfl,rfl⟩;go_wp2_with fail;refine (jo _ _).mono ?_;rintro e w' ⟨rfl,rfl⟩;go_wp2_with fail;refine (fZ 1 rfl _).mono ?_;rintro e w' ⟨rfl,rfl⟩;go_wp2_with fail;refine (fZ 1 rfl _).mono ?_;rintro e w' ⟨rfl,rfl⟩;go_wp2_with fail;refine (nD _ _).mono ?_;rintro e w' ⟨rfl,rfl⟩;go_wp2_with fail;refine (bP _ _ _).mono ?_;rintro e w' ⟨rfl,rfl⟩;go_wp2_with fail;go_ret2;exact ⟨rII hW.o.symm (by rw [dV (by omega) (iQ _) (by omega)];exact hO.o.symm),rfl⟩
theorem JR (f v:Int) (w:World) (f0:0<=f) (f1:f<=31) (v0:0<=v) (v1:v<256) :
  Calls prog 209 #[iv 2,iv 1,iv f,iv v] w fun e w'=>e=.returned (.tuple #[iv (nv 2 1 (f/16) v),iv (onF 2 1 (f/16) v)])∧w'=w:=by
 have hA:=and1 v;have hB:=jX f0 f1;obtain ⟨q0,q1⟩:=dF 1 v;have hC:=gW (v*2);have hD:=oI (a:=v*2%256) (q:=0) (by omega) (by omega) (by omega) (by omega) (by omega);rw [Int.add_zero] at hD;have hW:Hid (nv 2 1 (f/16) v=(v*2%256)):=aab (by simp only [nv,inn,fell,Pl.top,Int.reduceMod,Int.reduceEq,Int.reduceLE,if_true,if_false,or_self]<;>omega);have hO:Hid (onF 2 1 (f/16) v=Pl.hi 1 v+Pl.fl false 2+(Pl.fl ((v*2%256)==0) 4+Pl.fl (decide (128<=(v*2%256))) 8)+Pl.hi 1 v*16):=aab (by simp only [onF,vfl,hW.o,zn,nx,fell,Pl.top,Int.reduceMod,Int.reduceEq,Int.reduceDiv,if_true,if_false,decide_false,Bool.false_and,or_self]<;>omega);go_enter func209,ntmps209;go_wp2_with fail;refine (iO _).mono ?_;rintro e w' ⟨rfl,rfl⟩;go_wp2_with fail;refine (jo _ _).mono ?_;rintro e w' ⟨rfl,rfl⟩;go_wp2_with fail;refine (fV 2 rfl _).mono ?_;rintro e w' ⟨rfl,rfl⟩;go_wp2_with fail;refine (fV 2 rfl _).mono ?_;rintro e w' ⟨rfl,rfl⟩;go_wp2_with fail;refine (nD _ _).mono ?_;rintro e w' ⟨rfl,rfl⟩;go_wp2_with fail;refine (bP _ _ _).mono ?_;rintro e w' ⟨rfl,rfl⟩;go_wp2_with fail;go_ret2;exact ⟨rII hW.o.symm (by rw [dV (by omega) (iQ _) (by omega)];exact hO.o.symm),rfl⟩
theorem JP (f v:Int) (w:World) (f0:0<=f) (f1:f<=31) (v0:0<=v) (v1:v<256) :
  Calls prog 209 #[iv 3,iv 1,iv f,iv v] w fun e w'=>e=.returned (.tuple #[iv (nv 3 1 (f/16) v),iv (onF 3 1 (f/16) v)])∧w'=w:=by
 have hA:=and1 v;have hB:=jX f0 f1;obtain ⟨q0,q1⟩:=dF 1 v;have hD:=oK (a:=v/2) (q:=0) (by omega) (by omega) (by omega) (by omega);rw [Int.zero_mul,Int.add_zero] at hD;have hW:Hid (nv 3 1 (f/16) v=(v/2)):=aab (by simp only [nv,inn,fell,Pl.top,Int.reduceMod,Int.reduceEq,Int.reduceLE,if_true,if_false,or_self]<;>omega);have hO:Hid (onF 3 1 (f/16) v=v%2+Pl.fl false 2+(Pl.fl ((v/2)==0) 4+Pl.fl (decide (128<=(v/2))) 8)+v%2*16):=aab (by simp only [onF,vfl,hW.o,zn,nx,fell,Pl.top,Int.reduceMod,Int.reduceEq,Int.reduceDiv,if_true,if_false,decide_false,Bool.false_and,or_self]<;>omega);go_enter func209,ntmps209;go_wp2_with fail;refine (iO _).mono ?_;rintro e w' ⟨rfl,rfl⟩;go_wp2_with fail;refine (jo _ _).mono ?_;rintro e w' ⟨rfl,rfl⟩;go_wp2_with fail;refine (fZ 3 rfl _).mono ?_;rintro e w' ⟨rfl,rfl⟩;go_wp2_with fail;refine (fZ 3 rfl _).mono ?_;rintro e w' ⟨rfl,rfl⟩;go_wp2_with fail;refine (nD _ _).mono ?_;rintro e w' ⟨rfl,rfl⟩;go_wp2_with fail;refine (bP _ _ _).mono ?_;rintro e w' ⟨rfl,rfl⟩;go_wp2_with fail;go_ret2;exact ⟨rII hW.o.symm (by rw [dV (by omega) (iQ _) (by omega)];exact hO.o.symm),rfl⟩
theorem JM (f v:Int) (w:World) (f0:0<=f) (f1:f<=31) (v0:0<=v) (v1:v<256) :
  Calls prog 209 #[iv 4,iv 1,iv f,iv v] w fun e w'=>e=.returned (.tuple #[iv (nv 4 1 (f/16) v),iv (onF 4 1 (f/16) v)])∧w'=w:=by
 have hA:=and1 v;have hB:=jX f0 f1;obtain ⟨q0,q1⟩:=dF 1 v;have hC:=gW (v*2);have hD:=oI (a:=v*2%256) (q:=Pl.hi 1 v) (by omega) (by omega) (by omega) (by omega) (by omega);have hW:Hid (nv 4 1 (f/16) v=(v*2%256+Pl.hi 1 v)):=aab (by simp only [nv,inn,fell,Pl.top,Int.reduceMod,Int.reduceEq,Int.reduceLE,if_true,if_false,or_false]<;>omega);have hO:Hid (onF 4 1 (f/16) v=Pl.hi 1 v+Pl.fl false 2+(Pl.fl ((v*2%256+Pl.hi 1 v)==0) 4+Pl.fl (decide (128<=(v*2%256+Pl.hi 1 v))) 8)+f/16*16):=aab (by simp only [onF,vfl,hW.o,zn,nx,fell,Pl.top,Int.reduceMod,Int.reduceEq,Int.reduceDiv,if_true,if_false,decide_false,Bool.false_and,or_false]<;>omega);go_enter func209,ntmps209;go_wp2_with fail;refine (iO _).mono ?_;rintro e w' ⟨rfl,rfl⟩;go_wp2_with fail;refine (jo _ _).mono ?_;rintro e w' ⟨rfl,rfl⟩;go_wp2_with fail;refine (fV 4 rfl _).mono ?_;rintro e w' ⟨rfl,rfl⟩;go_wp2_with fail;refine (fV 4 rfl _).mono ?_;rintro e w' ⟨rfl,rfl⟩;go_wp2_with fail;refine (nD _ _).mono ?_;rintro e w' ⟨rfl,rfl⟩;go_wp2_with fail;refine (bP _ _ _).mono ?_;rintro e w' ⟨rfl,rfl⟩;go_wp2_with fail;go_ret2;exact ⟨rII hW.o.symm (by rw [dV (by omega) (iQ _) (by omega)];exact hO.o.symm),rfl⟩
theorem JK (f v:Int) (w:World) (f0:0<=f) (f1:f<=31) (v0:0<=v) (v1:v<256) :
  Calls prog 209 #[iv 5,iv 1,iv f,iv v] w fun e w'=>e=.returned (.tuple #[iv (nv 5 1 (f/16) v),iv (onF 5 1 (f/16) v)])∧w'=w:=by
 have hA:=and1 v;have hB:=jX f0 f1;obtain ⟨q0,q1⟩:=dF 1 v;have hD:=oK (a:=v/2) (q:=(v%2)) (by omega) (by omega) (by omega) (by omega);have hW:Hid (nv 5 1 (f/16) v=(v/2+(v%2)*128)):=aab (by simp only [nv,inn,fell,Pl.top,Int.reduceMod,Int.reduceEq,Int.reduceLE,if_true,if_false,or_true]<;>omega);have hO:Hid (onF 5 1 (f/16) v=v%2+Pl.fl false 2+(Pl.fl ((v/2+(v%2)*128)==0) 4+Pl.fl (decide (128<=(v/2+(v%2)*128))) 8)+f/16*16):=aab (by simp only [onF,vfl,hW.o,zn,nx,fell,Pl.top,Int.reduceMod,Int.reduceEq,Int.reduceDiv,if_true,if_false,decide_false,Bool.false_and,or_true]<;>omega);go_enter func209,ntmps209;go_wp2_with fail;refine (iO _).mono ?_;rintro e w' ⟨rfl,rfl⟩;go_wp2_with fail;refine (jo _ _).mono ?_;rintro e w' ⟨rfl,rfl⟩;go_wp2_with fail;refine (fZ 5 rfl _).mono ?_;rintro e w' ⟨rfl,rfl⟩;go_wp2_with fail;refine (fZ 5 rfl _).mono ?_;rintro e w' ⟨rfl,rfl⟩;go_wp2_with fail;refine (nD _ _).mono ?_;rintro e w' ⟨rfl,rfl⟩;go_wp2_with fail;refine (bP _ _ _).mono ?_;rintro e w' ⟨rfl,rfl⟩;go_wp2_with fail;go_ret2;exact ⟨rII hW.o.symm (by rw [dV (by omega) (iQ _) (by omega)];exact hO.o.symm),rfl⟩
theorem JI (f v:Int) (w:World) (f0:0<=f) (f1:f<=31) (v0:0<=v) (v1:v<256) :
  Calls prog 209 #[iv 6,iv 1,iv f,iv v] w fun e w'=>e=.returned (.tuple #[iv (nv 6 1 (f/16) v),iv (onF 6 1 (f/16) v)])∧w'=w:=by
 have hA:=and1 v;have hB:=jX f0 f1;obtain ⟨q0,q1⟩:=dF 1 v;have hC:=gW (v*2);have hD:=oI (a:=v*2%256) (q:=(f/16)) (by omega) (by omega) (by omega) (by omega) (by omega);have hW:Hid (nv 6 1 (f/16) v=(v*2%256+(f/16))):=aab (by simp only [nv,inn,fell,Pl.top,Int.reduceMod,Int.reduceEq,Int.reduceLE,if_true,if_false,or_self]<;>omega);have hO:Hid (onF 6 1 (f/16) v=Pl.hi 1 v+Pl.fl false 2+(Pl.fl ((v*2%256+(f/16))==0) 4+Pl.fl (decide (128<=(v*2%256+(f/16)))) 8)+Pl.hi 1 v*16):=aab (by simp only [onF,vfl,hW.o,zn,nx,fell,Pl.top,Int.reduceMod,Int.reduceEq,Int.reduceDiv,if_true,if_false,decide_false,Bool.false_and,or_self]<;>omega);go_enter func209,ntmps209;go_wp2_with fail;refine (iO _).mono ?_;rintro e w' ⟨rfl,rfl⟩;go_wp2_with fail;refine (jo _ _).mono ?_;rintro e w' ⟨rfl,rfl⟩;go_wp2_with fail;refine (fV 6 rfl _).mono ?_;rintro e w' ⟨rfl,rfl⟩;go_wp2_with fail;refine (uG f f0 f1 _).mono ?_;rintro e w' ⟨rfl,rfl⟩;go_wp2_with fail;refine (fV 6 rfl _).mono ?_;rintro e w' ⟨rfl,rfl⟩;go_wp2_with fail;refine (nD _ _).mono ?_;rintro e w' ⟨rfl,rfl⟩;go_wp2_with fail;refine (bP _ _ _).mono ?_;rintro e w' ⟨rfl,rfl⟩;go_wp2_with fail;go_ret2;exact ⟨rII hW.o.symm (by rw [dV (by omega) (iQ _) (by omega)];exact hO.o.symm),rfl⟩
theorem JG (f v:Int) (w:World) (f0:0<=f) (f1:f<=31) (v0:0<=v) (v1:v<256) :
  Calls prog 209 #[iv 7,iv 1,iv f,iv v] w fun e w'=>e=.returned (.tuple #[iv (nv 7 1 (f/16) v),iv (onF 7 1 (f/16) v)])∧w'=w:=by
 have hA:=and1 v;have hB:=jX f0 f1;obtain ⟨q0,q1⟩:=dF 1 v;have hD:=oK (a:=v/2) (q:=(f/16)) (by omega) (by omega) (by omega) (by omega);have hW:Hid (nv 7 1 (f/16) v=(v/2+(f/16)*128)):=aab (by simp only [nv,inn,fell,Pl.top,Int.reduceMod,Int.reduceEq,Int.reduceLE,if_true,if_false,or_self]<;>omega);have hO:Hid (onF 7 1 (f/16) v=v%2+Pl.fl false 2+(Pl.fl ((v/2+(f/16)*128)==0) 4+Pl.fl (decide (128<=(v/2+(f/16)*128))) 8)+v%2*16):=aab (by simp only [onF,vfl,hW.o,zn,nx,fell,Pl.top,Int.reduceMod,Int.reduceEq,Int.reduceDiv,if_true,if_false,decide_false,Bool.false_and,or_self]<;>omega);go_enter func209,ntmps209;go_wp2_with fail;refine (iO _).mono ?_;rintro e w' ⟨rfl,rfl⟩;go_wp2_with fail;refine (jo _ _).mono ?_;rintro e w' ⟨rfl,rfl⟩;go_wp2_with fail;refine (fZ 7 rfl _).mono ?_;rintro e w' ⟨rfl,rfl⟩;go_wp2_with fail;refine (uG f f0 f1 _).mono ?_;rintro e w' ⟨rfl,rfl⟩;go_wp2_with fail;refine (fZ 7 rfl _).mono ?_;rintro e w' ⟨rfl,rfl⟩;go_wp2_with fail;refine (nD _ _).mono ?_;rintro e w' ⟨rfl,rfl⟩;go_wp2_with fail;refine (bP _ _ _).mono ?_;rintro e w' ⟨rfl,rfl⟩;go_wp2_with fail;go_ret2;exact ⟨rII hW.o.symm (by rw [dV (by omega) (iQ _) (by omega)];exact hO.o.symm),rfl⟩
theorem JV (f v:Int) (w:World) (f0:0<=f) (f1:f<=31) (v0:0<=v) (v1:v<65536) :
  Calls prog 209 #[iv 0,iv 2,iv f,iv v] w fun e w'=>e=.returned (.tuple #[iv (nv 0 2 (f/16) v),iv (onF 0 2 (f/16) v)])∧w'=w:=by
 have hA:=and1 v;have hB:=jX f0 f1;obtain ⟨q0,q1⟩:=dF 2 v;have hC:=fJ (v*2);have hD:=oI (a:=v*2%65536) (q:=0) (by omega) (by omega) (by omega) (by omega) (by omega);rw [Int.add_zero] at hD;have hW:Hid (nv 0 2 (f/16) v=(v*2%65536)):=aab (by simp only [nv,inn,fell,Pl.top,Int.reduceMod,Int.reduceEq,Int.reduceLE,if_true,if_false,or_self]<;>omega);have hO:Hid (onF 0 2 (f/16) v=Pl.hi 2 v+Pl.fl (Pl.hi 2 v != Pl.hi 2 (v*2%65536)) 2+(Pl.fl ((v*2%65536)==0) 4+Pl.fl (decide (32768<=(v*2%65536))) 8)+Pl.hi 2 v*16):=aab (by simp only [onF,vfl,hW.o,zn,nx,fell,Pl.top,Int.reduceMod,Int.reduceEq,Int.reduceDiv,if_true,if_false,decide_true,Bool.true_and,or_self]<;>omega);go_enter func209,ntmps209;go_wp2_with fail;refine (iM _).mono ?_;rintro e w' ⟨rfl,rfl⟩;go_wp2_with fail;refine (jm _ _).mono ?_;rintro e w' ⟨rfl,rfl⟩;go_wp2_with fail;refine (fV 0 rfl _).mono ?_;rintro e w' ⟨rfl,rfl⟩;go_wp2_with fail;refine (fV 0 rfl _).mono ?_;rintro e w' ⟨rfl,rfl⟩;go_wp2_with fail;refine (nC _ _).mono ?_;rintro e w' ⟨rfl,rfl⟩;go_wp2_with fail;refine (jm _ _).mono ?_;rintro e w' ⟨rfl,rfl⟩;go_wp2_with fail;refine (bP _ _ _).mono ?_;rintro e w' ⟨rfl,rfl⟩;go_wp2_with fail;go_ret2;exact ⟨rII hW.o.symm (by rw [dV (by omega) (iQ _) (by omega)];exact hO.o.symm),rfl⟩
theorem JS (f v:Int) (w:World) (f0:0<=f) (f1:f<=31) (v0:0<=v) (v1:v<65536) :
  Calls prog 209 #[iv 1,iv 2,iv f,iv v] w fun e w'=>e=.returned (.tuple #[iv (nv 1 2 (f/16) v),iv (onF 1 2 (f/16) v)])∧w'=w:=by
 have hA:=and1 v;have hB:=jX f0 f1;obtain ⟨q0,q1⟩:=dF 2 v;have hD:=oJ (a:=v/2) (q:=Pl.hi 2 v) (by omega) (by omega) (by omega) (by omega);have hW:Hid (nv 1 2 (f/16) v=(v/2+Pl.hi 2 v*32768)):=aab (by simp only [nv,inn,fell,Pl.top,Int.reduceMod,Int.reduceEq,Int.reduceLE,if_true,if_false]<;>omega);have hO:Hid (onF 1 2 (f/16) v=v%2+Pl.fl false 2+(Pl.fl ((v/2+Pl.hi 2 v*32768)==0) 4+Pl.fl (decide (32768<=(v/2+Pl.hi 2 v*32768))) 8)+v%2*16):=aab (by simp only [onF,vfl,hW.o,zn,nx,fell,Pl.top,Int.reduceMod,Int.reduceEq,Int.reduceDiv,if_true,if_false,decide_false,Bool.false_and,or_self]<;>omega);go_enter func209,ntmps209;go_wp2_with fail;refine (iM _).mono ?_;rintro e w' ⟨rfl,rfl⟩;go_wp2_with fail;refine (jm _ _).mono ?_;rintro e w' ⟨rfl,rfl⟩;go_wp2_with fail;refine (fZ 1 rfl _).mono ?_;rintro e w' ⟨rfl,rfl⟩;go_wp2_with fail;refine (fZ 1 rfl _).mono ?_;rintro e w' ⟨rfl,rfl⟩;go_wp2_with fail;refine (nC _ _).mono ?_;rintro e w' ⟨rfl,rfl⟩;go_wp2_with fail;refine (bP _ _ _).mono ?_;rintro e w' ⟨rfl,rfl⟩;go_wp2_with fail;go_ret2;exact ⟨rII hW.o.symm (by rw [dV (by omega) (iQ _) (by omega)];exact hO.o.symm),rfl⟩
theorem JQ (f v:Int) (w:World) (f0:0<=f) (f1:f<=31) (v0:0<=v) (v1:v<65536) :
  Calls prog 209 #[iv 2,iv 2,iv f,iv v] w fun e w'=>e=.returned (.tuple #[iv (nv 2 2 (f/16) v),iv (onF 2 2 (f/16) v)])∧w'=w:=by
 have hA:=and1 v;have hB:=jX f0 f1;obtain ⟨q0,q1⟩:=dF 2 v;have hC:=fJ (v*2);have hD:=oI (a:=v*2%65536) (q:=0) (by omega) (by omega) (by omega) (by omega) (by omega);rw [Int.add_zero] at hD;have hW:Hid (nv 2 2 (f/16) v=(v*2%65536)):=aab (by simp only [nv,inn,fell,Pl.top,Int.reduceMod,Int.reduceEq,Int.reduceLE,if_true,if_false,or_self]<;>omega);have hO:Hid (onF 2 2 (f/16) v=Pl.hi 2 v+Pl.fl false 2+(Pl.fl ((v*2%65536)==0) 4+Pl.fl (decide (32768<=(v*2%65536))) 8)+Pl.hi 2 v*16):=aab (by simp only [onF,vfl,hW.o,zn,nx,fell,Pl.top,Int.reduceMod,Int.reduceEq,Int.reduceDiv,if_true,if_false,decide_false,Bool.false_and,or_self]<;>omega);go_enter func209,ntmps209;go_wp2_with fail;refine (iM _).mono ?_;rintro e w' ⟨rfl,rfl⟩;go_wp2_with fail;refine (jm _ _).mono ?_;rintro e w' ⟨rfl,rfl⟩;go_wp2_with fail;refine (fV 2 rfl _).mono ?_;rintro e w' ⟨rfl,rfl⟩;go_wp2_with fail;refine (fV 2 rfl _).mono ?_;rintro e w' ⟨rfl,rfl⟩;go_wp2_with fail;refine (nC _ _).mono ?_;rintro e w' ⟨rfl,rfl⟩;go_wp2_with fail;refine (bP _ _ _).mono ?_;rintro e w' ⟨rfl,rfl⟩;go_wp2_with fail;go_ret2;exact ⟨rII hW.o.symm (by rw [dV (by omega) (iQ _) (by omega)];exact hO.o.symm),rfl⟩
theorem JO (f v:Int) (w:World) (f0:0<=f) (f1:f<=31) (v0:0<=v) (v1:v<65536) :
  Calls prog 209 #[iv 3,iv 2,iv f,iv v] w fun e w'=>e=.returned (.tuple #[iv (nv 3 2 (f/16) v),iv (onF 3 2 (f/16) v)])∧w'=w:=by
 have hA:=and1 v;have hB:=jX f0 f1;obtain ⟨q0,q1⟩:=dF 2 v;have hD:=oJ (a:=v/2) (q:=0) (by omega) (by omega) (by omega) (by omega);rw [Int.zero_mul,Int.add_zero] at hD;have hW:Hid (nv 3 2 (f/16) v=(v/2)):=aab (by simp only [nv,inn,fell,Pl.top,Int.reduceMod,Int.reduceEq,Int.reduceLE,if_true,if_false,or_self]<;>omega);have hO:Hid (onF 3 2 (f/16) v=v%2+Pl.fl false 2+(Pl.fl ((v/2)==0) 4+Pl.fl (decide (32768<=(v/2))) 8)+v%2*16):=aab (by simp only [onF,vfl,hW.o,zn,nx,fell,Pl.top,Int.reduceMod,Int.reduceEq,Int.reduceDiv,if_true,if_false,decide_false,Bool.false_and,or_self]<;>omega);go_enter func209,ntmps209;go_wp2_with fail;refine (iM _).mono ?_;rintro e w' ⟨rfl,rfl⟩;go_wp2_with fail;refine (jm _ _).mono ?_;rintro e w' ⟨rfl,rfl⟩;go_wp2_with fail;refine (fZ 3 rfl _).mono ?_;rintro e w' ⟨rfl,rfl⟩;go_wp2_with fail;refine (fZ 3 rfl _).mono ?_;rintro e w' ⟨rfl,rfl⟩;go_wp2_with fail;refine (nC _ _).mono ?_;rintro e w' ⟨rfl,rfl⟩;go_wp2_with fail;refine (bP _ _ _).mono ?_;rintro e w' ⟨rfl,rfl⟩;go_wp2_with fail;go_ret2;exact ⟨rII hW.o.symm (by rw [dV (by omega) (iQ _) (by omega)];exact hO.o.symm),rfl⟩
theorem JL (f v:Int) (w:World) (f0:0<=f) (f1:f<=31) (v0:0<=v) (v1:v<65536) :
  Calls prog 209 #[iv 4,iv 2,iv f,iv v] w fun e w'=>e=.returned (.tuple #[iv (nv 4 2 (f/16) v),iv (onF 4 2 (f/16) v)])∧w'=w:=by
 have hA:=and1 v;have hB:=jX f0 f1;obtain ⟨q0,q1⟩:=dF 2 v;have hC:=fJ (v*2);have hD:=oI (a:=v*2%65536) (q:=Pl.hi 2 v) (by omega) (by omega) (by omega) (by omega) (by omega);have hW:Hid (nv 4 2 (f/16) v=(v*2%65536+Pl.hi 2 v)):=aab (by simp only [nv,inn,fell,Pl.top,Int.reduceMod,Int.reduceEq,Int.reduceLE,if_true,if_false,or_false]<;>omega);have hO:Hid (onF 4 2 (f/16) v=Pl.hi 2 v+Pl.fl false 2+(Pl.fl ((v*2%65536+Pl.hi 2 v)==0) 4+Pl.fl (decide (32768<=(v*2%65536+Pl.hi 2 v))) 8)+f/16*16):=aab (by simp only [onF,vfl,hW.o,zn,nx,fell,Pl.top,Int.reduceMod,Int.reduceEq,Int.reduceDiv,if_true,if_false,decide_false,Bool.false_and,or_false]<;>omega);go_enter func209,ntmps209;go_wp2_with fail;refine (iM _).mono ?_;rintro e w' ⟨rfl,rfl⟩;go_wp2_with fail;refine (jm _ _).mono ?_;rintro e w' ⟨rfl,rfl⟩;go_wp2_with fail;refine (fV 4 rfl _).mono ?_;rintro e w' ⟨rfl,rfl⟩;go_wp2_with fail;refine (fV 4 rfl _).mono ?_;rintro e w' ⟨rfl,rfl⟩;go_wp2_with fail;refine (nC _ _).mono ?_;rintro e w' ⟨rfl,rfl⟩;go_wp2_with fail;refine (bP _ _ _).mono ?_;rintro e w' ⟨rfl,rfl⟩;go_wp2_with fail;go_ret2;exact ⟨rII hW.o.symm (by rw [dV (by omega) (iQ _) (by omega)];exact hO.o.symm),rfl⟩
theorem JJ (f v:Int) (w:World) (f0:0<=f) (f1:f<=31) (v0:0<=v) (v1:v<65536) :
  Calls prog 209 #[iv 5,iv 2,iv f,iv v] w fun e w'=>e=.returned (.tuple #[iv (nv 5 2 (f/16) v),iv (onF 5 2 (f/16) v)])∧w'=w:=by
 have hA:=and1 v;have hB:=jX f0 f1;obtain ⟨q0,q1⟩:=dF 2 v;have hD:=oJ (a:=v/2) (q:=(v%2)) (by omega) (by omega) (by omega) (by omega);have hW:Hid (nv 5 2 (f/16) v=(v/2+(v%2)*32768)):=aab (by simp only [nv,inn,fell,Pl.top,Int.reduceMod,Int.reduceEq,Int.reduceLE,if_true,if_false,or_true]<;>omega);have hO:Hid (onF 5 2 (f/16) v=v%2+Pl.fl false 2+(Pl.fl ((v/2+(v%2)*32768)==0) 4+Pl.fl (decide (32768<=(v/2+(v%2)*32768))) 8)+f/16*16):=aab (by simp only [onF,vfl,hW.o,zn,nx,fell,Pl.top,Int.reduceMod,Int.reduceEq,Int.reduceDiv,if_true,if_false,decide_false,Bool.false_and,or_true]<;>omega);go_enter func209,ntmps209;go_wp2_with fail;refine (iM _).mono ?_;rintro e w' ⟨rfl,rfl⟩;go_wp2_with fail;refine (jm _ _).mono ?_;rintro e w' ⟨rfl,rfl⟩;go_wp2_with fail;refine (fZ 5 rfl _).mono ?_;rintro e w' ⟨rfl,rfl⟩;go_wp2_with fail;refine (fZ 5 rfl _).mono ?_;rintro e w' ⟨rfl,rfl⟩;go_wp2_with fail;refine (nC _ _).mono ?_;rintro e w' ⟨rfl,rfl⟩;go_wp2_with fail;refine (bP _ _ _).mono ?_;rintro e w' ⟨rfl,rfl⟩;go_wp2_with fail;go_ret2;exact ⟨rII hW.o.symm (by rw [dV (by omega) (iQ _) (by omega)];exact hO.o.symm),rfl⟩
theorem JH (f v:Int) (w:World) (f0:0<=f) (f1:f<=31) (v0:0<=v) (v1:v<65536) :
  Calls prog 209 #[iv 6,iv 2,iv f,iv v] w fun e w'=>e=.returned (.tuple #[iv (nv 6 2 (f/16) v),iv (onF 6 2 (f/16) v)])∧w'=w:=by
 have hA:=and1 v;have hB:=jX f0 f1;obtain ⟨q0,q1⟩:=dF 2 v;have hC:=fJ (v*2);have hD:=oI (a:=v*2%65536) (q:=(f/16)) (by omega) (by omega) (by omega) (by omega) (by omega);have hW:Hid (nv 6 2 (f/16) v=(v*2%65536+(f/16))):=aab (by simp only [nv,inn,fell,Pl.top,Int.reduceMod,Int.reduceEq,Int.reduceLE,if_true,if_false,or_self]<;>omega);have hO:Hid (onF 6 2 (f/16) v=Pl.hi 2 v+Pl.fl false 2+(Pl.fl ((v*2%65536+(f/16))==0) 4+Pl.fl (decide (32768<=(v*2%65536+(f/16)))) 8)+Pl.hi 2 v*16):=aab (by simp only [onF,vfl,hW.o,zn,nx,fell,Pl.top,Int.reduceMod,Int.reduceEq,Int.reduceDiv,if_true,if_false,decide_false,Bool.false_and,or_self]<;>omega);go_enter func209,ntmps209;go_wp2_with fail;refine (iM _).mono ?_;rintro e w' ⟨rfl,rfl⟩;go_wp2_with fail;refine (jm _ _).mono ?_;rintro e w' ⟨rfl,rfl⟩;go_wp2_with fail;refine (fV 6 rfl _).mono ?_;rintro e w' ⟨rfl,rfl⟩;go_wp2_with fail;refine (uG f f0 f1 _).mono ?_;rintro e w' ⟨rfl,rfl⟩;go_wp2_with fail;refine (fV 6 rfl _).mono ?_;rintro e w' ⟨rfl,rfl⟩;go_wp2_with fail;refine (nC _ _).mono ?_;rintro e w' ⟨rfl,rfl⟩;go_wp2_with fail;refine (bP _ _ _).mono ?_;rintro e w' ⟨rfl,rfl⟩;go_wp2_with fail;go_ret2;exact ⟨rII hW.o.symm (by rw [dV (by omega) (iQ _) (by omega)];exact hO.o.symm),rfl⟩
theorem JF (f v:Int) (w:World) (f0:0<=f) (f1:f<=31) (v0:0<=v) (v1:v<65536) :
  Calls prog 209 #[iv 7,iv 2,iv f,iv v] w fun e w'=>e=.returned (.tuple #[iv (nv 7 2 (f/16) v),iv (onF 7 2 (f/16) v)])∧w'=w:=by
 have hA:=and1 v;have hB:=jX f0 f1;obtain ⟨q0,q1⟩:=dF 2 v;have hD:=oJ (a:=v/2) (q:=(f/16)) (by omega) (by omega) (by omega) (by omega);have hW:Hid (nv 7 2 (f/16) v=(v/2+(f/16)*32768)):=aab (by simp only [nv,inn,fell,Pl.top,Int.reduceMod,Int.reduceEq,Int.reduceLE,if_true,if_false,or_self]<;>omega);have hO:Hid (onF 7 2 (f/16) v=v%2+Pl.fl false 2+(Pl.fl ((v/2+(f/16)*32768)==0) 4+Pl.fl (decide (32768<=(v/2+(f/16)*32768))) 8)+v%2*16):=aab (by simp only [onF,vfl,hW.o,zn,nx,fell,Pl.top,Int.reduceMod,Int.reduceEq,Int.reduceDiv,if_true,if_false,decide_false,Bool.false_and,or_self]<;>omega);go_enter func209,ntmps209;go_wp2_with fail;refine (iM _).mono ?_;rintro e w' ⟨rfl,rfl⟩;go_wp2_with fail;refine (jm _ _).mono ?_;rintro e w' ⟨rfl,rfl⟩;go_wp2_with fail;refine (fZ 7 rfl _).mono ?_;rintro e w' ⟨rfl,rfl⟩;go_wp2_with fail;refine (uG f f0 f1 _).mono ?_;rintro e w' ⟨rfl,rfl⟩;go_wp2_with fail;refine (fZ 7 rfl _).mono ?_;rintro e w' ⟨rfl,rfl⟩;go_wp2_with fail;refine (nC _ _).mono ?_;rintro e w' ⟨rfl,rfl⟩;go_wp2_with fail;refine (bP _ _ _).mono ?_;rintro e w' ⟨rfl,rfl⟩;go_wp2_with fail;go_ret2;exact ⟨rII hW.o.symm (by rw [dV (by omega) (iQ _) (by omega)];exact hO.o.symm),rfl⟩
theorem Pl.BJ {c x:Int} {o z n:Bool} (hc:c=0∨c=1) (hx:x=0∨x=1):bits .and .i64 (c+Pl.fl o 2+(Pl.fl z 4+Pl.fl n 8)+16*x) 2=Pl.fl o 2:=by
 rcases hc with rfl|rfl<;>rcases hx with rfl|rfl<;>cases o<;>cases z<;>cases n<;>decide
theorem Pl.Fh {c x:Int} {o z n q:Bool} (hc:c=0∨c=1) (hx:x=0∨x=1) (hq:o=true->q=true):bits .or .i64 (c+Pl.fl o 2+(Pl.fl z 4+Pl.fl n 8)+16*x) (Pl.fl q 2)=c+Pl.fl q 2+(Pl.fl z 4+Pl.fl n 8)+16*x:=by
 rcases hc with rfl|rfl<;>rcases hx with rfl|rfl<;>cases o<;>cases z<;>cases n<;>cases q<;>first|decide|(exact absurd (hq rfl) (by decide))
theorem Pl.Ji {k s:Int} {p:Int × Int} (h:Pl.Fit s p):bits .and .i64 (onF k s p.2 p.1) 2=Pl.fl (vfl k s p.2 p.1) 2:=by
 have f:=mZ k s p.1;have x:=Dy k s p.2 p.1 h.2.2.2.1 h.2.2.2.2;unfold onF zn;exact BJ (by omega) (by omega)
theorem Pl.OB {k s:Int} {p:Int × Int} (h:Pl.Fit s p) {q:Bool} (hq:vfl k s p.2 p.1=true->q=true) :
  bits .or .i64 (onF k s p.2 p.1) (Pl.fl q 2)=fell k s p.1+Pl.fl q 2+zn s (nv k s p.2 p.1)+16*nx k s p.2 p.1:=by
 have f:=mZ k s p.1;have x:=Dy k s p.2 p.1 h.2.2.2.1 h.2.2.2.2;unfold onF zn;exact Fh (by omega) (by omega) hq
theorem Pl.Kq (a b:Bool):bits .or .i64 (Pl.fl a 2) (Pl.fl b 2)=Pl.fl (a||b) 2:=by cases a<;>cases b<;>decide
theorem TR (k s f v:Int) (w:World) (k0:0<=k) (k1:k<=7) (f0:0<=f) (f1:f<=31) (h:Pl.Fit s (v,f/16)) :
  Calls prog 209 #[iv k,iv s,iv f,iv v] w fun e w'=>e=.returned (.tuple #[iv (nv k s (f/16) v),iv (onF k s (f/16) v)])∧w'=w:=by
 obtain ⟨hs,v0,v1,_,_⟩:=h;simp only at v0 v1;have hk:k=0∨k=1∨k=2∨k=3∨k=4∨k=5∨k=6∨k=7:=by omega
 rcases nz hs with ⟨rfl,e⟩|⟨rfl,e⟩
 ·rw [e] at v1;rcases hk with rfl|rfl|rfl|rfl|rfl|rfl|rfl|rfl
  ·exact JW f v w f0 f1 v0 v1
  ·exact JU f v w f0 f1 v0 v1
  ·exact JR f v w f0 f1 v0 v1
  ·exact JP f v w f0 f1 v0 v1
  ·exact JM f v w f0 f1 v0 v1
  ·exact JK f v w f0 f1 v0 v1
  ·exact JI f v w f0 f1 v0 v1
  ·exact JG f v w f0 f1 v0 v1
 ·rw [e] at v1;rcases hk with rfl|rfl|rfl|rfl|rfl|rfl|rfl|rfl
  ·exact JV f v w f0 f1 v0 v1
  ·exact JS f v w f0 f1 v0 v1
  ·exact JQ f v w f0 f1 v0 v1
  ·exact JO f v w f0 f1 v0 v1
  ·exact JL f v w f0 f1 v0 v1
  ·exact JJ f v w f0 f1 v0 v1
  ·exact JH f v w f0 f1 v0 v1
  ·exact JF f v w f0 f1 v0 v1
theorem WT (s v:Int) (w:World) (hs:s=1∨s=2) :
  Calls prog 206 #[iv s,iv v] w fun e w'=>e=.returned (iv (bits .or .i64 (Pl.fl (v==0) 4) (Pl.fl (decide (Pl.top s/2<=v)) 8)))∧w'=w:=by
 rcases hs with rfl|rfl
 ·exact nD v w
 ·exact nC v w
theorem WP (k s f v:Int) (w:World) (k0:0<=k) (k1:k<=7) (f0:0<=f) (f1:f<=31) (h:Pl.Fit s (v,f/16)) :
  Calls prog 156 #[iv k,iv s,iv f,iv v,iv 0] w fun e w'=>e=.returned (.tuple #[iv v,iv (byF k s (v,f/16) 0)])∧w'=w:=by
 have hB:=jX f0 f1;obtain hx|hx:f/16=0∨f/16=1:=by omega
 all_goals
  have E:Hid (byF k s (v,f/16) 0=Pl.fl (decide (f/16≠0)&&decide (6<=k)) 1+(Pl.fl (v==0) 4+Pl.fl (decide (Pl.top s/2<=v)) 8)+16*(f/16)):=aab rfl;have HX:=aab hx;rw [hx] at hB;have hs:=h.1;clear hx;go_enter func156,ntmps156;go_wp2_with fail;refine (WT s v _ hs).mono ?_;rintro e w' ⟨rfl,rfl⟩;go_wp2_with fail;refine (bP _ _ _).mono ?_;rintro e w' ⟨rfl,rfl⟩;go_wp2_with fail;go_ret2;refine ⟨rII rfl ?_,rfl⟩;rw [E.o,HX.o];generalize (v==0)=z;generalize decide (Pl.top s/2<=v)=n;generalize decide (6<=k)=q;cases z<;>cases n<;>cases q<;>decide
def Pl.run (k s f v:Int):Nat->Int
 | 0=>f
 | m+1=>onF k s (Pl.st k s (v,f/16) m).2 (Pl.st k s (v,f/16) m).1
theorem Pl.Tc {k s f v:Int} (f0:0<=f) (f1:f<=31) (h:Pl.Fit s (v,f/16)) (m:Nat):0<=Pl.run k s f v m∧Pl.run k s f v m<=31∧Pl.run k s f v m/16=(Pl.st k s (v,f/16) m).2:=by
 cases m with
 | zero=>exact ⟨f0,f1,rfl⟩
 | succ m=>exact Tq (nZ h m)
theorem Pl.SX {k s f v:Int} (h:Pl.Fit s (v,f/16)) {n:Nat} (n0:0<n):bits .or .i64 (Pl.run k s f v n) (Pl.fl (Pl.ov k s (v,f/16) n) 2)=byF k s (v,f/16) n:=by
 cases n with
 | zero=>omega
 | succ m=>exact OB (nZ h m) (fun hv=>by simp [Pl.ov,hv])
theorem WO (k s f v:Int) (n:Nat) (w:World) (k0:0<=k) (k1:k<=7) (f0:0<=f) (f1:f<=31) (h:Pl.Fit s (v,f/16)) (n0:0<n) (n1:n<=63) :
  Calls prog 156 #[iv k,iv s,iv f,iv v,iv n] w fun e w'=>e=.returned (.tuple #[iv (Pl.st k s (v,f/16) n).1,iv (byF k s (v,f/16) n)])∧w'=w:=by
 have kn:(((n:Nat):Int)==0)=false:=by simp;omega
 go_enter func156,ntmps156;go_wp2_with fail;go_loop [2,3,4,13] (fun F V C O=>∃m:Nat,m<=n∧F=iv (Pl.run k s f v m)∧V=iv (Pl.st k s (v,f/16) m).1∧C=iv ((n:Int)-(m:Int))∧O=iv (Pl.fl (Pl.ov k s (v,f/16) m) 2)) (fun _ _ c _=>(intOf c).toNat)
 case atStart=>exact ⟨0,Nat.zero_le _,rfl,rfl,by go_num,rfl⟩
 case round=>
  obtain ⟨m,hm,rfl,rfl,rfl,rfl⟩:=hrel;by_cases hlt:m<n
  ·obtain ⟨r0,r1,r2⟩:=Tc (k:=k) f0 f1 h m;have hf:=nZ (k:=k) h m;have hq:=Ji (k:=k) hf;have hj:=Kq (Pl.ov k s (v,f/16) m) (vfl k s (Pl.st k s (v,f/16) m).2 (Pl.st k s (v,f/16) m).1);have hF:Pl.Fit s ((Pl.st k s (v,f/16) m).1,Pl.run k s f v m/16):=by rw [r2];exact hf
   have hc:0<(n:Int)-(m:Int):=by omega
   go_wp2_with fail;refine (TR k s _ _ _ k0 k1 r0 r1 hF).mono ?_;rintro e w' ⟨rfl,rfl⟩;rw [r2];go_wp2_with fail;go_round
   case rel=>exact ⟨m+1,by omega,rfl,rfl,by go_num,rfl⟩
   case measure=>simp [intOf];omega
  ·obtain rfl:m=n:=by omega
   have hO:=aab (SX (k:=k) h n0);go_wp2_with fail;go_ret2;exact ⟨rII rfl hO.o,rfl⟩
theorem Y1 (k s f v n:Int) (w:World) (k0:0<=k) (k1:k<=7) (f0:0<=f) (f1:f<=31) (h:Pl.Fit s (v,f/16)) (n0:0<=n) (n1:n<=63) :
  Calls prog 156 #[iv k,iv s,iv f,iv v,iv n] w fun e w'=>e=.returned (.tuple #[iv (Pl.st k s (v,f/16) n.toNat).1,iv (byF k s (v,f/16) n.toNat)])∧w'=w:=by
 obtain ⟨m,rfl⟩:=Int.eq_ofNat_of_zero_le n0;cases m with
 | zero=>exact WP k s f v w k0 k1 f0 f1 h
 | succ m=>exact WO k s f v (m+1) w k0 k1 f0 f1 h (by omega) (by omega)
theorem Eh {W:World} {p gd cd ga ca g1 c1 g2 c2 b:Nat} {c:Mc} {x:Pl.In} {ty:TypeId} (hB:MB W p gd cd ga ca g1 c1 g2 c2 c) (hX:Blk W b (mW x) ty):W.cell? (aac p 0)=some (.slice (some (aac gd 0)) 4 cd)∧W.cell? (aac p 1)=some (.slice (some (aac ga 0)) 4 ca)∧W.cell? (aac p 2)=some (iv c.r.o)∧W.cell? (aac p 3)=some (iv c.r.p)∧W.cell? (aac p 4)=some (iv c.r.f)∧W.cell? (aac p 5)=some (iv c.r.m)∧W.cell? (aac p 6)=some (.bool c.r.s)∧W.cell? (aac p 7)=some (.bool c.r.t)∧W.cell? (aac b 1)=some (iv x.z)∧W.cell? (aac b 2)=some (iv x.r)∧W.cell? (aac b 4)=some (iv x.k)∧W.cell? (aac b 6)=some (iv x.s):=by
 obtain ⟨t0,t1,t2,t3,t4,t5,t6,t7,_⟩:=hB.cells;obtain ⟨b0,b1,b2,b3,b4,b5,b6⟩:=aY hX;exact ⟨t0,t1,t2,t3,t4,t5,t6,t7,b1,b2,b4,b6⟩
theorem Pl.Cb {z v f:Int} (hv:okv z v=true) (f0:0<=f) (f1:f<=31) (k:Int) (k0:0<=k) (k1:k<=7):oV k z f v=true:=by
 unfold oV;rw [hv];simp [Pl.flags];omega
theorem FQ (t:Int) (h:MAt w lo mid hi p g2 c) (G:GM c) (B:InB x) (ho:x.op=12) :
  Calls prog 111 #[.pointer (some (aac p 0)),.agg (inX x),iv t] w fun e w'=>e=.returned (.tuple #[])∧∃g3,MAt w' lo mid hi p g3 (c.doI x t)∧Since w lo hi g2 w' g3:=by
 have HG:=aab G;have HI:=aab B;have HOP:=aab ho;clear ho;have hl:=h.lo;obtain ⟨X,hX,KA,HX,hbw,HHB,HGB,HPH,HPB,HMH,HS,HM⟩:=h.lM x;obtain ⟨b0,b1,b2,b3,b4,b5,b6⟩:=aY HX.o;rw [HOP.o] at b0;clear h;obtain ⟨gd,cd,ga,ca,g1,c1,c2,HB,HO⟩:=HM.o.op;clear G B;have r0:=HI.o.r0;have r1:=HI.o.r1;have r4:x.r<4:=by omega
 have HR4:Hid (x.r.toNat<4):=aab (by omega);have E:Hid (c.doI x t=(c.aI (nM x.s x.z c.r.f (c.low x.z x.r) (x.k+1))).put x.z x.r (iR x.s x.z c.r.f (c.low x.z x.r) (x.k+1))):=aab (by unfold Mc.doI;rw [HOP.o];rfl);have HQ:Hid (el c.r.xs x.r.toNat%Pl.top x.z=c.low x.z x.r):=aab rfl;have HVQ:=aab (iE HG.o HI.o.z HI.o.r0 HI.o.r1);obtain ⟨q,hq⟩:∃q,c.low x.z x.r=q:=⟨_,rfl⟩
 rw [hq] at HQ HVQ E;clear hq;have KD:=aab (ah (Kept.refl 0 0 X));have HD:=aab (HO.o.any KD.o).d;have k0:=HI.o.k0;have k1:=HI.o.k1;have HGK:=Cb HVQ.o HG.o.g.f0 HG.o.g.f1 x.s HI.o.s0 HI.o.s1;have HFT:=(oU HGK).2.2.2.2.2;have Vj:qj x.s x.z c.r.f q (x.k+1)=true:=by unfold qj Pl.cnt;rw [HGK];simp;omega
 have eV:iR x.s x.z c.r.f q (x.k+1)=(Pl.st x.s x.z (q,c.r.f/16) (x.k+1).toNat).1:=by unfold iR;rw [if_pos Vj]
 have eF:nM x.s x.z c.r.f q (x.k+1)=byF x.s x.z (q,c.r.f/16) (x.k+1).toNat:=by unfold nM;rw [if_pos Vj]
 have HBV:=fun w9=>Y1 x.s x.z c.r.f q (x.k+1) w9 HI.o.s0 HI.o.s1 HG.o.g.f0 HG.o.g.f1 HFT (by omega) (by omega);have hFb:=MJ (k:=x.s) HFT (x.k+1).toNat;have hVb:=nZ (k:=x.s) HFT (x.k+1).toNat;rw [<-eF] at hFb;rw [<-eV,<-eF] at HBV
 have hVo:okv x.z (iR x.s x.z c.r.f q (x.k+1))=true:=by
  rw [eV];obtain ⟨h1,h2,h3,_⟩:=hVb;unfold okv;simp only [Bool.and_eq_true,Bool.or_eq_true,decide_eq_true_eq];exact ⟨h1,h2,h3⟩
 obtain ⟨V,hV⟩:∃V,iR x.s x.z c.r.f q (x.k+1)=V:=⟨_,rfl⟩
 obtain ⟨F,hF⟩:∃F,nM x.s x.z c.r.f q (x.k+1)=F:=⟨_,rfl⟩
 rw [hV] at hVo;rw [hF] at hFb;rw [hV,hF] at E HBV;have hw1:IntKind.i64.wrap (x.k+1)=x.k+1:=by rw [IntKind.wrap_i64];omega
 have HB3:Hid (∀w9:World,Calls prog 156 #[iv x.s,iv x.z,iv c.r.f,iv q,iv (IntKind.i64.wrap (x.k+1))] w9 fun e w'=>e=.returned (.tuple #[iv V,iv F])∧w'=w9):=aab (by intro w9;rw [hw1];exact HBV w9);have HVV:=aab hVo;have HGF:=aab (HG.o.aI hFb.1 hFb.2.1).g;clear HGK HFT Vj eV eF HBV hFb hVb hVo hV hF hw1;have S1D:=Eh (HB.o.any KD.o) (HX.o.ae KD.o);go_enter func111,ntmps111;go_wp2_with fail;go_region_held3 (fun w'=>w'.cell? (aac p 0)=some (.slice (some (aac gd 0)) 4 cd)∧w'.cell? (aac p 1)=some (.slice (some (aac ga 0)) 4 ca)∧w'.cell? (aac p 2)=some (iv c.r.o)∧w'.cell? (aac p 3)=some (iv c.r.p)∧w'.cell? (aac p 4)=some (iv c.r.f)∧w'.cell? (aac p 5)=some (iv c.r.m)∧w'.cell? (aac p 6)=some (.bool c.r.s)∧w'.cell? (aac p 7)=some (.bool c.r.t)∧w'.cell? (aac w.heap.size 1)=some (iv x.z)∧w'.cell? (aac w.heap.size 2)=some (iv x.r)∧w'.cell? (aac w.heap.size 4)=some (iv x.k)∧w'.cell? (aac w.heap.size 6)=some (iv x.s)) (first|with_reducible exact S1D|with_reducible exact Eh bG.o iH.o|go_keep) (first|(go_at_call 152;refine (Jy _ gd cd ga ca c.r x.z x.r HD.o HG.o.g HI.o.z HI.o.r0 HI.o.r1).mono ?_;rw [HQ.o];rintro e9 W_2 ⟨rfl,hk9⟩;have K2:=aab ((ah (Kept.refl 0 0 X)).trans hk9);clear hk9;have jk:=aab (HM.o.any K2.o);have bG:=aab (HB.o.any K2.o);have jY:=aab (HO.o.any K2.o);have iH:=aab (HX.o.ae K2.o);have jE:=aab (HS.o.any K2.o);obtain ⟨NR,NQ,NP,Hr,yM,NM,NL,NK,_⟩:=bG.o.cells;have Qa:=bG.o.frozen 0;have P9:=bG.o.frozen 1;have P8:=bG.o.frozen 2;have KO:=bG.o.frozen 3;have zX:=bG.o.frozen 4;have P7:=bG.o.frozen 5;have PZ:=bG.o.frozen 6;have PY:=bG.o.frozen 7;clear b0 b1 b2 b3 b4 b5 b6;obtain ⟨b0,b1,b2,b3,b4,b5,b6⟩:=aY iH.o;rw [HOP.o] at b0)|(go_at_call 156;refine st (HB3.o _) ?_));go_wp2_with fail;have HBY:=aab ((bG.o.cF (F)).any (ah (Kept.refl 0 0 (W_2.setCell (aac p 4) (iv (F))))));have HOY:=aab ((jY.o.own (ak _ p 4 (iv (F)))).any (ah (Kept.refl 0 0 (W_2.setCell (aac p 4) (iv (F))))));have HSY:=aab ((jE.o.set p 4 (iv (F)) HPH.o).drew);have HXY:=aab ((iH.o.other p 4 (iv (F)) (by have:=HPB.o;omega)).ae (ah (Kept.refl 0 0 (W_2.setCell (aac p 4) (iv (F))))));have HRY:=aab (MO.reg (r:=(c.aI (F)).r) HOY.o);have HMY:Hid (mid<=(W_2.setCell (aac p 4) (iv (F))).drew.heap.size):=aab (Nat.le_trans HMH.o HOY.o.hh);have HPM:=HOY.o.p0;have HNM:Hid (¬(lo<=w.heap.size∧w.heap.size<mid)):=aab (by have:=HHB.o;have:=HMH.o;omega);have HNP:Hid (¬(p<=w.heap.size∧w.heap.size<p+1)):=aab (by have:=HPB.o;omega);have SYD:=cellsS HBY.o HXY.o;go_region_held3 (fun w'=>w'.cell? (aac p 0)=some (.slice (some (aac gd 0)) 4 cd)∧w'.cell? (aac p 1)=some (.slice (some (aac ga 0)) 4 ca)∧w'.cell? (aac p 2)=some (iv (c.aI (F)).r.o)∧w'.cell? (aac p 3)=some (iv (c.aI (F)).r.p)∧w'.cell? (aac p 4)=some (iv (c.aI (F)).r.f)∧w'.cell? (aac p 5)=some (iv (c.aI (F)).r.m)∧w'.cell? (aac p 6)=some (.bool (c.aI (F)).r.s)∧w'.cell? (aac p 7)=some (.bool (c.aI (F)).r.t)∧w'.cell? (aac w.heap.size 1)=some (iv x.z)∧w'.cell? (aac w.heap.size 2)=some (iv x.r)) (first|with_reducible exact SYD|with_reducible exact cellsS bf.o AC.o|exact cellsS (bf.o.laid (kU (c.aI (F)).r x.z x.r V)) (Blk.kept AC.o (MB.lD _ _ _ _ _ _ _ _) HNP.o)|go_keep) (first|(go_at_call 157;refine (yZ _ lo mid gd cd ga ca (c.aI (F)).r x.z x.r V HRY.o HMY.o HGF.o HI.o.r0 HI.o.r1 HVV.o).mono ?_;unfold jF;rintro e9 W_9 ⟨rfl,hr9,hk9⟩;have sW:=aab (HOY.o.regs hr9 hk9);have bf:=aab (HBY.o.regs hk9 HPM);have AC:=aab (Blk.kept HXY.o hk9 HNM.o);have wG:=aab (HSY.o.ai hk9 (Nat.le_refl _) HMH.o);clear hr9 hk9;obtain ⟨u0,u1,u2,u3,u4,u5,u6,u7,_⟩:=bf.o.cells;have f0:=bf.o.frozen 0;have f1:=bf.o.frozen 1;have f2:=bf.o.frozen 2;have f3:=bf.o.frozen 3;have f4:=bf.o.frozen 4;have f5:=bf.o.frozen 5;have f6:=bf.o.frozen 6;have f7:=bf.o.frozen 7));go_wp2_with fail;first|go_end0|refine bodyPost_ret (results_none rfl _ _ _) rfl ?_
 exact ⟨rfl,g2,by rw [E.o];exact MAt.laid bf.o sW.o,jl wG.o HPH.o _ _ _ _ _ _ _ _⟩
theorem Pl.GM.write {c:Mc} (h:GM c) {z m k a v:Int} (k0:0<=k) (k1:k<=3) (a0:0<=a) (a1:a<=65535) (hv:okv z v=true):GM (c.write z m k a v):=by
 unfold Mc.write;cases m==0
 ·refine h.acc ?_;simp [eP,dM,Pl.addr,hv];omega
 ·exact h.put k0 k1 hv
theorem Pl.Nv (c:Mc) (z m k a v:Int):(c.write z m k a v).r.f=c.r.f:=by
 unfold Mc.write;cases m==0<;>rfl
theorem JB (t:Int) (h:MAt w lo mid hi p g2 c) (G:GM c) (B:InB x) (ho:x.op=2) (hm:x.m=0∨x.m=2∨x.m=3∨x.m=4∨x.m=5∨x.m=6) :
  Calls prog 111 #[.pointer (some (aac p 0)),.agg (inX x),iv t] w fun e w'=>e=.returned (.tuple #[])∧∃g3,MAt w' lo mid hi p g3 (c.doI x t)∧Since w lo hi g2 w' g3:=by
 have HG:=aab G;have HI:=aab B;have HOP:=aab ho;clear ho;have hl:=h.lo;obtain ⟨X,hX,KA,HX,hbw,HHB,HGB,HPH,HPB,HMH,HS,HM⟩:=h.lM x;obtain ⟨b0,b1,b2,b3,b4,b5,b6⟩:=aY HX.o;rw [HOP.o] at b0;clear h;obtain ⟨gd,cd,ga,ca,g1,c1,c2,HB,HO⟩:=HM.o.op;clear G B;have r0:=HI.o.r0;have r1:=HI.o.r1;have r4:x.r<4:=by omega
 have HR4:Hid (x.r.toNat<4):=aab (by omega);have E:Hid (c.doI x t=((c.place x.z x.m x.k x.e).write x.z x.m x.k (c.iI x.z x.m x.k x.e) (c.low x.z x.r)).aI (dA x.z c.r.f (c.low x.z x.r))):=aab (by unfold Mc.doI Mc.from';rw [HOP.o];rfl);have HQ:Hid (el c.r.xs x.r.toNat%Pl.top x.z=c.low x.z x.r):=aab rfl;have HVQ:=aab (iE HG.o HI.o.z HI.o.r0 HI.o.r1);obtain ⟨q,hq⟩:∃q,c.low x.z x.r=q:=⟨_,rfl⟩
 rw [hq] at HQ HVQ E;clear hq;have KD:=aab (ah (Kept.refl 0 0 X));have HD:=aab (HO.o.any KD.o).d;have HAA:=mP (z:=x.z) (m:=x.m) HG.o HI.o.k0 HI.o.k1 HI.o.e0 HI.o.e1;have HG1:=aab (HG.o.place (z:=x.z) (m:=x.m) (e:=x.e) HI.o.k0 HI.o.k1);have HFR:=xJ c x.z x.m x.k x.e;have HRD:=fun w9 h9=>vJ w9 lo mid hi p g2 c x.z x.m x.k x.e h9 HG.o HI.o.k0 HI.o.k1 HI.o.e0 HI.o.e1 hm;obtain ⟨d,hd⟩:∃d,c.place x.z x.m x.k x.e=d:=⟨_,rfl⟩
 obtain ⟨a,hA⟩:∃a,c.iI x.z x.m x.k x.e=a:=⟨_,rfl⟩
 rw [hd] at HG1 HFR;rw [hA] at HAA;rw [hd,hA] at E;simp only [hd,hA] at HRD;clear hd hA hm;have HWF:=Nv d x.z x.m x.k a q;have HG2:=aab (HG1.o.write (m:=x.m) HI.o.k0 HI.o.k1 HAA.1 HAA.2 HVQ.o);have HWR:=fun w9 g9 h9=>xR w9 lo mid hi p g9 d x.z x.m x.k x.e a q h9 HG1.o HI.o.k0 HI.o.k1 HAA.1 HAA.2 HVQ.o;obtain ⟨y,hy⟩:∃y,d.write x.z x.m x.k a q=y:=⟨_,rfl⟩
 rw [hy] at HG2 HWF E;simp only [hy] at HWR;clear hy;have EF:y.r.f=c.r.f:=HWF.trans HFR;rw [<-EF] at E;have HF:=aab (di HG2.o);clear HFR HWF EF HAA;have S1D:=cellsS (HB.o.any KD.o) (HX.o.ae KD.o);go_enter func111,ntmps111;go_wp2_with fail;go_region_held3 (fun w'=>w'.cell? (aac p 0)=some (.slice (some (aac gd 0)) 4 cd)∧w'.cell? (aac p 1)=some (.slice (some (aac ga 0)) 4 ca)∧w'.cell? (aac p 2)=some (iv c.r.o)∧w'.cell? (aac p 3)=some (iv c.r.p)∧w'.cell? (aac p 4)=some (iv c.r.f)∧w'.cell? (aac p 5)=some (iv c.r.m)∧w'.cell? (aac p 6)=some (.bool c.r.s)∧w'.cell? (aac p 7)=some (.bool c.r.t)∧w'.cell? (aac w.heap.size 1)=some (iv x.z)∧w'.cell? (aac w.heap.size 2)=some (iv x.r)) (first|with_reducible exact S1D|with_reducible exact cellsS bG.o iH.o|go_keep) (first|(go_at_call 152;refine (Jy _ gd cd ga ca c.r x.z x.r HD.o HG.o.g HI.o.z HI.o.r0 HI.o.r1).mono ?_;rw [HQ.o];rintro e9 W_2 ⟨rfl,hk9⟩;have K2:=aab ((ah (Kept.refl 0 0 X)).trans hk9);clear hk9;have jk:=aab (HM.o.any K2.o);have bG:=aab (HB.o.any K2.o);have jY:=aab (HO.o.any K2.o);have iH:=aab (HX.o.ae K2.o);have jE:=aab (HS.o.any K2.o);have qp:=HGB;clear b0 b1 b2 b3 b4 b5 b6;obtain ⟨b0,b1,b2,b3,b4,b5,b6⟩:=aY iH.o;rw [HOP.o] at b0));go_wp2_with (first|(go_at_call 153;have z9:=XH;refine (HWR _ Zp XH.o).mono ?_;rintro e9 W_4 ⟨rfl,Zo,hm9,hb9⟩;obtain ⟨Zy,ZI,Zz⟩:=hb9.nx XF HHB XI ZA;clear hb9;have ZB:=aab hm9;obtain ⟨ZK,ZR,ZM,ZU,ZO,ZY,ZW,XJ,Z7⟩:=hm9.op;have ZJ:=XJ.o.k4;have ZQ:=XJ.o.frozen 4;clear b0 b1 b2 b3 b4 b5 b6;obtain ⟨b0,b1,b2,b3,b4,b5,b6⟩:=aY Zy.o;rw [HOP.o] at b0)|(go_at_call 151;refine (HRD _ jk.o).mono ?_;rintro e9 W_3 ⟨rfl,Zp,hm9,hb9⟩;obtain ⟨XF,XI,ZA⟩:=hb9.nx iH HHB qp jE;clear hb9;have XH:=aab hm9;obtain ⟨ZL,ZT,ZN,ZV,ZP,ZZ,ZX,Z9,Z8⟩:=hm9.op;clear b0 b1 b2 b3 b4 b5 b6;obtain ⟨b0,b1,b2,b3,b4,b5,b6⟩:=aY XF.o;rw [HOP.o] at b0));go_region_with (go_at_call 154;refine st (je _ HVQ.o HF.o) ?_)
 all_goals
  go_wp2_with fail;first|go_end0|refine bodyPost_ret (results_none rfl _ _ _) rfl ?_
  exact ⟨rfl,Zo,by rw [E.o];exact (ZB.o.cF _).drew,(Zz.o.set p 4 _ HPH.o).drew⟩
theorem FP (t:Int) (h:MAt w lo mid hi p g2 c) (G:GM c) (B:InB x) (ho:x.op=19) (hs:x.s=0) (e3:x.e<=1023) :
  Calls prog 111 #[.pointer (some (aac p 0)),.agg (inX x),iv t] w fun e w'=>e=.returned (.tuple #[])∧∃g3,MAt w' lo mid hi p g3 (c.doI x t)∧Since w lo hi g2 w' g3:=by
 have HG:=aab G;have HI:=aab B;have HOP:=aab ho;have HSU:=aab hs;clear hs;clear ho;have hl:=h.lo;obtain ⟨X,hX,KA,HX,hbw,HHB,HGB,HPH,HPB,HMH,HS,HM⟩:=h.lM x;obtain ⟨b0,b1,b2,b3,b4,b5,b6⟩:=aY HX.o;rw [HOP.o] at b0;rw [HSU.o] at b6;clear h;obtain ⟨gd,cd,ga,ca,g1,c1,c2,HB,HO⟩:=HM.o.op;obtain ⟨t0,t1,t2,t3,t4,t5,t6,t7⟩:=HB.o.c8;clear G B;have r0:=HI.o.r0;have r1:=HI.o.r1;have r4:x.r<4:=by omega
 have HR4:Hid (x.r.toNat<4):=aab (by omega);have E:Hid (c.doI x t=c.bi (aX c.r x.e)):=aab (by unfold Mc.doI Mc.stat;rw [HOP.o,HSU.o];rfl);have HW:=fun w9 hr hh=>CX w9 lo mid gd cd ga ca c.r x.e hr hh HG.o.g HI.o.e0 e3;obtain ⟨R,hR⟩:∃R,aX c.r x.e=R:=⟨_,rfl⟩
 rw [hR] at E;simp only [hR,jF] at HW;clear hR;have HOY:=aab (HO.o.any (ah (Kept.refl 0 0 X)));have HBY:=aab (HB.o.any (ah (Kept.refl 0 0 X)));have HSY:=aab HS.o.drew;have HRY:=aab (MO.reg (r:=c.r) HOY.o);have HMY:Hid (mid<=X.drew.heap.size):=aab (Nat.le_trans HMH.o HOY.o.hh);have HPM:=HOY.o.p0;go_enter func111,ntmps111;go_wp2_with fail;go_region_with (go_at_call 162;refine (HW _ HRY.o HMY.o).mono ?_;rintro e9 W_9 ⟨rfl,hr9,hk9⟩;have sW:=aab (HOY.o.regs hr9 hk9);have bf:=aab (HBY.o.regs hk9 HPM);have wG:=aab (HSY.o.ai hk9 (Nat.le_refl _) HMH.o);clear hr9 hk9 t0 t1 t2 t3 t4 t5 t6 t7;obtain ⟨u0,u1,u2,u3,u4,u5,u6,u7,_⟩:=bf.o.cells;have q0:=bf.o.frozen 0;have q1:=bf.o.frozen 1;have q2:=bf.o.frozen 2;have q3:=bf.o.frozen 3;have q4:=bf.o.frozen 4;have q5:=bf.o.frozen 5;have q6:=bf.o.frozen 6;have q7:=bf.o.frozen 7)
 all_goals
  go_wp2_with fail;first|go_end0|refine bodyPost_ret (results_none rfl _ _ _) rfl ?_
  exact ⟨rfl,g2,by rw [E.o];exact MAt.laid bf.o sW.o,jl wG.o HPH.o _ _ _ _ _ _ _ _⟩
theorem Pl.OH {m:Int} (h:jZ m=true):m=2∨m=3∨m=4∨m=5∨m=6:=by simp [jZ,within] at h;omega
theorem Pl.wW {m:Int} (h:fD m=true):m=0∨m=2∨m=3∨m=4∨m=5∨m=6:=by simp [fD] at h;omega
theorem Pl.GV {m:Int} (h:(m=0)∨jZ m=true):m=0∨m=2∨m=3∨m=4∨m=5∨m=6:=by
 rcases h with h|h
 ·exact .inl h
 ·exact .inr (OH h)
theorem mDo (t:Int) (h:MAt w lo mid hi p g2 c) (G:GM c) (hx:bJ x=true) (t0:0<=t) (t1:t<=65535) (hfc:c.fine=true) :
  Calls prog 111 #[.pointer (some (aac p 0)),.agg (inX x),iv t] w fun e w'=>e=.returned (.tuple #[])∧∃g3,MAt w' lo mid hi p g3 (c.doI x t)∧Since w lo hi g2 w' g3:=by
 have B:=sG hx;simp only [bJ,Bool.and_eq_true] at hx;have hk:=hx.2;clear hx;have s0:=B.s0;unfold ax at hk;by_cases o1:x.op=1∨x.op=3∨x.op=4∨x.op=5∨x.op=6∨x.op=7∨x.op=8
 ·have e:((x.op==1)||((x.op==3)||((x.op==4)||((x.op==5)||((x.op==6)||((x.op==7)||(x.op==8)))))))=true:=by simpa using o1
  rw [e] at hk
  have h1:x.m=1->x.z=2:=by
   intro q;simp [q] at hk;exact hk.2
  refine oN w lo mid hi p g2 c _ x t h ?_ (.inr (.inr (.inr (.inr (.inr ⟨o1,fun w9 h9=>YX w9 lo mid hi p g2 c x h9 G B h1 o1⟩)))));unfold Mc.doI;rcases o1 with o|o|o|o|o|o|o<;>rw [o]<;>rfl
 ·have e:((x.op==1)||((x.op==3)||((x.op==4)||((x.op==5)||((x.op==6)||((x.op==7)||(x.op==8)))))))=false:=by
   rw [Bool.eq_false_iff];simpa using o1
  rw [e] at hk;simp only [cond_false] at hk;clear e o1;by_cases o2:x.op=2
  ·simp [o2] at hk;exact JB w lo mid hi p g2 c x t h G B o2 (GV hk.2)
  by_cases o9:x.op=9
  ·cases hf:(c.read 2 x.m x.k x.e).fine
   ·exact zC w lo mid hi p g2 c x t h G B o9 hf
   ·exact JC w lo mid hi p g2 c x t h G B o9 hf
  by_cases o10:x.op=10
  ·simp [o10] at hk;exact OU w lo mid hi p g2 c x t h G B o10 (wW hk.2)
  by_cases o11:x.op=11
  ·simp [o11] at hk;exact oN w lo mid hi p g2 c _ x t h (by unfold Mc.doI;rw [o11];rfl) (.inl ⟨o11,fun w9 h9=>YY w9 lo mid hi p g2 c x h9 G B (GV hk.2) hfc (by omega)⟩)
  by_cases o12:x.op=12
  ·exact FQ w lo mid hi p g2 c x t h G B o12
  by_cases o13:x.op=13
  ·simp [o13] at hk;exact oN w lo mid hi p g2 c _ x t h (by unfold Mc.doI;rw [o13];rfl) (.inr (.inl ⟨.inl o13,fun w9 h9=>Ro w9 lo mid hi p g2 c x t h9 G B t0 t1 hfc (.inl ⟨o13,by omega⟩)⟩))
  by_cases o14:x.op=14
  ·simp [o14] at hk;exact oN w lo mid hi p g2 c _ x t h (by unfold Mc.doI;rw [o14];rfl) (.inr (.inl ⟨.inr o14,fun w9 h9=>Ro w9 lo mid hi p g2 c x t h9 G B t0 t1 hfc (.inr ⟨o14,wW hk.2⟩)⟩))
  by_cases o16:x.op=16
  ·exact oN w lo mid hi p g2 c _ x t h (by unfold Mc.doI;rw [o16];rfl) (.inr (.inr (.inr (.inl ⟨.inl o16,fun w9 h9=>zB w9 lo mid hi p g2 c x h9 G B (.inl o16)⟩))))
  by_cases o17:x.op=17
  ·exact oN w lo mid hi p g2 c _ x t h (by unfold Mc.doI;rw [o17];rfl) (.inr (.inr (.inr (.inl ⟨.inr o17,fun w9 h9=>zB w9 lo mid hi p g2 c x h9 G B (.inr o17)⟩))))
  by_cases o18:x.op=18
  ·exact oN w lo mid hi p g2 c _ x t h (by unfold Mc.doI;rw [o18];rfl) (.inr (.inr (.inr (.inr (.inl ⟨o18,fun w9 h9=>YZ w9 lo mid hi p g2 c x h9 G B⟩)))))
  by_cases o19:x.op=19
  ·simp [o19,ji] at hk;by_cases hs:x.s=0
   ·exact FP w lo mid hi p g2 c x t h G B o19 hs (by omega)
   ·exact FN w lo mid hi p g2 c x t h G B o19 (by omega)
  by_cases o15:x.op=15
  ·simp [o15,ji] at hk;refine oN w lo mid hi p g2 c _ x t h (by unfold Mc.doI;rw [o15];rfl) (.inr (.inr (.inl ⟨o15,fun w9 h9=>WI w9 lo mid hi p g2 c x h9 G B ?_ ?_⟩)))
   all_goals by_cases hs:x.s=3<;>simp [hs] at hk ⊢<;>omega
  ·simp [o2,o9,o10,o11,o12,o13,o14,o15,o16,o17,o18,o19] at hk
end Go.Proofs.YtgikibaajanjiaaGreatDoor
