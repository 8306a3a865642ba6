/- Part 9 of what the last text leans on. -/
import Derived.Test.YtkkmnnhaailkcaaGreatDoorJB8
import Derived.Test.YtkkmnnhaailkcaaGreatDoorJB3
import Derived.Test.YtkkmnnhaailkcaaGreatDoorJB2
set_option maxRecDepth 100000
set_option maxHeartbeats 16000000
namespace Go.Proofs.YtkkmnnhaailkcaaGreatDoor
open Go.RowKit Go.Proofs.Tryz
set_option linter.unusedVariables false
theorem zJ (w:World) (lo mid hi p g2:Nat) (c:Pl.Mc) (x:Pl.In) (t:Int) (h:MAt w lo mid hi p g2 c) (G:Pl.GM c) (B:Pl.InB x) (ho:x.op=9) (hf:(c.read 2 x.m x.k x.e).fine=false) :
  Calls prog 70 #[.pointer (some ⟨p,0,none⟩),.agg (inX x),iv t] w fun e w'=>e=.returned (.tuple #[])∧∃g3,MAt w' lo mid hi p g3 (c.doI x t)∧Since w lo hi g2 w' g3:=by
 have HG:=hide G
 have HI:=hide B
 have HOP:=hide ho
 clear ho
 have hl:=h.lo
 obtain ⟨X,hX,KA,HX,hbw,HHB,HGB,HPH,HPB,HMH,HS,HM⟩:=h.dS x
 obtain ⟨b0,b1,b2,b3,b4,b5,b6⟩:=aG HX.o
 rw [HOP.o] at b0
 clear h
 obtain ⟨gd,cd,ga,ca,g1,c1,c2,HB,HO⟩:=HM.o.op
 clear G B
 have r0:=HI.o.r0
 have r1:=HI.o.r1
 have r4:x.r<4:=by omega
 have HR4:Hid (x.r.toNat<4):=hide (by omega)
 have E:Hid (c.doI x t=c.read 2 x.m x.k x.e):=hide (by unfold Pl.Mc.doI;rw [HOP.o,hf];rfl)
 have HG1:=hide (HG.o.read (z:=2) (m:=x.m) (.inr rfl) HI.o.k0 HI.o.k1 HI.o.e0 HI.o.e1)
 have HRD:=fun w9 h9=>jM w9 lo mid hi p g2 c 2 x.m x.k x.e h9 HG.o (.inr rfl) HI.o.k0 HI.o.k1 HI.o.e0 HI.o.e1 HI.o.m0 HI.o.m1
 obtain ⟨d,hd⟩:∃d,c.read 2 x.m x.k x.e=d:=⟨_,rfl⟩
 obtain ⟨v,hv⟩:∃v,c.bf 2 x.m x.k x.e=v:=⟨_,rfl⟩
 rw [hd] at hf HG1
 first|rw [hd,hv] at E|rw [hd] at E
 simp only [hd,hv] at HRD
 clear hd hv
 go_enter func70,ntmps70
 go_wp2_with (first|(go_at_call 103;refine (HRD _ HM.o).mono ?_;rintro e9 W_1 ⟨rfl,aW,hm9,hb9⟩;obtain ⟨bu,di,bK⟩:=hb9.nx HX HHB HGB HS;clear hb9;have aY:=hide hm9;obtain ⟨bV,bY,bW,bZ,eX,fA,eY,aZ,bG⟩:=hm9.op;clear b0 b1 b2 b3 b4 b5 b6;obtain ⟨b0,b1,b2,b3,b4,b5,b6⟩:=aG bu.o;rw [HOP.o] at b0)|(go_at_call 68;refine st (bT _ lo mid hi p aW _ aY.o) ?_;rw [hf]))
 first|go_end0|refine bodyPost_ret (results_none rfl _ _ _) rfl ?_
 exact ⟨rfl,aW,by rw [E.o];exact aY.o,bK.o⟩
theorem JB (w:World) (lo mid hi p g2:Nat) (c:Pl.Mc) (x:Pl.In) (t:Int) (h:MAt w lo mid hi p g2 c) (G:Pl.GM c) (B:Pl.InB x) (ho:x.op=9) (hf:(c.read 2 x.m x.k x.e).fine=true) :
  Calls prog 70 #[.pointer (some ⟨p,0,none⟩),.agg (inX x),iv t] w fun e w'=>e=.returned (.tuple #[])∧∃g3,MAt w' lo mid hi p g3 (c.doI x t)∧Since w lo hi g2 w' g3:=by
 have HG:=hide G
 have HI:=hide B
 have HOP:=hide ho
 clear ho
 have hl:=h.lo
 obtain ⟨X,hX,KA,HX,hbw,HHB,HGB,HPH,HPB,HMH,HS,HM⟩:=h.dS x
 obtain ⟨b0,b1,b2,b3,b4,b5,b6⟩:=aG HX.o
 rw [HOP.o] at b0
 clear h
 obtain ⟨gd,cd,ga,ca,g1,c1,c2,HB,HO⟩:=HM.o.op
 clear G B
 have r0:=HI.o.r0
 have r1:=HI.o.r1
 have r4:x.r<4:=by omega
 have HR4:Hid (x.r.toNat<4):=hide (by omega)
 have E:Hid (c.doI x t=(c.read 2 x.m x.k x.e).fU x.r.toNat (c.bf 2 x.m x.k x.e)):=hide (by unfold Pl.Mc.doI;rw [HOP.o,hf];rfl)
 have HG1:=hide (HG.o.read (z:=2) (m:=x.m) (.inr rfl) HI.o.k0 HI.o.k1 HI.o.e0 HI.o.e1)
 have HRD:=fun w9 h9=>jM w9 lo mid hi p g2 c 2 x.m x.k x.e h9 HG.o (.inr rfl) HI.o.k0 HI.o.k1 HI.o.e0 HI.o.e1 HI.o.m0 HI.o.m1
 obtain ⟨d,hd⟩:∃d,c.read 2 x.m x.k x.e=d:=⟨_,rfl⟩
 obtain ⟨v,hv⟩:∃v,c.bf 2 x.m x.k x.e=v:=⟨_,rfl⟩
 rw [hd] at hf HG1
 first|rw [hd,hv] at E|rw [hd] at E
 simp only [hd,hv] at HRD
 clear hd hv
 go_enter func70,ntmps70
 go_wp2_with (first|(go_at_call 103;refine (HRD _ HM.o).mono ?_;rintro e9 W_1 ⟨rfl,aW,hm9,hb9⟩;obtain ⟨bu,di,bK⟩:=hb9.nx HX HHB HGB HS;clear hb9;have aY:=hide hm9;obtain ⟨bV,bY,bW,bZ,eX,fA,eY,aZ,bG⟩:=hm9.op;have lD:=aZ.o.k1;clear b0 b1 b2 b3 b4 b5 b6;obtain ⟨b0,b1,b2,b3,b4,b5,b6⟩:=aG bu.o;rw [HOP.o] at b0;obtain ⟨hc9,hf9⟩:=jL bG.o.a x.r.toNat (by rw [HG1.o.g.a4];exact HR4.o))|(go_at_call 68;refine st (bT _ lo mid hi p aW _ aY.o) ?_;rw [hf]))
 go_region
 go_wp2_with fail
 first|go_end0|refine bodyPost_ret (results_none rfl _ _ _) rfl ?_
 have q0:=bG.o.a0
 have q1:=bG.o.a1
 have q2:=bG.o.p0
 have q3:=bG.o.p1
 refine ⟨rfl,aW,MAt.drew ?_,(bK.o.set _ _ _ (.inl (by omega))).drew⟩
 rw [E.o]
 exact ⟨bV,bY,bW,bZ,eX,fA,eY,aZ.o.tu _ _ _ (by omega),bG.o.fU _ _⟩
theorem Ox (w:World) (lo mid hi p g2:Nat) (c:Pl.Mc) (x:Pl.In) (t:Int) (h:MAt w lo mid hi p g2 c) (G:Pl.GM c) (B:Pl.InB x) (ho:x.op=10) (hm:x.m=0∨x.m=2∨x.m=3∨x.m=4∨x.m=5∨x.m=6) :
  Calls prog 70 #[.pointer (some ⟨p,0,none⟩),.agg (inX x),iv t] w fun e w'=>e=.returned (.tuple #[])∧∃g3,MAt w' lo mid hi p g3 (c.doI x t)∧Since w lo hi g2 w' g3:=by
 have HG:=hide G
 have HI:=hide B
 have HOP:=hide ho
 clear ho
 have hl:=h.lo
 obtain ⟨X,hX,KA,HX,hbw,HHB,HGB,HPH,HPB,HMH,HS,HM⟩:=h.dS x
 obtain ⟨b0,b1,b2,b3,b4,b5,b6⟩:=aG HX.o
 rw [HOP.o] at b0
 clear h
 obtain ⟨gd,cd,ga,ca,g1,c1,c2,HB,HO⟩:=HM.o.op
 clear G B
 have r0:=HI.o.r0
 have r1:=HI.o.r1
 have r4:x.r<4:=by omega
 have HR4:Hid (x.r.toNat<4):=hide (by omega)
 have E:Hid (c.doI x t=(c.place 2 x.m x.k x.e).fU x.r.toNat (c.iR 2 x.m x.k x.e)):=hide (by unfold Pl.Mc.doI;rw [HOP.o];rfl)
 have HG1:=hide (HG.o.place (z:=2) (m:=x.m) (e:=x.e) HI.o.k0 HI.o.k1)
 have HRD:=fun w9 h9=>tH w9 lo mid hi p g2 c 2 x.m x.k x.e h9 HG.o HI.o.k0 HI.o.k1 HI.o.e0 HI.o.e1 hm
 obtain ⟨d,hd⟩:∃d,c.place 2 x.m x.k x.e=d:=⟨_,rfl⟩
 obtain ⟨a,hA⟩:∃a,c.iR 2 x.m x.k x.e=a:=⟨_,rfl⟩
 rw [hd] at HG1
 rw [hd,hA] at E
 simp only [hd,hA] at HRD
 clear hd hA hm
 go_enter func70,ntmps70
 go_wp2_with (go_at_call 104;refine (HRD _ HM.o).mono ?_;rintro e9 W_1 ⟨rfl,aW,hm9,hb9⟩;obtain ⟨bu,di,bK⟩:=hb9.nx HX HHB HGB HS;clear hb9;have aY:=hide hm9;obtain ⟨bV,bY,bW,bZ,eX,fA,eY,aZ,bG⟩:=hm9.op;have lD:=aZ.o.k1;clear b0 b1 b2 b3 b4 b5 b6;obtain ⟨b0,b1,b2,b3,b4,b5,b6⟩:=aG bu.o;rw [HOP.o] at b0;obtain ⟨hc9,hf9⟩:=jL bG.o.a x.r.toNat (by rw [HG1.o.g.a4];exact HR4.o))
 go_region
 go_wp2_with fail
 first|go_end0|refine bodyPost_ret (results_none rfl _ _ _) rfl ?_
 have q0:=bG.o.a0
 have q1:=bG.o.a1
 have q2:=bG.o.p0
 have q3:=bG.o.p1
 refine ⟨rfl,aW,MAt.drew ?_,(bK.o.set _ _ _ (.inl (by omega))).drew⟩
 rw [E.o]
 exact ⟨bV,bY,bW,bZ,eX,fA,eY,aZ.o.tu _ _ _ (by omega),bG.o.fU _ _⟩
theorem NF (w:World) (gd cd ga ca:Nat) (r:Pl.Rg) (hg:Pl.Good r):Calls prog 115 #[iQ r gd cd ga ca] w fun e w'=>e=.returned (iv (Pl.status r))∧Kept 0 0 w w':=by
 have h:=Ba w r (some ⟨gd,0,none⟩) (some ⟨ga,0,none⟩) cd ca hg
 rw [hg.d4,hg.a4] at h
 exact h
theorem FK (w:World) (lo mid hi p g2:Nat) (c:Pl.Mc) (x:Pl.In) (t:Int) (h:MAt w lo mid hi p g2 c) (G:Pl.GM c) (B:Pl.InB x) (ho:x.op=19) (hs:x.s=1) :
  Calls prog 70 #[.pointer (some ⟨p,0,none⟩),.agg (inX x),iv t] w fun e w'=>e=.returned (.tuple #[])∧∃g3,MAt w' lo mid hi p g3 (c.doI x t)∧Since w lo hi g2 w' g3:=by
 have HG:=hide G
 have HI:=hide B
 have HOP:=hide ho
 have HSU:=hide hs
 clear hs
 clear ho
 have hl:=h.lo
 obtain ⟨X,hX,KA,HX,hbw,HHB,HGB,HPH,HPB,HMH,HS,HM⟩:=h.dS x
 obtain ⟨b0,b1,b2,b3,b4,b5,b6⟩:=aG HX.o
 rw [HOP.o] at b0
 rw [HSU.o] at b6
 clear h
 obtain ⟨gd,cd,ga,ca,g1,c1,c2,HB,HO⟩:=HM.o.op
 clear G B
 have r0:=HI.o.r0
 have r1:=HI.o.r1
 have r4:x.r<4:=by omega
 have HR4:Hid (x.r.toNat<4):=hide (by omega)
 have E:Hid (c.doI x t=c.dB {c.r with xs:=c.r.xs.set x.r.toNat (Pl.status c.r)}):=hide (by unfold Pl.Mc.doI Pl.Mc.stat;rw [HOP.o,HSU.o];rfl)
 have HST:=fun w9=>NF w9 gd cd ga ca c.r HG.o.g
 simp only [iQ] at HST
 obtain ⟨V,hV⟩:∃V,Pl.status c.r=V:=⟨_,rfl⟩
 rw [hV] at E
 simp only [hV] at HST
 clear hV
 have KD:=hide (ae (Kept.refl 0 0 X))
 have S1D:=cellsS (HB.o.any KD.o) (HX.o.af KD.o)
 go_enter func70,ntmps70
 go_wp2_with fail
 go_region_held3 (fun w'=>w'.cell? ⟨p,0,none⟩=some (.slice (some ⟨gd,0,none⟩) 4 cd)∧w'.cell? ⟨p,1,none⟩=some (.slice (some ⟨ga,0,none⟩) 4 ca)∧w'.cell? ⟨p,2,none⟩=some (iv c.r.o)∧w'.cell? ⟨p,3,none⟩=some (iv c.r.p)∧w'.cell? ⟨p,4,none⟩=some (iv c.r.f)∧w'.cell? ⟨p,5,none⟩=some (iv c.r.m)∧w'.cell? ⟨p,6,none⟩=some (.bool c.r.s)∧w'.cell? ⟨p,7,none⟩=some (.bool c.r.t)∧w'.cell? ⟨w.heap.size,1,none⟩=some (iv x.z)∧w'.cell? ⟨w.heap.size,2,none⟩=some (iv x.r)) (first|with_reducible exact S1D|with_reducible exact cellsS aP.o dU.o|exact cellsS (aP.o.tu _ _ _ HPG.o) (dU.o.other _ _ _ HBG.o)|go_keep) (first|(go_at_call 115;refine (HST _).mono ?_;rintro e9 W_2 ⟨rfl,hk9⟩;have K2:=hide ((ae (Kept.refl 0 0 X)).trans hk9);clear hk9;have aP:=hide (HB.o.any K2.o);have iE:=hide (HO.o.any K2.o);have dU:=hide (HX.o.af K2.o);have iq:=hide (HS.o.any K2.o);obtain ⟨hc9,hf9⟩:=jL iE.o.d x.r.toNat (by rw [HG.o.g.d4];exact HR4.o);have HPG:Hid (p≠gd):=hide (by have:=iE.o.d1;have:=iE.o.p0;omega);have HBG:Hid (w.heap.size≠gd):=hide (by have:=iE.o.d1;have:=HHB.o;have:=HMH.o;omega)))
 go_wp2_with fail
 first|go_end0|refine bodyPost_ret (results_none rfl _ _ _) rfl ?_
 have q0:=iE.o.d0
 have q1:=iE.o.d1
 have q2:=iE.o.p0
 have q3:=iE.o.p1
 refine ⟨rfl,g2,?_,iq.o.set _ _ _ (.inl (by omega))⟩
 rw [E.o]
 exact ⟨gd,cd,ga,ca,g1,c1,c2,aP.o.tu _ _ _ (by omega),iE.o.NL _ _⟩
set_option linter.unusedSimpArgs false
theorem Pl.kE {f:Int} (h0:0≤f) (h1:f≤31):bits .and .i64 f 16=f/16*16:=by
 obtain ⟨n,rfl⟩:=Int.eq_ofNat_of_zero_le h0
 have hn:n<32:=by omega
 have:∀m:Nat,m<32→bits .and .i64 (m:Int) 16=(m:Int)/16*16:=by decide
 exact this n hn
theorem Pl.pR {a q:Int} (h0:0≤a) (h1:a<65536) (h2:a%2=0) (q0:0≤q) (q1:q≤1):bits .or .i64 a q=a+q:=
 bits_join .i64 62 (by decide) iC 1 a q (by omega) (by omega) (by omega) (by omega) (by omega) (by omega)
theorem Pl.pV {a q:Int} (h0:0≤a) (h1:a<128) (q0:0≤q) (q1:q≤1):bits .or .i64 a (q*128)=a+q*128:=by
 rw [Pl.or_comm,bits_join .i64 62 (by decide) iC 7 (q*128) a (by omega) (by omega) (by omega) (by omega) (by omega) (by omega)];omega
theorem Pl.pU {a q:Int} (h0:0≤a) (h1:a<32768) (q0:0≤q) (q1:q≤1):bits .or .i64 a (q*32768)=a+q*32768:=by
 rw [Pl.or_comm,bits_join .i64 62 (by decide) iC 15 (q*32768) a (by omega) (by omega) (by omega) (by omega) (by omega) (by omega)];omega
theorem Pl.fC {c o x:Int} {z n:Bool} (hc:c=0∨c=1) (ho:o=0∨o=2) (hx:x=0∨x=16) :
  bits .or .i64 (bits .or .i64 (bits .or .i64 c (bits .or .i64 (Pl.fl z 4) (Pl.fl n 8))) o) x=c+o+(Pl.fl z 4+Pl.fl n 8)+x:=by
 rcases hc with rfl|rfl<;>rcases ho with rfl|rfl<;>rcases hx with rfl|rfl<;>cases z<;>cases n<;>decide
theorem Pl.jd (b:Bool):Pl.fl b 2=0∨Pl.fl b 2=2:=by cases b<;>simp [Pl.fl]
theorem jD (v:Int) (w:World):Calls prog 146 #[.bool (decide (128≤v)),iv 1] w fun e w'=>e=.returned (iv (Pl.hi 1 v))∧w'=w:=by
 have e:Pl.hi 1 v=Pl.fl (decide (128≤v)) 1:=by simp [Pl.hi,Pl.fl,Pl.top]
 rw [e];exact dF _ 1 w
theorem jC (v:Int) (w:World):Calls prog 146 #[.bool (decide (32768≤v)),iv 1] w fun e w'=>e=.returned (iv (Pl.hi 2 v))∧w'=w:=by
 have e:Pl.hi 2 v=Pl.fl (decide (32768≤v)) 1:=by simp [Pl.hi,Pl.fl,Pl.top]
 rw [e];exact dF _ 1 w
theorem uN (f:Int) (f0:0≤f) (f1:f≤31) (w:World):Calls prog 146 #[.bool (f/16*16 != 0),iv 1] w fun e w'=>e=.returned (iv (f/16))∧w'=w:=by
 refine (dF _ 1 w).mono ?_
 rintro e w' ⟨rfl,rfl⟩
 refine ⟨rI ?_,rfl⟩
 obtain h|h:f/16=0∨f/16=1:=by omega
 all_goals rw [h];decide
theorem JW (k:Int) (w:World):Calls prog 183 #[iv k] w fun e w'=>e=.returned (.bool (k%2==0))∧w'=w:=by
 have h:=Pl.and1 k
 go_enter func183,ntmps183
 go_wp2
 go_ret
 exact ⟨rfl,rfl⟩
theorem gB (k:Int) (h:(k%2==0)=true) (w:World):Calls prog 183 #[iv k] w fun e w'=>e=.returned (.bool true)∧w'=w:=by
 rw [←h];exact JW k w
theorem gG (k:Int) (h:(k%2==0)=false) (w:World):Calls prog 183 #[iv k] w fun e w'=>e=.returned (.bool false)∧w'=w:=by
 rw [←h];exact JW k w
theorem JV (f v:Int) (w:World) (f0:0≤f) (f1:f≤31) (v0:0≤v) (v1:v<256) :
  Calls prog 147 #[iv 0,iv 1,iv f,iv v] w fun e w'=>e=.returned (.tuple #[iv (Pl.nv 0 1 (f/16) v),iv (Pl.onF 0 1 (f/16) v)])∧w'=w:=by
 have hA:=Pl.and1 v
 have hB:=Pl.kE f0 f1
 obtain ⟨q0,q1⟩:=Pl.dX 1 v
 have hC:=Pl.dP (v*2)
 have hD:=Pl.pR (a:=v*2%256) (q:=0) (by omega) (by omega) (by omega) (by omega) (by omega)
 rw [Int.add_zero] at hD
 have hW:Hid (Pl.nv 0 1 (f/16) v=(v*2%256)):=hide (by simp only [Pl.nv,Pl.inn,Pl.fell,Pl.top,Int.reduceMod,Int.reduceEq,Int.reduceLE,if_true,if_false,or_self]<;>omega)
 have hO:Hid (Pl.onF 0 1 (f/16) v=Pl.hi 1 v+Pl.fl (Pl.hi 1 v != Pl.hi 1 (v*2%256)) 2+(Pl.fl ((v*2%256)==0) 4+Pl.fl (decide (128≤(v*2%256))) 8)+Pl.hi 1 v*16):=hide (by simp only [Pl.onF,Pl.vfl,hW.o,Pl.zn,Pl.nx,Pl.fell,Pl.top,Int.reduceMod,Int.reduceEq,Int.reduceDiv,if_true,if_false,decide_true,Bool.true_and,or_self]<;>omega)
 go_enter func147,ntmps147
 go_wp2_with fail
 refine (ja _).mono ?_
 rintro e w' ⟨rfl,rfl⟩
 go_wp2_with fail
 refine (jD _ _).mono ?_
 rintro e w' ⟨rfl,rfl⟩
 go_wp2_with fail
 refine (gB 0 rfl _).mono ?_
 rintro e w' ⟨rfl,rfl⟩
 go_wp2_with fail
 refine (gB 0 rfl _).mono ?_
 rintro e w' ⟨rfl,rfl⟩
 go_wp2_with fail
 refine (ou _ _).mono ?_
 rintro e w' ⟨rfl,rfl⟩
 go_wp2_with fail
 refine (jD _ _).mono ?_
 rintro e w' ⟨rfl,rfl⟩
 go_wp2_with fail
 refine (dF _ _ _).mono ?_
 rintro e w' ⟨rfl,rfl⟩
 go_wp2_with fail
 go_ret2
 exact ⟨rII hW.o.symm (by rw [Pl.fC (by omega) (Pl.jd _) (by omega)];exact hO.o.symm),rfl⟩
theorem JS (f v:Int) (w:World) (f0:0≤f) (f1:f≤31) (v0:0≤v) (v1:v<256) :
  Calls prog 147 #[iv 1,iv 1,iv f,iv v] w fun e w'=>e=.returned (.tuple #[iv (Pl.nv 1 1 (f/16) v),iv (Pl.onF 1 1 (f/16) v)])∧w'=w:=by
 have hA:=Pl.and1 v
 have hB:=Pl.kE f0 f1
 obtain ⟨q0,q1⟩:=Pl.dX 1 v
 have hD:=Pl.pV (a:=v/2) (q:=Pl.hi 1 v) (by omega) (by omega) (by omega) (by omega)
 have hW:Hid (Pl.nv 1 1 (f/16) v=(v/2+Pl.hi 1 v*128)):=hide (by simp only [Pl.nv,Pl.inn,Pl.fell,Pl.top,Int.reduceMod,Int.reduceEq,Int.reduceLE,if_true,if_false]<;>omega)
 have hO:Hid (Pl.onF 1 1 (f/16) v=v%2+Pl.fl false 2+(Pl.fl ((v/2+Pl.hi 1 v*128)==0) 4+Pl.fl (decide (128≤(v/2+Pl.hi 1 v*128))) 8)+v%2*16):=hide (by simp only [Pl.onF,Pl.vfl,hW.o,Pl.zn,Pl.nx,Pl.fell,Pl.top,Int.reduceMod,Int.reduceEq,Int.reduceDiv,if_true,if_false,decide_false,Bool.false_and,or_self]<;>omega)
 go_enter func147,ntmps147
 go_wp2_with fail
 refine (ja _).mono ?_
 rintro e w' ⟨rfl,rfl⟩
 go_wp2_with fail
 refine (jD _ _).mono ?_
 rintro e w' ⟨rfl,rfl⟩
 go_wp2_with fail
 refine (gG 1 rfl _).mono ?_
 rintro e w' ⟨rfl,rfl⟩
 go_wp2_with fail
 refine (gG 1 rfl _).mono ?_
 rintro e w' ⟨rfl,rfl⟩
 go_wp2_with fail
 refine (ou _ _).mono ?_
 rintro e w' ⟨rfl,rfl⟩
 go_wp2_with fail
 refine (dF _ _ _).mono ?_
 rintro e w' ⟨rfl,rfl⟩
 go_wp2_with fail
 go_ret2
 exact ⟨rII hW.o.symm (by rw [Pl.fC (by omega) (Pl.jd _) (by omega)];exact hO.o.symm),rfl⟩
theorem JQ (f v:Int) (w:World) (f0:0≤f) (f1:f≤31) (v0:0≤v) (v1:v<256) :
  Calls prog 147 #[iv 2,iv 1,iv f,iv v] w fun e w'=>e=.returned (.tuple #[iv (Pl.nv 2 1 (f/16) v),iv (Pl.onF 2 1 (f/16) v)])∧w'=w:=by
 have hA:=Pl.and1 v
 have hB:=Pl.kE f0 f1
 obtain ⟨q0,q1⟩:=Pl.dX 1 v
 have hC:=Pl.dP (v*2)
 have hD:=Pl.pR (a:=v*2%256) (q:=0) (by omega) (by omega) (by omega) (by omega) (by omega)
 rw [Int.add_zero] at hD
 have hW:Hid (Pl.nv 2 1 (f/16) v=(v*2%256)):=hide (by simp only [Pl.nv,Pl.inn,Pl.fell,Pl.top,Int.reduceMod,Int.reduceEq,Int.reduceLE,if_true,if_false,or_self]<;>omega)
 have hO:Hid (Pl.onF 2 1 (f/16) v=Pl.hi 1 v+Pl.fl false 2+(Pl.fl ((v*2%256)==0) 4+Pl.fl (decide (128≤(v*2%256))) 8)+Pl.hi 1 v*16):=hide (by simp only [Pl.onF,Pl.vfl,hW.o,Pl.zn,Pl.nx,Pl.fell,Pl.top,Int.reduceMod,Int.reduceEq,Int.reduceDiv,if_true,if_false,decide_false,Bool.false_and,or_self]<;>omega)
 go_enter func147,ntmps147
 go_wp2_with fail
 refine (ja _).mono ?_
 rintro e w' ⟨rfl,rfl⟩
 go_wp2_with fail
 refine (jD _ _).mono ?_
 rintro e w' ⟨rfl,rfl⟩
 go_wp2_with fail
 refine (gB 2 rfl _).mono ?_
 rintro e w' ⟨rfl,rfl⟩
 go_wp2_with fail
 refine (gB 2 rfl _).mono ?_
 rintro e w' ⟨rfl,rfl⟩
 go_wp2_with fail
 refine (ou _ _).mono ?_
 rintro e w' ⟨rfl,rfl⟩
 go_wp2_with fail
 refine (dF _ _ _).mono ?_
 rintro e w' ⟨rfl,rfl⟩
 go_wp2_with fail
 go_ret2
 exact ⟨rII hW.o.symm (by rw [Pl.fC (by omega) (Pl.jd _) (by omega)];exact hO.o.symm),rfl⟩
theorem JO (f v:Int) (w:World) (f0:0≤f) (f1:f≤31) (v0:0≤v) (v1:v<256) :
  Calls prog 147 #[iv 3,iv 1,iv f,iv v] w fun e w'=>e=.returned (.tuple #[iv (Pl.nv 3 1 (f/16) v),iv (Pl.onF 3 1 (f/16) v)])∧w'=w:=by
 have hA:=Pl.and1 v
 have hB:=Pl.kE f0 f1
 obtain ⟨q0,q1⟩:=Pl.dX 1 v
 have hD:=Pl.pV (a:=v/2) (q:=0) (by omega) (by omega) (by omega) (by omega)
 rw [Int.zero_mul,Int.add_zero] at hD
 have hW:Hid (Pl.nv 3 1 (f/16) v=(v/2)):=hide (by simp only [Pl.nv,Pl.inn,Pl.fell,Pl.top,Int.reduceMod,Int.reduceEq,Int.reduceLE,if_true,if_false,or_self]<;>omega)
 have hO:Hid (Pl.onF 3 1 (f/16) v=v%2+Pl.fl false 2+(Pl.fl ((v/2)==0) 4+Pl.fl (decide (128≤(v/2))) 8)+v%2*16):=hide (by simp only [Pl.onF,Pl.vfl,hW.o,Pl.zn,Pl.nx,Pl.fell,Pl.top,Int.reduceMod,Int.reduceEq,Int.reduceDiv,if_true,if_false,decide_false,Bool.false_and,or_self]<;>omega)
 go_enter func147,ntmps147
 go_wp2_with fail
 refine (ja _).mono ?_
 rintro e w' ⟨rfl,rfl⟩
 go_wp2_with fail
 refine (jD _ _).mono ?_
 rintro e w' ⟨rfl,rfl⟩
 go_wp2_with fail
 refine (gG 3 rfl _).mono ?_
 rintro e w' ⟨rfl,rfl⟩
 go_wp2_with fail
 refine (gG 3 rfl _).mono ?_
 rintro e w' ⟨rfl,rfl⟩
 go_wp2_with fail
 refine (ou _ _).mono ?_
 rintro e w' ⟨rfl,rfl⟩
 go_wp2_with fail
 refine (dF _ _ _).mono ?_
 rintro e w' ⟨rfl,rfl⟩
 go_wp2_with fail
 go_ret2
 exact ⟨rII hW.o.symm (by rw [Pl.fC (by omega) (Pl.jd _) (by omega)];exact hO.o.symm),rfl⟩
theorem JL (f v:Int) (w:World) (f0:0≤f) (f1:f≤31) (v0:0≤v) (v1:v<256) :
  Calls prog 147 #[iv 4,iv 1,iv f,iv v] w fun e w'=>e=.returned (.tuple #[iv (Pl.nv 4 1 (f/16) v),iv (Pl.onF 4 1 (f/16) v)])∧w'=w:=by
 have hA:=Pl.and1 v
 have hB:=Pl.kE f0 f1
 obtain ⟨q0,q1⟩:=Pl.dX 1 v
 have hC:=Pl.dP (v*2)
 have hD:=Pl.pR (a:=v*2%256) (q:=Pl.hi 1 v) (by omega) (by omega) (by omega) (by omega) (by omega)
 have hW:Hid (Pl.nv 4 1 (f/16) v=(v*2%256+Pl.hi 1 v)):=hide (by simp only [Pl.nv,Pl.inn,Pl.fell,Pl.top,Int.reduceMod,Int.reduceEq,Int.reduceLE,if_true,if_false,or_false]<;>omega)
 have hO:Hid (Pl.onF 4 1 (f/16) v=Pl.hi 1 v+Pl.fl false 2+(Pl.fl ((v*2%256+Pl.hi 1 v)==0) 4+Pl.fl (decide (128≤(v*2%256+Pl.hi 1 v))) 8)+f/16*16):=hide (by simp only [Pl.onF,Pl.vfl,hW.o,Pl.zn,Pl.nx,Pl.fell,Pl.top,Int.reduceMod,Int.reduceEq,Int.reduceDiv,if_true,if_false,decide_false,Bool.false_and,or_false]<;>omega)
 go_enter func147,ntmps147
 go_wp2_with fail
 refine (ja _).mono ?_
 rintro e w' ⟨rfl,rfl⟩
 go_wp2_with fail
 refine (jD _ _).mono ?_
 rintro e w' ⟨rfl,rfl⟩
 go_wp2_with fail
 refine (gB 4 rfl _).mono ?_
 rintro e w' ⟨rfl,rfl⟩
 go_wp2_with fail
 refine (gB 4 rfl _).mono ?_
 rintro e w' ⟨rfl,rfl⟩
 go_wp2_with fail
 refine (ou _ _).mono ?_
 rintro e w' ⟨rfl,rfl⟩
 go_wp2_with fail
 refine (dF _ _ _).mono ?_
 rintro e w' ⟨rfl,rfl⟩
 go_wp2_with fail
 go_ret2
 exact ⟨rII hW.o.symm (by rw [Pl.fC (by omega) (Pl.jd _) (by omega)];exact hO.o.symm),rfl⟩
theorem JJ (f v:Int) (w:World) (f0:0≤f) (f1:f≤31) (v0:0≤v) (v1:v<256) :
  Calls prog 147 #[iv 5,iv 1,iv f,iv v] w fun e w'=>e=.returned (.tuple #[iv (Pl.nv 5 1 (f/16) v),iv (Pl.onF 5 1 (f/16) v)])∧w'=w:=by
 have hA:=Pl.and1 v
 have hB:=Pl.kE f0 f1
 obtain ⟨q0,q1⟩:=Pl.dX 1 v
 have hD:=Pl.pV (a:=v/2) (q:=(v%2)) (by omega) (by omega) (by omega) (by omega)
 have hW:Hid (Pl.nv 5 1 (f/16) v=(v/2+(v%2)*128)):=hide (by simp only [Pl.nv,Pl.inn,Pl.fell,Pl.top,Int.reduceMod,Int.reduceEq,Int.reduceLE,if_true,if_false,or_true]<;>omega)
 have hO:Hid (Pl.onF 5 1 (f/16) v=v%2+Pl.fl false 2+(Pl.fl ((v/2+(v%2)*128)==0) 4+Pl.fl (decide (128≤(v/2+(v%2)*128))) 8)+f/16*16):=hide (by simp only [Pl.onF,Pl.vfl,hW.o,Pl.zn,Pl.nx,Pl.fell,Pl.top,Int.reduceMod,Int.reduceEq,Int.reduceDiv,if_true,if_false,decide_false,Bool.false_and,or_true]<;>omega)
 go_enter func147,ntmps147
 go_wp2_with fail
 refine (ja _).mono ?_
 rintro e w' ⟨rfl,rfl⟩
 go_wp2_with fail
 refine (jD _ _).mono ?_
 rintro e w' ⟨rfl,rfl⟩
 go_wp2_with fail
 refine (gG 5 rfl _).mono ?_
 rintro e w' ⟨rfl,rfl⟩
 go_wp2_with fail
 refine (gG 5 rfl _).mono ?_
 rintro e w' ⟨rfl,rfl⟩
 go_wp2_with fail
 refine (ou _ _).mono ?_
 rintro e w' ⟨rfl,rfl⟩
 go_wp2_with fail
 refine (dF _ _ _).mono ?_
 rintro e w' ⟨rfl,rfl⟩
 go_wp2_with fail
 go_ret2
 exact ⟨rII hW.o.symm (by rw [Pl.fC (by omega) (Pl.jd _) (by omega)];exact hO.o.symm),rfl⟩
theorem JH (f v:Int) (w:World) (f0:0≤f) (f1:f≤31) (v0:0≤v) (v1:v<256) :
  Calls prog 147 #[iv 6,iv 1,iv f,iv v] w fun e w'=>e=.returned (.tuple #[iv (Pl.nv 6 1 (f/16) v),iv (Pl.onF 6 1 (f/16) v)])∧w'=w:=by
 have hA:=Pl.and1 v
 have hB:=Pl.kE f0 f1
 obtain ⟨q0,q1⟩:=Pl.dX 1 v
 have hC:=Pl.dP (v*2)
 have hD:=Pl.pR (a:=v*2%256) (q:=(f/16)) (by omega) (by omega) (by omega) (by omega) (by omega)
 have hW:Hid (Pl.nv 6 1 (f/16) v=(v*2%256+(f/16))):=hide (by simp only [Pl.nv,Pl.inn,Pl.fell,Pl.top,Int.reduceMod,Int.reduceEq,Int.reduceLE,if_true,if_false,or_self]<;>omega)
 have hO:Hid (Pl.onF 6 1 (f/16) v=Pl.hi 1 v+Pl.fl false 2+(Pl.fl ((v*2%256+(f/16))==0) 4+Pl.fl (decide (128≤(v*2%256+(f/16)))) 8)+Pl.hi 1 v*16):=hide (by simp only [Pl.onF,Pl.vfl,hW.o,Pl.zn,Pl.nx,Pl.fell,Pl.top,Int.reduceMod,Int.reduceEq,Int.reduceDiv,if_true,if_false,decide_false,Bool.false_and,or_self]<;>omega)
 go_enter func147,ntmps147
 go_wp2_with fail
 refine (ja _).mono ?_
 rintro e w' ⟨rfl,rfl⟩
 go_wp2_with fail
 refine (jD _ _).mono ?_
 rintro e w' ⟨rfl,rfl⟩
 go_wp2_with fail
 refine (gB 6 rfl _).mono ?_
 rintro e w' ⟨rfl,rfl⟩
 go_wp2_with fail
 refine (uN f f0 f1 _).mono ?_
 rintro e w' ⟨rfl,rfl⟩
 go_wp2_with fail
 refine (gB 6 rfl _).mono ?_
 rintro e w' ⟨rfl,rfl⟩
 go_wp2_with fail
 refine (ou _ _).mono ?_
 rintro e w' ⟨rfl,rfl⟩
 go_wp2_with fail
 refine (dF _ _ _).mono ?_
 rintro e w' ⟨rfl,rfl⟩
 go_wp2_with fail
 go_ret2
 exact ⟨rII hW.o.symm (by rw [Pl.fC (by omega) (Pl.jd _) (by omega)];exact hO.o.symm),rfl⟩
theorem JF (f v:Int) (w:World) (f0:0≤f) (f1:f≤31) (v0:0≤v) (v1:v<256) :
  Calls prog 147 #[iv 7,iv 1,iv f,iv v] w fun e w'=>e=.returned (.tuple #[iv (Pl.nv 7 1 (f/16) v),iv (Pl.onF 7 1 (f/16) v)])∧w'=w:=by
 have hA:=Pl.and1 v
 have hB:=Pl.kE f0 f1
 obtain ⟨q0,q1⟩:=Pl.dX 1 v
 have hD:=Pl.pV (a:=v/2) (q:=(f/16)) (by omega) (by omega) (by omega) (by omega)
 have hW:Hid (Pl.nv 7 1 (f/16) v=(v/2+(f/16)*128)):=hide (by simp only [Pl.nv,Pl.inn,Pl.fell,Pl.top,Int.reduceMod,Int.reduceEq,Int.reduceLE,if_true,if_false,or_self]<;>omega)
 have hO:Hid (Pl.onF 7 1 (f/16) v=v%2+Pl.fl false 2+(Pl.fl ((v/2+(f/16)*128)==0) 4+Pl.fl (decide (128≤(v/2+(f/16)*128))) 8)+v%2*16):=hide (by simp only [Pl.onF,Pl.vfl,hW.o,Pl.zn,Pl.nx,Pl.fell,Pl.top,Int.reduceMod,Int.reduceEq,Int.reduceDiv,if_true,if_false,decide_false,Bool.false_and,or_self]<;>omega)
 go_enter func147,ntmps147
 go_wp2_with fail
 refine (ja _).mono ?_
 rintro e w' ⟨rfl,rfl⟩
 go_wp2_with fail
 refine (jD _ _).mono ?_
 rintro e w' ⟨rfl,rfl⟩
 go_wp2_with fail
 refine (gG 7 rfl _).mono ?_
 rintro e w' ⟨rfl,rfl⟩
 go_wp2_with fail
 refine (uN f f0 f1 _).mono ?_
 rintro e w' ⟨rfl,rfl⟩
 go_wp2_with fail
 refine (gG 7 rfl _).mono ?_
 rintro e w' ⟨rfl,rfl⟩
 go_wp2_with fail
 refine (ou _ _).mono ?_
 rintro e w' ⟨rfl,rfl⟩
 go_wp2_with fail
 refine (dF _ _ _).mono ?_
 rintro e w' ⟨rfl,rfl⟩
 go_wp2_with fail
 go_ret2
 exact ⟨rII hW.o.symm (by rw [Pl.fC (by omega) (Pl.jd _) (by omega)];exact hO.o.symm),rfl⟩
theorem JU (f v:Int) (w:World) (f0:0≤f) (f1:f≤31) (v0:0≤v) (v1:v<65536) :
  Calls prog 147 #[iv 0,iv 2,iv f,iv v] w fun e w'=>e=.returned (.tuple #[iv (Pl.nv 0 2 (f/16) v),iv (Pl.onF 0 2 (f/16) v)])∧w'=w:=by
 have hA:=Pl.and1 v
 have hB:=Pl.kE f0 f1
 obtain ⟨q0,q1⟩:=Pl.dX 2 v
 have hC:=Pl.gu (v*2)
 have hD:=Pl.pR (a:=v*2%65536) (q:=0) (by omega) (by omega) (by omega) (by omega) (by omega)
 rw [Int.add_zero] at hD
 have hW:Hid (Pl.nv 0 2 (f/16) v=(v*2%65536)):=hide (by simp only [Pl.nv,Pl.inn,Pl.fell,Pl.top,Int.reduceMod,Int.reduceEq,Int.reduceLE,if_true,if_false,or_self]<;>omega)
 have hO:Hid (Pl.onF 0 2 (f/16) v=Pl.hi 2 v+Pl.fl (Pl.hi 2 v != Pl.hi 2 (v*2%65536)) 2+(Pl.fl ((v*2%65536)==0) 4+Pl.fl (decide (32768≤(v*2%65536))) 8)+Pl.hi 2 v*16):=hide (by simp only [Pl.onF,Pl.vfl,hW.o,Pl.zn,Pl.nx,Pl.fell,Pl.top,Int.reduceMod,Int.reduceEq,Int.reduceDiv,if_true,if_false,decide_true,Bool.true_and,or_self]<;>omega)
 go_enter func147,ntmps147
 go_wp2_with fail
 refine (iZ _).mono ?_
 rintro e w' ⟨rfl,rfl⟩
 go_wp2_with fail
 refine (jC _ _).mono ?_
 rintro e w' ⟨rfl,rfl⟩
 go_wp2_with fail
 refine (gB 0 rfl _).mono ?_
 rintro e w' ⟨rfl,rfl⟩
 go_wp2_with fail
 refine (gB 0 rfl _).mono ?_
 rintro e w' ⟨rfl,rfl⟩
 go_wp2_with fail
 refine (oh _ _).mono ?_
 rintro e w' ⟨rfl,rfl⟩
 go_wp2_with fail
 refine (jC _ _).mono ?_
 rintro e w' ⟨rfl,rfl⟩
 go_wp2_with fail
 refine (dF _ _ _).mono ?_
 rintro e w' ⟨rfl,rfl⟩
 go_wp2_with fail
 go_ret2
 exact ⟨rII hW.o.symm (by rw [Pl.fC (by omega) (Pl.jd _) (by omega)];exact hO.o.symm),rfl⟩
theorem JR (f v:Int) (w:World) (f0:0≤f) (f1:f≤31) (v0:0≤v) (v1:v<65536) :
  Calls prog 147 #[iv 1,iv 2,iv f,iv v] w fun e w'=>e=.returned (.tuple #[iv (Pl.nv 1 2 (f/16) v),iv (Pl.onF 1 2 (f/16) v)])∧w'=w:=by
 have hA:=Pl.and1 v
 have hB:=Pl.kE f0 f1
 obtain ⟨q0,q1⟩:=Pl.dX 2 v
 have hD:=Pl.pU (a:=v/2) (q:=Pl.hi 2 v) (by omega) (by omega) (by omega) (by omega)
 have hW:Hid (Pl.nv 1 2 (f/16) v=(v/2+Pl.hi 2 v*32768)):=hide (by simp only [Pl.nv,Pl.inn,Pl.fell,Pl.top,Int.reduceMod,Int.reduceEq,Int.reduceLE,if_true,if_false]<;>omega)
 have hO:Hid (Pl.onF 1 2 (f/16) v=v%2+Pl.fl false 2+(Pl.fl ((v/2+Pl.hi 2 v*32768)==0) 4+Pl.fl (decide (32768≤(v/2+Pl.hi 2 v*32768))) 8)+v%2*16):=hide (by simp only [Pl.onF,Pl.vfl,hW.o,Pl.zn,Pl.nx,Pl.fell,Pl.top,Int.reduceMod,Int.reduceEq,Int.reduceDiv,if_true,if_false,decide_false,Bool.false_and,or_self]<;>omega)
 go_enter func147,ntmps147
 go_wp2_with fail
 refine (iZ _).mono ?_
 rintro e w' ⟨rfl,rfl⟩
 go_wp2_with fail
 refine (jC _ _).mono ?_
 rintro e w' ⟨rfl,rfl⟩
 go_wp2_with fail
 refine (gG 1 rfl _).mono ?_
 rintro e w' ⟨rfl,rfl⟩
 go_wp2_with fail
 refine (gG 1 rfl _).mono ?_
 rintro e w' ⟨rfl,rfl⟩
 go_wp2_with fail
 refine (oh _ _).mono ?_
 rintro e w' ⟨rfl,rfl⟩
 go_wp2_with fail
 refine (dF _ _ _).mono ?_
 rintro e w' ⟨rfl,rfl⟩
 go_wp2_with fail
 go_ret2
 exact ⟨rII hW.o.symm (by rw [Pl.fC (by omega) (Pl.jd _) (by omega)];exact hO.o.symm),rfl⟩
theorem JP (f v:Int) (w:World) (f0:0≤f) (f1:f≤31) (v0:0≤v) (v1:v<65536) :
  Calls prog 147 #[iv 2,iv 2,iv f,iv v] w fun e w'=>e=.returned (.tuple #[iv (Pl.nv 2 2 (f/16) v),iv (Pl.onF 2 2 (f/16) v)])∧w'=w:=by
 have hA:=Pl.and1 v
 have hB:=Pl.kE f0 f1
 obtain ⟨q0,q1⟩:=Pl.dX 2 v
 have hC:=Pl.gu (v*2)
 have hD:=Pl.pR (a:=v*2%65536) (q:=0) (by omega) (by omega) (by omega) (by omega) (by omega)
 rw [Int.add_zero] at hD
 have hW:Hid (Pl.nv 2 2 (f/16) v=(v*2%65536)):=hide (by simp only [Pl.nv,Pl.inn,Pl.fell,Pl.top,Int.reduceMod,Int.reduceEq,Int.reduceLE,if_true,if_false,or_self]<;>omega)
 have hO:Hid (Pl.onF 2 2 (f/16) v=Pl.hi 2 v+Pl.fl false 2+(Pl.fl ((v*2%65536)==0) 4+Pl.fl (decide (32768≤(v*2%65536))) 8)+Pl.hi 2 v*16):=hide (by simp only [Pl.onF,Pl.vfl,hW.o,Pl.zn,Pl.nx,Pl.fell,Pl.top,Int.reduceMod,Int.reduceEq,Int.reduceDiv,if_true,if_false,decide_false,Bool.false_and,or_self]<;>omega)
 go_enter func147,ntmps147
 go_wp2_with fail
 refine (iZ _).mono ?_
 rintro e w' ⟨rfl,rfl⟩
 go_wp2_with fail
 refine (jC _ _).mono ?_
 rintro e w' ⟨rfl,rfl⟩
 go_wp2_with fail
 refine (gB 2 rfl _).mono ?_
 rintro e w' ⟨rfl,rfl⟩
 go_wp2_with fail
 refine (gB 2 rfl _).mono ?_
 rintro e w' ⟨rfl,rfl⟩
 go_wp2_with fail
 refine (oh _ _).mono ?_
 rintro e w' ⟨rfl,rfl⟩
 go_wp2_with fail
 refine (dF _ _ _).mono ?_
 rintro e w' ⟨rfl,rfl⟩
 go_wp2_with fail
 go_ret2
 exact ⟨rII hW.o.symm (by rw [Pl.fC (by omega) (Pl.jd _) (by omega)];exact hO.o.symm),rfl⟩
theorem JM (f v:Int) (w:World) (f0:0≤f) (f1:f≤31) (v0:0≤v) (v1:v<65536) :
  Calls prog 147 #[iv 3,iv 2,iv f,iv v] w fun e w'=>e=.returned (.tuple #[iv (Pl.nv 3 2 (f/16) v),iv (Pl.onF 3 2 (f/16) v)])∧w'=w:=by
 have hA:=Pl.and1 v
 have hB:=Pl.kE f0 f1
 obtain ⟨q0,q1⟩:=Pl.dX 2 v
 have hD:=Pl.pU (a:=v/2) (q:=0) (by omega) (by omega) (by omega) (by omega)
 rw [Int.zero_mul,Int.add_zero] at hD
 have hW:Hid (Pl.nv 3 2 (f/16) v=(v/2)):=hide (by simp only [Pl.nv,Pl.inn,Pl.fell,Pl.top,Int.reduceMod,Int.reduceEq,Int.reduceLE,if_true,if_false,or_self]<;>omega)
 have hO:Hid (Pl.onF 3 2 (f/16) v=v%2+Pl.fl false 2+(Pl.fl ((v/2)==0) 4+Pl.fl (decide (32768≤(v/2))) 8)+v%2*16):=hide (by simp only [Pl.onF,Pl.vfl,hW.o,Pl.zn,Pl.nx,Pl.fell,Pl.top,Int.reduceMod,Int.reduceEq,Int.reduceDiv,if_true,if_false,decide_false,Bool.false_and,or_self]<;>omega)
 go_enter func147,ntmps147
 go_wp2_with fail
 refine (iZ _).mono ?_
 rintro e w' ⟨rfl,rfl⟩
 go_wp2_with fail
 refine (jC _ _).mono ?_
 rintro e w' ⟨rfl,rfl⟩
 go_wp2_with fail
 refine (gG 3 rfl _).mono ?_
 rintro e w' ⟨rfl,rfl⟩
 go_wp2_with fail
 refine (gG 3 rfl _).mono ?_
 rintro e w' ⟨rfl,rfl⟩
 go_wp2_with fail
 refine (oh _ _).mono ?_
 rintro e w' ⟨rfl,rfl⟩
 go_wp2_with fail
 refine (dF _ _ _).mono ?_
 rintro e w' ⟨rfl,rfl⟩
 go_wp2_with fail
 go_ret2
 exact ⟨rII hW.o.symm (by rw [Pl.fC (by omega) (Pl.jd _) (by omega)];exact hO.o.symm),rfl⟩
theorem JK (f v:Int) (w:World) (f0:0≤f) (f1:f≤31) (v0:0≤v) (v1:v<65536) :
  Calls prog 147 #[iv 4,iv 2,iv f,iv v] w fun e w'=>e=.returned (.tuple #[iv (Pl.nv 4 2 (f/16) v),iv (Pl.onF 4 2 (f/16) v)])∧w'=w:=by
 have hA:=Pl.and1 v
 have hB:=Pl.kE f0 f1
 obtain ⟨q0,q1⟩:=Pl.dX 2 v
 have hC:=Pl.gu (v*2)
 have hD:=Pl.pR (a:=v*2%65536) (q:=Pl.hi 2 v) (by omega) (by omega) (by omega) (by omega) (by omega)
 have hW:Hid (Pl.nv 4 2 (f/16) v=(v*2%65536+Pl.hi 2 v)):=hide (by simp only [Pl.nv,Pl.inn,Pl.fell,Pl.top,Int.reduceMod,Int.reduceEq,Int.reduceLE,if_true,if_false,or_false]<;>omega)
 have hO:Hid (Pl.onF 4 2 (f/16) v=Pl.hi 2 v+Pl.fl false 2+(Pl.fl ((v*2%65536+Pl.hi 2 v)==0) 4+Pl.fl (decide (32768≤(v*2%65536+Pl.hi 2 v))) 8)+f/16*16):=hide (by simp only [Pl.onF,Pl.vfl,hW.o,Pl.zn,Pl.nx,Pl.fell,Pl.top,Int.reduceMod,Int.reduceEq,Int.reduceDiv,if_true,if_false,decide_false,Bool.false_and,or_false]<;>omega)
 go_enter func147,ntmps147
 go_wp2_with fail
 refine (iZ _).mono ?_
 rintro e w' ⟨rfl,rfl⟩
 go_wp2_with fail
 refine (jC _ _).mono ?_
 rintro e w' ⟨rfl,rfl⟩
 go_wp2_with fail
 refine (gB 4 rfl _).mono ?_
 rintro e w' ⟨rfl,rfl⟩
 go_wp2_with fail
 refine (gB 4 rfl _).mono ?_
 rintro e w' ⟨rfl,rfl⟩
 go_wp2_with fail
 refine (oh _ _).mono ?_
 rintro e w' ⟨rfl,rfl⟩
 go_wp2_with fail
 refine (dF _ _ _).mono ?_
 rintro e w' ⟨rfl,rfl⟩
 go_wp2_with fail
 go_ret2
 exact ⟨rII hW.o.symm (by rw [Pl.fC (by omega) (Pl.jd _) (by omega)];exact hO.o.symm),rfl⟩
theorem JI (f v:Int) (w:World) (f0:0≤f) (f1:f≤31) (v0:0≤v) (v1:v<65536) :
  Calls prog 147 #[iv 5,iv 2,iv f,iv v] w fun e w'=>e=.returned (.tuple #[iv (Pl.nv 5 2 (f/16) v),iv (Pl.onF 5 2 (f/16) v)])∧w'=w:=by
 have hA:=Pl.and1 v
 have hB:=Pl.kE f0 f1
 obtain ⟨q0,q1⟩:=Pl.dX 2 v
 have hD:=Pl.pU (a:=v/2) (q:=(v%2)) (by omega) (by omega) (by omega) (by omega)
 have hW:Hid (Pl.nv 5 2 (f/16) v=(v/2+(v%2)*32768)):=hide (by simp only [Pl.nv,Pl.inn,Pl.fell,Pl.top,Int.reduceMod,Int.reduceEq,Int.reduceLE,if_true,if_false,or_true]<;>omega)
 have hO:Hid (Pl.onF 5 2 (f/16) v=v%2+Pl.fl false 2+(Pl.fl ((v/2+(v%2)*32768)==0) 4+Pl.fl (decide (32768≤(v/2+(v%2)*32768))) 8)+f/16*16):=hide (by simp only [Pl.onF,Pl.vfl,hW.o,Pl.zn,Pl.nx,Pl.fell,Pl.top,Int.reduceMod,Int.reduceEq,Int.reduceDiv,if_true,if_false,decide_false,Bool.false_and,or_true]<;>omega)
 go_enter func147,ntmps147
 go_wp2_with fail
 refine (iZ _).mono ?_
 rintro e w' ⟨rfl,rfl⟩
 go_wp2_with fail
 refine (jC _ _).mono ?_
 rintro e w' ⟨rfl,rfl⟩
 go_wp2_with fail
 refine (gG 5 rfl _).mono ?_
 rintro e w' ⟨rfl,rfl⟩
 go_wp2_with fail
 refine (gG 5 rfl _).mono ?_
 rintro e w' ⟨rfl,rfl⟩
 go_wp2_with fail
 refine (oh _ _).mono ?_
 rintro e w' ⟨rfl,rfl⟩
 go_wp2_with fail
 refine (dF _ _ _).mono ?_
 rintro e w' ⟨rfl,rfl⟩
 go_wp2_with fail
 go_ret2
 exact ⟨rII hW.o.symm (by rw [Pl.fC (by omega) (Pl.jd _) (by omega)];exact hO.o.symm),rfl⟩
theorem JG (f v:Int) (w:World) (f0:0≤f) (f1:f≤31) (v0:0≤v) (v1:v<65536) :
  Calls prog 147 #[iv 6,iv 2,iv f,iv v] w fun e w'=>e=.returned (.tuple #[iv (Pl.nv 6 2 (f/16) v),iv (Pl.onF 6 2 (f/16) v)])∧w'=w:=by
 have hA:=Pl.and1 v
 have hB:=Pl.kE f0 f1
 obtain ⟨q0,q1⟩:=Pl.dX 2 v
 have hC:=Pl.gu (v*2)
 have hD:=Pl.pR (a:=v*2%65536) (q:=(f/16)) (by omega) (by omega) (by omega) (by omega) (by omega)
 have hW:Hid (Pl.nv 6 2 (f/16) v=(v*2%65536+(f/16))):=hide (by simp only [Pl.nv,Pl.inn,Pl.fell,Pl.top,Int.reduceMod,Int.reduceEq,Int.reduceLE,if_true,if_false,or_self]<;>omega)
 have hO:Hid (Pl.onF 6 2 (f/16) v=Pl.hi 2 v+Pl.fl false 2+(Pl.fl ((v*2%65536+(f/16))==0) 4+Pl.fl (decide (32768≤(v*2%65536+(f/16)))) 8)+Pl.hi 2 v*16):=hide (by simp only [Pl.onF,Pl.vfl,hW.o,Pl.zn,Pl.nx,Pl.fell,Pl.top,Int.reduceMod,Int.reduceEq,Int.reduceDiv,if_true,if_false,decide_false,Bool.false_and,or_self]<;>omega)
 go_enter func147,ntmps147
 go_wp2_with fail
 refine (iZ _).mono ?_
 rintro e w' ⟨rfl,rfl⟩
 go_wp2_with fail
 refine (jC _ _).mono ?_
 rintro e w' ⟨rfl,rfl⟩
 go_wp2_with fail
 refine (gB 6 rfl _).mono ?_
 rintro e w' ⟨rfl,rfl⟩
 go_wp2_with fail
 refine (uN f f0 f1 _).mono ?_
 rintro e w' ⟨rfl,rfl⟩
 go_wp2_with fail
 refine (gB 6 rfl _).mono ?_
 rintro e w' ⟨rfl,rfl⟩
 go_wp2_with fail
 refine (oh _ _).mono ?_
 rintro e w' ⟨rfl,rfl⟩
 go_wp2_with fail
 refine (dF _ _ _).mono ?_
 rintro e w' ⟨rfl,rfl⟩
 go_wp2_with fail
 go_ret2
 exact ⟨rII hW.o.symm (by rw [Pl.fC (by omega) (Pl.jd _) (by omega)];exact hO.o.symm),rfl⟩
theorem JE (f v:Int) (w:World) (f0:0≤f) (f1:f≤31) (v0:0≤v) (v1:v<65536) :
  Calls prog 147 #[iv 7,iv 2,iv f,iv v] w fun e w'=>e=.returned (.tuple #[iv (Pl.nv 7 2 (f/16) v),iv (Pl.onF 7 2 (f/16) v)])∧w'=w:=by
 have hA:=Pl.and1 v
 have hB:=Pl.kE f0 f1
 obtain ⟨q0,q1⟩:=Pl.dX 2 v
 have hD:=Pl.pU (a:=v/2) (q:=(f/16)) (by omega) (by omega) (by omega) (by omega)
 have hW:Hid (Pl.nv 7 2 (f/16) v=(v/2+(f/16)*32768)):=hide (by simp only [Pl.nv,Pl.inn,Pl.fell,Pl.top,Int.reduceMod,Int.reduceEq,Int.reduceLE,if_true,if_false,or_self]<;>omega)
 have hO:Hid (Pl.onF 7 2 (f/16) v=v%2+Pl.fl false 2+(Pl.fl ((v/2+(f/16)*32768)==0) 4+Pl.fl (decide (32768≤(v/2+(f/16)*32768))) 8)+v%2*16):=hide (by simp only [Pl.onF,Pl.vfl,hW.o,Pl.zn,Pl.nx,Pl.fell,Pl.top,Int.reduceMod,Int.reduceEq,Int.reduceDiv,if_true,if_false,decide_false,Bool.false_and,or_self]<;>omega)
 go_enter func147,ntmps147
 go_wp2_with fail
 refine (iZ _).mono ?_
 rintro e w' ⟨rfl,rfl⟩
 go_wp2_with fail
 refine (jC _ _).mono ?_
 rintro e w' ⟨rfl,rfl⟩
 go_wp2_with fail
 refine (gG 7 rfl _).mono ?_
 rintro e w' ⟨rfl,rfl⟩
 go_wp2_with fail
 refine (uN f f0 f1 _).mono ?_
 rintro e w' ⟨rfl,rfl⟩
 go_wp2_with fail
 refine (gG 7 rfl _).mono ?_
 rintro e w' ⟨rfl,rfl⟩
 go_wp2_with fail
 refine (oh _ _).mono ?_
 rintro e w' ⟨rfl,rfl⟩
 go_wp2_with fail
 refine (dF _ _ _).mono ?_
 rintro e w' ⟨rfl,rfl⟩
 go_wp2_with fail
 go_ret2
 exact ⟨rII hW.o.symm (by rw [Pl.fC (by omega) (Pl.jd _) (by omega)];exact hO.o.symm),rfl⟩
theorem Pl.Bo {c x:Int} {o z n:Bool} (hc:c=0∨c=1) (hx:x=0∨x=1):bits .and .i64 (c+Pl.fl o 2+(Pl.fl z 4+Pl.fl n 8)+16*x) 2=Pl.fl o 2:=by
 rcases hc with rfl|rfl<;>rcases hx with rfl|rfl<;>cases o<;>cases z<;>cases n<;>decide
theorem Pl.E5 {c x:Int} {o z n q:Bool} (hc:c=0∨c=1) (hx:x=0∨x=1) (hq:o=true→q=true):bits .or .i64 (c+Pl.fl o 2+(Pl.fl z 4+Pl.fl n 8)+16*x) (Pl.fl q 2)=c+Pl.fl q 2+(Pl.fl z 4+Pl.fl n 8)+16*x:=by
 rcases hc with rfl|rfl<;>rcases hx with rfl|rfl<;>cases o<;>cases z<;>cases n<;>cases q<;>first|decide|(exact absurd (hq rfl) (by decide))
theorem Pl.IU {k s:Int} {p:Int × Int} (h:Pl.Fit s p):bits .and .i64 (Pl.onF k s p.2 p.1) 2=Pl.fl (Pl.vfl k s p.2 p.1) 2:=by
 have f:=Pl.nX k s p.1
 have x:=Pl.DC k s p.2 p.1 h.2.2.2.1 h.2.2.2.2
 unfold Pl.onF Pl.zn
 exact Pl.Bo (by omega) (by omega)
theorem Pl.Oc {k s:Int} {p:Int × Int} (h:Pl.Fit s p) {q:Bool} (hq:Pl.vfl k s p.2 p.1=true→q=true) :
  bits .or .i64 (Pl.onF k s p.2 p.1) (Pl.fl q 2)=Pl.fell k s p.1+Pl.fl q 2+Pl.zn s (Pl.nv k s p.2 p.1)+16*Pl.nx k s p.2 p.1:=by
 have f:=Pl.nX k s p.1
 have x:=Pl.DC k s p.2 p.1 h.2.2.2.1 h.2.2.2.2
 unfold Pl.onF Pl.zn
 exact Pl.E5 (by omega) (by omega) hq
theorem Pl.Kr (a b:Bool):bits .or .i64 (Pl.fl a 2) (Pl.fl b 2)=Pl.fl (a||b) 2:=by cases a<;>cases b<;>decide
theorem Tq (k s f v:Int) (w:World) (k0:0≤k) (k1:k≤7) (f0:0≤f) (f1:f≤31) (h:Pl.Fit s (v,f/16)) :
  Calls prog 147 #[iv k,iv s,iv f,iv v] w fun e w'=>e=.returned (.tuple #[iv (Pl.nv k s (f/16) v),iv (Pl.onF k s (f/16) v)])∧w'=w:=by
 obtain ⟨hs,v0,v1,_,_⟩:=h
 simp only at v0 v1
 have hk:k=0∨k=1∨k=2∨k=3∨k=4∨k=5∨k=6∨k=7:=by omega
 rcases Pl.og hs with ⟨rfl,e⟩|⟨rfl,e⟩
 ·rw [e] at v1
  rcases hk with rfl|rfl|rfl|rfl|rfl|rfl|rfl|rfl
  ·exact JV f v w f0 f1 v0 v1
  ·exact JS f v w f0 f1 v0 v1
  ·exact JQ f v w f0 f1 v0 v1
  ·exact JO f v w f0 f1 v0 v1
  ·exact JL f v w f0 f1 v0 v1
  ·exact JJ f v w f0 f1 v0 v1
  ·exact JH f v w f0 f1 v0 v1
  ·exact JF f v w f0 f1 v0 v1
 ·rw [e] at v1
  rcases hk with rfl|rfl|rfl|rfl|rfl|rfl|rfl|rfl
  ·exact JU f v w f0 f1 v0 v1
  ·exact JR f v w f0 f1 v0 v1
  ·exact JP f v w f0 f1 v0 v1
  ·exact JM f v w f0 f1 v0 v1
  ·exact JK f v w f0 f1 v0 v1
  ·exact JI f v w f0 f1 v0 v1
  ·exact JG f v w f0 f1 v0 v1
  ·exact JE f v w f0 f1 v0 v1
theorem We (s v:Int) (w:World) (hs:s=1∨s=2) :
  Calls prog 144 #[iv s,iv v] w fun e w'=>e=.returned (iv (bits .or .i64 (Pl.fl (v==0) 4) (Pl.fl (decide (Pl.top s/2≤v)) 8)))∧w'=w:=by
 rcases hs with rfl|rfl
 ·exact ou v w
 ·exact oh v w
theorem V9 (k s f v:Int) (w:World) (k0:0≤k) (k1:k≤7) (f0:0≤f) (f1:f≤31) (h:Pl.Fit s (v,f/16)) :
  Calls prog 109 #[iv k,iv s,iv f,iv v,iv 0] w fun e w'=>e=.returned (.tuple #[iv v,iv (Pl.byF k s (v,f/16) 0)])∧w'=w:=by
 have hB:=Pl.kE f0 f1
 obtain hx|hx:f/16=0∨f/16=1:=by omega
 all_goals
  have E:Hid (Pl.byF k s (v,f/16) 0=Pl.fl (decide (f/16≠0)&&decide (6≤k)) 1+(Pl.fl (v==0) 4+Pl.fl (decide (Pl.top s/2≤v)) 8)+16*(f/16)):=hide rfl
  have HX:=hide hx
  rw [hx] at hB
  have hs:=h.1
  clear hx
  go_enter func109,ntmps109
  go_wp2_with fail
  refine (We s v _ hs).mono ?_
  rintro e w' ⟨rfl,rfl⟩
  go_wp2_with fail
  refine (dF _ _ _).mono ?_
  rintro e w' ⟨rfl,rfl⟩
  go_wp2_with fail
  go_ret2
  refine ⟨rII rfl ?_,rfl⟩
  rw [E.o,HX.o]
  generalize (v==0)=z
  generalize decide (Pl.top s/2≤v)=n
  generalize decide (6≤k)=q
  cases z<;>cases n<;>cases q<;>decide
def Pl.run (k s f v:Int):Nat→Int
 | 0=>f
 | m+1=>Pl.onF k s (Pl.st k s (v,f/16) m).2 (Pl.st k s (v,f/16) m).1
theorem Pl.Su {k s f v:Int} (f0:0≤f) (f1:f≤31) (h:Pl.Fit s (v,f/16)) (m:Nat):0≤Pl.run k s f v m∧Pl.run k s f v m≤31∧Pl.run k s f v m/16=(Pl.st k s (v,f/16) m).2:=by
 cases m with
 | zero=>exact ⟨f0,f1,rfl⟩
 | succ m=>exact Pl.SI (Pl.oZ h m)
theorem Pl.Sr {k s f v:Int} (h:Pl.Fit s (v,f/16)) {n:Nat} (n0:0<n):bits .or .i64 (Pl.run k s f v n) (Pl.fl (Pl.ov k s (v,f/16) n) 2)=Pl.byF k s (v,f/16) n:=by
 cases n with
 | zero=>omega
 | succ m=>exact Pl.Oc (Pl.oZ h m) (fun hv=>by simp [Pl.ov,hv])
theorem V8 (k s f v:Int) (n:Nat) (w:World) (k0:0≤k) (k1:k≤7) (f0:0≤f) (f1:f≤31) (h:Pl.Fit s (v,f/16)) (n0:0<n) (n1:n≤63) :
  Calls prog 109 #[iv k,iv s,iv f,iv v,iv n] w fun e w'=>e=.returned (.tuple #[iv (Pl.st k s (v,f/16) n).1,iv (Pl.byF k s (v,f/16) n)])∧w'=w:=by
 have kn:(((n:Nat):Int)==0)=false:=by simp;omega
 go_enter func109,ntmps109
 go_wp2_with fail
 go_loop [2,3,4,13] (fun F V C O=>∃m:Nat,m≤n∧F=iv (Pl.run k s f v m)∧V=iv (Pl.st k s (v,f/16) m).1∧C=iv ((n:Int)-(m:Int))∧O=iv (Pl.fl (Pl.ov k s (v,f/16) m) 2)) (fun _ _ c _=>(intOf c).toNat)
 case atStart=>exact ⟨0,Nat.zero_le _,rfl,rfl,by go_num,rfl⟩
 case round=>
  obtain ⟨m,hm,rfl,rfl,rfl,rfl⟩:=hrel
  by_cases hlt:m<n
  ·obtain ⟨r0,r1,r2⟩:=Pl.Su (k:=k) f0 f1 h m
   have hf:=Pl.oZ (k:=k) h m
   have hq:=Pl.IU (k:=k) hf
   have hj:=Pl.Kr (Pl.ov k s (v,f/16) m) (Pl.vfl k s (Pl.st k s (v,f/16) m).2 (Pl.st k s (v,f/16) m).1)
   have hF:Pl.Fit s ((Pl.st k s (v,f/16) m).1,Pl.run k s f v m/16):=by rw [r2];exact hf
   have hc:0<(n:Int)-(m:Int):=by omega
   go_wp2_with fail
   refine (Tq k s _ _ _ k0 k1 r0 r1 hF).mono ?_
   rintro e w' ⟨rfl,rfl⟩
   rw [r2]
   go_wp2_with fail
   go_round
   case rel=>exact ⟨m+1,by omega,rfl,rfl,by go_num,rfl⟩
   case measure=>simp [intOf];omega
  ·obtain rfl:m=n:=by omega
   have hO:=hide (Pl.Sr (k:=k) h n0)
   go_wp2_with fail
   go_ret2
   exact ⟨rII rfl hO.o,rfl⟩
theorem Yt (k s f v n:Int) (w:World) (k0:0≤k) (k1:k≤7) (f0:0≤f) (f1:f≤31) (h:Pl.Fit s (v,f/16)) (n0:0≤n) (n1:n≤63) :
  Calls prog 109 #[iv k,iv s,iv f,iv v,iv n] w fun e w'=>e=.returned (.tuple #[iv (Pl.st k s (v,f/16) n.toNat).1,iv (Pl.byF k s (v,f/16) n.toNat)])∧w'=w:=by
 obtain ⟨m,rfl⟩:=Int.eq_ofNat_of_zero_le n0
 cases m with
 | zero=>exact V9 k s f v w k0 k1 f0 f1 h
 | succ m=>exact V8 k s f v (m+1) w k0 k1 f0 f1 h (by omega) (by omega)
theorem Eh {W:World} {p gd cd ga ca g1 c1 g2 c2 b:Nat} {c:Pl.Mc} {x:Pl.In} {ty:TypeId} (hB:MB W p gd cd ga ca g1 c1 g2 c2 c) (hX:Blk W b (mi x) ty):W.cell? ⟨p,0,none⟩=some (.slice (some ⟨gd,0,none⟩) 4 cd)∧W.cell? ⟨p,1,none⟩=some (.slice (some ⟨ga,0,none⟩) 4 ca)∧W.cell? ⟨p,2,none⟩=some (iv c.r.o)∧W.cell? ⟨p,3,none⟩=some (iv c.r.p)∧W.cell? ⟨p,4,none⟩=some (iv c.r.f)∧W.cell? ⟨p,5,none⟩=some (iv c.r.m)∧W.cell? ⟨p,6,none⟩=some (.bool c.r.s)∧W.cell? ⟨p,7,none⟩=some (.bool c.r.t)∧W.cell? ⟨b,1,none⟩=some (iv x.z)∧W.cell? ⟨b,2,none⟩=some (iv x.r)∧W.cell? ⟨b,4,none⟩=some (iv x.k)∧W.cell? ⟨b,6,none⟩=some (iv x.s):=by
 obtain ⟨t0,t1,t2,t3,t4,t5,t6,t7,_⟩:=hB.cells
 obtain ⟨b0,b1,b2,b3,b4,b5,b6⟩:=aG hX
 exact ⟨t0,t1,t2,t3,t4,t5,t6,t7,b1,b2,b4,b6⟩
theorem Pl.Cj {z v f:Int} (hv:Pl.okv z v=true) (f0:0≤f) (f1:f≤31) (k:Int) (k0:0≤k) (k1:k≤7):Pl.qi k z f v=true:=by
 unfold Pl.qi;rw [hv];simp [Pl.flags];omega
theorem FN (w:World) (lo mid hi p g2:Nat) (c:Pl.Mc) (x:Pl.In) (t:Int) (h:MAt w lo mid hi p g2 c) (G:Pl.GM c) (B:Pl.InB x) (ho:x.op=12) :
  Calls prog 70 #[.pointer (some ⟨p,0,none⟩),.agg (inX x),iv t] w fun e w'=>e=.returned (.tuple #[])∧∃g3,MAt w' lo mid hi p g3 (c.doI x t)∧Since w lo hi g2 w' g3:=by
 have HG:=hide G
 have HI:=hide B
 have HOP:=hide ho
 clear ho
 have hl:=h.lo
 obtain ⟨X,hX,KA,HX,hbw,HHB,HGB,HPH,HPB,HMH,HS,HM⟩:=h.dS x
 obtain ⟨b0,b1,b2,b3,b4,b5,b6⟩:=aG HX.o
 rw [HOP.o] at b0
 clear h
 obtain ⟨gd,cd,ga,ca,g1,c1,c2,HB,HO⟩:=HM.o.op
 clear G B
 have r0:=HI.o.r0
 have r1:=HI.o.r1
 have r4:x.r<4:=by omega
 have HR4:Hid (x.r.toNat<4):=hide (by omega)
 have E:Hid (c.doI x t=(c.aF (Pl.oL x.s x.z c.r.f (c.low x.z x.r) (x.k+1))).put x.z x.r (Pl.jg x.s x.z c.r.f (c.low x.z x.r) (x.k+1))):=hide (by unfold Pl.Mc.doI;rw [HOP.o];rfl)
 have HQ:Hid (el c.r.xs x.r.toNat%Pl.top x.z=c.low x.z x.r):=hide rfl
 have HVQ:=hide (Pl.fP HG.o HI.o.z HI.o.r0 HI.o.r1)
 obtain ⟨q,hq⟩:∃q,c.low x.z x.r=q:=⟨_,rfl⟩
 rw [hq] at HQ HVQ E
 clear hq
 have KD:=hide (ae (Kept.refl 0 0 X))
 have HD:=hide (HO.o.any KD.o).d
 have k0:=HI.o.k0
 have k1:=HI.o.k1
 have HGK:=Pl.Cj HVQ.o HG.o.g.f0 HG.o.g.f1 x.s HI.o.s0 HI.o.s1
 have HFT:=(Pl.qh HGK).2.2.2.2.2
 have UR:Pl.qM x.s x.z c.r.f q (x.k+1)=true:=by unfold Pl.qM Pl.cnt;rw [HGK];simp;omega
 have eV:Pl.jg x.s x.z c.r.f q (x.k+1)=(Pl.st x.s x.z (q,c.r.f/16) (x.k+1).toNat).1:=by unfold Pl.jg;rw [if_pos UR]
 have eF:Pl.oL x.s x.z c.r.f q (x.k+1)=Pl.byF x.s x.z (q,c.r.f/16) (x.k+1).toNat:=by unfold Pl.oL;rw [if_pos UR]
 have HBV:=fun w9=>Yt x.s x.z c.r.f q (x.k+1) w9 HI.o.s0 HI.o.s1 HG.o.g.f0 HG.o.g.f1 HFT (by omega) (by omega)
 have hFb:=Pl.Me (k:=x.s) HFT (x.k+1).toNat
 have hVb:=Pl.oZ (k:=x.s) HFT (x.k+1).toNat
 rw [←eF] at hFb
 rw [←eV,←eF] at HBV
 have hVo:Pl.okv x.z (Pl.jg x.s x.z c.r.f q (x.k+1))=true:=by
  rw [eV];obtain ⟨h1,h2,h3,_⟩:=hVb;unfold Pl.okv;simp only [Bool.and_eq_true,Bool.or_eq_true,decide_eq_true_eq];exact ⟨h1,h2,h3⟩
 obtain ⟨V,hV⟩:∃V,Pl.jg x.s x.z c.r.f q (x.k+1)=V:=⟨_,rfl⟩
 obtain ⟨F,hF⟩:∃F,Pl.oL x.s x.z c.r.f q (x.k+1)=F:=⟨_,rfl⟩
 rw [hV] at hVo
 rw [hF] at hFb
 rw [hV,hF] at E HBV
 have hw1:IntKind.i64.wrap (x.k+1)=x.k+1:=by rw [IntKind.wrap_i64];omega
 have HB3:Hid (∀w9:World,Calls prog 109 #[iv x.s,iv x.z,iv c.r.f,iv q,iv (IntKind.i64.wrap (x.k+1))] w9 fun e w'=>e=.returned (.tuple #[iv V,iv F])∧w'=w9):=hide (by intro w9;rw [hw1];exact HBV w9)
 have HVV:=hide hVo
 have HGF:=hide (HG.o.aF hFb.1 hFb.2.1).g
 clear HGK HFT UR eV eF HBV hFb hVb hVo hV hF hw1
 have S1D:=Eh (HB.o.any KD.o) (HX.o.af KD.o)
 go_enter func70,ntmps70
 go_wp2_with fail
 go_region_held3 (fun w'=>w'.cell? ⟨p,0,none⟩=some (.slice (some ⟨gd,0,none⟩) 4 cd)∧w'.cell? ⟨p,1,none⟩=some (.slice (some ⟨ga,0,none⟩) 4 ca)∧w'.cell? ⟨p,2,none⟩=some (iv c.r.o)∧w'.cell? ⟨p,3,none⟩=some (iv c.r.p)∧w'.cell? ⟨p,4,none⟩=some (iv c.r.f)∧w'.cell? ⟨p,5,none⟩=some (iv c.r.m)∧w'.cell? ⟨p,6,none⟩=some (.bool c.r.s)∧w'.cell? ⟨p,7,none⟩=some (.bool c.r.t)∧w'.cell? ⟨w.heap.size,1,none⟩=some (iv x.z)∧w'.cell? ⟨w.heap.size,2,none⟩=some (iv x.r)∧w'.cell? ⟨w.heap.size,4,none⟩=some (iv x.k)∧w'.cell? ⟨w.heap.size,6,none⟩=some (iv x.s)) (first|with_reducible exact S1D|with_reducible exact Eh aP.o dU.o|go_keep) (first|(go_at_call 105;refine (wM _ gd cd ga ca c.r x.z x.r HD.o HG.o.g HI.o.z HI.o.r0 HI.o.r1).mono ?_;rw [HQ.o];rintro e9 W_2 ⟨rfl,hk9⟩;have K2:=hide ((ae (Kept.refl 0 0 X)).trans hk9);clear hk9;have iy:=hide (HM.o.any K2.o);have aP:=hide (HB.o.any K2.o);have iE:=hide (HO.o.any K2.o);have dU:=hide (HX.o.af K2.o);have iq:=hide (HS.o.any K2.o);obtain ⟨xK,xJ,xI,uV,sN,xH,xG,xE,_⟩:=aP.o.cells;have yH:=aP.o.frozen 0;have yG:=aP.o.frozen 1;have yF:=aP.o.frozen 2;have vW:=aP.o.frozen 3;have tY:=aP.o.frozen 4;have yE:=aP.o.frozen 5;have yD:=aP.o.frozen 6;have yC:=aP.o.frozen 7;clear b0 b1 b2 b3 b4 b5 b6;obtain ⟨b0,b1,b2,b3,b4,b5,b6⟩:=aG dU.o;rw [HOP.o] at b0)|(go_at_call 109;refine st (HB3.o _) ?_))
 go_wp2_with fail
 have HBY:=hide ((aP.o.cF (F)).any (ae (Kept.refl 0 0 (W_2.setCell ⟨p,4,none⟩ (iv (F))))))
 have HOY:=hide ((iE.o.own (ak _ p 4 (iv (F)))).any (ae (Kept.refl 0 0 (W_2.setCell ⟨p,4,none⟩ (iv (F))))))
 have HSY:=hide ((iq.o.set p 4 (iv (F)) HPH.o).drew)
 have HXY:=hide ((dU.o.other p 4 (iv (F)) (by have:=HPB.o;omega)).af (ae (Kept.refl 0 0 (W_2.setCell ⟨p,4,none⟩ (iv (F))))))
 have HRY:=hide (MO.reg (r:=(c.aF (F)).r) HOY.o)
 have HMY:Hid (mid≤(W_2.setCell ⟨p,4,none⟩ (iv (F))).drew.heap.size):=hide (Nat.le_trans HMH.o HOY.o.hh)
 have HPM:=HOY.o.p0
 have HNM:Hid (¬(lo≤w.heap.size∧w.heap.size<mid)):=hide (by have:=HHB.o;have:=HMH.o;omega)
 have HNP:Hid (¬(p≤w.heap.size∧w.heap.size<p+1)):=hide (by have:=HPB.o;omega)
 have SYD:=cellsS HBY.o HXY.o
 go_region_held3 (fun w'=>w'.cell? ⟨p,0,none⟩=some (.slice (some ⟨gd,0,none⟩) 4 cd)∧w'.cell? ⟨p,1,none⟩=some (.slice (some ⟨ga,0,none⟩) 4 ca)∧w'.cell? ⟨p,2,none⟩=some (iv (c.aF (F)).r.o)∧w'.cell? ⟨p,3,none⟩=some (iv (c.aF (F)).r.p)∧w'.cell? ⟨p,4,none⟩=some (iv (c.aF (F)).r.f)∧w'.cell? ⟨p,5,none⟩=some (iv (c.aF (F)).r.m)∧w'.cell? ⟨p,6,none⟩=some (.bool (c.aF (F)).r.s)∧w'.cell? ⟨p,7,none⟩=some (.bool (c.aF (F)).r.t)∧w'.cell? ⟨w.heap.size,1,none⟩=some (iv x.z)∧w'.cell? ⟨w.heap.size,2,none⟩=some (iv x.r)) (first|with_reducible exact SYD|with_reducible exact cellsS aH.o jh.o|exact cellsS (aH.o.laid (Pl.jy (c.aF (F)).r x.z x.r V)) (Blk.kept jh.o (MB.jf _ _ _ _ _ _ _ _) HNP.o)|go_keep) (first|(go_at_call 110;refine (qK _ lo mid gd cd ga ca (c.aF (F)).r x.z x.r V HRY.o HMY.o HGF.o HI.o.r0 HI.o.r1 HVV.o).mono ?_;unfold iQ;rintro e9 W_9 ⟨rfl,hr9,hk9⟩;have jX:=hide (HOY.o.regs hr9 hk9);have aH:=hide (HBY.o.regs hk9 HPM);have jh:=hide (Blk.kept HXY.o hk9 HNM.o);have jW:=hide (HSY.o.ai hk9 (Nat.le_refl _) HMH.o);clear hr9 hk9;obtain ⟨u0,u1,u2,u3,u4,u5,u6,u7,_⟩:=aH.o.cells;have f0:=aH.o.frozen 0;have f1:=aH.o.frozen 1;have f2:=aH.o.frozen 2;have f3:=aH.o.frozen 3;have f4:=aH.o.frozen 4;have f5:=aH.o.frozen 5;have f6:=aH.o.frozen 6;have f7:=aH.o.frozen 7))
 go_wp2_with fail
 first|go_end0|refine bodyPost_ret (results_none rfl _ _ _) rfl ?_
 exact ⟨rfl,g2,by rw [E.o];exact MAt.laid aH.o jX.o,fM jW.o HPH.o _ _ _ _ _ _ _ _⟩
theorem Pl.GM.write {c:Pl.Mc} (h:Pl.GM c) {z m k a v:Int} (k0:0≤k) (k1:k≤3) (a0:0≤a) (a1:a≤65535) (hv:Pl.okv z v=true):Pl.GM (c.write z m k a v):=by
 unfold Pl.Mc.write
 cases m==0
 ·refine h.acc ?_
  simp [Pl.gq,Pl.eP,Pl.addr,hv];omega
 ·exact h.put k0 k1 hv
theorem Pl.Nj (c:Pl.Mc) (z m k a v:Int):(c.write z m k a v).r.f=c.r.f:=by
 unfold Pl.Mc.write;cases m==0<;>rfl
theorem JA (w:World) (lo mid hi p g2:Nat) (c:Pl.Mc) (x:Pl.In) (t:Int) (h:MAt w lo mid hi p g2 c) (G:Pl.GM c) (B:Pl.InB x) (ho:x.op=2) (hm:x.m=0∨x.m=2∨x.m=3∨x.m=4∨x.m=5∨x.m=6) :
  Calls prog 70 #[.pointer (some ⟨p,0,none⟩),.agg (inX x),iv t] w fun e w'=>e=.returned (.tuple #[])∧∃g3,MAt w' lo mid hi p g3 (c.doI x t)∧Since w lo hi g2 w' g3:=by
 have HG:=hide G
 have HI:=hide B
 have HOP:=hide ho
 clear ho
 have hl:=h.lo
 obtain ⟨X,hX,KA,HX,hbw,HHB,HGB,HPH,HPB,HMH,HS,HM⟩:=h.dS x
 obtain ⟨b0,b1,b2,b3,b4,b5,b6⟩:=aG HX.o
 rw [HOP.o] at b0
 clear h
 obtain ⟨gd,cd,ga,ca,g1,c1,c2,HB,HO⟩:=HM.o.op
 clear G B
 have r0:=HI.o.r0
 have r1:=HI.o.r1
 have r4:x.r<4:=by omega
 have HR4:Hid (x.r.toNat<4):=hide (by omega)
 have E:Hid (c.doI x t=((c.place x.z x.m x.k x.e).write x.z x.m x.k (c.iR x.z x.m x.k x.e) (c.low x.z x.r)).aF (Pl.aS x.z c.r.f (c.low x.z x.r))):=hide (by unfold Pl.Mc.doI Pl.Mc.from';rw [HOP.o];rfl)
 have HQ:Hid (el c.r.xs x.r.toNat%Pl.top x.z=c.low x.z x.r):=hide rfl
 have HVQ:=hide (Pl.fP HG.o HI.o.z HI.o.r0 HI.o.r1)
 obtain ⟨q,hq⟩:∃q,c.low x.z x.r=q:=⟨_,rfl⟩
 rw [hq] at HQ HVQ E
 clear hq
 have KD:=hide (ae (Kept.refl 0 0 X))
 have HD:=hide (HO.o.any KD.o).d
 have HAA:=Pl.qw (z:=x.z) (m:=x.m) HG.o HI.o.k0 HI.o.k1 HI.o.e0 HI.o.e1
 have HG1:=hide (HG.o.place (z:=x.z) (m:=x.m) (e:=x.e) HI.o.k0 HI.o.k1)
 have HFR:=Pl.xU c x.z x.m x.k x.e
 have HRD:=fun w9 h9=>tH w9 lo mid hi p g2 c x.z x.m x.k x.e h9 HG.o HI.o.k0 HI.o.k1 HI.o.e0 HI.o.e1 hm
 obtain ⟨d,hd⟩:∃d,c.place x.z x.m x.k x.e=d:=⟨_,rfl⟩
 obtain ⟨a,hA⟩:∃a,c.iR x.z x.m x.k x.e=a:=⟨_,rfl⟩
 rw [hd] at HG1 HFR
 rw [hA] at HAA
 rw [hd,hA] at E
 simp only [hd,hA] at HRD
 clear hd hA hm
 have HWF:=Pl.Nj d x.z x.m x.k a q
 have HG2:=hide (HG1.o.write (m:=x.m) HI.o.k0 HI.o.k1 HAA.1 HAA.2 HVQ.o)
 have HWR:=fun w9 g9 h9=>yg w9 lo mid hi p g9 d x.z x.m x.k x.e a q h9 HG1.o HI.o.k0 HI.o.k1 HAA.1 HAA.2 HVQ.o
 obtain ⟨y,hy⟩:∃y,d.write x.z x.m x.k a q=y:=⟨_,rfl⟩
 rw [hy] at HG2 HWF E
 simp only [hy] at HWR
 clear hy
 have EF:y.r.f=c.r.f:=HWF.trans HFR
 rw [←EF] at E
 have HF:=hide (Pl.bI HG2.o)
 clear HFR HWF EF HAA
 have S1D:=cellsS (HB.o.any KD.o) (HX.o.af KD.o)
 go_enter func70,ntmps70
 go_wp2_with fail
 go_region_held3 (fun w'=>w'.cell? ⟨p,0,none⟩=some (.slice (some ⟨gd,0,none⟩) 4 cd)∧w'.cell? ⟨p,1,none⟩=some (.slice (some ⟨ga,0,none⟩) 4 ca)∧w'.cell? ⟨p,2,none⟩=some (iv c.r.o)∧w'.cell? ⟨p,3,none⟩=some (iv c.r.p)∧w'.cell? ⟨p,4,none⟩=some (iv c.r.f)∧w'.cell? ⟨p,5,none⟩=some (iv c.r.m)∧w'.cell? ⟨p,6,none⟩=some (.bool c.r.s)∧w'.cell? ⟨p,7,none⟩=some (.bool c.r.t)∧w'.cell? ⟨w.heap.size,1,none⟩=some (iv x.z)∧w'.cell? ⟨w.heap.size,2,none⟩=some (iv x.r)) (first|with_reducible exact S1D|with_reducible exact cellsS aP.o dU.o|go_keep) (first|(go_at_call 105;refine (wM _ gd cd ga ca c.r x.z x.r HD.o HG.o.g HI.o.z HI.o.r0 HI.o.r1).mono ?_;rw [HQ.o];rintro e9 W_2 ⟨rfl,hk9⟩;have K2:=hide ((ae (Kept.refl 0 0 X)).trans hk9);clear hk9;have iy:=hide (HM.o.any K2.o);have aP:=hide (HB.o.any K2.o);have iE:=hide (HO.o.any K2.o);have dU:=hide (HX.o.af K2.o);have iq:=hide (HS.o.any K2.o);have qp:=HGB;clear b0 b1 b2 b3 b4 b5 b6;obtain ⟨b0,b1,b2,b3,b4,b5,b6⟩:=aG dU.o;rw [HOP.o] at b0))
 go_wp2_with (first|(go_at_call 106;have z9:=Xa;refine (HWR _ Yv Xa.o).mono ?_;rintro e9 W_4 ⟨rfl,Yu,hm9,hb9⟩;obtain ⟨YB,YK,YC⟩:=hb9.nx WY HHB Xb YD;clear hb9;have YE:=hide hm9;obtain ⟨YM,YT,YO,YV,YQ,YZ,YX,Xc,Y1⟩:=hm9.op;have YL:=Xc.o.k4;have YS:=Xc.o.frozen 4;clear b0 b1 b2 b3 b4 b5 b6;obtain ⟨b0,b1,b2,b3,b4,b5,b6⟩:=aG YB.o;rw [HOP.o] at b0)|(go_at_call 104;refine (HRD _ iy.o).mono ?_;rintro e9 W_3 ⟨rfl,Yv,hm9,hb9⟩;obtain ⟨WY,Xb,YD⟩:=hb9.nx dU HHB qp iq;clear hb9;have Xa:=hide hm9;obtain ⟨YN,YU,YP,YW,YR,Y0,YY,Y3,Y2⟩:=hm9.op;clear b0 b1 b2 b3 b4 b5 b6;obtain ⟨b0,b1,b2,b3,b4,b5,b6⟩:=aG WY.o;rw [HOP.o] at b0))
 go_region_with (go_at_call 107;refine st (gQ _ HVQ.o HF.o) ?_)
 all_goals
  go_wp2_with fail
  first|go_end0|refine bodyPost_ret (results_none rfl _ _ _) rfl ?_
  exact ⟨rfl,Yu,by rw [E.o];exact (YE.o.cF _).drew,(YC.o.set p 4 _ HPH.o).drew⟩
theorem FM (w:World) (lo mid hi p g2:Nat) (c:Pl.Mc) (x:Pl.In) (t:Int) (h:MAt w lo mid hi p g2 c) (G:Pl.GM c) (B:Pl.InB x) (ho:x.op=19) (hs:x.s=0) (e3:x.e≤1023) :
  Calls prog 70 #[.pointer (some ⟨p,0,none⟩),.agg (inX x),iv t] w fun e w'=>e=.returned (.tuple #[])∧∃g3,MAt w' lo mid hi p g3 (c.doI x t)∧Since w lo hi g2 w' g3:=by
 have HG:=hide G
 have HI:=hide B
 have HOP:=hide ho
 have HSU:=hide hs
 clear hs
 clear ho
 have hl:=h.lo
 obtain ⟨X,hX,KA,HX,hbw,HHB,HGB,HPH,HPB,HMH,HS,HM⟩:=h.dS x
 obtain ⟨b0,b1,b2,b3,b4,b5,b6⟩:=aG HX.o
 rw [HOP.o] at b0
 rw [HSU.o] at b6
 clear h
 obtain ⟨gd,cd,ga,ca,g1,c1,c2,HB,HO⟩:=HM.o.op
 obtain ⟨t0,t1,t2,t3,t4,t5,t6,t7⟩:=HB.o.c8
 clear G B
 have r0:=HI.o.r0
 have r1:=HI.o.r1
 have r4:x.r<4:=by omega
 have HR4:Hid (x.r.toNat<4):=hide (by omega)
 have E:Hid (c.doI x t=c.dB (Pl.bQ c.r x.e)):=hide (by unfold Pl.Mc.doI Pl.Mc.stat;rw [HOP.o,HSU.o];rfl)
 have HW:=fun w9 hr hh=>G6 w9 lo mid gd cd ga ca c.r x.e hr hh HG.o.g HI.o.e0 e3
 obtain ⟨R,hR⟩:∃R,Pl.bQ c.r x.e=R:=⟨_,rfl⟩
 rw [hR] at E
 simp only [hR,iQ] at HW
 clear hR
 have HOY:=hide (HO.o.any (ae (Kept.refl 0 0 X)))
 have HBY:=hide (HB.o.any (ae (Kept.refl 0 0 X)))
 have HSY:=hide HS.o.drew
 have HRY:=hide (MO.reg (r:=c.r) HOY.o)
 have HMY:Hid (mid≤X.drew.heap.size):=hide (Nat.le_trans HMH.o HOY.o.hh)
 have HPM:=HOY.o.p0
 go_enter func70,ntmps70
 go_wp2_with fail
 go_region_with (go_at_call 80;refine (HW _ HRY.o HMY.o).mono ?_;rintro e9 W_9 ⟨rfl,hr9,hk9⟩;have jX:=hide (HOY.o.regs hr9 hk9);have aH:=hide (HBY.o.regs hk9 HPM);have jW:=hide (HSY.o.ai hk9 (Nat.le_refl _) HMH.o);clear hr9 hk9 t0 t1 t2 t3 t4 t5 t6 t7;obtain ⟨u0,u1,u2,u3,u4,u5,u6,u7,_⟩:=aH.o.cells;have q0:=aH.o.frozen 0;have q1:=aH.o.frozen 1;have q2:=aH.o.frozen 2;have q3:=aH.o.frozen 3;have q4:=aH.o.frozen 4;have q5:=aH.o.frozen 5;have q6:=aH.o.frozen 6;have q7:=aH.o.frozen 7)
 all_goals
  go_wp2_with fail
  first|go_end0|refine bodyPost_ret (results_none rfl _ _ _) rfl ?_
  exact ⟨rfl,g2,by rw [E.o];exact MAt.laid aH.o jX.o,fM jW.o HPH.o _ _ _ _ _ _ _ _⟩
theorem Pl.Oj {m:Int} (h:Pl.kG m=true):m=2∨m=3∨m=4∨m=5∨m=6:=by simp [Pl.kG,Pl.within] at h;omega
theorem Pl.xk {m:Int} (h:Pl.fO m=true):m=0∨m=2∨m=3∨m=4∨m=5∨m=6:=by simp [Pl.fO] at h;omega
theorem Pl.GU {m:Int} (h:(m=0)∨Pl.kG m=true):m=0∨m=2∨m=3∨m=4∨m=5∨m=6:=by
 rcases h with h|h
 ·exact .inl h
 ·exact .inr (Pl.Oj h)
theorem mDo (w:World) (lo mid hi p g2:Nat) (c:Pl.Mc) (x:Pl.In) (t:Int) (h:MAt w lo mid hi p g2 c) (G:Pl.GM c) (hx:Pl.dH x=true) (t0:0≤t) (t1:t≤65535) (hfc:c.fine=true) :
  Calls prog 70 #[.pointer (some ⟨p,0,none⟩),.agg (inX x),iv t] w fun e w'=>e=.returned (.tuple #[])∧∃g3,MAt w' lo mid hi p g3 (c.doI x t)∧Since w lo hi g2 w' g3:=by
 have B:=Pl.vS hx
 simp only [Pl.dH,Bool.and_eq_true] at hx
 have hk:=hx.2
 clear hx
 have s0:=B.s0
 unfold Pl.ay at hk
 by_cases o1:x.op=1∨x.op=3∨x.op=4∨x.op=5∨x.op=6∨x.op=7∨x.op=8
 ·have e:((x.op==1)||((x.op==3)||((x.op==4)||((x.op==5)||((x.op==6)||((x.op==7)||(x.op==8)))))))=true:=by simpa using o1
  rw [e] at hk
  have h1:x.m=1→x.z=2:=by
   intro q;simp [q] at hk;exact hk.2
  rcases o1 with o|o|o|o|o|o|o
  ·exact Jy w lo mid hi p g2 c x t h G B o h1
  ·exact Jw w lo mid hi p g2 c x t h G B o h1
  ·exact Jv w lo mid hi p g2 c x t h G B o h1
  ·exact Ju w lo mid hi p g2 c x t h G B o h1
  ·exact Jt w lo mid hi p g2 c x t h G B o h1
  ·exact Js w lo mid hi p g2 c x t h G B o h1
  ·exact Jr w lo mid hi p g2 c x t h G B o h1
 ·have e:((x.op==1)||((x.op==3)||((x.op==4)||((x.op==5)||((x.op==6)||((x.op==7)||(x.op==8)))))))=false:=by
   rw [Bool.eq_false_iff];simpa using o1
  rw [e] at hk
  simp only [cond_false] at hk
  clear e o1
  by_cases o2:x.op=2
  ·simp [o2] at hk
   exact JA w lo mid hi p g2 c x t h G B o2 (Pl.GU hk.2)
  by_cases o9:x.op=9
  ·cases hf:(c.read 2 x.m x.k x.e).fine
   ·exact zJ w lo mid hi p g2 c x t h G B o9 hf
   ·exact JB w lo mid hi p g2 c x t h G B o9 hf
  by_cases o10:x.op=10
  ·simp [o10] at hk
   exact Ox w lo mid hi p g2 c x t h G B o10 (Pl.xk hk.2)
  by_cases o11:x.op=11
  ·simp [o11] at hk
   exact Ov w lo mid hi p g2 c x t h G B o11 (Pl.GU hk.2) hfc (by omega)
  by_cases o12:x.op=12
  ·exact FN w lo mid hi p g2 c x t h G B o12
  by_cases o13:x.op=13
  ·simp [o13] at hk
   exact Cb w lo mid hi p g2 c x t h G B o13 t0 t1 hfc (by omega)
  by_cases o14:x.op=14
  ·simp [o14] at hk
   exact Jz w lo mid hi p g2 c x t h G B o14 t0 t1 hfc (Pl.xk hk.2)
  by_cases o16:x.op=16
  ·exact BV w lo mid hi p g2 c x t h G B o16
  by_cases o17:x.op=17
  ·exact BU w lo mid hi p g2 c x t h G B o17
  by_cases o18:x.op=18
  ·exact Oy w lo mid hi p g2 c x t h G B o18
  by_cases o19:x.op=19
  ·simp [o19,Pl.jA] at hk
   by_cases hs:x.s=0
   ·exact FM w lo mid hi p g2 c x t h G B o19 hs (by omega)
   ·exact FK w lo mid hi p g2 c x t h G B o19 (by omega)
  by_cases o15:x.op=15
  ·simp [o15,Pl.jA] at hk
   by_cases hs:x.s=3
   ·simp [hs] at hk
    exact zI w lo mid hi p g2 c x t h G B o15 (by omega) (fun _=>by omega)
   ·simp [hs] at hk
    exact zI w lo mid hi p g2 c x t h G B o15 (by omega) (fun q=>absurd q hs)
  ·simp [o2,o9,o10,o11,o12,o13,o14,o15,o16,o17,o18,o19] at hk
end Go.Proofs.YtkkmnnhaailkcaaGreatDoor
