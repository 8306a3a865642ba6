/- Part 24 of what the last text leans on. -/
import Derived.Test.YtkkmnnhaailkcaaGreatDoorJA23
import Derived.Test.YtkkmnnhaailkcaaGreatDoorJA22
import Derived.BigQuiet
import Derived.Deep.QuietTactic
import Derived.Test.YtkkmnnhaailkcaaGreatDoorJA21
import Derived.Test.YtkkmnnhaailkcaaGreatDoorJA7
set_option maxRecDepth 100000
set_option maxHeartbeats 16000000
namespace Go.Proofs.YtkkmnnhaailkcaaGreatDoor
open Go.RowKit Go.Proofs.Tryz
set_option linter.unusedVariables false
theorem xU (w:World) (m:Int) (wfm:(Lit.int .i64 m).wf=true) :
  Calls prog 191 #[iv m] w fun r w'=>r=.returned (.tuple #[.bool (Pl.dB m&&Pl.jS m),.bool (Pl.dB m)])∧Kept 0 0 w w':=by
 cases h:Pl.dB m
 ·go_enter func191,ntmps191
  go_wp2_with (first|(go_at_call 200;refine (CP m 0 0 _ h).mono ?_;rintro r w1 ⟨rfl,k1⟩))
  go_quiet (fail)
  go_wp2_with fail
  go_ret2
  exact ⟨by simp,au k1 _⟩
 ·rcases modes h with rfl|rfl|rfl|rfl|rfl|rfl|rfl|rfl
  ·go_enter func191,ntmps191
   go_wp2_with (first|(go_at_call 200;refine (Au 0 0 _).mono ?_;rintro r w1 ⟨rfl,k1⟩))
   go_quiet (first|(go_at_call 219;exact Calls.quiet_of_same (OH _ _))|fail)
   go_wp2_with fail
   go_ret2
   exact ⟨rfl,au k1 _⟩
  ·go_enter func191,ntmps191
   go_wp2_with (first|(go_at_call 200;refine (Ar 0 0 _).mono ?_;rintro r w1 ⟨rfl,k1⟩))
   go_quiet (first|(go_at_call 219;exact Calls.quiet_of_same (OG _ _))|fail)
   go_wp2_with fail
   go_ret2
   exact ⟨rfl,au k1 _⟩
  ·go_enter func191,ntmps191
   go_wp2_with (first|(go_at_call 200;refine (Aq 0 0 _).mono ?_;rintro r w1 ⟨rfl,k1⟩))
   go_quiet (first|(go_at_call 219;exact Calls.quiet_of_same (OE _ _))|fail)
   go_wp2_with fail
   go_ret2
   exact ⟨rfl,au k1 _⟩
  ·go_enter func191,ntmps191
   go_wp2_with (first|(go_at_call 200;refine (Ap 0 0 _).mono ?_;rintro r w1 ⟨rfl,k1⟩))
   go_quiet (first|(go_at_call 219;exact Calls.quiet_of_same (OD _ _))|fail)
   go_wp2_with fail
   go_ret2
   exact ⟨rfl,au k1 _⟩
  ·go_enter func191,ntmps191
   go_wp2_with (first|(go_at_call 200;refine (Am 0 0 _).mono ?_;rintro r w1 ⟨rfl,k1⟩))
   go_quiet (first|(go_at_call 219;exact Calls.quiet_of_same (OC _ _))|fail)
   go_wp2_with fail
   go_ret2
   exact ⟨rfl,au k1 _⟩
  ·go_enter func191,ntmps191
   go_wp2_with (first|(go_at_call 200;refine (Ak 0 0 _).mono ?_;rintro r w1 ⟨rfl,k1⟩))
   go_quiet (first|(go_at_call 219;exact Calls.quiet_of_same (OB _ _))|fail)
   go_wp2_with fail
   go_ret2
   exact ⟨rfl,au k1 _⟩
  ·go_enter func191,ntmps191
   go_wp2_with (first|(go_at_call 200;refine (Aj 0 0 _).mono ?_;rintro r w1 ⟨rfl,k1⟩))
   go_quiet (first|(go_at_call 219;exact Calls.quiet_of_same (Oz _ _))|fail)
   go_wp2_with fail
   go_ret2
   exact ⟨rfl,au k1 _⟩
  ·go_enter func191,ntmps191
   go_wp2_with (first|(go_at_call 200;refine (Ai 0 0 _).mono ?_;rintro r w1 ⟨rfl,k1⟩))
   go_quiet (first|(go_at_call 219;exact Calls.quiet_of_same (Oy _ _))|fail)
   go_wp2_with fail
   go_ret2
   exact ⟨rfl,au k1 _⟩
theorem VM (m:Int) (w:World):Calls prog 238 #[iv m] w fun e w'=>e=.returned (.bool (Pl.kD m))∧w'=w:=by
 by_cases h0:2≤m
 ·by_cases h1:m≤6
  ·go_enter func238,ntmps238
   go_wp2
   go_ret
   exact ⟨rB (by simp [Pl.kD,Pl.within,h0,h1]),rfl⟩
  ·go_enter func238,ntmps238
   go_wp2
   go_ret
   exact ⟨rB (by simp [Pl.kD,Pl.within,h0];omega),rfl⟩
 ·go_enter func238,ntmps238
  go_wp2
  go_ret
  exact ⟨rB (by simp [Pl.kD,Pl.within];omega),rfl⟩
theorem DX (m:Int) (w:World):Calls prog 215 #[iv m] w fun e w'=>e=.returned (.bool ((m==0)||Pl.kD m))∧w'=w:=by
 cases h0:(m==0)
 ·go_enter func215,ntmps215
  go_wp2_with (go_at_call 238;refine (VM _ _).mono ?_;rintro e w' ⟨rfl,hw⟩;have hw2:=hw.symm;clear hw;subst hw2)
  go_ret
  exact ⟨rB (by simp),rfl⟩
 ·go_enter func215,ntmps215
  go_wp2
  go_ret
  exact ⟨rB (by simp),rfl⟩
theorem DC (m:Int) (w:World):Calls prog 216 #[iv m] w fun e w'=>e=.returned (.bool (Pl.fH m))∧w'=w:=by
 unfold Pl.fH
 cases h0:(m==2)<;>cases h1:(m==5)<;>cases h2:(m==6)<;>(
  go_enter func216,ntmps216
  go_wp2
  go_ret
  exact ⟨rB (by simp),rfl⟩)
theorem Vg (v:Int):Pl.okv 1 v=Pl.within v 0 255:=by
 unfold Pl.okv Pl.within Pl.top
 rw [Bool.eq_iff_iff];simp;omega
theorem Ov (v:Int) (w:World) (lo : -9223372036854775808≤v) (hi:v≤9223372036854775807) :
  Calls prog 129 #[iv v] w fun e w'=>e=.returned (.bool (Pl.within v 0 255))∧w'=w:=by
 go_enter func129,ntmps129
 go_wp2_with (go_at_call 128;refine (dE _ _ _ lo hi).mono ?_;rintro e w' ⟨rfl,hw⟩;have hw2:=hw.symm;clear hw;subst hw2;rw [Vg])
 go_ret
 exact ⟨rfl,rfl⟩
def Pl.lng (m:Int):Bool:=Pl.dB m&&Pl.jS m
theorem xR (w:World) (op z r m k e s:Int) (wfm:(Lit.int .i64 m).wf=true):Calls prog 161 #[.agg (inA op z r m k e s)] w fun r' w'=>r'=.returned (.bool (Pl.lng m))∧Kept 0 0 w w':=by
 have K0:=hide (kept_alloc w (.cells (inA op z r m k e s) 109))
 go_enter func161,ntmps161
 go_wp2_with (go_at_call 191;refine (xU _ m wfm).mono ?_;rintro e' w2 ⟨rfl,k2⟩)
 go_ret
 exact ⟨rfl,K0.o.trans k2⟩
theorem lengthOf (w:World) (op z r m k e s:Int) (wfm:(Lit.int .i64 m).wf=true):Calls prog 120 #[.agg (inA op z r m k e s)] w fun r' w'=>r'=.returned (iv (if Pl.lng m=true then 2 else 1))∧Kept 0 0 w w':=by
 have K0:=hide (kept_alloc w (.cells (inA op z r m k e s) 109))
 cases h:Pl.lng m
 ·go_enter func120,ntmps120
  go_wp2_with (go_at_call 161;refine (xR _ op z r m k e s wfm).mono ?_;rintro e' w2 ⟨rfl,k2⟩;rw [h])
  go_ret
  exact ⟨rfl,K0.o.trans k2⟩
 ·go_enter func120,ntmps120
  go_wp2_with (go_at_call 161;refine (xR _ op z r m k e s wfm).mono ?_;rintro e' w2 ⟨rfl,k2⟩;rw [h])
  go_ret
  exact ⟨rfl,K0.o.trans k2⟩
theorem tY (w:World) (op z r m k e s:Int):Calls prog 239 #[.agg (inA op z r m k e s)] w fun r' w'=>r'=.returned (.bool ((r==0)&&Pl.jv m e))∧Kept 0 0 w w':=by
 have K0:=hide (kept_alloc w (.cells (inA op z r m k e s) 109))
 unfold Pl.jv
 cases h0:(r==0)<;>cases h1:(m==7)<;>cases h2:decide (e≤1023)<;>(
  go_enter func239,ntmps239
  go_wp2
  go_ret
  exact ⟨rB (by simp),K0.o⟩)
theorem zN (w:World) (op z r m k e s:Int) (wfe:(Lit.int .i64 e).wf=true):Calls prog 189 #[.agg (inA op z r m k e s)] w fun r' w'=>r'=.returned (.bool (Pl.Ku ⟨op,z,r,m,k,e,s⟩))∧Kept 0 0 w w':=by
 have K0:=hide (kept_alloc w (.cells (inA op z r m k e s) 109))
 obtain ⟨lo,hi⟩:=wfB wfe
 unfold Pl.Ku
 simp only
 cases h0:(m != 7)<;>cases h1:(z != 1)<;>cases h2:Pl.within e 0 255<;>(
  go_enter func189,ntmps189
  go_wp2_with (go_at_call 129;refine (Ov _ _ lo hi).mono ?_;rintro e w' ⟨rfl,hw⟩;have hw2:=hw.symm;clear hw;subst hw2;rw [h2])
  go_ret
  exact ⟨rB (by simp at h0 h1;simp [h0,h1]),K0.o⟩)
theorem oJ (a:Int):∃q:Int,wrap64 a=a+18446744073709551616*q:=by
 refine ⟨-((a+9223372036854775808)/18446744073709551616),?_⟩
 unfold wrap64
 omega
theorem firstWord (w:World) (op z r m k e s:Int):Calls prog 122 #[.agg (inA op z r m k e s)] w fun r' w'=>r'=.returned (iv (Pl.oK ⟨op,z,r,m,k,e,s⟩%65536))∧Kept 0 0 w w':=by
 have K0:=hide (kept_alloc w (.cells (inA op z r m k e s) 109))
 go_enter func122,ntmps122
 go_wp2_with (go_at_call 117;refine (gY _ _).mono ?_;rintro e' w2 ⟨rfl,hw⟩;have hw2:=hw.symm;clear hw;subst hw2)
 go_ret
 refine ⟨rI ?_,K0.o⟩
 unfold Pl.oK
 simp only
 obtain ⟨q1,e1⟩:=oJ (op*2048)
 obtain ⟨q2,e2⟩:=oJ (z-1)
 obtain ⟨q3,e3⟩:=oJ (wrap64 (z-1)*1024)
 obtain ⟨q4,e4⟩:=oJ (wrap64 (op*2048)+wrap64 (wrap64 (z-1)*1024))
 obtain ⟨q5,e5⟩:=oJ (r*256)
 obtain ⟨q6,e6⟩:=oJ (wrap64 (wrap64 (op*2048)+wrap64 (wrap64 (z-1)*1024))+wrap64 (r*256))
 obtain ⟨q7,e7⟩:=oJ (m*32)
 obtain ⟨q8,e8⟩:=oJ (wrap64 (wrap64 (wrap64 (op*2048)+wrap64 (wrap64 (z-1)*1024))+wrap64 (r*256))+wrap64 (m*32))
 obtain ⟨q9,e9⟩:=oJ (k*8)
 obtain ⟨qa,ea⟩:=oJ (wrap64 (wrap64 (wrap64 (wrap64 (op*2048)+wrap64 (wrap64 (z-1)*1024))+wrap64 (r*256))+wrap64 (m*32))+wrap64 (k*8))
 obtain ⟨qb,eb⟩:=oJ (wrap64 (wrap64 (wrap64 (wrap64 (wrap64 (op*2048)+wrap64 (wrap64 (z-1)*1024))+wrap64 (r*256))+wrap64 (m*32))+wrap64 (k*8))+s)
 omega
theorem qU {n:Int} (h0 : -1≤n) (h1:n≤65536):(Lit.int .i64 n).wf=true:=by
 have e1:IntKind.i64.min = -9223372036854775808:=rfl
 have e2:IntKind.i64.max=9223372036854775807:=rfl
 simp [Lit.wf]
 omega
theorem Blk.c7 {w:World} {b:Nat} {v0 v1 v2 v3 v4 v5 v6:Value} {t:TypeId} (h:Blk w b #[v0,v1,v2,v3,v4,v5,v6] t):w.cell? ⟨b,0,none⟩=some v0∧w.cell? ⟨b,1,none⟩=some v1∧w.cell? ⟨b,2,none⟩=some v2∧w.cell? ⟨b,3,none⟩=some v3∧w.cell? ⟨b,4,none⟩=some v4∧w.cell? ⟨b,5,none⟩=some v5∧w.cell? ⟨b,6,none⟩=some v6:=
 ⟨h.cell (i:=0) rfl,h.cell (i:=1) rfl,h.cell (i:=2) rfl,h.cell (i:=3) rfl,h.cell (i:=4) rfl,h.cell (i:=5) rfl,h.cell (i:=6) rfl⟩
theorem insOf (w:World) (n v:Int) (h0:0≤n) (h1:n≤65535):Calls prog 159 #[iv n,iv v] w fun r' w'=>r'=.returned (.agg #[iv (Pl.decode n v).op,iv (Pl.decode n v).z,iv (Pl.decode n v).r,iv (Pl.decode n v).m,iv (Pl.decode n v).k,iv (Pl.decode n v).e,iv (Pl.decode n v).s])∧Kept 0 0 w w':=by
 rw [Pl.vT]
 simp only [Pl.decode]
 have t1:n.tdiv 2048=n/2048:=Int.tdiv_eq_ediv_of_nonneg h0
 have t2:n.tdiv 1024=n/1024:=Int.tdiv_eq_ediv_of_nonneg h0
 have t3:n.tdiv 256=n/256:=Int.tdiv_eq_ediv_of_nonneg h0
 have t4:n.tdiv 32=n/32:=Int.tdiv_eq_ediv_of_nonneg h0
 have t5:n.tdiv 8=n/8:=Int.tdiv_eq_ediv_of_nonneg h0
 have t6:n.tmod 8=n%8:=Int.tmod_eq_emod_of_nonneg h0
 have wfm:(Lit.int .i64 (n/32%8)).wf=true:=qU (by omega) (by omega)
 have hM:Pl.lng (n/32%8)=Pl.jS (n/32%8):=by
  unfold Pl.lng
  rw [show Pl.dB (n/32%8)=true from by simp [Pl.dB,Pl.within];omega]
  rfl
 have HM:=hide hM
 have KA:=hide (ah (kept_alloc w (.cells (inA 0 0 0 0 0 0 0) 109)) (.cells (inA (n/2048) (n/1024%2+1) (n/256%4) (n/32%8) (n/8%4) 0 (n%8)) 109))
 have B1:=hide ((Blk.new w (inA 0 0 0 0 0 0 0) 109).alloc (.cells (inA (n/2048) (n/1024%2+1) (n/256%4) (n/32%8) (n/8%4) 0 (n%8)) 109))
 have b2:=Blk.new (w.alloc (.cells (inA 0 0 0 0 0 0 0) 109)) (inA (n/2048) (n/1024%2+1) (n/256%4) (n/32%8) (n/8%4) 0 (n%8)) 109
 simp only [World.size_alloc] at b2
 have B2:=hide b2
 clear b2 hM
 cases hx:Pl.jS (n/32%8)
 ·go_enter func159,ntmps159
  go_wp2_with fail
  refine (xR _ _ _ _ _ _ _ _ wfm).mono ?_
  rintro r2 w2 ⟨rfl,k2⟩
  rw [HM.o,hx]
  have K2:=hide (KA.o.trans k2)
  have C2:=hide (B2.o.af k2)
  have C1:=hide (B1.o.af k2)
  obtain ⟨p0,p1,p2,p3,p4,p5,p6⟩:=C2.o.c7
  obtain ⟨q0,q1,q2,q3,q4,q5,q6⟩:=C1.o.c7
  have fq0:=C1.o.frozen 0;have fq1:=C1.o.frozen 1;have fq2:=C1.o.frozen 2;have fq3:=C1.o.frozen 3;have fq4:=C1.o.frozen 4;have fq5:=C1.o.frozen 5;have fq6:=C1.o.frozen 6
  have fp5:=C2.o.frozen 5
  clear k2 t1 t2 t3 t4 t5 t6
  go_wp2_with fail
  refine bodyPost_ret (v:=.agg (inA (n/2048) (n/1024%2+1) (n/256%4) (n/32%8) (n/8%4) 0 (n%8))) ?_ rfl ⟨rfl,?_⟩
  ·rw [aj rfl];go_simp
  ·exact (ag (ag (ag (ag (ag (ag (ag K2.o _ _ _ (.inr (by omega))) _ _ _ (.inr (by omega))) _ _ _ (.inr (by omega))) _ _ _ (.inr (by omega))) _ _ _ (.inr (by omega))) _ _ _ (.inr (by omega))) _ _ _ (.inr (by omega)))
 ·go_enter func159,ntmps159
  go_wp2_with fail
  refine (xR _ _ _ _ _ _ _ _ wfm).mono ?_
  rintro r2 w2 ⟨rfl,k2⟩
  rw [HM.o,hx]
  have K2:=hide (KA.o.trans k2)
  have C2:=hide (B2.o.af k2)
  have C1:=hide (B1.o.af k2)
  obtain ⟨p0,p1,p2,p3,p4,p5,p6⟩:=C2.o.c7
  obtain ⟨q0,q1,q2,q3,q4,q5,q6⟩:=C1.o.c7
  have fq0:=C1.o.frozen 0;have fq1:=C1.o.frozen 1;have fq2:=C1.o.frozen 2;have fq3:=C1.o.frozen 3;have fq4:=C1.o.frozen 4;have fq5:=C1.o.frozen 5;have fq6:=C1.o.frozen 6
  have fp5:=C2.o.frozen 5
  clear k2 t1 t2 t3 t4 t5 t6
  go_wp2_with fail
  refine bodyPost_ret (v:=.agg (inA (n/2048) (n/1024%2+1) (n/256%4) (n/32%8) (n/8%4) v (n%8))) ?_ rfl ⟨rfl,?_⟩
  ·rw [aj rfl];go_simp
  ·exact (ag (ag (ag (ag (ag (ag (ag (ag K2.o _ _ _ (.inr (by omega))) _ _ _ (.inr (by omega))) _ _ _ (.inr (by omega))) _ _ _ (.inr (by omega))) _ _ _ (.inr (by omega))) _ _ _ (.inr (by omega))) _ _ _ (.inr (by omega))) _ _ _ (.inr (by omega)))
theorem XY (a b:Pl.In) (w:World):(binOp .eql 109 (.agg #[iv a.op,iv a.z,iv a.r,iv a.m,iv a.k,iv a.e,iv a.s]) (.agg #[iv b.op,iv b.z,iv b.r,iv b.m,iv b.k,iv b.e,iv b.s])).run prog w=.ok (.bool (Pl.uX a b)) w:=by
 obtain ⟨a1,a2,a3,a4,a5,a6,a7⟩:=a
 obtain ⟨b1,b2,b3,b4,b5,b6,b7⟩:=b
 unfold Pl.uX
 go_simp
 by_cases h1:a1=b1
 ·by_cases h2:a2=b2
  ·by_cases h3:a3=b3
   ·by_cases h4:a4=b4
    ·by_cases h5:a5=b5
     ·by_cases h6:a6=b6
      ·by_cases h7:a7=b7
       ·simp [h1,h2,h3,h4,h5,h6,h7]
       ·simp [h1,h2,h3,h4,h5,h6,h7]
      ·simp [h1,h2,h3,h4,h5,h6]
     ·simp [h1,h2,h3,h4,h5]
    ·simp [h1,h2,h3,h4]
   ·simp [h1,h2,h3]
  ·simp [h1,h2]
 ·simp [h1]
theorem eqO (m k e:Int) (w:World):(binOp .eql 107 (.agg #[iv m,iv k,iv e]) (.agg #[iv 0,iv 0,iv 0])).run prog w=.ok (.bool (Pl.iw m k e)) w:=by
 unfold Pl.iw
 go_simp
 by_cases h1:m=0<;>by_cases h2:k=0<;>by_cases h3:e=0<;>simp [h1,h2,h3]
theorem qB (w:World) (op z r m k e s:Int):Calls prog 187 #[.agg #[iv op,iv z,iv r,iv m,iv k,iv e,iv s]] w fun r' w'=>r'=.returned (.bool (Pl.fits ⟨op,z,r,m,k,e,s⟩))∧Kept 0 0 w w':=by
 have K0:=hide (kept_alloc w (.cells #[iv op,iv z,iv r,iv m,iv k,iv e,iv s] 109))
 have B0:=hide (Blk.new w #[iv op,iv z,iv r,iv m,iv k,iv e,iv s] 109)
 obtain ⟨N,hN⟩:∃N,Pl.oK ⟨op,z,r,m,k,e,s⟩%65536=N:=⟨_,rfl⟩
 have n0:Hid (0≤N):=hide (by omega)
 have n1:Hid (N≤65535):=hide (by omega)
 obtain ⟨D,hD⟩:∃D,Pl.decode N e=D:=⟨_,rfl⟩
 obtain ⟨F,hF⟩:∃F,Pl.uX D ⟨op,z,r,m,k,e,s⟩=F:=⟨_,rfl⟩
 have EF:Hid (Pl.fits ⟨op,z,r,m,k,e,s⟩=F):=hide (by unfold Pl.fits;rw [hN,hD,hF])
 have HN:=hide hN
 have HD:=hide hD
 obtain ⟨RD,hR⟩:∃RD:Array Value,RD=#[iv D.op,iv D.z,iv D.r,iv D.m,iv D.k,iv D.e,iv D.s]:=⟨_,rfl⟩
 have HE:Hid (∀w:World,(binOp .eql 109 (.agg RD) (.agg #[iv op,iv z,iv r,iv m,iv k,iv e,iv s])).run prog w=.ok (.bool F) w):=hide (fun w=>by rw [←hF,hR];exact XY D ⟨op,z,r,m,k,e,s⟩ w)
 have HR:=hide hR
 clear hN hD hF hR
 rw [EF.o]
 go_enter func187,ntmps187
 go_wp2_with fail
 refine iE (fun A0 l A W=>FR [3,4,5,6,7,8,9,10,2] A0 A∧Once l 0 (A.tmps[3]? = some (.agg #[iv op,iv z,iv r,iv m,iv k,iv e,iv s]))∧Once l 1 (A.tmps[4]? = some (iv N))∧Once l 2 (A.tmps[5]? = some (.pointer (some ⟨w.heap.size,3,none⟩)))∧Once l 3 (A.tmps[6]? = some (.pointer (some ⟨w.heap.size,5,none⟩)))∧Once l 4 (A.tmps[7]? = some (iv e))∧Once l 5 (A.tmps[8]? = some (.agg RD))∧Once l 6 (A.tmps[9]? = some (.agg #[iv op,iv z,iv r,iv m,iv k,iv e,iv s]))∧Once l 7 (A.tmps[10]? = some (.bool F))∧Once l 8 (A.tmps[2]? = some (.bool F))∧Kept 0 0 (w.alloc (.cells #[iv op,iv z,iv r,iv m,iv k,iv e,iv s] 109)) W) (by kernel_rfl) (by kernel_rfl) ?start ?fin ?step
 case start=>exact ⟨FR.refl _ _,az (by decide),az (by decide),az (by decide),az (by decide),az (by decide),az (by decide),az (by decide),az (by decide),az (by decide),ae (Kept.refl _ _ _)⟩
 case fin=>
  intro l A W h hl
  obtain ⟨hFR,o0,o1,o2,o3,o4,o5,o6,o7,o8,hK⟩:=h
  have g8:=o8 (hl 8 (by decide))
  have QQ:=hide hK
  have hc9:=hFR.chain
  simp only [List.foldl] at hc9
  rw [nP g8] at hc9
  clear hl hK hFR g8 o0 o1 o2 o3 o4 o5 o6 o7 o8
  generalize A.tmps.getD 3 undef=s3 at hc9
  generalize A.tmps.getD 4 undef=s4 at hc9
  generalize A.tmps.getD 5 undef=s5 at hc9
  generalize A.tmps.getD 6 undef=s6 at hc9
  generalize A.tmps.getD 7 undef=s7 at hc9
  generalize A.tmps.getD 8 undef=s8 at hc9
  generalize A.tmps.getD 9 undef=s9 at hc9
  generalize A.tmps.getD 10 undef=s10 at hc9
  subst hc9
  go_simp
  go_wp2_with fail
  go_ret
  exact ⟨rfl,K0.o.trans QQ.o⟩
 case step=>
  intro l A W i hI hm
  obtain ⟨hFR,o0,o1,o2,o3,o4,o5,o6,o7,o8,hK⟩:=hI
  obtain ⟨hi1,hi2⟩:=jL hm
  have hsz:Hid (10<A.tmps.size):=hide (by rw [hFR.size];simp)
  have m1:A.tmps[1]? = some (.pointer (some ⟨w.heap.size,0,none⟩)):=(hFR.o 1 (by decide)).trans rfl
  rcases i with _|_|_|_|_|_|_|_|_|i
  ·have BL:=hide (B0.o.af hK)
   obtain ⟨x0,x1,x2,x3,x4,x5,x6⟩:=BL.o.c7
   refine wpOp_step rfl (fun KK hK2 => ?_)
   go_simp
   exact hK2 (A.put (some 3) (.agg #[iv op,iv z,iv r,iv m,iv k,iv e,iv s])) _ ⟨hFR.put (by decide) _,.now (put_eq (by have hz:=hsz.o;omega)),o1.q,o2.q,o3.q,o4.q,o5.q,o6.q,o7.q,o8.q,hK⟩
  ·have e0:=o0 (aA hm 0 (by kernel_rfl))
   refine wpOp_step rfl (fun KK hK2 => ?_)
   go_simp
   refine (firstWord W op z r m k e s).mono ?_
   rw [HN.o]
   rintro r9 y ⟨rfl,kd⟩
   go_simp
   exact hK2 (A.put (some 4) (iv N)) _ ⟨hFR.put (by decide) _,o0.q,.now (put_eq (by have hz:=hsz.o;omega)),o2.q,o3.q,o4.q,o5.q,o6.q,o7.q,o8.q,(hK.trans kd)⟩
  ·refine wpOp_step rfl (fun KK hK2 => ?_)
   go_simp
   exact hK2 (A.put (some 5) (.pointer (some ⟨w.heap.size,3,none⟩))) _ ⟨hFR.put (by decide) _,o0.q,o1.q,.now (put_eq (by have hz:=hsz.o;omega)),o3.q,o4.q,o5.q,o6.q,o7.q,o8.q,hK⟩
  ·have e2:=o2 (aA hm 2 (by kernel_rfl))
   refine wpOp_step rfl (fun KK hK2 => ?_)
   go_simp
   exact hK2 (A.put (some 6) (.pointer (some ⟨w.heap.size,5,none⟩))) _ ⟨hFR.put (by decide) _,o0.q,o1.q,o2.q,.now (put_eq (by have hz:=hsz.o;omega)),o4.q,o5.q,o6.q,o7.q,o8.q,hK⟩
  ·have e3:=o3 (aA hm 3 (by kernel_rfl))
   have BL:=hide (B0.o.af hK)
   obtain ⟨x0,x1,x2,x3,x4,x5,x6⟩:=BL.o.c7
   refine wpOp_step rfl (fun KK hK2 => ?_)
   go_simp
   exact hK2 (A.put (some 7) (iv e)) _ ⟨hFR.put (by decide) _,o0.q,o1.q,o2.q,o3.q,.now (put_eq (by have hz:=hsz.o;omega)),o5.q,o6.q,o7.q,o8.q,hK⟩
  ·have e1:=o1 (aA hm 1 (by kernel_rfl))
   have e4:=o4 (aA hm 4 (by kernel_rfl))
   refine wpOp_step rfl (fun KK hK2 => ?_)
   go_simp
   refine (insOf W N e n0.o n1.o).mono ?_
   rw [HD.o,←HR.o]
   rintro r9 y ⟨rfl,kd⟩
   go_simp
   exact hK2 (A.put (some 8) (.agg RD)) _ ⟨hFR.put (by decide) _,o0.q,o1.q,o2.q,o3.q,o4.q,.now (put_eq (by have hz:=hsz.o;omega)),o6.q,o7.q,o8.q,(hK.trans kd)⟩
  ·have BL:=hide (B0.o.af hK)
   obtain ⟨x0,x1,x2,x3,x4,x5,x6⟩:=BL.o.c7
   refine wpOp_step rfl (fun KK hK2 => ?_)
   go_simp
   exact hK2 (A.put (some 9) (.agg #[iv op,iv z,iv r,iv m,iv k,iv e,iv s])) _ ⟨hFR.put (by decide) _,o0.q,o1.q,o2.q,o3.q,o4.q,o5.q,.now (put_eq (by have hz:=hsz.o;omega)),o7.q,o8.q,hK⟩
  ·have e5:=o5 (aA hm 5 (by kernel_rfl))
   have e6:=o6 (aA hm 6 (by kernel_rfl))
   have hc:=HE.o
   refine wpOp_step rfl (fun KK hK2 => ?_)
   go_simp
   exact hK2 (A.put (some 10) (.bool F)) _ ⟨hFR.put (by decide) _,o0.q,o1.q,o2.q,o3.q,o4.q,o5.q,o6.q,.now (put_eq (by have hz:=hsz.o;omega)),o8.q,hK⟩
  ·have e7:=o7 (aA hm 7 (by kernel_rfl))
   refine wpOp_step rfl (fun KK hK2 => ?_)
   go_simp
   exact hK2 (A.put (some 2) (.bool F)) _ ⟨hFR.put (by decide) _,o0.q,o1.q,o2.q,o3.q,o4.q,o5.q,o6.q,o7.q,.now (put_eq (by have hz:=hsz.o;omega)),hK⟩
  ·simp at hi1
   omega
theorem BJ (w:World) (op z r m k e s:Int):Calls prog 218 #[.agg #[iv op,iv z,iv r,iv m,iv k,iv e,iv s]] w fun r' w'=>r'=.returned (.bool (((s==0)&&((r==0)&&Pl.jv m e))||((s==1)&&Pl.iw m k e)))∧Kept 0 0 w w':=by
 have K0:=hide (kept_alloc w (.cells #[iv op,iv z,iv r,iv m,iv k,iv e,iv s] 109))
 have hq:=eqO m k e
 by_cases h0:s=0
 ·subst h0
  go_enter func218,ntmps218
  go_wp2_with (go_at_call 239;refine (tY _ op z r m k e 0).mono ?_;rintro e9 w2 ⟨rfl,k2⟩)
  go_ret
  exact ⟨rB (by simp),K0.o.trans k2⟩
 ·by_cases h1:s=1
  ·subst h1
   go_enter func218,ntmps218
   go_wp2_with fail
   go_ret
   exact ⟨rB (by simp),K0.o⟩
  ·go_enter func218,ntmps218
   go_wp2_with fail
   go_ret
   exact ⟨rB (by simp [h0,h1]),K0.o⟩
theorem Kt (w : World) (op z r m k e s : Int) (h0 : 0 ≤ s) : Calls prog 217 #[.agg #[iv op, iv z, iv r, iv m, iv k, iv e, iv s]] w fun r' w' => r' = .returned (.bool (bif s == 3 then (r == 0) && Pl.jv m e else (decide (s ≤ 6) && Pl.iw m k e) && (decide (3 < s) || (r == 0)))) ∧ Kept 0 0 w w' := by
  have K0 := hide (kept_alloc w (.cells #[iv op, iv z, iv r, iv m, iv k, iv e, iv s] 109))
  have hq := eqO m k e
  by_cases h7 : 7 ≤ s
  · go_enter func217, ntmps217
    go_wp2_with fail
    go_ret
    exact ⟨rB (by have a1 : (s == 3) = false := by simp; omega
                  have a2 : decide (s ≤ 6) = false := by simp; omega
                  rw [a1, a2]; rfl), K0.o⟩
  · have hs : s = 0 ∨ s = 1 ∨ s = 2 ∨ s = 3 ∨ s = 4 ∨ s = 5 ∨ s = 6 := by omega
    rcases hs with rfl | rfl | rfl | rfl | rfl | rfl | rfl
    · cases hr : (r == 0) <;> (
        go_enter func217, ntmps217
        go_wp2_with fail
        go_ret
        exact ⟨rB (by simp), K0.o⟩)
    · cases hr : (r == 0) <;> (
        go_enter func217, ntmps217
        go_wp2_with fail
        go_ret
        exact ⟨rB (by simp), K0.o⟩)
    · cases hr : (r == 0) <;> (
        go_enter func217, ntmps217
        go_wp2_with fail
        go_ret
        exact ⟨rB (by simp), K0.o⟩)
    · go_enter func217, ntmps217
      go_wp2_with (go_at_call 239; refine (tY _ op z r m k e 3).mono ?_; rintro e9 w2 ⟨rfl, k2⟩)
      go_ret
      exact ⟨rB (by simp), K0.o.trans k2⟩
    · go_enter func217, ntmps217
      go_wp2_with fail
      go_ret
      exact ⟨rB (by simp), K0.o⟩
    · go_enter func217, ntmps217
      go_wp2_with fail
      go_ret
      exact ⟨rB (by simp), K0.o⟩
    · go_enter func217, ntmps217
      go_wp2_with fail
      go_ret
      exact ⟨rB (by simp), K0.o⟩
end Go.Proofs.YtkkmnnhaailkcaaGreatDoor
