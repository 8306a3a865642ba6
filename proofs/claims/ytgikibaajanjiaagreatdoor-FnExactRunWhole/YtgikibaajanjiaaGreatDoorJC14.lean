/- Part 14 of what the last text leans on. -/
import Derived.Test.YtgikibaajanjiaaGreatDoorJC13
import Derived.Test.YtgikibaajanjiaaGreatDoorJC4
import Derived.BigQuiet
import Derived.Deep.QuietTactic
set_option maxRecDepth 100000
set_option maxHeartbeats 16000000
namespace Go.Proofs.YtgikibaajanjiaaGreatDoor
open Pl
open Go.RowKit Go.Proofs.Tryz
set_option linter.unusedVariables false
theorem nN (a:Int):∃q:Int,wrap64 a=a+18446744073709551616*q:=by
 refine ⟨-((a+9223372036854775808)/18446744073709551616),?_⟩;unfold wrap64;omega
theorem firstWord (w:World) (op z r m k e s:Int):Calls prog 167 #[.agg (inA op z r m k e s)] w fun r' w'=>r'=.returned (iv (nO ⟨op,z,r,m,k,e,s⟩%65536))∧Kept 0 0 w w':=by
 have K0:=aab (kept_alloc w (.cells (inA op z r m k e s) 48));go_enter func167,ntmps167;go_wp2_with (go_at_call 178;refine (gX _ _).mono ?_;rintro e' w2 ⟨rfl,hw⟩;have hw2:=hw.symm;clear hw;subst hw2);go_ret;refine ⟨rI ?_,K0.o⟩;unfold nO;simp only;obtain ⟨q1,e1⟩:=nN (op*2048);obtain ⟨q2,e2⟩:=nN (z-1);obtain ⟨q3,e3⟩:=nN (wrap64 (z-1)*1024);obtain ⟨q4,e4⟩:=nN (wrap64 (op*2048)+wrap64 (wrap64 (z-1)*1024));obtain ⟨q5,e5⟩:=nN (r*256);obtain ⟨q6,e6⟩:=nN (wrap64 (wrap64 (op*2048)+wrap64 (wrap64 (z-1)*1024))+wrap64 (r*256));obtain ⟨q7,e7⟩:=nN (m*32);obtain ⟨q8,e8⟩:=nN (wrap64 (wrap64 (wrap64 (op*2048)+wrap64 (wrap64 (z-1)*1024))+wrap64 (r*256))+wrap64 (m*32));obtain ⟨q9,e9⟩:=nN (k*8);obtain ⟨qa,ea⟩:=nN (wrap64 (wrap64 (wrap64 (wrap64 (op*2048)+wrap64 (wrap64 (z-1)*1024))+wrap64 (r*256))+wrap64 (m*32))+wrap64 (k*8));obtain ⟨qb,eb⟩:=nN (wrap64 (wrap64 (wrap64 (wrap64 (wrap64 (op*2048)+wrap64 (wrap64 (z-1)*1024))+wrap64 (r*256))+wrap64 (m*32))+wrap64 (k*8))+s);omega
theorem qK {n:Int} (h0 : -1<=n) (h1:n<=65536):(Lit.int .i64 n).wf=true:=by
 have e1:IntKind.i64.min = -9223372036854775808:=rfl;have e2:IntKind.i64.max=9223372036854775807:=rfl;simp [Lit.wf];omega
theorem Blk.c7 {w:World} {b:Nat} {v0 v1 v2 v3 v4 v5 v6:Value} {t:TypeId} (h:Blk w b #[v0,v1,v2,v3,v4,v5,v6] t):w.cell? (aac b 0)=some v0∧w.cell? (aac b 1)=some v1∧w.cell? (aac b 2)=some v2∧w.cell? (aac b 3)=some v3∧w.cell? (aac b 4)=some v4∧w.cell? (aac b 5)=some v5∧w.cell? (aac b 6)=some v6:=
 ⟨h.cell (i:=0) rfl,h.cell (i:=1) rfl,h.cell (i:=2) rfl,h.cell (i:=3) rfl,h.cell (i:=4) rfl,h.cell (i:=5) rfl,h.cell (i:=6) rfl⟩
theorem insOf (w:World) (n v:Int) (h0:0<=n) (h1:n<=65535):Calls prog 166 #[iv n,iv v] w fun r' w'=>r'=.returned (.agg #[iv (Pl.decode n v).op,iv (Pl.decode n v).z,iv (Pl.decode n v).r,iv (Pl.decode n v).m,iv (Pl.decode n v).k,iv (Pl.decode n v).e,iv (Pl.decode n v).s])∧Kept 0 0 w w':=by
 rw [vX];simp only [Pl.decode];have t1:n.tdiv 2048=n/2048:=Int.tdiv_eq_ediv_of_nonneg h0;have t2:n.tdiv 1024=n/1024:=Int.tdiv_eq_ediv_of_nonneg h0;have t3:n.tdiv 256=n/256:=Int.tdiv_eq_ediv_of_nonneg h0;have t4:n.tdiv 32=n/32:=Int.tdiv_eq_ediv_of_nonneg h0;have t5:n.tdiv 8=n/8:=Int.tdiv_eq_ediv_of_nonneg h0;have t6:n.tmod 8=n%8:=Int.tmod_eq_emod_of_nonneg h0;have wfm:(Lit.int .i64 (n/32%8)).wf=true:=qK (by omega) (by omega)
 have hM:lng (n/32%8)=jL (n/32%8):=by
  unfold lng;rw [show bI (n/32%8)=true from by simp [bI,within];omega];rfl
 have HM:=aab hM;have KA:=aab (ag (kept_alloc w (.cells (inA 0 0 0 0 0 0 0) 48)) (.cells (inA (n/2048) (n/1024%2+1) (n/256%4) (n/32%8) (n/8%4) 0 (n%8)) 48));have B1:=aab ((Blk.new w (inA 0 0 0 0 0 0 0) 48).alloc (.cells (inA (n/2048) (n/1024%2+1) (n/256%4) (n/32%8) (n/8%4) 0 (n%8)) 48));have b2:=Blk.new (w.alloc (.cells (inA 0 0 0 0 0 0 0) 48)) (inA (n/2048) (n/1024%2+1) (n/256%4) (n/32%8) (n/8%4) 0 (n%8)) 48;simp only [World.size_alloc] at b2;have B2:=aab b2;clear b2 hM;cases hx:jL (n/32%8)
 ·go_enter func166,ntmps166;go_wp2_with fail;refine (xZ _ _ _ _ _ _ _ _ wfm).mono ?_;rintro r2 w2 ⟨rfl,k2⟩;rw [HM.o,hx];have K2:=aab (KA.o.trans k2);have C2:=aab (B2.o.ae k2);have C1:=aab (B1.o.ae k2);obtain ⟨p0,p1,p2,p3,p4,p5,p6⟩:=C2.o.c7;obtain ⟨q0,q1,q2,q3,q4,q5,q6⟩:=C1.o.c7;have fq0:=C1.o.frozen 0;have fq1:=C1.o.frozen 1;have fq2:=C1.o.frozen 2;have fq3:=C1.o.frozen 3;have fq4:=C1.o.frozen 4;have fq5:=C1.o.frozen 5;have fq6:=C1.o.frozen 6;have fp5:=C2.o.frozen 5;clear k2 t1 t2 t3 t4 t5 t6;go_wp2_with fail;refine bodyPost_ret (v:=.agg (inA (n/2048) (n/1024%2+1) (n/256%4) (n/32%8) (n/8%4) 0 (n%8))) ?_ rfl ⟨rfl,?_⟩
  ·rw [aj rfl];go_simp
  ·exact (af (af (af (af (af (af (af K2.o _ _ _ (.inr (by omega))) _ _ _ (.inr (by omega))) _ _ _ (.inr (by omega))) _ _ _ (.inr (by omega))) _ _ _ (.inr (by omega))) _ _ _ (.inr (by omega))) _ _ _ (.inr (by omega)))
 ·go_enter func166,ntmps166;go_wp2_with fail;refine (xZ _ _ _ _ _ _ _ _ wfm).mono ?_;rintro r2 w2 ⟨rfl,k2⟩;rw [HM.o,hx];have K2:=aab (KA.o.trans k2);have C2:=aab (B2.o.ae k2);have C1:=aab (B1.o.ae k2);obtain ⟨p0,p1,p2,p3,p4,p5,p6⟩:=C2.o.c7;obtain ⟨q0,q1,q2,q3,q4,q5,q6⟩:=C1.o.c7;have fq0:=C1.o.frozen 0;have fq1:=C1.o.frozen 1;have fq2:=C1.o.frozen 2;have fq3:=C1.o.frozen 3;have fq4:=C1.o.frozen 4;have fq5:=C1.o.frozen 5;have fq6:=C1.o.frozen 6;have fp5:=C2.o.frozen 5;clear k2 t1 t2 t3 t4 t5 t6;go_wp2_with fail;refine bodyPost_ret (v:=.agg (inA (n/2048) (n/1024%2+1) (n/256%4) (n/32%8) (n/8%4) v (n%8))) ?_ rfl ⟨rfl,?_⟩
  ·rw [aj rfl];go_simp
  ·exact (af (af (af (af (af (af (af (af K2.o _ _ _ (.inr (by omega))) _ _ _ (.inr (by omega))) _ _ _ (.inr (by omega))) _ _ _ (.inr (by omega))) _ _ _ (.inr (by omega))) _ _ _ (.inr (by omega))) _ _ _ (.inr (by omega))) _ _ _ (.inr (by omega)))
theorem Zq (a b:Pl.In) (w:World):(binOp .eql 48 (.agg #[iv a.op,iv a.z,iv a.r,iv a.m,iv a.k,iv a.e,iv a.s]) (.agg #[iv b.op,iv b.z,iv b.r,iv b.m,iv b.k,iv b.e,iv b.s])).run prog w=.ok (.bool (ve a b)) w:=by
 obtain ⟨a1,a2,a3,a4,a5,a6,a7⟩:=a;obtain ⟨b1,b2,b3,b4,b5,b6,b7⟩:=b;unfold ve;go_simp;by_cases h1:a1=b1
 ·by_cases h2:a2=b2
  ·by_cases h3:a3=b3
   ·by_cases h4:a4=b4
    ·by_cases h5:a5=b5
     ·by_cases h6:a6=b6
      ·by_cases h7:a7=b7
       ·simp [h1,h2,h3,h4,h5,h6,h7]
       ·simp [h1,h2,h3,h4,h5,h6,h7]
      ·simp [h1,h2,h3,h4,h5,h6]
     ·simp [h1,h2,h3,h4,h5]
    ·simp [h1,h2,h3,h4]
   ·simp [h1,h2,h3]
  ·simp [h1,h2]
 ·simp [h1]
theorem eqO (m k e:Int) (w:World):(binOp .eql 46 (.agg #[iv m,iv k,iv e]) (.agg #[iv 0,iv 0,iv 0])).run prog w=.ok (.bool (ig m k e)) w:=by
 unfold ig;go_simp;by_cases h1:m=0<;>by_cases h2:k=0<;>by_cases h3:e=0<;>simp [h1,h2,h3]
theorem pV (w:World) (op z r m k e s:Int):Calls prog 116 #[.agg #[iv op,iv z,iv r,iv m,iv k,iv e,iv s]] w fun r' w'=>r'=.returned (.bool (Pl.fits ⟨op,z,r,m,k,e,s⟩))∧Kept 0 0 w w':=by
 have K0:=aab (kept_alloc w (.cells #[iv op,iv z,iv r,iv m,iv k,iv e,iv s] 48));have B0:=aab (Blk.new w #[iv op,iv z,iv r,iv m,iv k,iv e,iv s] 48);obtain ⟨N,hN⟩:∃N,nO ⟨op,z,r,m,k,e,s⟩%65536=N:=⟨_,rfl⟩
 have n0:Hid (0<=N):=aab (by omega);have n1:Hid (N<=65535):=aab (by omega);obtain ⟨D,hD⟩:∃D,Pl.decode N e=D:=⟨_,rfl⟩
 obtain ⟨F,hF⟩:∃F,ve D ⟨op,z,r,m,k,e,s⟩=F:=⟨_,rfl⟩
 have EF:Hid (Pl.fits ⟨op,z,r,m,k,e,s⟩=F):=aab (by unfold Pl.fits;rw [hN,hD,hF]);have HN:=aab hN;have HD:=aab hD;obtain ⟨RD,hR⟩:∃RD:Array Value,RD=#[iv D.op,iv D.z,iv D.r,iv D.m,iv D.k,iv D.e,iv D.s]:=⟨_,rfl⟩
 have HE:Hid (∀w:World,(binOp .eql 48 (.agg RD) (.agg #[iv op,iv z,iv r,iv m,iv k,iv e,iv s])).run prog w=.ok (.bool F) w):=aab (fun w=>by rw [<-hF,hR];exact Zq D ⟨op,z,r,m,k,e,s⟩ w);have HR:=aab hR;clear hN hD hF hR;rw [EF.o];go_enter func116,ntmps116;go_wp2_with fail;refine iq (fun A0 l A W=>FR [3,4,5,6,7,8,9,10,2] A0 A∧Once l 0 (A.tmps[3]? = some (.agg #[iv op,iv z,iv r,iv m,iv k,iv e,iv s]))∧Once l 1 (A.tmps[4]? = some (iv N))∧Once l 2 (A.tmps[5]? = some (.pointer (some (aac w.heap.size 3))))∧Once l 3 (A.tmps[6]? = some (.pointer (some (aac w.heap.size 5))))∧Once l 4 (A.tmps[7]? = some (iv e))∧Once l 5 (A.tmps[8]? = some (.agg RD))∧Once l 6 (A.tmps[9]? = some (.agg #[iv op,iv z,iv r,iv m,iv k,iv e,iv s]))∧Once l 7 (A.tmps[10]? = some (.bool F))∧Once l 8 (A.tmps[2]? = some (.bool F))∧Kept 0 0 (w.alloc (.cells #[iv op,iv z,iv r,iv m,iv k,iv e,iv s] 48)) W) (by kernel_rfl) (by kernel_rfl) ?start ?fin ?step
 case start=>exact ⟨FR.refl _ _,ay (by decide),ay (by decide),ay (by decide),ay (by decide),ay (by decide),ay (by decide),ay (by decide),ay (by decide),ay (by decide),ah (Kept.refl _ _ _)⟩
 case fin=>
  intro l A W h hl;obtain ⟨hFR,o0,o1,o2,o3,o4,o5,o6,o7,o8,hK⟩:=h;have g8:=o8 (hl 8 (by decide));have QQ:=aab hK;have hc9:=hFR.chain;simp only [List.foldl] at hc9;rw [mY g8] at hc9;clear hl hK hFR g8 o0 o1 o2 o3 o4 o5 o6 o7 o8;generalize A.tmps.getD 3 undef=s3 at hc9;generalize A.tmps.getD 4 undef=s4 at hc9;generalize A.tmps.getD 5 undef=s5 at hc9;generalize A.tmps.getD 6 undef=s6 at hc9;generalize A.tmps.getD 7 undef=s7 at hc9;generalize A.tmps.getD 8 undef=s8 at hc9;generalize A.tmps.getD 9 undef=s9 at hc9;generalize A.tmps.getD 10 undef=s10 at hc9;subst hc9;go_simp;go_wp2_with fail;go_ret;exact ⟨rfl,K0.o.trans QQ.o⟩
 case step=>
  intro l A W i hI hm;obtain ⟨hFR,o0,o1,o2,o3,o4,o5,o6,o7,o8,hK⟩:=hI;obtain ⟨hi1,hi2⟩:=jG hm;have hsz:Hid (10<A.tmps.size):=aab (by rw [hFR.size];simp);have m1:A.tmps[1]? = some (.pointer (some (aac w.heap.size 0))):=(hFR.o 1 (by decide)).trans rfl;rcases i with _|_|_|_|_|_|_|_|_|i
  ·have BL:=aab (B0.o.ae hK);obtain ⟨x0,x1,x2,x3,x4,x5,x6⟩:=BL.o.c7;refine wpOp_step rfl (fun KK hK2 => ?_);go_simp;exact hK2 (A.put (some 3) (.agg #[iv op,iv z,iv r,iv m,iv k,iv e,iv s])) _ ⟨hFR.put (by decide) _,.now (put_eq (by have hz:=hsz.o;omega)),o1.q,o2.q,o3.q,o4.q,o5.q,o6.q,o7.q,o8.q,hK⟩
  ·have e0:=o0 (az hm 0 (by kernel_rfl));refine wpOp_step rfl (fun KK hK2 => ?_);go_simp;refine (firstWord W op z r m k e s).mono ?_;rw [HN.o];rintro r9 y ⟨rfl,kd⟩;go_simp;exact hK2 (A.put (some 4) (iv N)) _ ⟨hFR.put (by decide) _,o0.q,.now (put_eq (by have hz:=hsz.o;omega)),o2.q,o3.q,o4.q,o5.q,o6.q,o7.q,o8.q,(hK.trans kd)⟩
  ·refine wpOp_step rfl (fun KK hK2 => ?_);go_simp;exact hK2 (A.put (some 5) (.pointer (some (aac w.heap.size 3)))) _ ⟨hFR.put (by decide) _,o0.q,o1.q,.now (put_eq (by have hz:=hsz.o;omega)),o3.q,o4.q,o5.q,o6.q,o7.q,o8.q,hK⟩
  ·have e2:=o2 (az hm 2 (by kernel_rfl));refine wpOp_step rfl (fun KK hK2 => ?_);go_simp;exact hK2 (A.put (some 6) (.pointer (some (aac w.heap.size 5)))) _ ⟨hFR.put (by decide) _,o0.q,o1.q,o2.q,.now (put_eq (by have hz:=hsz.o;omega)),o4.q,o5.q,o6.q,o7.q,o8.q,hK⟩
  ·have e3:=o3 (az hm 3 (by kernel_rfl));have BL:=aab (B0.o.ae hK);obtain ⟨x0,x1,x2,x3,x4,x5,x6⟩:=BL.o.c7;refine wpOp_step rfl (fun KK hK2 => ?_);go_simp;exact hK2 (A.put (some 7) (iv e)) _ ⟨hFR.put (by decide) _,o0.q,o1.q,o2.q,o3.q,.now (put_eq (by have hz:=hsz.o;omega)),o5.q,o6.q,o7.q,o8.q,hK⟩
  ·have e1:=o1 (az hm 1 (by kernel_rfl));have e4:=o4 (az hm 4 (by kernel_rfl));refine wpOp_step rfl (fun KK hK2 => ?_);go_simp;refine (insOf W N e n0.o n1.o).mono ?_;rw [HD.o,<-HR.o];rintro r9 y ⟨rfl,kd⟩;go_simp;exact hK2 (A.put (some 8) (.agg RD)) _ ⟨hFR.put (by decide) _,o0.q,o1.q,o2.q,o3.q,o4.q,.now (put_eq (by have hz:=hsz.o;omega)),o6.q,o7.q,o8.q,(hK.trans kd)⟩
  ·have BL:=aab (B0.o.ae hK);obtain ⟨x0,x1,x2,x3,x4,x5,x6⟩:=BL.o.c7;refine wpOp_step rfl (fun KK hK2 => ?_);go_simp;exact hK2 (A.put (some 9) (.agg #[iv op,iv z,iv r,iv m,iv k,iv e,iv s])) _ ⟨hFR.put (by decide) _,o0.q,o1.q,o2.q,o3.q,o4.q,o5.q,.now (put_eq (by have hz:=hsz.o;omega)),o7.q,o8.q,hK⟩
  ·have e5:=o5 (az hm 5 (by kernel_rfl));have e6:=o6 (az hm 6 (by kernel_rfl));have hc:=HE.o;refine wpOp_step rfl (fun KK hK2 => ?_);go_simp;exact hK2 (A.put (some 10) (.bool F)) _ ⟨hFR.put (by decide) _,o0.q,o1.q,o2.q,o3.q,o4.q,o5.q,o6.q,.now (put_eq (by have hz:=hsz.o;omega)),o8.q,hK⟩
  ·have e7:=o7 (az hm 7 (by kernel_rfl));refine wpOp_step rfl (fun KK hK2 => ?_);go_simp;exact hK2 (A.put (some 2) (.bool F)) _ ⟨hFR.put (by decide) _,o0.q,o1.q,o2.q,o3.q,o4.q,o5.q,o6.q,o7.q,.now (put_eq (by have hz:=hsz.o;omega)),hK⟩
  ·simp at hi1
   omega
theorem BV (w:World) (op z r m k e s:Int):Calls prog 174 #[.agg #[iv op,iv z,iv r,iv m,iv k,iv e,iv s]] w fun r' w'=>r'=.returned (.bool (((s==0)&&((r==0)&&ji m e))||((s==1)&&ig m k e)))∧Kept 0 0 w w':=by
 have K0:=aab (kept_alloc w (.cells #[iv op,iv z,iv r,iv m,iv k,iv e,iv s] 48));have hq:=eqO m k e;by_cases h0:s=0
 ·subst h0;go_enter func174,ntmps174;go_wp2_with (go_at_call 222;refine (tV _ op z r m k e 0).mono ?_;rintro e9 w2 ⟨rfl,k2⟩);go_ret;exact ⟨rB (by simp),K0.o.trans k2⟩
 ·by_cases h1:s=1
  ·subst h1;go_enter func174,ntmps174;go_wp2_with fail;go_ret;exact ⟨rB (by simp),K0.o⟩
  ·go_enter func174,ntmps174;go_wp2_with fail;go_ret;exact ⟨rB (by simp [h0,h1]),K0.o⟩
theorem KJ (w : World) (op z r m k e s : Int) (h0 : 0 <= s) : Calls prog 173 #[.agg #[iv op, iv z, iv r, iv m, iv k, iv e, iv s]] w fun r' w' => r' = .returned (.bool (bif s == 3 then (r == 0) && ji m e else (decide (s <= 6) && ig m k e) && (decide (3 < s) || (r == 0)))) ∧ Kept 0 0 w w' := by
  have K0 := aab (kept_alloc w (.cells #[iv op, iv z, iv r, iv m, iv k, iv e, iv s] 48));have hq := eqO m k e;by_cases h7 : 7 <= s
  · go_enter func173, ntmps173
    go_wp2_with fail;go_ret
    exact ⟨rB (by have a1 : (s == 3) = false := by simp; omega
                  have a2 : decide (s <= 6) = false := by simp; omega
                  rw [a1, a2]; rfl), K0.o⟩
  · have hs : s = 0 ∨ s = 1 ∨ s = 2 ∨ s = 3 ∨ s = 4 ∨ s = 5 ∨ s = 6 := by omega
    rcases hs with rfl | rfl | rfl | rfl | rfl | rfl | rfl
    · cases hr : (r == 0) <;> (
        go_enter func173, ntmps173;go_wp2_with fail;go_ret
        exact ⟨rB (by simp), K0.o⟩)
    · cases hr : (r == 0) <;> (
        go_enter func173, ntmps173;go_wp2_with fail;go_ret
        exact ⟨rB (by simp), K0.o⟩)
    · cases hr : (r == 0) <;> (
        go_enter func173, ntmps173;go_wp2_with fail;go_ret
        exact ⟨rB (by simp), K0.o⟩)
    · go_enter func173, ntmps173
      go_wp2_with (go_at_call 222; refine (tV _ op z r m k e 3).mono ?_; rintro e9 w2 ⟨rfl, k2⟩);go_ret;exact ⟨rB (by simp), K0.o.trans k2⟩
    · go_enter func173, ntmps173
      go_wp2_with fail;go_ret;exact ⟨rB (by simp), K0.o⟩
    · go_enter func173, ntmps173
      go_wp2_with fail;go_ret;exact ⟨rB (by simp), K0.o⟩
    · go_enter func173, ntmps173
      go_wp2_with fail;go_ret;exact ⟨rB (by simp), K0.o⟩
theorem PU (w:World) (z r m k e s:Int) (h0:0<=s):Calls prog 119 #[.agg (inA 1 z r m k e s)] w fun r' w'=>r'=.returned (.bool (ax ⟨1,z,r,m,k,e,s⟩))∧Kept 0 0 w w':=by
 have K0:=aab (kept_alloc w (.cells (inA 1 z r m k e s) 48));rw [show ax ⟨1,z,r,m,k,e,s⟩=((s==0)&&((z==2) || !(m==1))) from rfl];cases a0:(s==0)
 ·go_enter func119,ntmps119;go_wp2_with fail;go_quiet (fail);go_wp2_with fail;go_ret;exact ⟨rB (by simp),au K0.o _⟩
 ·cases a1:(z==2)
  ·go_enter func119,ntmps119;go_wp2_with fail;go_quiet (fail);go_wp2_with fail;go_ret;exact ⟨rB (by simp [bne]),au K0.o _⟩
  ·go_enter func119,ntmps119;go_wp2_with fail;go_quiet (fail);go_wp2_with fail;go_ret;exact ⟨rB (by simp),au K0.o _⟩
theorem PT (w:World) (z r m k e s:Int) (h0:0<=s):Calls prog 119 #[.agg (inA 2 z r m k e s)] w fun r' w'=>r'=.returned (.bool (ax ⟨2,z,r,m,k,e,s⟩))∧Kept 0 0 w w':=by
 have K0:=aab (kept_alloc w (.cells (inA 2 z r m k e s) 48));rw [show ax ⟨2,z,r,m,k,e,s⟩=((s==0)&&((m==0)||jZ m)) from rfl];cases a0:(s==0)
 ·go_enter func119,ntmps119;go_wp2_with fail;go_quiet (fail);go_wp2_with fail;go_ret;exact ⟨rB (by simp),au K0.o _⟩
 ·go_enter func119,ntmps119;go_wp2_with fail;go_quiet (fail);go_wp2_with (go_at_call 171;refine st (Ei _ _) ?_);go_ret;exact ⟨rB (by simp),au K0.o _⟩
theorem PS (w:World) (z r m k e s:Int) (h0:0<=s):Calls prog 119 #[.agg (inA 3 z r m k e s)] w fun r' w'=>r'=.returned (.bool (ax ⟨3,z,r,m,k,e,s⟩))∧Kept 0 0 w w':=by
 have K0:=aab (kept_alloc w (.cells (inA 3 z r m k e s) 48));rw [show ax ⟨3,z,r,m,k,e,s⟩=((s==0)&&((z==2) || !(m==1))) from rfl];cases a0:(s==0)
 ·go_enter func119,ntmps119;go_wp2_with fail;go_quiet (fail);go_wp2_with fail;go_ret;exact ⟨rB (by simp),au K0.o _⟩
 ·cases a1:(z==2)
  ·go_enter func119,ntmps119;go_wp2_with fail;go_quiet (fail);go_wp2_with fail;go_ret;exact ⟨rB (by simp [bne]),au K0.o _⟩
  ·go_enter func119,ntmps119;go_wp2_with fail;go_quiet (fail);go_wp2_with fail;go_ret;exact ⟨rB (by simp),au K0.o _⟩
theorem PQ (w:World) (z r m k e s:Int) (h0:0<=s):Calls prog 119 #[.agg (inA 4 z r m k e s)] w fun r' w'=>r'=.returned (.bool (ax ⟨4,z,r,m,k,e,s⟩))∧Kept 0 0 w w':=by
 have K0:=aab (kept_alloc w (.cells (inA 4 z r m k e s) 48));rw [show ax ⟨4,z,r,m,k,e,s⟩=((s==0)&&((z==2) || !(m==1))) from rfl];cases a0:(s==0)
 ·go_enter func119,ntmps119;go_wp2_with fail;go_quiet (fail);go_wp2_with fail;go_ret;exact ⟨rB (by simp),au K0.o _⟩
 ·cases a1:(z==2)
  ·go_enter func119,ntmps119;go_wp2_with fail;go_quiet (fail);go_wp2_with fail;go_ret;exact ⟨rB (by simp [bne]),au K0.o _⟩
  ·go_enter func119,ntmps119;go_wp2_with fail;go_quiet (fail);go_wp2_with fail;go_ret;exact ⟨rB (by simp),au K0.o _⟩
theorem PP (w:World) (z r m k e s:Int) (h0:0<=s):Calls prog 119 #[.agg (inA 5 z r m k e s)] w fun r' w'=>r'=.returned (.bool (ax ⟨5,z,r,m,k,e,s⟩))∧Kept 0 0 w w':=by
 have K0:=aab (kept_alloc w (.cells (inA 5 z r m k e s) 48));rw [show ax ⟨5,z,r,m,k,e,s⟩=((s==0)&&((z==2) || !(m==1))) from rfl];cases a0:(s==0)
 ·go_enter func119,ntmps119;go_wp2_with fail;go_quiet (fail);go_wp2_with fail;go_ret;exact ⟨rB (by simp),au K0.o _⟩
 ·cases a1:(z==2)
  ·go_enter func119,ntmps119;go_wp2_with fail;go_quiet (fail);go_wp2_with fail;go_ret;exact ⟨rB (by simp [bne]),au K0.o _⟩
  ·go_enter func119,ntmps119;go_wp2_with fail;go_quiet (fail);go_wp2_with fail;go_ret;exact ⟨rB (by simp),au K0.o _⟩
theorem PO (w:World) (z r m k e s:Int) (h0:0<=s):Calls prog 119 #[.agg (inA 6 z r m k e s)] w fun r' w'=>r'=.returned (.bool (ax ⟨6,z,r,m,k,e,s⟩))∧Kept 0 0 w w':=by
 have K0:=aab (kept_alloc w (.cells (inA 6 z r m k e s) 48));rw [show ax ⟨6,z,r,m,k,e,s⟩=((s==0)&&((z==2) || !(m==1))) from rfl];cases a0:(s==0)
 ·go_enter func119,ntmps119;go_wp2_with fail;go_quiet (fail);go_wp2_with fail;go_ret;exact ⟨rB (by simp),au K0.o _⟩
 ·cases a1:(z==2)
  ·go_enter func119,ntmps119;go_wp2_with fail;go_quiet (fail);go_wp2_with fail;go_ret;exact ⟨rB (by simp [bne]),au K0.o _⟩
  ·go_enter func119,ntmps119;go_wp2_with fail;go_quiet (fail);go_wp2_with fail;go_ret;exact ⟨rB (by simp),au K0.o _⟩
theorem PN (w:World) (z r m k e s:Int) (h0:0<=s):Calls prog 119 #[.agg (inA 7 z r m k e s)] w fun r' w'=>r'=.returned (.bool (ax ⟨7,z,r,m,k,e,s⟩))∧Kept 0 0 w w':=by
 have K0:=aab (kept_alloc w (.cells (inA 7 z r m k e s) 48));rw [show ax ⟨7,z,r,m,k,e,s⟩=((s==0)&&((z==2) || !(m==1))) from rfl];cases a0:(s==0)
 ·go_enter func119,ntmps119;go_wp2_with fail;go_quiet (fail);go_wp2_with fail;go_ret;exact ⟨rB (by simp),au K0.o _⟩
 ·cases a1:(z==2)
  ·go_enter func119,ntmps119;go_wp2_with fail;go_quiet (fail);go_wp2_with fail;go_ret;exact ⟨rB (by simp [bne]),au K0.o _⟩
  ·go_enter func119,ntmps119;go_wp2_with fail;go_quiet (fail);go_wp2_with fail;go_ret;exact ⟨rB (by simp),au K0.o _⟩
theorem PM (w:World) (z r m k e s:Int) (h0:0<=s):Calls prog 119 #[.agg (inA 8 z r m k e s)] w fun r' w'=>r'=.returned (.bool (ax ⟨8,z,r,m,k,e,s⟩))∧Kept 0 0 w w':=by
 have K0:=aab (kept_alloc w (.cells (inA 8 z r m k e s) 48));rw [show ax ⟨8,z,r,m,k,e,s⟩=((s==0)&&((z==2) || !(m==1))) from rfl];cases a0:(s==0)
 ·go_enter func119,ntmps119;go_wp2_with fail;go_quiet (fail);go_wp2_with fail;go_ret;exact ⟨rB (by simp),au K0.o _⟩
 ·cases a1:(z==2)
  ·go_enter func119,ntmps119;go_wp2_with fail;go_quiet (fail);go_wp2_with fail;go_ret;exact ⟨rB (by simp [bne]),au K0.o _⟩
  ·go_enter func119,ntmps119;go_wp2_with fail;go_quiet (fail);go_wp2_with fail;go_ret;exact ⟨rB (by simp),au K0.o _⟩
theorem PL (w:World) (z r m k e s:Int) (h0:0<=s):Calls prog 119 #[.agg (inA 9 z r m k e s)] w fun r' w'=>r'=.returned (.bool (ax ⟨9,z,r,m,k,e,s⟩))∧Kept 0 0 w w':=by
 have K0:=aab (kept_alloc w (.cells (inA 9 z r m k e s) 48));rw [show ax ⟨9,z,r,m,k,e,s⟩=((z==2)&&(s==0)) from rfl];cases a0:(z==2)
 ·go_enter func119,ntmps119;go_wp2_with fail;go_quiet (fail);go_wp2_with fail;go_ret;exact ⟨rB (by simp),au K0.o _⟩
 ·go_enter func119,ntmps119;go_wp2_with fail;go_quiet (fail);go_wp2_with fail;go_ret;exact ⟨rB (by simp),au K0.o _⟩
theorem KI (w:World) (z r m k e s:Int) (h0:0<=s):Calls prog 119 #[.agg (inA 10 z r m k e s)] w fun r' w'=>r'=.returned (.bool (ax ⟨10,z,r,m,k,e,s⟩))∧Kept 0 0 w w':=by
 have K0:=aab (kept_alloc w (.cells (inA 10 z r m k e s) 48));rw [show ax ⟨10,z,r,m,k,e,s⟩=(((z==2)&&(s==0))&&fD m) from rfl];cases a0:(z==2)
 ·go_enter func119,ntmps119;go_wp2_with fail;go_quiet (fail);go_wp2_with fail;go_ret;exact ⟨rB (by simp),au K0.o _⟩
 ·cases a1:(s==0)
  ·go_enter func119,ntmps119;go_wp2_with fail;go_quiet (fail);go_wp2_with fail;go_ret;exact ⟨rB (by simp),au K0.o _⟩
  ·go_enter func119,ntmps119;go_wp2_with fail;go_quiet (fail);go_wp2_with (go_at_call 172;refine st (DU _ _) ?_);go_ret;exact ⟨rB (by simp),au K0.o _⟩
theorem KH (w:World) (z r m k e s:Int) (h0:0<=s):Calls prog 119 #[.agg (inA 11 z r m k e s)] w fun r' w'=>r'=.returned (.bool (ax ⟨11,z,r,m,k,e,s⟩))∧Kept 0 0 w w':=by
 have K0:=aab (kept_alloc w (.cells (inA 11 z r m k e s) 48));rw [show ax ⟨11,z,r,m,k,e,s⟩=(((r==0)&&decide (s<=3))&&((m==0)||jZ m)) from rfl];cases a0:(r==0)
 ·go_enter func119,ntmps119;go_wp2_with fail;go_quiet (fail);go_wp2_with fail;go_ret;exact ⟨rB (by simp),au K0.o _⟩
 ·cases a1:decide (s<=3)
  ·go_enter func119,ntmps119;go_wp2_with fail;go_quiet (fail);go_wp2_with fail;go_ret;exact ⟨rB (by simp),au K0.o _⟩
  ·go_enter func119,ntmps119;go_wp2_with fail;go_quiet (fail);go_wp2_with (go_at_call 171;refine st (Ei _ _) ?_);go_ret;exact ⟨rB (by simp),au K0.o _⟩
theorem KG (w:World) (z r m k e s:Int) (h0:0<=s):Calls prog 119 #[.agg (inA 12 z r m k e s)] w fun r' w'=>r'=.returned (.bool (ax ⟨12,z,r,m,k,e,s⟩))∧Kept 0 0 w w':=by
 have K0:=aab (kept_alloc w (.cells (inA 12 z r m k e s) 48));rw [show ax ⟨12,z,r,m,k,e,s⟩=((m==0)) from rfl];go_enter func119,ntmps119;go_wp2_with fail;go_quiet (fail);go_wp2_with fail;go_ret;exact ⟨rB (by simp),au K0.o _⟩
theorem KF (w:World) (z r m k e s:Int) (h0:0<=s):Calls prog 119 #[.agg (inA 13 z r m k e s)] w fun r' w'=>r'=.returned (.bool (ax ⟨13,z,r,m,k,e,s⟩))∧Kept 0 0 w w':=by
 have K0:=aab (kept_alloc w (.cells (inA 13 z r m k e s) 48));rw [show ax ⟨13,z,r,m,k,e,s⟩=(((z==2)&&decide (r<=1))&&(m==7)) from rfl];cases a0:(z==2)
 ·go_enter func119,ntmps119;go_wp2_with fail;go_quiet (fail);go_wp2_with fail;go_ret;exact ⟨rB (by simp),au K0.o _⟩
 ·cases a1:decide (r<=1)
  ·go_enter func119,ntmps119;go_wp2_with fail;go_quiet (fail);go_wp2_with fail;go_ret;exact ⟨rB (by simp),au K0.o _⟩
  ·go_enter func119,ntmps119;go_wp2_with fail;go_quiet (fail);go_wp2_with fail;go_ret;exact ⟨rB (by simp),au K0.o _⟩
theorem KC (w:World) (z r m k e s:Int) (h0:0<=s):Calls prog 119 #[.agg (inA 14 z r m k e s)] w fun r' w'=>r'=.returned (.bool (ax ⟨14,z,r,m,k,e,s⟩))∧Kept 0 0 w w':=by
 have K0:=aab (kept_alloc w (.cells (inA 14 z r m k e s) 48));rw [show ax ⟨14,z,r,m,k,e,s⟩=((((z==2)&&(r==0))&&decide (s<=1))&&fD m) from rfl];cases a0:(z==2)
 ·go_enter func119,ntmps119;go_wp2_with fail;go_quiet (fail);go_wp2_with fail;go_ret;exact ⟨rB (by simp),au K0.o _⟩
 ·cases a1:(r==0)
  ·go_enter func119,ntmps119;go_wp2_with fail;go_quiet (fail);go_wp2_with fail;go_ret;exact ⟨rB (by simp),au K0.o _⟩
  ·cases a2:decide (s<=1)
   ·go_enter func119,ntmps119;go_wp2_with fail;go_quiet (fail);go_wp2_with fail;go_ret;exact ⟨rB (by simp),au K0.o _⟩
   ·go_enter func119,ntmps119;go_wp2_with fail;go_quiet (fail);go_wp2_with (go_at_call 172;refine st (DU _ _) ?_);go_ret;exact ⟨rB (by simp),au K0.o _⟩
theorem Kz (w:World) (z r m k e s:Int) (h0:0<=s):Calls prog 119 #[.agg (inA 15 z r m k e s)] w fun r' w'=>r'=.returned (.bool (ax ⟨15,z,r,m,k,e,s⟩))∧Kept 0 0 w w':=by
 have K0:=aab (kept_alloc w (.cells (inA 15 z r m k e s) 48));rw [show ax ⟨15,z,r,m,k,e,s⟩=(bif s==3 then ((z==2)&&(r==0))&&ji m e else (((z==2)&&decide (s<=6))&&ig m k e)&&(decide (3<s)||(r==0))) from rfl];cases a0:(z==2)
 ·go_enter func119,ntmps119;go_wp2_with fail;go_quiet (fail);go_wp2_with fail;go_ret;exact ⟨rB (by cases hs:(s==3)<;>simp),au K0.o _⟩
 ·go_enter func119,ntmps119;go_wp2_with fail;go_quiet (fail);go_wp2_with (go_at_call 173;refine (KJ _ 15 z r m k e s h0).mono ?_;rintro e9 w2 ⟨rfl,k2⟩);go_ret;exact ⟨rB (by cases hs:(s==3)<;>simp),(au K0.o _).trans k2⟩
theorem Ky (w:World) (z r m k e s:Int) (h0:0<=s):Calls prog 119 #[.agg (inA 16 z r m k e s)] w fun r' w'=>r'=.returned (.bool (ax ⟨16,z,r,m,k,e,s⟩))∧Kept 0 0 w w':=by
 have K0:=aab (kept_alloc w (.cells (inA 16 z r m k e s) 48));rw [show ax ⟨16,z,r,m,k,e,s⟩=(((z==2)&&(s==0)) && !(m==1)) from rfl];cases a0:(z==2)
 ·go_enter func119,ntmps119;go_wp2_with fail;go_quiet (fail);go_wp2_with fail;go_ret;exact ⟨rB (by simp),au K0.o _⟩
 ·cases a1:(s==0)
  ·go_enter func119,ntmps119;go_wp2_with fail;go_quiet (fail);go_wp2_with fail;go_ret;exact ⟨rB (by simp),au K0.o _⟩
  ·go_enter func119,ntmps119;go_wp2_with fail;go_quiet (fail);go_wp2_with fail;go_ret;exact ⟨rB (by simp [bne]),au K0.o _⟩
theorem Kw (w:World) (z r m k e s:Int) (h0:0<=s):Calls prog 119 #[.agg (inA 17 z r m k e s)] w fun r' w'=>r'=.returned (.bool (ax ⟨17,z,r,m,k,e,s⟩))∧Kept 0 0 w w':=by
 have K0:=aab (kept_alloc w (.cells (inA 17 z r m k e s) 48));rw [show ax ⟨17,z,r,m,k,e,s⟩=(((z==2)&&(s==0)) && !(m==1)) from rfl];cases a0:(z==2)
 ·go_enter func119,ntmps119;go_wp2_with fail;go_quiet (fail);go_wp2_with fail;go_ret;exact ⟨rB (by simp),au K0.o _⟩
 ·cases a1:(s==0)
  ·go_enter func119,ntmps119;go_wp2_with fail;go_quiet (fail);go_wp2_with fail;go_ret;exact ⟨rB (by simp),au K0.o _⟩
  ·go_enter func119,ntmps119;go_wp2_with fail;go_quiet (fail);go_wp2_with fail;go_ret;exact ⟨rB (by simp [bne]),au K0.o _⟩
theorem Kv (w:World) (z r m k e s:Int) (h0:0<=s):Calls prog 119 #[.agg (inA 18 z r m k e s)] w fun r' w'=>r'=.returned (.bool (ax ⟨18,z,r,m,k,e,s⟩))∧Kept 0 0 w w':=by
 have K0:=aab (kept_alloc w (.cells (inA 18 z r m k e s) 48));rw [show ax ⟨18,z,r,m,k,e,s⟩=(((!(z==2))&&decide (s<=1))&&(m==0)) from rfl];cases a0:(z==2)
 ·cases a1:decide (s<=1)
  ·go_enter func119,ntmps119;go_wp2_with fail;go_quiet (fail);go_wp2_with fail;go_ret;exact ⟨rB (by simp),au K0.o _⟩
  ·go_enter func119,ntmps119;go_wp2_with fail;go_quiet (fail);go_wp2_with fail;go_ret;exact ⟨rB (by simp),au K0.o _⟩
 ·go_enter func119,ntmps119;go_wp2_with fail;go_quiet (fail);go_wp2_with fail;go_ret;exact ⟨rB (by simp),au K0.o _⟩
theorem Ku (w:World) (z r m k e s:Int) (h0:0<=s):Calls prog 119 #[.agg (inA 19 z r m k e s)] w fun r' w'=>r'=.returned (.bool (ax ⟨19,z,r,m,k,e,s⟩))∧Kept 0 0 w w':=by
 have K0:=aab (kept_alloc w (.cells (inA 19 z r m k e s) 48));rw [show ax ⟨19,z,r,m,k,e,s⟩=((z==2)&&((((s==0)&&(r==0))&&ji m e)||((s==1)&&ig m k e))) from rfl];cases a0:(z==2)
 ·go_enter func119,ntmps119;go_wp2_with fail;go_quiet (fail);go_wp2_with fail;go_ret;exact ⟨rB (by simp),au K0.o _⟩
 ·go_enter func119,ntmps119;go_wp2_with fail;go_quiet (fail);go_wp2_with (go_at_call 174;refine (BV _ 19 z r m k e s).mono ?_;rintro e9 w2 ⟨rfl,k2⟩);go_ret;exact ⟨rB (by simp [Bool.and_assoc]),(au K0.o _).trans k2⟩
theorem Kt (w:World) (op z r m k e s:Int) (h:op<1∨19<op):Calls prog 119 #[.agg (inA op z r m k e s)] w fun r' w'=>r'=.returned (.bool (ax ⟨op,z,r,m,k,e,s⟩))∧Kept 0 0 w w':=by
 have K0:=aab (kept_alloc w (.cells (inA op z r m k e s) 48))
 have G:Hid (ax ⟨op,z,r,m,k,e,s⟩=false):=aab (by
  unfold ax;simp only;have n1:(op==1)=false:=by simp;omega
  have n2:(op==2)=false:=by simp;omega
  have n3:(op==3)=false:=by simp;omega
  have n4:(op==4)=false:=by simp;omega
  have n5:(op==5)=false:=by simp;omega
  have n6:(op==6)=false:=by simp;omega
  have n7:(op==7)=false:=by simp;omega
  have n8:(op==8)=false:=by simp;omega
  have n9:(op==9)=false:=by simp;omega
  have n10:(op==10)=false:=by simp;omega
  have n11:(op==11)=false:=by simp;omega
  have n12:(op==12)=false:=by simp;omega
  have n13:(op==13)=false:=by simp;omega
  have n14:(op==14)=false:=by simp;omega
  have n15:(op==15)=false:=by simp;omega
  have n16:(op==16)=false:=by simp;omega
  have n17:(op==17)=false:=by simp;omega
  have n18:(op==18)=false:=by simp;omega
  have n19:(op==19)=false:=by simp;omega
  rw [n1,n3,n4,n5,n6,n7,n8,n2,n9,n10,n11,n12,n13,n14,n16,n17,n18,n19,n15]
  rfl)
 go_enter func119,ntmps119;go_wp2_with fail;go_quiet (fail);go_wp2_with fail;go_ret;exact ⟨rB G.o.symm,au K0.o _⟩
theorem Ut (w:World) (op z r m k e s:Int) (h0:0<=s):Calls prog 119 #[.agg (inA op z r m k e s)] w fun r' w'=>r'=.returned (.bool (ax ⟨op,z,r,m,k,e,s⟩))∧Kept 0 0 w w':=by
 by_cases h:op<1∨19<op
 ·exact Kt w op z r m k e s h
 ·have hs:op=1∨op=2∨op=3∨op=4∨op=5∨op=6∨op=7∨op=8∨op=9∨op=10∨op=11∨op=12∨op=13∨op=14∨op=15∨op=16∨op=17∨op=18∨op=19:=by omega
  rcases hs with rfl|rfl|rfl|rfl|rfl|rfl|rfl|rfl|rfl|rfl|rfl|rfl|rfl|rfl|rfl|rfl|rfl|rfl|rfl
  ·exact PU w z r m k e s h0
  ·exact PT w z r m k e s h0
  ·exact PS w z r m k e s h0
  ·exact PQ w z r m k e s h0
  ·exact PP w z r m k e s h0
  ·exact PO w z r m k e s h0
  ·exact PN w z r m k e s h0
  ·exact PM w z r m k e s h0
  ·exact PL w z r m k e s h0
  ·exact KI w z r m k e s h0
  ·exact KH w z r m k e s h0
  ·exact KG w z r m k e s h0
  ·exact KF w z r m k e s h0
  ·exact KC w z r m k e s h0
  ·exact Kz w z r m k e s h0
  ·exact Ky w z r m k e s h0
  ·exact Kw w z r m k e s h0
  ·exact Kv w z r m k e s h0
  ·exact Ku w z r m k e s h0
theorem tZ (w:World) (op z r m k e s:Int) (wfop:(Lit.int .i64 op).wf=true) (wfz:(Lit.int .i64 z).wf=true) (wfr:(Lit.int .i64 r).wf=true) (wfm:(Lit.int .i64 m).wf=true) (wfk:(Lit.int .i64 k).wf=true) (wfe:(Lit.int .i64 e).wf=true) (wfs:(Lit.int .i64 s).wf=true):Calls prog 63 #[.agg (inA op z r m k e s)] w fun r' w'=>r'=.returned (.bool (bJ ⟨op,z,r,m,k,e,s⟩))∧Kept 0 0 w w':=by
 have K0:=aab (kept_alloc w (.cells (inA op z r m k e s) 48));have B0:=aab (Blk.new w (inA op z r m k e s) 48);rw [Pl.ok_of_fits];simp only;cases h1:Pl.fits ⟨op,z,r,m,k,e,s⟩
 ·go_enter func63,ntmps63;go_wp2_with (go_at_call 116;refine (pV _ op z r m k e s).mono ?_;rw [h1];rintro e9 w1 ⟨rfl,k1⟩);go_ret;exact ⟨rB (by simp),K0.o.trans k1⟩
 ·have h0:0<=s:=((vU _).1 h1).2.2.2.2.2.1.1;cases h2:iL m k e
  ·go_enter func63,ntmps63;go_wp2_with (first|(go_at_call 116;refine (pV _ op z r m k e s).mono ?_;rw [h1];rintro e9 w1 ⟨rfl,k1⟩;have B1:=aab (B0.o.ae k1);have K1:=aab (K0.o.trans k1);obtain ⟨b0,b1,b2,b3,b4,b5,b6⟩:=B1.o.c7;clear k1)|(go_at_call 117;refine (ku _ m k e wfm wfk wfe).mono ?_;rw [h2];rintro e9 w2 ⟨rfl,k2⟩;have B2:=aab (B1.o.ae k2);have K2:=aab (K1.o.trans k2);obtain ⟨c0,c1,c2,c3,c4,c5,c6⟩:=B2.o.c7;clear k2));go_ret;exact ⟨rB (by simp),K2.o⟩
  ·cases h3:KL ⟨op,z,r,m,k,e,s⟩
   ·go_enter func63,ntmps63;go_wp2_with (first|(go_at_call 116;refine (pV _ op z r m k e s).mono ?_;rw [h1];rintro e9 w1 ⟨rfl,k1⟩;have B1:=aab (B0.o.ae k1);have K1:=aab (K0.o.trans k1);obtain ⟨b0,b1,b2,b3,b4,b5,b6⟩:=B1.o.c7;clear k1)|(go_at_call 117;refine (ku _ m k e wfm wfk wfe).mono ?_;rw [h2];rintro e9 w2 ⟨rfl,k2⟩;have B2:=aab (B1.o.ae k2);have K2:=aab (K1.o.trans k2);obtain ⟨c0,c1,c2,c3,c4,c5,c6⟩:=B2.o.c7;clear k2)|(go_at_call 118;refine (zU _ op z r m k e s wfe).mono ?_;rw [h3];rintro e9 w3 ⟨rfl,k3⟩;have B3:=aab (B2.o.ae k3);have K3:=aab (K2.o.trans k3);obtain ⟨d0,d1,d2,d3,d4,d5,d6⟩:=B3.o.c7;clear k3));go_ret;exact ⟨rB (by simp),K3.o⟩
   ·go_enter func63,ntmps63;go_wp2_with (first|(go_at_call 116;refine (pV _ op z r m k e s).mono ?_;rw [h1];rintro e9 w1 ⟨rfl,k1⟩;have B1:=aab (B0.o.ae k1);have K1:=aab (K0.o.trans k1);obtain ⟨b0,b1,b2,b3,b4,b5,b6⟩:=B1.o.c7;clear k1)|(go_at_call 117;refine (ku _ m k e wfm wfk wfe).mono ?_;rw [h2];rintro e9 w2 ⟨rfl,k2⟩;have B2:=aab (B1.o.ae k2);have K2:=aab (K1.o.trans k2);obtain ⟨c0,c1,c2,c3,c4,c5,c6⟩:=B2.o.c7;clear k2)|(go_at_call 118;refine (zU _ op z r m k e s wfe).mono ?_;rw [h3];rintro e9 w3 ⟨rfl,k3⟩;have B3:=aab (B2.o.ae k3);have K3:=aab (K2.o.trans k3);obtain ⟨d0,d1,d2,d3,d4,d5,d6⟩:=B3.o.c7;clear k3)|(go_at_call 119;refine (Ut _ op z r m k e s h0).mono ?_;rintro e9 w4 ⟨rfl,k4⟩;have B4:=aab (B3.o.ae k4);have K4:=aab (K3.o.trans k4);clear k4));go_ret;exact ⟨rB (by simp),K4.o⟩
end Go.Proofs.YtgikibaajanjiaaGreatDoor
