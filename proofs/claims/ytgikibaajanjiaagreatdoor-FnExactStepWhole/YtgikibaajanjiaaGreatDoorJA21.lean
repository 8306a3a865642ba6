/- Part 21 of what the last text leans on. -/
import Derived.Test.YtgikibaajanjiaaGreatDoorJA20
import Derived.Test.YtgikibaajanjiaaGreatDoorJA13
import Derived.Test.YtgikibaajanjiaaGreatDoorJA12
import Derived.Test.YtgikibaajanjiaaGreatDoorJA1
import Derived.Test.YtgikibaajanjiaaGreatDoorJA19
import Derived.Test.YtgikibaajanjiaaGreatDoorJA2
import Derived.Test.YtgikibaajanjiaaGreatDoorJA11
import Derived.Defers
import Derived.Recover
import Derived.WalkLawsBesides
set_option maxRecDepth 100000
set_option maxHeartbeats 16000000
namespace Go.Proofs.YtgikibaajanjiaaGreatDoor
open Pl
open Go.RowKit Go.Proofs.Tryz
set_option linter.unusedVariables false
theorem Pl.Oi {m:Int} (m0:0<=m) (m1:m<=7):(if lng m=true then (2:Int) else 1)=if jH m=true then 2 else 1:=by
 unfold lng;rw [show bH m=true from by simp [bH,within];omega];rfl
variable (w:World) (lo b g:Nat) (c:Mc) (h:Hl)
theorem cDo (op z r m k e s a:Int) (hC:CAt w lo b g c h) (G:GM c) (hf:c.f=aF) (hx:bI ⟨op,z,r,m,k,e,s⟩=true) (ht:jm w lo) (a0:0<=a) (a1:a<=65535) :
  Calls prog 123 #[.pointer (some (Zt b 0)),.agg (inA op z r m k e s),iv a] w fun e' w'=>∃g',e'=.returned (.agg (ftC (c.dn ⟨op,z,r,m,k,e,s⟩ a).f))∧CAt w' lo b g' (c.dn ⟨op,z,r,m,k,e,s⟩ a) h∧Since w b (b+1) g w' g':=by
 have B:=rO hx;have wfm:(Lit.int .i64 m).wf=true:=qy (by have:0<=m:=B.m0;omega) (by have:m<=7:=B.m1;omega);obtain ⟨L,hL⟩:∃L,(if lng m=true then (2:Int) else 1)=L:=⟨_,rfl⟩
 have hl2:L=1∨L=2:=by rw [<-hL];split<;>simp
 obtain ⟨BH,hBH⟩:∃BH,(a+L*2)%65536=BH:=⟨_,rfl⟩
 have eb:beh a ⟨op,z,r,m,k,e,s⟩=BH:=by unfold beh Oj;rw [<-hBH,<-hL,Oi B.m0 B.m1]
 have b0:0<=BH∧BH<=65535:=by omega
 obtain ⟨N,hN⟩:∃N,nH ⟨op,z,r,m,k,e,s⟩%65536=N:=⟨_,rfl⟩
 obtain ⟨D,hD⟩:∃D,D=(c.aB BH).cr ⟨op,z,r,m,k,e,s⟩:=⟨_,rfl⟩
 obtain ⟨F,hF⟩:∃F,F=D.f:=⟨_,rfl⟩
 have ET:Hid (c.dn ⟨op,z,r,m,k,e,s⟩ a=bif F.v==0 then D else {D with r:=c.r,f:=⟨F.v,bif Pl.dK F.v then BH else a,F.ad,N,F.wr⟩}):=Zr (by unfold Mc.dn Mc.dn';rw [eb,hN,<-hD,hF]);have GP:Hid (GM (c.aB BH)):=Zr (G.aB b0.1 b0.2);have HL:=Zr hL;have HBH:=Zr hBH;have HN:=Zr hN;have HD:=Zr hD;have HF:=Zr hF;have HX:=Zr hx;have TB:=Zr ht;have gl:=G.bx;have w2:IntKind.i64.wrap (L*2)=L*2:=by rw [IntKind.wrap_i64];omega
 have w3:IntKind.i64.wrap (a+L*2)=a+L*2:=by rw [IntKind.wrap_i64];omega
 clear hL hBH hN hD hF hx ht B eb;obtain ⟨l0,l1,l2,l3,l4⟩:=hC.lt;have HG:=Zr G;obtain ⟨X,hX,K0,C0,A0,R0,sX⟩:=hC.kN op z r m k e s;have p:=A0.o.all;clear hC G;go_enter func123,ntmps123;go_wp2_with fail;refine gY (fun A0 l A W=>∃q:Nat,FR [10,11,12,13,14,15,16,17,18,19,7,8] A0 A∧Once l 0 (A.tmps[10]? = some (.pointer (some (Zt b 0))))∧Once l 1 (A.tmps[11]? = some (.pointer (some (Zt b 0))))∧Once l 2 (A.tmps[12]? = some (.pointer (some (Zt b 0))))∧Once l 3 (A.tmps[13]? = some (.agg (bkR c.r)))∧Once l 4 (A.tmps[14]? = some (iv a))∧Once l 5 (A.tmps[15]? = some (.agg (inA op z r m k e s)))∧Once l 6 (A.tmps[16]? = some (iv L))∧Once l 7 (A.tmps[17]? = some (iv (L*2)))∧Once l 8 (A.tmps[18]? = some (iv (a+L*2)))∧Once l 9 (A.tmps[19]? = some (iv BH))∧Once l 10 (A.tmps[7]? = some (.pointer (some (Zt q 0))))∧Once l 11 (True)∧Once l 12 (A.tmps[8]? = some (iv BH))∧Once l 10 (X.heap.size<=q∧Blk W q (bif l.getD 11 true then bkR c.r else #[iv 0,iv 0,iv 0,iv 0,iv 0,iv 0,iv 0,iv 0,iv 0,iv 0,iv 0,iv 0,.bool false,.bool false]) 151)∧(l.getD 11 true=true->l.getD 10 true=true)∧Kept 0 0 X W) (by kernel_rfl) (by kernel_rfl) ?start ?fin ?step
 case start=>exact ⟨0,FR.refl _ _,ay (by decide),ay (by decide),ay (by decide),ay (by decide),ay (by decide),ay (by decide),ay (by decide),ay (by decide),ay (by decide),ay (by decide),ay (by decide),ay (by decide),ay (by decide),ay (by decide),(fun e=>by rw [lK (by decide)] at e;cases e),ah (Kept.refl _ _ _)⟩
 case fin=>
  intro l A W h hl;obtain ⟨q,hFR,o0,o1,o2,o3,o4,o5,o6,o7,o8,o9,o10,o11,o12,ox,o11w,hK⟩:=h;have g10:=o10 (hl 10 (by decide));have QX:=Zr (ox (hl 10 (by decide)));rw [hl 11 (by decide)] at QX;replace QX:Hid (X.heap.size<=q∧Blk W q (bkR c.r) 151):=QX;have g12:=o12 (hl 12 (by decide));have QQ:=Zr hK;have hc9:=hFR.chain;simp only [List.foldl] at hc9;rw [mP g10,mP g12] at hc9;clear ox o11w hl hK hFR g10 g12 o0 o1 o2 o3 o4 o5 o6 o7 o8 o9 o10 o11 o12;generalize A.tmps.getD 10 undef=s10 at hc9;generalize A.tmps.getD 11 undef=s11 at hc9;generalize A.tmps.getD 12 undef=s12 at hc9;generalize A.tmps.getD 13 undef=s13 at hc9;generalize A.tmps.getD 14 undef=s14 at hc9;generalize A.tmps.getD 15 undef=s15 at hc9;generalize A.tmps.getD 16 undef=s16 at hc9;generalize A.tmps.getD 17 undef=s17 at hc9;generalize A.tmps.getD 18 undef=s18 at hc9;generalize A.tmps.getD 19 undef=s19 at hc9;subst hc9;go_simp;have C1:=Zr (C0.o.any QQ.o);have A1:=Zr (A0.o.ae QQ.o);have R1:=Zr (R0.o.ae QQ.o);have K1:=Zr (K0.o.trans QQ.o);have qX:=QX.o.1;have B1:=Zr QX.o.2;clear p hX K0 C0 A0 R0 QX;have q9:=C1.o.cP;have qz:=C1.o.fz;have p2:=(A1.o.other b 9 (iv BH) (by omega)).all;go_wp2_with fail;clear q9 qz p2;have S2:=Zr (((Since.refl w b (b+1) g).any K1.o).set b 9 (iv BH) (.inl (by omega)));have A2:=Zr (A1.o.other b 9 (iv BH) (by omega));have R2:=Zr (R1.o.other b 9 (iv BH) (by omega));have B2:=Zr (B1.o.other b 9 (iv BH) (by omega));refine (Us _ lo b g (c.aB BH) h op z r m k e s (C1.o.aB BH) GP.o hf HX.o (TB.o.since S2.o (by omega) (by omega))).mono ?_;rintro e9 W3 ⟨g',rfl,hc,hs⟩;rw [<-HD.o] at hc ⊢;rw [<-HF.o];unfold ftC;have n3:=hs.ne (b:=w.heap.size+1) R2.o.lt (by omega);have m3:=hs.ne (b:=w.heap.size) A2.o.lt (by omega);have o3:=hs.ne (b:=q) B2.o.lt (by omega);have z3:=hs.size;obtain ⟨y0,y1,y2,y3,y4⟩:=hc.lt;have C3:=Zr (hc.alloc (.cells (ftA F) 42));have A3:=Zr ((hs.blk A2.o (by omega) (by omega)).alloc (.cells (ftA F) 42));have R3:=Zr ((hs.blk R2.o (by omega) (by omega)).alloc (.cells (ftA F) 42));have B3:=Zr ((hs.blk B2.o (by omega) (by omega)).alloc (.cells (ftA F) 42));have S3:=Zr ((S2.o.trans hs).alloc (.cells (ftA F) 42));have L3:=Zr (Blk.new W3 (ftA F) 42);have u3:=B3.o.lt;have v3:w.heap.size+1<W3.heap.size:=by have:=(hs.blk R2.o (by omega) (by omega)).lt;exact this
  have x3:q<W3.heap.size:=(hs.blk B2.o (by omega) (by omega)).lt;clear hc hs C1 A1 R1 K1 B1 S2 A2 R2 B2;go_wp2_with fail;refine (bP F _).mono ?_;rintro e9 W4 ⟨rfl,kf⟩;have C4:=Zr (C3.o.any kf);have A4:=Zr (A3.o.ae kf);have R4:=Zr (R3.o.ae kf);have B4:=Zr (B3.o.ae kf);have L4:=Zr (L3.o.ae kf);have S4:=Zr (S3.o.any kf);have q4:=L4.o.all;have r4:=R4.o.all;have rf4:=R4.o.fz;clear kf C3 A3 R3 B3 L3 S3;cases hv:(F.v != 0)
  ·have E1:Hid (c.dn ⟨op,z,r,m,k,e,s⟩ a=D):=Zr (by rw [ET.o,show (F.v==0)=true from by simpa using hv];rfl);go_wp2_with fail;have KR:=(((((ak W4 (w.heap.size+1) 0 (iv F.v)).one 1 (iv F.pc)).one 2 (iv F.ad)).one 3 (iv F.wo)).one 4 (.bool F.wr))
   refine bodyPost_ret (v:=.agg (ftA F)) ?_ rfl ⟨g',?_,?_,(S4.o).mine KR (by omega)⟩
   ·rw [aj rfl];go_simp
   ·rw [E1.o,<-HF.o];rfl
   ·rw [E1.o];exact ((C4.o).kept KR (by omega) (by omega))
  ·clear r4 rf4;have b4:=B4.o.all;unfold bkR at b4;obtain ⟨y_0,y_1,y_2,y_3,y_4,y_5,y_6,y_7,y_8,y_9,Xd,Xc,Xb,Xa⟩:=C4.o.zY;have yz:=C4.o.fz;have KY:=Zr (JA W4 b (iv (el c.r.xs 0)) (iv (el c.r.xs 1)) (iv (el c.r.xs 2)) (iv (el c.r.xs 3)) (iv (el c.r.ys 0)) (iv (el c.r.ys 1)) (iv (el c.r.ys 2)) (iv (el c.r.ys 3)) (iv c.r.o) (iv c.r.p) (iv c.r.f) (iv c.r.m) (.bool c.r.s) (.bool c.r.t));have C5:=Zr (C4.o.YW c.r);obtain ⟨Y,hY⟩:∃Y:World,((((((((((((((W4.setCell (Zt b 0) (iv (el c.r.xs 0))).setCell (Zt b 1) (iv (el c.r.xs 1))).setCell (Zt b 2) (iv (el c.r.xs 2))).setCell (Zt b 3) (iv (el c.r.xs 3))).setCell (Zt b 4) (iv (el c.r.ys 0))).setCell (Zt b 5) (iv (el c.r.ys 1))).setCell (Zt b 6) (iv (el c.r.ys 2))).setCell (Zt b 7) (iv (el c.r.ys 3))).setCell (Zt b 8) (iv c.r.o)).setCell (Zt b 9) (iv c.r.p)).setCell (Zt b 10) (iv c.r.f)).setCell (Zt b 11) (iv c.r.m)).setCell (Zt b 12) (.bool c.r.s)).setCell (Zt b 13) (.bool c.r.t))=Y:=⟨_,rfl⟩
   rw [hY] at KY C5;have A5:=Zr (A4.o.kept KY.o (by omega));have R5:=Zr (R4.o.kept KY.o (by omega));have L5:=Zr (L4.o.kept KY.o (by omega));have S5:=Zr (S4.o.ai KY.o (Nat.le_refl _) (Nat.le_refl _));have p5:=A5.o.all;go_wp2_with fail;refine (firstWord _ op z r m k e s).mono ?_;rw [HN.o];rintro e9 W6 ⟨rfl,kf⟩;have C6:=Zr (C5.o.any kf);have R6:=Zr (R5.o.ae kf);have L6:=Zr (L5.o.ae kf);have S6:=Zr (S5.o.any kf);have l6:=L6.o.all;have lf6:=L6.o.fz;clear kf p5 C5 A5 R5 L5 S5 y_0 y_1 y_2 y_3 y_4 y_5 y_6 y_7 y_8 y_9 Xd Xc Xb Xa b4 yz q4 hY;have KZ:=Zr ((ak W6 W3.heap.size 1 (iv a)).one 3 (iv N));have L7:Hid (Blk ((W6.setCell (Zt W3.heap.size 1) (iv a)).setCell (Zt W3.heap.size 3) (iv N)) W3.heap.size #[iv F.v,iv a,iv F.ad,iv N,.bool F.wr] 42):=Zr ((L6.o.set 1 (iv a)).set 3 (iv N));obtain ⟨Z,hZ⟩:∃Z:World,(W6.setCell (Zt W3.heap.size 1) (iv a)).setCell (Zt W3.heap.size 3) (iv N)=Z:=⟨_,rfl⟩
   rw [hZ] at KZ L7;have C7:=Zr (C6.o.kept KZ.o (by omega) (by omega));have R7:=Zr (R6.o.kept KZ.o (by omega));have S7:=Zr (S6.o.mine KZ.o (by omega));have l7:=L7.o.all;cases ho:Pl.dK F.v
   ·have E1:Hid (c.dn ⟨op,z,r,m,k,e,s⟩ a={D with r:=c.r,f:=⟨F.v,a,F.ad,N,F.wr⟩}):=Zr (by rw [ET.o,show (F.v==0)=false from by simpa using hv,ho];rfl);have r7:=R7.o.all;have rf7:=R7.o.fz;go_wp2_with (go_at_call 141;refine st (dK F.v _) ?_;rw [ho]);have KR:=(((((ak Z (w.heap.size+1) 0 (iv F.v)).one 1 (iv a)).one 2 (iv F.ad)).one 3 (iv N)).one 4 (.bool F.wr))
    refine bodyPost_ret (v:=.agg #[iv F.v,iv a,iv F.ad,iv N,.bool F.wr]) ?_ rfl ⟨g',?_,?_,(S7.o).mine KR (by omega)⟩
    ·rw [aj rfl];go_simp
    ·rw [E1.o];rfl
    ·rw [E1.o];exact ((C7.o).kept KR (by omega) (by omega)).fx rfl rfl rfl rfl rfl
   ·have E1:Hid (c.dn ⟨op,z,r,m,k,e,s⟩ a={D with r:=c.r,f:=⟨F.v,BH,F.ad,N,F.wr⟩}):=Zr (by rw [ET.o,show (F.v==0)=false from by simpa using hv,ho];rfl);have lf7:=L7.o.fz;have KV:=Zr (ak Z W3.heap.size 1 (iv BH));have L8:Hid (Blk (Z.setCell (Zt W3.heap.size 1) (iv BH)) W3.heap.size #[iv F.v,iv BH,iv F.ad,iv N,.bool F.wr] 42):=Zr (L7.o.set 1 (iv BH));obtain ⟨V,hV⟩:∃V:World,Z.setCell (Zt W3.heap.size 1) (iv BH)=V:=⟨_,rfl⟩
    rw [hV] at KV L8;have C8:=Zr (C7.o.kept KV.o (by omega) (by omega));have R8:=Zr (R7.o.kept KV.o (by omega));have S8:=Zr (S7.o.mine KV.o (by omega));have l8:=L8.o.all;have r8:=R8.o.all;have rf8:=R8.o.fz;go_wp2_with (go_at_call 141;refine st (dK F.v _) ?_;rw [ho]);have KR:=(((((ak V (w.heap.size+1) 0 (iv F.v)).one 1 (iv BH)).one 2 (iv F.ad)).one 3 (iv N)).one 4 (.bool F.wr))
    refine bodyPost_ret (v:=.agg #[iv F.v,iv BH,iv F.ad,iv N,.bool F.wr]) ?_ rfl ⟨g',?_,?_,(S8.o).mine KR (by omega)⟩
    ·rw [aj rfl];go_simp
    ·rw [E1.o];rfl
    ·rw [E1.o];exact ((C8.o).kept KR (by omega) (by omega)).fx rfl rfl rfl rfl rfl
 case step=>
  intro l A W i hI hm;obtain ⟨q,hFR,o0,o1,o2,o3,o4,o5,o6,o7,o8,o9,o10,o11,o12,ox,o11w,hK⟩:=hI;obtain ⟨hi1,hi2⟩:=jB hm;have hsz:Hid (19<A.tmps.size):=Zr (by rw [hFR.size];simp);have m0:A.tmps[0]? = some (.pointer (some (Zt b 0))):=(hFR.o 0 (by decide)).trans rfl;have m2:A.tmps[2]? = some (iv a):=(hFR.o 2 (by decide)).trans rfl;have m4:A.tmps[4]? = some (.pointer (some (Zt w.heap.size 0))):=(hFR.o 4 (by decide)).trans rfl;rcases i with _|_|_|_|_|_|_|_|_|_|_|_|_|i
  ·refine wpOp_step rfl (fun KK hK2 => ?_);go_simp;exact hK2 (A.put (some 10) (.pointer (some (Zt b 0)))) _ ⟨q,hFR.put (by decide) _,.now (put_eq (by have hz:=hsz.o;omega)),o1.q,o2.q,o3.q,o4.q,o5.q,o6.q,o7.q,o8.q,o9.q,o10.q,o11.n,o12.q,ox.past (by decide) (fun h=>by rw [getD_set_ne (by decide)];exact h),(fun e=>by rw [getD_set_ne (by decide)] at e ⊢;exact o11w e),hK⟩
  ·have e0:=o0 (az hm 0 (by kernel_rfl));refine wpOp_step rfl (fun KK hK2 => ?_);go_simp;exact hK2 (A.put (some 11) (.pointer (some (Zt b 0)))) _ ⟨q,hFR.put (by decide) _,o0.q,.now (put_eq (by have hz:=hsz.o;omega)),o2.q,o3.q,o4.q,o5.q,o6.q,o7.q,o8.q,o9.q,o10.q,o11.n,o12.q,ox.past (by decide) (fun h=>by rw [getD_set_ne (by decide)];exact h),(fun e=>by rw [getD_set_ne (by decide)] at e ⊢;exact o11w e),hK⟩
  ·have e1:=o1 (az hm 1 (by kernel_rfl));refine wpOp_step rfl (fun KK hK2 => ?_);go_simp;exact hK2 (A.put (some 12) (.pointer (some (Zt b 0)))) _ ⟨q,hFR.put (by decide) _,o0.q,o1.q,.now (put_eq (by have hz:=hsz.o;omega)),o3.q,o4.q,o5.q,o6.q,o7.q,o8.q,o9.q,o10.q,o11.n,o12.q,ox.past (by decide) (fun h=>by rw [getD_set_ne (by decide)];exact h),(fun e=>by rw [getD_set_ne (by decide)] at e ⊢;exact o11w e),hK⟩
  ·have e2:=o2 (az hm 2 (by kernel_rfl));have y:=(C0.o.any hK).zY;obtain ⟨y0,y1,y2,y3,y4,y5,y6,y7,y8,y9,y10,y11,y12,y13⟩:=y;refine wpOp_step rfl (fun KK hK2 => ?_);go_simp;exact hK2 (A.put (some 13) (.agg (bkR c.r))) _ ⟨q,hFR.put (by decide) _,o0.q,o1.q,o2.q,.now (put_eq (by have hz:=hsz.o;omega)),o4.q,o5.q,o6.q,o7.q,o8.q,o9.q,o10.q,o11.n,o12.q,ox.past (by decide) (fun h=>by rw [getD_set_ne (by decide)];exact h),(fun e=>by rw [getD_set_ne (by decide)] at e ⊢;exact o11w e),hK⟩
  ·refine wpOp_step rfl (fun KK hK2 => ?_);go_simp;exact hK2 (A.put (some 14) (iv a)) _ ⟨q,hFR.put (by decide) _,o0.q,o1.q,o2.q,o3.q,.now (put_eq (by have hz:=hsz.o;omega)),o5.q,o6.q,o7.q,o8.q,o9.q,o10.q,o11.n,o12.q,ox.past (by decide) (fun h=>by rw [getD_set_ne (by decide)];exact h),(fun e=>by rw [getD_set_ne (by decide)] at e ⊢;exact o11w e),hK⟩
  ·have BL:=Zr (A0.o.ae hK);obtain ⟨x0,x1,x2,x3,x4,x5,x6⟩:=BL.o.c7;refine wpOp_step rfl (fun KK hK2 => ?_);go_simp;exact hK2 (A.put (some 15) (.agg (inA op z r m k e s))) _ ⟨q,hFR.put (by decide) _,o0.q,o1.q,o2.q,o3.q,o4.q,.now (put_eq (by have hz:=hsz.o;omega)),o6.q,o7.q,o8.q,o9.q,o10.q,o11.n,o12.q,ox.past (by decide) (fun h=>by rw [getD_set_ne (by decide)];exact h),(fun e=>by rw [getD_set_ne (by decide)] at e ⊢;exact o11w e),hK⟩
  ·have e5:=o5 (az hm 5 (by kernel_rfl));refine wpOp_step rfl (fun KK hK2 => ?_);go_simp;refine (lengthOf W op z r m k e s wfm).mono ?_;rw [HL.o];rintro r9 y ⟨rfl,kd⟩;go_simp;exact hK2 (A.put (some 16) (iv L)) _ ⟨q,hFR.put (by decide) _,o0.q,o1.q,o2.q,o3.q,o4.q,o5.q,.now (put_eq (by have hz:=hsz.o;omega)),o7.q,o8.q,o9.q,o10.q,o11.n,o12.q,ox.past (by decide) (fun h=>by rw [getD_set_ne (by decide)];exact ⟨h.1,h.2.ae kd⟩),(fun e=>by rw [getD_set_ne (by decide)] at e ⊢;exact o11w e),(hK.trans kd)⟩
  ·have e6:=o6 (az hm 6 (by kernel_rfl));refine wpOp_step rfl (fun KK hK2 => ?_);go_simp;exact hK2 (A.put (some 17) (iv (L*2))) _ ⟨q,hFR.put (by decide) _,o0.q,o1.q,o2.q,o3.q,o4.q,o5.q,o6.q,.now (put_eq (by have hz:=hsz.o;omega)),o8.q,o9.q,o10.q,o11.n,o12.q,ox.past (by decide) (fun h=>by rw [getD_set_ne (by decide)];exact h),(fun e=>by rw [getD_set_ne (by decide)] at e ⊢;exact o11w e),hK⟩
  ·have e4:=o4 (az hm 4 (by kernel_rfl));have e7:=o7 (az hm 7 (by kernel_rfl));refine wpOp_step rfl (fun KK hK2 => ?_);go_simp;exact hK2 (A.put (some 18) (iv (a+L*2))) _ ⟨q,hFR.put (by decide) _,o0.q,o1.q,o2.q,o3.q,o4.q,o5.q,o6.q,o7.q,.now (put_eq (by have hz:=hsz.o;omega)),o9.q,o10.q,o11.n,o12.q,ox.past (by decide) (fun h=>by rw [getD_set_ne (by decide)];exact h),(fun e=>by rw [getD_set_ne (by decide)] at e ⊢;exact o11w e),hK⟩
  ·have e8:=o8 (az hm 8 (by kernel_rfl));refine wpOp_step rfl (fun KK hK2 => ?_);go_simp;refine (gQ (a+L*2) W).mono ?_;rw [HBH.o];rintro r9 y ⟨rfl,kd⟩;rw [kd];go_simp;exact hK2 (A.put (some 19) (iv BH)) _ ⟨q,hFR.put (by decide) _,o0.q,o1.q,o2.q,o3.q,o4.q,o5.q,o6.q,o7.q,o8.q,.now (put_eq (by have hz:=hsz.o;omega)),o10.q,o11.n,o12.q,ox.past (by decide) (fun h=>by rw [getD_set_ne (by decide)];exact h),(fun e=>by rw [getD_set_ne (by decide)] at e ⊢;exact o11w e),hK⟩
  ·have n11:l.getD 11 true=false:=by cases q11:l.getD 11 true;rfl;have:=o11w q11;rw [hi2] at this;cases this
   refine wpOp_step rfl (fun KK hK2 => ?_);go_simp;exact hK2 (A.put (some 7) (.pointer (some (Zt W.heap.size 0)))) _ ⟨W.heap.size,hFR.put (by decide) _,o0.q,o1.q,o2.q,o3.q,o4.q,o5.q,o6.q,o7.q,o8.q,o9.q,.now (put_eq (by have hz:=hsz.o;omega)),o11.n,o12.q,.now ⟨hK.size,by rw [getD_set_ne (by decide),n11];exact Blk.new W _ _⟩,(fun e=>gy),(ag hK _)⟩
  ·have e10:=o10 (az hm 10 (by kernel_rfl));have e3:=o3 (az hm 3 (by kernel_rfl));have oq:=ox (az hm 10 (by kernel_rfl));unfold bkR at e3;have oR2:Blk W q #[iv 0,iv 0,iv 0,iv 0,iv 0,iv 0,iv 0,iv 0,iv 0,iv 0,iv 0,iv 0,.bool false,.bool false] 151:=by have:=oq.2;rw [hi2] at this;exact this
   have OR:=Zr oR2;have qa:=OR.o.all;have qf:=OR.o.fz;refine wpOp_step rfl (fun KK hK2 => ?_);go_simp;exact hK2 A _ ⟨q,hFR,o0.n,o1.n,o2.n,o3.n,o4.n,o5.n,o6.n,o7.n,o8.n,o9.n,o10.n,.now trivial,o12.n,(fun _=>⟨oq.1,by rw [gy];exact Blk.MH oR2⟩),(fun _=>by rw [getD_set_ne (by decide)];exact az hm 10 (by kernel_rfl)),(af (af (af (af (af (af (af (af (af (af (af (af (af (af hK _ _ _ (.inr oq.1)) _ _ _ (.inr oq.1)) _ _ _ (.inr oq.1)) _ _ _ (.inr oq.1)) _ _ _ (.inr oq.1)) _ _ _ (.inr oq.1)) _ _ _ (.inr oq.1)) _ _ _ (.inr oq.1)) _ _ _ (.inr oq.1)) _ _ _ (.inr oq.1)) _ _ _ (.inr oq.1)) _ _ _ (.inr oq.1)) _ _ _ (.inr oq.1)) _ _ _ (.inr oq.1))⟩
  ·have e9:=o9 (az hm 9 (by kernel_rfl));refine wpOp_step rfl (fun KK hK2 => ?_);go_simp;exact hK2 (A.put (some 8) (iv BH)) _ ⟨q,hFR.put (by decide) _,o0.q,o1.q,o2.q,o3.q,o4.q,o5.q,o6.q,o7.q,o8.q,o9.q,o10.q,o11.n,.now (put_eq (by have hz:=hsz.o;omega)),ox.past (by decide) (fun h=>by rw [getD_set_ne (by decide)];exact h),(fun e=>by rw [getD_set_ne (by decide)] at e ⊢;exact o11w e),hK⟩
  ·simp at hi1
   omega
theorem Pl.Pg {c:Mc} (h:(c.kR.v==0)=true):bI c.aA=true:=by
 cases hf:c.fetch.fine
 ·have e:c.kR=c.fetch.f:=by unfold Mc.kR;rw [hf];rfl
  rw [e] at h;unfold Mc.fine at hf;rw [h] at hf;cases hf
 ·exact (oN hf).1
theorem wO (hC:CAt w lo b g c h) (G:GM c) (hf:c.f=aF) (ht:jm w lo) :
  Calls prog 83 #[.pointer (some (Zt b 0))] w fun e' w'=>∃g',e'=.returned (.agg (ftC c.sp.f))∧CAt w' lo b g' (c.sp) h∧Since w b (b+1) g w' g':=by
 obtain ⟨l0,l1,l2,l3,l4⟩:=hC.lt;obtain ⟨F,hF⟩:∃F,F=c.kR:=⟨_,rfl⟩
 obtain ⟨x,hx⟩:∃x,x=c.aA:=⟨_,rfl⟩
 obtain ⟨N,hN⟩:∃N,N=c.bW:=⟨_,rfl⟩
 obtain ⟨E,hE⟩:∃E,E=c.fetch:=⟨_,rfl⟩
 have ES:Hid (c.sp=bif F.v==0 then E.nf.dn x c.r.p else {E with f:=F}):=Zr (by unfold Mc.sp;rw [hF,hx,hE]);have XO:Hid ((F.v==0)=true->bI x=true):=Zr (by rw [hF,hx];exact Pg);have GE:Hid (GM E):=Zr (by rw [hE];exact G.fetch);have ER:Hid (E.r=c.r):=Zr (by rw [hE];exact Dx.1);have HG:=Zr G;have HF:=Zr hF;have HX:=Zr hx;have HN:=Zr hN;have HE:=Zr hE;have TB:=Zr ht;have K0:=Zr (kept_alloc w (.cells ftZ 42));have C0:=Zr (hC.alloc (.cells ftZ 42));have R0:=Zr (Blk.new w ftZ 42);obtain ⟨X,hX⟩:∃X:World,w.alloc (.cells ftZ 42)=X:=⟨_,rfl⟩
 rw [hX] at K0 C0 R0;have sX:w.heap.size<X.heap.size:=R0.o.lt;clear hC G hF hx hN hE ht;go_enter func83,ntmps83;go_wp2_with fail;refine (Uo _ lo b g c h C0.o HG.o hf).mono ?_;rintro e9 W1 ⟨g1,rfl,hc,hs⟩;rw [<-HE.o] at hc;rw [<-HX.o,<-HN.o,<-HF.o];unfold ftC mM;have n1:=hs.ne (b:=w.heap.size) R0.o.lt (by omega);have z1:=hs.size;obtain ⟨y0,y1,y2,y3,y4⟩:=hc.lt;have C1:=Zr ((hc.alloc (.cells (inX x) 48)).alloc (.cells (ftA F) 42));have R1:=Zr (((hs.blk R0.o (by omega) (by omega)).alloc (.cells (inX x) 48)).alloc (.cells (ftA F) 42));have S1:=Zr (((((Since.refl w b (b+1) g).any K0.o).trans hs).alloc (.cells (inX x) 48)).alloc (.cells (ftA F) 42));have A1:=Zr ((Blk.new W1 (inX x) 48).alloc (.cells (ftA F) 42));have L1:=Blk.new (W1.alloc (.cells (inX x) 48)) (ftA F) 42;simp only [World.size_alloc] at L1;replace L1:=Zr L1;clear hc hs hX;go_wp2_with fail;refine (bP F _).mono ?_;rintro e9 W2 ⟨rfl,kf⟩;have C2:=Zr (C1.o.any kf);have R2:=Zr (R1.o.ae kf);have A2:=Zr (A1.o.ae kf);have L2:=Zr (L1.o.ae kf);have S2:=Zr (S1.o.any kf);clear kf C1 R1 A1 L1 S1;cases hv:(F.v != 0)
 ·have h0:(F.v==0)=true:=by simpa using hv
  have XK:=Zr (XO.o h0);have E1:Hid (c.sp=E.nf.dn x c.r.p):=Zr (by rw [ES.o,h0];rfl);clear h0;go_wp2_with fail;refine wp_region_still_tail 7 (by kernel_rfl) (by kernel_rfl) ?_;simp only [List.take_succ_cons,List.take_zero,List.drop_succ_cons,List.drop_zero];obtain ⟨Y,hY⟩:∃Y:World,Y={W2 with drawn:=W2.drawn+1}:=⟨_,rfl⟩
  rw [<-hY];have kY:Kept 0 0 W2 Y:=by rw [hY];exact ah (Kept.refl _ _ _)
  have C3:=Zr (C2.o.any kY);have R3:=Zr (R2.o.ae kY);have A3:=Zr (A2.o.ae kY);have S3:=Zr (S2.o.any kY);clear hY kY C2 R2 A2 L2 S2;have p9:=C3.o.cP;rw [ER.o] at p9;have q:=A3.o.all
  iterate 7 still_step
  refine wpStill_nil ?_;have C4:Hid (CAt Y lo b g1 E.nf h):=Zr (C3.o.fx rfl rfl rfl rfl rfl);clear p9 q;go_wp2_with (go_at_call 123;refine (cDo _ lo b g1 E.nf h x.op x.z x.r x.m x.k x.e x.s c.r.p C4.o (GE.o.ft aF) rfl XK.o (TB.o.since S3.o (by omega) (by omega)) HG.o.p0 HG.o.p1).mono ?_;rintro e9 W5 ⟨g',rfl,hc,hs⟩;rw [<-show _=E.nf.dn x c.r.p from E1.o] at hc ⊢;obtain ⟨Q,hQ⟩:∃Q,Q=c.sp.f:=⟨_,rfl⟩;rw [<-hQ];unfold ftC;have HQ:=Zr hQ;clear hQ;have C5:=Zr hc;have n5:=hs.ne (b:=w.heap.size) R3.o.lt (by omega);have R5:=Zr (hs.blk R3.o (by omega) (by omega));have S5:=Zr (S3.o.trans hs);have r5:=R5.o.all;have rf5:=R5.o.fz;clear hc hs);have KR:=(((((ak W5 w.heap.size 0 (iv Q.v)).one 1 (iv Q.pc)).one 2 (iv Q.ad)).one 3 (iv Q.wo)).one 4 (.bool Q.wr))
  refine bodyPost_ret (v:=.agg (ftA Q)) ?_ rfl ⟨g',?_,(C5.o).kept KR (by omega) (by omega),(S5.o).mine KR (by omega)⟩
  ·rw [aj rfl];go_simp
  ·rw [<-HQ.o];rfl
 ·have E1:Hid (c.sp={E with f:=F}):=Zr (by rw [ES.o,show (F.v==0)=false from by simpa using hv];rfl);have l2:=L2.o.all;have r2:=R2.o.all;have rf2:=R2.o.fz;go_wp2_with fail;have KR:=(((((ak W2 w.heap.size 0 (iv F.v)).one 1 (iv F.pc)).one 2 (iv F.ad)).one 3 (iv F.wo)).one 4 (.bool F.wr))
  refine bodyPost_ret (v:=.agg (ftA F)) ?_ rfl ⟨g1,?_,?_,(S2.o).mine KR (by omega)⟩
  ·rw [aj rfl];go_simp
  ·rw [E1.o];rfl
  ·rw [E1.o];exact ((C2.o).kept KR (by omega) (by omega)).fx rfl rfl rfl rfl rfl
def brd (xs:List Int) (u:Value):Array Value:=(cellsOf xs).push u
theorem Ux {xs:List Int} {u:Value} {i:Nat} (hi:i<xs.length):(brd xs u)[i]? = some (iv (el xs i)):=by
 simp [brd,cellsOf,el,hi];rw [List.getElem?_append_left (by simpa using hi)];simp [hi]
theorem Qd {xs:List Int} {u:Value} (hl:xs.length=512):(brd xs u)[512]? = some u:=by
 simp [brd,cellsOf,hl]
theorem zt (off:Nat):∀(l:List Value) (k:Nat) (A:Array Value) (i:Nat),off+k+l.length<=A.size->
  ((l.zipIdx k).foldl (fun a (x:Value × Nat)=>a.setIfInBounds (off+x.2) x.1) A)[i]? = if off+k<=i∧i<off+k+l.length then l[i-(off+k)]? else A[i]?
 | [],k,A,i,h=>by
  simp only [List.zipIdx_nil,List.foldl_nil,List.length_nil];rw [if_neg (by omega)]
 | v :: r,k,A,i,h=>by
  simp only [List.length_cons] at h;simp only [List.zipIdx_cons,List.foldl_cons,List.length_cons];rw [zt off r (k+1) _ i (by simp;omega)];by_cases h1:off+(k+1)<=i∧i<off+(k+1)+r.length
  ·rw [if_pos h1,if_pos (by omega),show i-(off+k)=(i-(off+(k+1)))+1 by omega,List.getElem?_cons_succ]
  ·rw [if_neg h1,Array.getElem?_setIfInBounds];by_cases h2:off+k=i
   ·rw [if_pos h2,if_pos (by omega),if_pos (by omega),show i-(off+k)=0 by omega];rfl
   ·rw [if_neg h2,if_neg (by omega)]
theorem Tryz.rM:(prog.info? 156).map (fun i=>(i.zero,i.size))=some (some (.agg (brd zeros (.slice none 0 0))),513):=by kernel_rfl
theorem Tryz.F7:∀w,(zeroValue 156).run prog w=.ok (.agg (brd zeros (.slice none 0 0))) w:=(zero_of_info Tryz.rM).1
theorem Tryz.F8:(prog.info? 156).map (·.size)=some 513:=(zero_of_info Tryz.rM).2
theorem jR (xs:List Int) (u:Value):(brd xs u).size=xs.length+1:=by simp [brd,cellsOf]
theorem fold_size (off:Nat):∀(l:List (Value × Nat)) (A:Array Value),(l.foldl (fun a (x:Value × Nat)=>a.setIfInBounds (off+x.2) x.1) A).size=A.size
 | [],A=>rfl
 | v :: r,A=>by rw [List.foldl_cons,fold_size off r];simp
def laid (off:Nat) (cs A:Array Value):Array Value:=cs.zipIdx.foldl (fun a (x:Value × Nat)=>a.setIfInBounds (off+x.2) x.1) A
theorem iY (off:Nat) (cs A:Array Value):(laid off cs A).size=A.size:=by
 unfold laid;rw [<-Array.foldl_toList];exact fold_size off _ A
theorem pF (off:Nat) (cs A:Array Value) (h:off+cs.size<=A.size) (i:Nat):(laid off cs A)[i]? = if off<=i∧i<off+cs.size then cs[i-off]? else A[i]? := by
 unfold laid;rw [<-Array.foldl_toList,Array.toList_zipIdx];have:=zt off cs.toList 0 A i (by simpa using h);simpa using this
theorem JY (cs A:Array Value) (u:Value) (hu:u.cells=#[u]) (hc:cs.size=512) (hA:A.size=513) :
  Instr.fill (#[(0,512),(512,1)][·]?) A [(0,.agg cs),(1,u)]=some (laid 512 #[u] (laid 0 cs A)):=by
 have h1:((laid 0 cs A)).size=513:=by rw [iY,hA]
 have e1:cs.zipIdx.foldl (fun a (x:Value × Nat)=>a.setIfInBounds (0+x.2) x.1) A=laid 0 cs A:=rfl;unfold Instr.fill;simp only [Value.cells,List.getElem?_toArray,List.getElem?_cons_zero];rw [if_neg (by simp [hc,hA])];rw [e1];unfold Instr.fill;simp only [hu,List.getElem?_cons_succ,List.getElem?_cons_zero];rw [if_neg (by simp [h1])];unfold Instr.fill;rfl
theorem Qc (xs:List Int) (u:Value) (h:u.oneCell'=true):(brd xs u).all (·.oneCell')=true:=by
 rw [Array.all_eq_true_iff_forall_mem];intro v hv;simp only [brd,Array.mem_push] at hv;rcases hv with hv|rfl
 ·exact Array.all_eq_true_iff_forall_mem.1 (sQ xs) v hv
 ·exact h
theorem F6 {P:Program} {ops:Array Oper} {rest:List Oper} {o:Oper} {a:Act} {w:World} {Q:Exit->Act->World->Prop} (hg:o.guard=none) (t:TypeId) (x y:Operand) (ho:o.op=.build t #[(0,x),(1,y)])
  (v u:Value) (hx:a.eval x=v) (hy:a.eval y=u) (cells:Array Value) (hf:P.built t [(0,v),(1,u)]=some cells)
  (h:wpList P ops Q rest (a.put o.dst (.agg cells)) w):wpList P ops Q (o :: rest) a w:=by
 have e:P.built t (#[(0,x),(1,y)].map fun (p:Nat × Operand)=>(p.1,a.eval p.2)).toList=some cells:=by
  simp [hx,hy,hf]
 refine wpList_build hg t #[(0,x),(1,y)] ho (by rw [e];rfl) ?_;rw [e];exact h
theorem BJ (xs:List Int) (b:Option Addr) (n c:Nat) (lx:xs.length=512) :
  prog.built 156 [(0,.agg (cellsOf xs)),(1,.slice b n c)]=some (brd xs (.slice b n c)):=by
 have hp:(match prog.underlying 156 with|some (.struct fields)=>fields.toList.mapM (fun f=>(prog.info? f.type).map fun i=>(f.offset,i.size))|_=>none)=some [(0,512),(512,1)]:=by kernel_rfl
 have e:prog.built 156 [(0,.agg (cellsOf xs)),(1,.slice b n c)]=Instr.fill (#[(0,512),(512,1)][·]?) (brd zeros (.slice none 0 0)) [(0,.agg (cellsOf xs)),(1,.slice b n c)]:=by
  have hi:=Tryz.rM;unfold Program.built;cases h1:prog.info? 156 with
  | none=>rw [h1] at hi;cases hi
  | some it=>
   rw [h1] at hi;have hz:it.zero=some (.agg (brd zeros (.slice none 0 0))):=congrArg (fun o=>(o.map Prod.fst).getD none) hi;cases h2:prog.underlying 156 with
   | none=>rw [h2] at hp;cases hp
   | some d=>
    rw [h2] at hp;cases d
    case struct fields=>
     have hp':fields.toList.mapM (fun f=>(prog.info? f.type).map fun i=>(f.offset,i.size))=some [(0,512),(512,1)]:=hp;simp only [hz,hp'];rfl
    all_goals cases hp
 rw [e,JY (cellsOf xs) (brd zeros (.slice none 0 0)) (.slice b n c) rfl (by rw [cellsOf_size,lx]) (by rw [jR,fA])];refine congrArg some ?_;apply Array.ext_getElem?;intro i;rw [pF 512 #[.slice b n c] _ (by rw [iY,jR,fA];simp),pF 0 _ _ (by rw [jR,fA,cellsOf_size,lx];decide),cellsOf_size,lx];simp only [brd,Array.getElem?_push,cellsOf_size,lx];by_cases h:i<512
 ·rw [if_neg (by simp;omega),if_pos (by omega),if_neg (by omega)];rfl
 ·by_cases h2:i=512
  ·subst h2;rfl
  ·have h3:¬i<513:=by omega
   rw [if_neg (by simp;omega),if_neg (by omega)];simp only [fA];rw [if_neg h2,if_neg h2];rw [Array.getElem?_eq_none (by rw [cellsOf_size,fA];omega),Array.getElem?_eq_none (by rw [cellsOf_size,lx];omega)]
theorem KL (W:World) (g m sCap:Nat) (sp:Option Addr) (ys:List Int) (cur:List Value) (t:TypeId) (hB:Blk W g cur.toArray t) (hr:aG W sp ys) (hl:ys.length=5*m) (hc:cur.length=5*m) :
  ∃W',(Builtin.copy_ #[36,36] 3 #[.slice (some (Zt g 0)) m m,.slice sp m sCap]).run prog W=.ok (iv m) W'∧Blk W' g (cellsOf ys) t∧Kept g (g+1) W W':=by
 obtain ⟨i,hi,hz0,hz1,hz2⟩:=info_parts Tryz.jM;have hmin:Nat.min m m=m:=Nat.min_self m;by_cases h0:m=0
 ·subst h0;obtain rfl:ys=[]:=List.eq_nil_of_length_eq_zero (by omega);obtain rfl:cur=[]:=List.eq_nil_of_length_eq_zero (by omega);refine ⟨W,?_,hB,Kept.refl _ _ _⟩;have hl0:∀(x:Addr),(loadCells x 0).run prog W=.ok #[] W:=fun x=>by simpa using run_loadCells_list (P:=prog) W x [] (by simp)
  cases sp<;>simp [Builtin.copy_,run_underlying underlying36,Builtin.lenOf,Builtin.firstCells,sizeOf,typeInfo,hi,storeCells,hl0]<;>rfl
 ·obtain ⟨ga,oa,rfl,_⟩:=hr 0 (by omega);have hld:=run_loadCells_list (P:=prog) W ⟨ga,oa,none⟩ (ys.map (Value.int .i64)) (iF hr);have hst:=run_storeCells_at prog g 0 t (ys.map (Value.int .i64)) 0 cur.toArray W hB (by simp [hl,hc]) iq;have e5:(ys.map (Value.int .i64)).length=m*5:=by rw [List.length_map,hl];omega
  rw [e5] at hld
  have e:(List.take (0+0) cur.toArray.toList++ys.map (Value.int .i64)++List.drop (0+0+(ys.map (Value.int .i64)).length) cur.toArray.toList)=ys.map (Value.int .i64):=by
   rw [List.drop_eq_nil_of_le (by simp [hl,hc])];simp
  rw [e] at hst;refine ⟨W.setRow g (cellsOf ys),?_,hB.setRow,⟨rfl,rfl,rfl,by simp,fun k hk hn=>setRow_other W g k _ (by omega)⟩⟩;simp [Builtin.copy_,run_underlying underlying36,Builtin.lenOf,Builtin.firstCells,sizeOf,typeInfo,hi,hz1,hmin,hld];have hst':(storeCells (Zt g 0) (ys.map (Value.int .i64))).run prog W=.ok () (W.setRow g (cellsOf ys)):=hst;rw [hst'];rfl
theorem yO {w:World} {base g m:Nat} {ys:List Int} (h:Blk w g (cellsOf ys) 179) (hl:ys.length=5*m) (hb:base<=g) (bm:m<=2000000):w.ownsRow base 179 5 (.slice (some (Zt g 0)) m m) m (ys.map (Value.int .i64)):=by
 refine ⟨by simp [hl];omega,.inr ⟨g,m,cellsOf ys,rfl,hb,h,Nat.le_refl _,by unfold maxLen;omega,by rw [cellsOf_size,hl];omega,?_⟩⟩;rw [List.take_of_length_le (by simp [cellsOf,hl];omega)];simp [cellsOf]
theorem Qe (w:World) (a b:Option Addr) (ca cb m:Nat) (xs ys:List Int) (ha:aG w a xs) (hb:aG w b ys) (lx:xs.length=512) (ly:ys.length=5*m) (bm:m<=400) :
  Calls prog 122 #[.agg #[.slice a xs.length ca,.slice b m cb]] w fun e w'=>∃g:Nat,e=.returned (.agg (brd xs (.slice (some (Zt g 0)) m m)))∧Blk w' g (cellsOf ys) 179∧w.heap.size<=g∧Kept 0 0 w w':=by
 obtain ⟨i,hi,hz0,hz1,hz2⟩:=info_parts Tryz.jM;have HA:=Zr ha;have HB:=Zr hb;have HX:=Zr lx;have HY:=Zr ly;have bz:=Tryz.F7;have hbuilt:=Zr (BJ xs (some (Zt (w.heap.size+1+1) 0)) m m lx);have K0:=Zr (ag (kept_alloc w (.cells #[.slice a xs.length ca,.slice b m cb] 38)) (.cells (brd zeros (.slice none 0 0)) 156));have B0:=Zr ((Blk.new w #[.slice a xs.length ca,.slice b m cb] 38).alloc (.cells (brd zeros (.slice none 0 0)) 156));have B1:=Blk.new (w.alloc (.cells #[.slice a xs.length ca,.slice b m cb] 38)) (brd zeros (.slice none 0 0)) 156;simp only [World.size_alloc] at B1;replace B1:=Zr B1;clear ha hb lx ly;go_enter func122,ntmps122;go_wp2_with (at_make;refine wpList_make_full _ rfl _ _ 36 rfl w.heap.size 179 i (.agg #[iv 0,iv 0,iv 0,iv 0,iv 0]) 5 underlying36 hi hz0 hz1 _ _ _ _ m rfl rfl rfl rfl ?c1 ?c2 ?c3 ?_)
 case c1=>rw [hz2];omega
 case c2=>unfold maxLen;omega
 case c3=>simp;omega
 intro w1 hown hg;have k1:=aX hg;have C0:=B0.o.ae k1;have C1:=B1.o.ae k1;have K1:=K0.o.trans k1;obtain ⟨W2,hcopy,E2,k2⟩:=KL w1 (w.heap.size+1+1) m cb b ys _ _ (vI hown) (HB.o.ai K1) HY.o (by rw [hown.1];omega);have D0:=Zr (C0.kept k2 (by omega));have D1:=Zr (C1.kept k2 (by omega));have K2:=Zr (aI K1 k2 (by omega));have H2:=Zr E2;have HZ:∀u,Hid ((prog.info? 156).map (·.size)=some (brd xs u).size):=fun u=>Zr (by rw [jR,HX.o];exact Tryz.F8);have HZ2:∀u,Hid ((brd zeros (.slice none 0 0)).size=(brd xs u).size):=fun u=>Zr (by rw [jR,jR,HX.o,fA]);have p1:=C0.cell (i:=1) rfl;have d0:=D0.o.cell (i:=0) rfl;have d1:=D0.o.cell (i:=1) rfl;clear hown hg k1 C0 C1 K1 E2 k2
 go_wp2_with (first
  | (go_at_call 177;refine (IM _ a b ca cb m xs (HA.o.ai K2.o) HX.o).mono ?_;rintro e w3 ⟨rfl,k3⟩;have D3:=Zr (D1.o.ae k3);have H3:=Zr (H2.o.ae k3);have K3:=Zr (K2.o.trans k3);clear k3)
  | (refine F6 rfl 156 (.tmp 13) (.tmp 14) rfl (.agg (cellsOf xs)) (.slice (some (Zt (w.heap.size+1+1) 0)) m m) rfl rfl (brd xs (.slice (some (Zt (w.heap.size+1+1) 0)) m m)) hbuilt.o ?_)
  | (refine wpList_store_row rfl 156 (.tmp 2) (.tmp 15) rfl (w.heap.size+1) (brd xs (.slice (some (Zt (w.heap.size+1+1) 0)) m m)) rfl rfl 156 (brd zeros (.slice none 0 0)) D3.o (HZ _).o (HZ2 _).o (Qc _ _ rfl) ?_))
 refine bodyPost_ret (v:=.agg (brd xs (.slice (some (Zt (w.heap.size+1+1) 0)) m m))) ?_ rfl ⟨w.heap.size+1+1,rfl,H3.o.yE (by omega),by omega,kX K3.o _ _ (by omega)⟩;exact results_cell_row rfl _ _ _ _ _ (0,0) _ rfl D3.o.setRow underlying156 rfl (HZ _).o
theorem Tryz.JC:(prog.info? 159).map (fun i=>(i.zero,i.size))=some (some (.agg (cor ⟨[0,0,0,0],[0,0,0,0],0,0,0,0,false,false⟩ zeros (.slice none 0 0) false ⟨false,tl0⟩)),529):=by kernel_rfl
theorem KH (r:Rg) (xs:List Int) (u:Value) (st ha:Bool) (A:Array Value) (hA:A.size=529) (lx:xs.length=512):laid 528 #[.bool ha] (laid 527 #[.bool st] (laid 14 (brd xs u) (laid 0 (bkR r) A)))=cor r xs u st ⟨ha,tl0⟩:=by
 have hb:(brd xs u).size=513:=by rw [jR,lx]
 have hr:(bkR r).size=14:=rfl;apply Array.ext_getElem?;intro i;rw [pF 528 _ _ (by simp only [iY,hA];exact Nat.le_refl 529),pF 527 _ _ (by simp only [iY,hA];exact Nat.le_succ 528),pF 14 _ _ (by rw [iY,hA,hb];decide),pF 0 _ _ (by rw [hA,hr];decide),hb,hr];by_cases h1:i<14
 ·rw [if_neg (by simp;omega),if_neg (by simp;omega),if_neg (by omega),if_pos (by omega),xR h1];rfl
 ·by_cases h2:i<526
  ·rw [if_neg (by simp;omega),if_neg (by simp;omega),if_pos (by omega)];obtain ⟨n,rfl⟩:∃n,i=14+n:=⟨i-14,by omega⟩
   rw [vw (by omega),Nat.add_sub_cancel_left,Ux (by omega)]
  ·by_cases h3:i<529
   ·have:i=526∨i=527∨i=528:=by omega
    rcases this with rfl|rfl|rfl
    ·rw [if_neg (by simp),if_neg (by simp),if_pos (by omega),kC lx];exact Qd lx
    ·rw [if_neg (by simp),if_pos (by simp),Kw lx];rfl
    ·rw [if_pos (by simp),KJ lx];rfl
   ·rw [if_neg (by simp;omega),if_neg (by simp;omega),if_neg (by omega),if_neg (by omega),Array.getElem?_eq_none (by omega),Array.getElem?_eq_none (by rw [zL lx];omega)]
theorem yY (k:Nat) (v:Value) (A:Array Value):laid k #[v] A=A.setIfInBounds k v:=rfl
theorem Kv (r:Rg) (xs:List Int) (m:Nat) (st ha:Bool) (lx:xs.length=512):∃(Z L:Array Value) (M:Option Addr->Array Value),(∀w,(zeroValue 159).run prog w=.ok (.agg Z) w)∧Z.size=529∧(bkR r).size=14∧(∀d,(brd xs (.slice d m m)).size=513)∧
  (bkR r).zipIdx.foldl (fun cs x=>cs.setIfInBounds x.2 x.1) Z 0 14=L∧L.size=529∧(∀d,(brd xs (.slice d m m)).zipIdx.foldl (fun cs x=>cs.setIfInBounds (14+x.2) x.1) L 0 513=M d)∧(∀d,(M d).size=529)∧
  ∀d,((M d).setIfInBounds 527 (.bool st)).setIfInBounds 528 (.bool ha)=cor r xs (.slice d m m) st ⟨ha,tl0⟩:=by
 have hr:(bkR r).size=14:=rfl;have hd:∀d,(brd xs (.slice d m m)).size=513:=fun d=>by rw [jR,lx]
 obtain ⟨Z,hz,hs⟩:∃Z:Array Value,(∀w,(zeroValue 159).run prog w=.ok (.agg Z) w)∧Z.size=529:=⟨_,(zero_of_info Tryz.JC).1,zL fA⟩
 refine ⟨Z,laid 0 (bkR r) Z,fun d=>laid 14 (brd xs (.slice d m m)) (laid 0 (bkR r) Z),hz,hs,hr,hd,?_,?_,?_,?_,?_⟩
 ·unfold laid;simp [hr]
 ·rw [iY];exact hs
 ·intro d;unfold laid;simp [hr,hd]
 ·intro d;rw [iY,iY];exact hs
 ·intro d;have:=KH r xs (.slice d m m) st ha Z hs lx;rw [yY,yY] at this;exact this
theorem zK {w:World} {x:Nat} {c:Cp} {a b e q:Option Addr} {ca cb ce cq:Nat} {ty:TypeId} (h:Blk w x (cpA c a b e q ca cb ce cq) ty):w.cell? (Zt x 0)=some (.slice a c.r.xs.length ca)∧w.cell? (Zt x 1)=some (.slice b c.r.ys.length cb)∧w.cell? (Zt x 2)=some (.int .i64 c.r.o)∧w.cell? (Zt x 3)=some (.int .i64 c.r.p)∧w.cell? (Zt x 4)=some (.int .i64 c.r.f)∧w.cell? (Zt x 5)=some (.int .i64 c.r.m)∧w.cell? (Zt x 6)=some (.bool c.r.s)∧w.cell? (Zt x 7)=some (.bool c.r.t)∧w.cell? (Zt x 8)=some (.slice e c.bx.length ce)∧w.cell? (Zt x 9)=some (.slice q c.bm cq)∧w.cell? (Zt x 10)=some (.bool c.st)∧w.cell? (Zt x 11)=some (.bool c.ha):=
 ⟨h.cell (i:=0) rfl,h.cell (i:=1) rfl,h.cell (i:=2) rfl,h.cell (i:=3) rfl,h.cell (i:=4) rfl,h.cell (i:=5) rfl,h.cell (i:=6) rfl,h.cell (i:=7) rfl,h.cell (i:=8) rfl,h.cell (i:=9) rfl,h.cell (i:=10) rfl,h.cell (i:=11) rfl⟩
theorem TL (w:World) (c:Cp) (a b e q:Option Addr) (ca cb ce cq:Nat) (ha:aG w a c.r.xs) (hb:aG w b c.r.ys) (he:aG w e c.bx) (hq:aG w q c.bl) (lx:c.r.xs.length=4) (ly:c.r.ys.length=4) (lb:c.bx.length=512) (ll:c.bl.length=5*c.bm) (lm:c.bm<=400) :
  Calls prog 65 #[.agg (cpA c a b e q ca cb ce cq)] w fun r w'=>∃p g:Nat,r=.returned (.pointer (some (Zt p 0)))∧CAt w' w.heap.size p g (Mc.ofC c) ⟨c.ha,tl0⟩∧Kept 0 0 w w':=by
 have K0:=Zr (kept_alloc w (.cells (cpA c a b e q ca cb ce cq) 40));have HBA:=Zr (Blk.new w (cpA c a b e q ca cb ce cq) 40);obtain ⟨X,hX⟩:∃X:World,w.alloc (.cells (cpA c a b e q ca cb ce cq) 40)=X:=⟨_,rfl⟩
 rw [hX] at K0 HBA;have HA:=Zr (ha.ai K0.o);have HB:=Zr (hb.ai K0.o);have HE:=Zr (he.ai K0.o);have HQ:=Zr (hq.ai K0.o);obtain ⟨CZ,L1,L2,bz,z1,z2,z3,z4,z5,z6,z7,z8⟩:=Kv c.r c.bx c.bm c.st c.ha lb;have LX:=Zr lx;have LY:=Zr ly;have LB:=Zr lb;have LL:=Zr ll;have LM:=Zr lm;clear ha hb he hq lx ly lb ll lm;obtain ⟨i0,i1,i2,i3,i4,i5,i6,i7,i8,i9,i10,i11⟩:=zK HBA.o;go_enter func65,ntmps65;go_wp2_with fail;clear hX
 go_region_held3 (fun w'=>w'.cell? (Zt w.heap.size 0)=some (.slice a c.r.xs.length ca)∧w'.cell? (Zt w.heap.size 1)=some (.slice b c.r.ys.length cb)∧w'.cell? (Zt w.heap.size 2)=some (.int .i64 c.r.o)∧w'.cell? (Zt w.heap.size 3)=some (.int .i64 c.r.p)∧w'.cell? (Zt w.heap.size 4)=some (.int .i64 c.r.f)∧w'.cell? (Zt w.heap.size 5)=some (.int .i64 c.r.m)∧w'.cell? (Zt w.heap.size 6)=some (.bool c.r.s)∧w'.cell? (Zt w.heap.size 7)=some (.bool c.r.t)∧w'.cell? (Zt w.heap.size 8)=some (.slice e c.bx.length ce)∧w'.cell? (Zt w.heap.size 9)=some (.slice q c.bm cq)∧w'.cell? (Zt w.heap.size 10)=some (.bool c.st)∧w'.cell? (Zt w.heap.size 11)=some (.bool c.ha)) (first|exact zK B4.o|exact zK B3.o|exact zK (show Blk _ _ _ _ from HBA.o)|exact zK (B4.o.alloc _))
  (first|(go_at_call 122;have z9:=B3;refine (Qe _ e q ce cq c.bm c.bx c.bl (HE.o.ai K3.o) (HQ.o.ai K3.o) LB.o LL.o LM.o).mono ?_;rintro e9 w4 ⟨g,rfl,hb4,hg4,k4⟩;have B4:=Zr (B3.o.ae k4);have G4:=Zr hb4;have L4:=Zr hg4;have K4:=Zr (K3.o.trans k4);clear hb4 hg4 k4)|(go_at_call 121;refine (UB _ c.r a b ca cb (HA.o.ai (ah (Kept.refl _ _ _))) (HB.o.ai (ah (Kept.refl _ _ _))) LX.o LY.o).mono ?_;rintro e9 w3 ⟨rfl,kd⟩;have k3:=aK kd;have B3:=Zr (HBA.o.ae k3);have K3:=Zr k3;clear kd k3))
 go_wp2_with fail;go_ret;have s0:=K0.o.size;have s3:=K3.o.size;have l4:=L4.o;have g4:=G4.o.lt;refine ⟨w4.heap.size,g,rfl,⟨c.bm,Blk.new w4 _ _,⟨yO (G4.o.alloc _) LL.o (by omega) (show c.bm<=2000000 by have:=LM.o;omega),?_,?_⟩⟩,K0.o.trans (ag K4.o _)⟩
 ·have:=K4.o.size;omega
 ·omega
theorem CAt.zX {w:World} {lo b g:Nat} {c:Mc} {h:Hl} (a:CAt w lo b g c h) (l:c.bx.length=512):w.cell? (Zt b 0)=some (.int .i64 (el c.r.xs 0))∧w.cell? (Zt b 1)=some (.int .i64 (el c.r.xs 1))∧w.cell? (Zt b 2)=some (.int .i64 (el c.r.xs 2))∧w.cell? (Zt b 3)=some (.int .i64 (el c.r.xs 3))∧w.cell? (Zt b 4)=some (.int .i64 (el c.r.ys 0))∧w.cell? (Zt b 5)=some (.int .i64 (el c.r.ys 1))∧w.cell? (Zt b 6)=some (.int .i64 (el c.r.ys 2))∧w.cell? (Zt b 7)=some (.int .i64 (el c.r.ys 3))∧w.cell? (Zt b 8)=some (.int .i64 c.r.o)∧w.cell? (Zt b 9)=some (.int .i64 c.r.p)∧w.cell? (Zt b 10)=some (.int .i64 c.r.f)∧w.cell? (Zt b 11)=some (.int .i64 c.r.m)∧w.cell? (Zt b 12)=some (.bool c.r.s)∧w.cell? (Zt b 13)=some (.bool c.r.t)∧w.cell? (Zt b 527)=some (.bool c.st)∧w.cell? (Zt b 528)=some (.bool h.a):=
 ⟨a.cX (by omega),a.cX (by omega),a.cX (by omega),a.cX (by omega),a.cY (k:=0) (by omega),a.cY (k:=1) (by omega),a.cY (k:=2) (by omega),a.cY (k:=3) (by omega),a.cO,a.cP,a.cF,a.cM,a.cS,a.cT,a.cSt l,a.cH l⟩
theorem YS (w:World) {r:Rg} {st:Bool} {ha:Hl} (b:Nat) (xs:List Int) (d:Option Addr) (n c:Nat) (hB:Blk w b (cor r xs (.slice d n c) st ha) ha.t.y) (lx:xs.length=512) :
  Calls prog 125 #[.pointer (some (Zt b 14))] w fun e w'=>∃g:Nat,e=.returned (.agg #[.slice (some (Zt g 0)) 512 512,.slice d n c])∧Blk w' g (cellsOf xs) 3∧w.heap.size<=g∧Kept 0 0 w w':=by
 have HX:=Zr lx;have HB:=Zr hB;have hu:=underlying154;have hcs:(xs.map (Value.int .i64)).length=512:=by rw [List.length_map,lx]
 have hi:(prog.info? 154).map (·.size)=some (xs.map (Value.int .i64)).length:=by rw [hcs];exact Tryz.xq
 have h1:∀v∈xs.map (Value.int .i64),v.oneCell'=true:=iq;have hlt:=hB.lt;have HR:=Zr ((Blk.new w #[.slice none 0 0,.slice none 0 0] 38));have K0:=Zr (kept_alloc w (.cells #[.slice none 0 0,.slice none 0 0] 38));have B0:=Zr (hB.alloc (.cells #[.slice none 0 0,.slice none 0 0] 38));clear hB lx;go_enter func125,ntmps125;go_wp2_with fail;obtain ⟨W,hW⟩:∃W:World,W=w.alloc (.cells #[.slice none 0 0,.slice none 0 0] 38):=⟨_,rfl⟩
 rw [<-hW] at HR K0 B0 ⊢;clear hW;obtain ⟨r1,r2⟩:=FI B0.o HX.o
 go_region_held3 (fun w'=>w'.rangeAt b 14 (xs.map (Value.int .i64))∧w'.cell? (Zt b 526)=some (.slice d n c)) (first|exact FI B3.o HX.o|exact FI ((B3.o.other _ _ _ (by omega)).other _ _ _ (by omega)) HX.o|go_keep_ranges|go_keep)
  (first|(go_at_call 181;refine (N7 _ xs HX.o).mono ?_;rintro e w3 ⟨g,rfl,hb3,hg3,kd⟩;have k3:=aK kd;have B3:=Zr (B0.o.ae k3);have R3:=Zr (HR.o.ae k3);have q0:=R3.o.cell (i:=0) rfl;have q1:=R3.o.cell (i:=1) rfl;have f0:=R3.o.frozen 0;have f1:=R3.o.frozen 1;have G3:=Zr hb3;have L3:=Zr hg3;have K3:=Zr (K0.o.trans k3);clear hb3 hg3 kd k3))
 go_wp2_with fail;have l3:W.heap.size<=g:=L3.o;have k0:=K0.o.size;have k1:=HR.o.lt;refine bodyPost_ret (v:=.agg #[.slice (some (Zt g 0)) 512 512,.slice d n c]) ?_ rfl ⟨g,rfl,?_,by omega,?_⟩
 ·rw [aj rfl];go_simp
 ·exact (G3.o.other _ _ _ (by omega)).other _ _ _ (by omega)
 ·exact af (af K3.o _ _ _ (.inr (by omega))) _ _ _ (.inr (by omega))
theorem WF (hC:CAt w lo b g c h) (G:GM c) :
  Calls prog 67 #[.pointer (some (Zt b 0))] w fun r w'=>∃(a' b' e' q':Option Addr) (ca' cb' ce' cq':Nat),r=.returned (.agg (xQ (c.cpu h.a) a' b' e' q' ca' cb' ce' cq'))∧oU w' lo (c.cpu h.a) a' b' e' q'∧Kept 0 0 w w'∧(∀z,blk a'=some z∨blk b'=some z∨blk e'=some z∨blk q'=some z->z=g∨w.heap.size<=z):=by
 obtain ⟨l0,l1,l2,l3,l4⟩:=hC.lt;have K0:=Zr (kept_alloc w (.cells cpZ 40));have R0:=Zr (Blk.new w cpZ 40);have C0:=Zr (hC.alloc (.cells cpZ 40));have LX:=Zr G.g.d4;have LY:=Zr G.g.a4;have LB:=Zr G.bx;clear hC G;obtain ⟨X,hX⟩:∃X:World,w.alloc (.cells cpZ 40)=X:=⟨_,rfl⟩
 rw [hX] at K0 R0 C0;obtain ⟨i0,i1,i2,i3,i4,i5,i6,i7,i8,i9,i10,i11,i12,i13,j1,j2⟩:=C0.o.zX LB.o;go_enter func67,ntmps67;go_wp2_with fail;clear hX
 go_region_held3 (fun w'=>w'.cell? (Zt b 0)=some (.int .i64 (el c.r.xs 0))∧w'.cell? (Zt b 1)=some (.int .i64 (el c.r.xs 1))∧w'.cell? (Zt b 2)=some (.int .i64 (el c.r.xs 2))∧w'.cell? (Zt b 3)=some (.int .i64 (el c.r.xs 3))∧w'.cell? (Zt b 4)=some (.int .i64 (el c.r.ys 0))∧w'.cell? (Zt b 5)=some (.int .i64 (el c.r.ys 1))∧w'.cell? (Zt b 6)=some (.int .i64 (el c.r.ys 2))∧w'.cell? (Zt b 7)=some (.int .i64 (el c.r.ys 3))∧w'.cell? (Zt b 8)=some (.int .i64 c.r.o)∧w'.cell? (Zt b 9)=some (.int .i64 c.r.p)∧w'.cell? (Zt b 10)=some (.int .i64 c.r.f)∧w'.cell? (Zt b 11)=some (.int .i64 c.r.m)∧w'.cell? (Zt b 12)=some (.bool c.r.s)∧w'.cell? (Zt b 13)=some (.bool c.r.t)∧w'.cell? (Zt b 527)=some (.bool c.st)∧w'.cell? (Zt b 528)=some (.bool h.a)) (first|with_reducible exact C4.o.zX LB.o|with_reducible exact C3.o.zX LB.o|with_reducible exact C0.o.drew.zX LB.o|exact (C4.o.kept ((((((((((((ak _ w.heap.size _ _).one _ _).one _ _).one _ _).one _ _).one _ _).one _ _).one _ _).one _ _).one _ _).one _ _).one _ _) (by omega) (by omega)).zX LB.o)
  (first|(go_at_call 125;have z9:=C3;obtain ⟨cu,hb9,ho9⟩:=C3.o;refine (YS _ b c.bx _ _ _ hb9 LB.o).mono ?_;rintro e9 w4 ⟨gb,rfl,hb4,hg4,k4⟩;have C4:=Zr (C3.o.any k4);have B4:=Zr hb4;have L4:=Zr hg4;have RI4:=Zr (RI3.o.kept k4);have R4:=Zr (R3.o.ae k4);have p:=R4.o.all;have pf:=R4.o.fz;have O4:=Zr (ho9.any k4);have K4:=Zr (K3.o.trans k4);clear hb4 hg4 k4 hb9 ho9)|(go_at_call 124;refine (Lu c.r _ LX.o LY.o).mono ?_;rintro e9 w3 ⟨a',b',ca',cb',rfl,hr3,kd⟩;have k3:=aK kd;have C3:=Zr (C0.o.any k3);have R3:=Zr (R0.o.ae k3);have RI3:=Zr hr3;have K3:=Zr k3;clear kd k3 hr3))
 go_wp2_with fail;have K5:=((((((((((((ak w4 w.heap.size 0 (.slice a' c.r.xs.length ca')).one 1 (.slice b' c.r.ys.length cb')).one 2 (.int .i64 c.r.o)).one 3 (.int .i64 c.r.p)).one 4 (.int .i64 c.r.f)).one 5 (.int .i64 c.r.m)).one 6 (.bool c.r.s)).one 7 (.bool c.r.t)).one 8 (.slice (some (Zt gb 0)) 512 512)).one 9 (.slice (some (Zt g 0)) c.bm cu)).one 10 (.bool c.st)).one 11 (.bool h.a))
 have s0:w.heap.size<X.heap.size:=R0.o.lt;have s3:X.heap.size<=w3.heap.size:=K3.o.size;have s4:w3.heap.size<=w4.heap.size:=by have:=K4.o.size;have:=L4.o;have:=B4.o.lt;omega
 have l4:=L4.o;have b4:=B4.o.lt;have s5:=K5.size
 have ra:∀x,blk a'=some x->X.heap.size<=x∧x<w3.heap.size:=by
  intro x hx;rcases RI3.o.1 with ⟨e1,_⟩|⟨y,e1,y0,y1,_⟩
  ·rw [e1] at hx;cases hx
  ·rw [e1] at hx;have hx':y=x:=Option.some.inj hx;subst hx';exact ⟨y0,y1⟩
 have rb:∀x,blk b'=some x->X.heap.size<=x∧x<w3.heap.size:=by
  intro x hx;rcases RI3.o.2.1 with ⟨e1,_⟩|⟨y,e1,y0,y1,_⟩
  ·rw [e1] at hx;cases hx
  ·rw [e1] at hx;have hx':y=x:=Option.some.inj hx;subst hx';exact ⟨y0,y1⟩
 refine bodyPost_ret (v:=.agg #[.slice a' c.r.xs.length ca',.slice b' c.r.ys.length cb',.int .i64 c.r.o,.int .i64 c.r.p,.int .i64 c.r.f,.int .i64 c.r.m,.bool c.r.s,.bool c.r.t,.slice (some (Zt gb 0)) 512 512,.slice (some (Zt g 0)) c.bm cu,.bool c.st,.bool h.a]) ?_ rfl ⟨a',b',some (Zt gb 0),some (Zt g 0),ca',cb',512,cu,?_,⟨?_,?_,?_,?_,RI3.o.2.2,?_,?_,?_,?_,?_⟩,?_,?_⟩
 ·rw [aj rfl];go_simp
 ·unfold xQ Mc.cpu;dsimp only;rw [LB.o]
 ·exact (aP.kept RI4.o.1 K5 (.inr (.inl (show w.heap.size+1<=X.heap.size by omega)))).wide (show lo<=X.heap.size by omega) s5
 ·exact (aP.kept RI4.o.2.1 K5 (.inr (.inl (show w.heap.size+1<=X.heap.size by omega)))).wide (show lo<=X.heap.size by omega) s5
 ·exact .inr ⟨gb,rfl,by omega,by omega,ik (B4.o.kept K5 (by omega))⟩
 ·exact .inr ⟨g,rfl,l2,by omega,bY (bG O4.o.l K5 (by omega))⟩
 ·intro x h1 h2;have h3:gb=x:=Option.some.inj h2;have:=ra x h1;omega
 ·intro x h1 h2;have h3:g=x:=Option.some.inj h2;have:=ra x h1;omega
 ·intro x h1 h2;have h3:gb=x:=Option.some.inj h2;have:=rb x h1;omega
 ·intro x h1 h2;have h3:g=x:=Option.some.inj h2;have:=rb x h1;omega
 ·intro x h1 h2;have h3:gb=x:=Option.some.inj h1;have h4:g=x:=Option.some.inj h2;omega
 ·exact aI (K0.o.trans K4.o) K5 (by omega)
 ·intro z hz;rcases hz with hz|hz|hz|hz
  ·exact .inr (by have:=ra z hz;omega)
  ·exact .inr (by have:=rb z hz;omega)
  ·have:gb=z:=Option.some.inj hz
   exact .inr (by omega)
  ·have:g=z:=Option.some.inj hz
   exact .inl this.symm
theorem YR (hC:CAt w lo b g c h) (G:GM c) :
  Calls prog 67 #[.pointer (some (Zt b 0))] w fun r w'=>∃(a' b' e' q':Option Addr) (ca' cb' ce' cq':Nat),r=.returned (.agg (xQ (c.cpu h.a) a' b' e' q' ca' cb' ce' cq'))∧oU w' lo (c.cpu h.a) a' b' e' q'∧Kept 0 0 w w':=by
 refine (WF w lo b g c h hC G).mono ?_;rintro e9 w9 ⟨a',b',e',q',ca',cb',ce',cq',h1,h2,h3,_⟩;exact ⟨a',b',e',q',ca',cb',ce',cq',h1,h2,h3⟩
theorem oU.mvs {w w':World} {base base' x y:Nat} {c:Cp} {a b e q:Option Addr} (h:oU w base c a b e q) (k:Kept x y w w') (hy:y<=base) (hb:base'<=base):oU w' base' c a b e q:=
 ⟨(aP.kept h.d k (.inr (.inl hy))).wide hb k.size,(aP.kept h.a' k (.inr (.inl hy))).wide hb k.size,(aP.kept h.b' k (.inr (.inl hy))).wide hb k.size,(aP.kept h.l k (.inr (.inl hy))).wide hb k.size,h.n1,h.n2,h.n3,h.n4,h.n5,h.n6⟩
theorem zf {w a b:World} {lo hi g g':Nat} (k:Kept 0 0 w a) (h:Since a lo hi g b g') (hl:w.heap.size<=lo) (hg:w.heap.size<=g):Kept 0 0 w b:=
 ⟨h.2.os.trans k.os,h.2.tape.trans k.tape,h.2.output.trans k.output,Nat.le_trans k.size h.2.size,fun i hi _=>(h.2.block i (Nat.lt_of_lt_of_le hi k.size) (by unfold own;omega)).trans (k.block i hi (by omega))⟩
theorem pG {w:World} {p:Nat} {v0 v1 v2 v3 v4 v5 v6 v7 v8 v9 v10 v11:Value}:Kept p (p+1) w ((((((((((((w.setCell (Zt p 0) (v0)).setCell (Zt p 1) (v1)).setCell (Zt p 2) (v2)).setCell (Zt p 3) (v3)).setCell (Zt p 4) (v4)).setCell (Zt p 5) (v5)).setCell (Zt p 6) (v6)).setCell (Zt p 7) (v7)).setCell (Zt p 8) (v8)).setCell (Zt p 9) (v9)).setCell (Zt p 10) (v10)).setCell (Zt p 11) (v11)):=((((((((((((ak w p 0 (v0)).one 1 (v1)).one 2 (v2)).one 3 (v3)).one 4 (v4)).one 5 (v5)).one 6 (v6)).one 7 (v7)).one 8 (v8)).one 9 (v9)).one 10 (v10)).one 11 (v11))
theorem zk (w:World) (c:Cp) (a b e q:Option Addr) (ca cb ce cq:Nat) (ha:Came w a c.r.xs) (hb:Came w b c.r.ys) (he:Came w e c.bx) (hq:Came w q c.bl) (lx:c.r.xs.length<=2000000) (ly:c.r.ys.length<=2000000) (lb:c.bx.length<=2000000) (ll:c.bl.length=5*c.bm) (lm:c.bm<=2000000) (wf:WfR c.r) :
  Calls prog 84 #[.agg #[.slice a c.r.xs.length ca,.slice b c.r.ys.length cb,iv c.r.o,iv c.r.p,iv c.r.f,iv c.r.m,.bool c.r.s,.bool c.r.t,.slice e c.bx.length ce,.slice q c.bm cq,.bool c.st,.bool c.ha]] w fun r w'=>r=.returned (.bool (eY c))∧Kept 0 0 w w':=by
 have K0:=Zr (kept_alloc w (.cells #[.slice a c.r.xs.length ca,.slice b c.r.ys.length cb,iv c.r.o,iv c.r.p,iv c.r.f,iv c.r.m,.bool c.r.s,.bool c.r.t,.slice e c.bx.length ce,.slice q c.bm cq,.bool c.st,.bool c.ha] 40));have HBA:=Zr (Blk.new w #[.slice a c.r.xs.length ca,.slice b c.r.ys.length cb,iv c.r.o,iv c.r.p,iv c.r.f,iv c.r.m,.bool c.r.s,.bool c.r.t,.slice e c.bx.length ce,.slice q c.bm cq,.bool c.st,.bool c.ha] 40);obtain ⟨X,hX⟩:∃X:World,w.alloc (.cells #[.slice a c.r.xs.length ca,.slice b c.r.ys.length cb,iv c.r.o,iv c.r.p,iv c.r.f,iv c.r.m,.bool c.r.s,.bool c.r.t,.slice e c.bx.length ce,.slice q c.bm cq,.bool c.st,.bool c.ha] 40)=X:=⟨_,rfl⟩
 rw [hX] at K0 HBA;have HA:=Zr (ha.ai K0.o);have HB:=Zr (hb.ai K0.o);have HE:=Zr (he.ai K0.o);have HQ:=Zr (hq.ai K0.o);clear ha hb he hq;have p:=HBA.o.all;cases h1:rE c.r
 ·go_enter func84,ntmps84;go_wp2_with (go_at_call 137;refine (mO _ c.r a b ca cb HA.o HB.o lx ly wf).mono ?_;rintro e9 W ⟨rfl,k9⟩;rw [h1];have HK1:=Zr k9;have HB1:=Zr (HBA.o.ae k9);have HE1:=Zr (HE.o.ai k9);have HQ1:=Zr (HQ.o.ai k9);clear k9 p;have p:=HB1.o.all);go_ret;exact ⟨rB (by unfold eY;simp [h1]),K0.o.trans HK1.o⟩
 ·cases h2:Pl.dV c.bx c.bl c.bm
  ·go_enter func84,ntmps84;go_wp2_with (first|(go_at_call 138;have z9:=HB1;refine (dV _ e q ce cq c.bm c.bx c.bl HE1.o HQ1.o lb ll lm).mono ?_;rintro e9 W2 ⟨rfl,k9⟩;rw [h2];have HK2:=Zr k9;have HB2:=Zr (HB1.o.ae k9);clear k9 p;have p:=HB2.o.all)|(go_at_call 137;refine (mO _ c.r a b ca cb HA.o HB.o lx ly wf).mono ?_;rintro e9 W ⟨rfl,k9⟩;rw [h1];have HK1:=Zr k9;have HB1:=Zr (HBA.o.ae k9);have HE1:=Zr (HE.o.ai k9);have HQ1:=Zr (HQ.o.ai k9);clear k9 p;have p:=HB1.o.all));go_ret;exact ⟨rB (by unfold eY;simp [h1,h2]),(K0.o.trans HK1.o).trans HK2.o⟩
  ·rcases Bool.eq_false_or_eq_true c.st with h3|h3
   all_goals
    have H3:=Zr h3;clear h3;go_enter func84,ntmps84;go_wp2_with (first|(go_at_call 138;have z9:=HB1;refine (dV _ e q ce cq c.bm c.bx c.bl HE1.o HQ1.o lb ll lm).mono ?_;rintro e9 W2 ⟨rfl,k9⟩;rw [h2];have HK2:=Zr k9;have HB2:=Zr (HB1.o.ae k9);clear k9 p;have p:=HB2.o.all;rw [H3.o] at p)|(go_at_call 137;refine (mO _ c.r a b ca cb HA.o HB.o lx ly wf).mono ?_;rintro e9 W ⟨rfl,k9⟩;rw [h1];have HK1:=Zr k9;have HB1:=Zr (HBA.o.ae k9);have HE1:=Zr (HE.o.ai k9);have HQ1:=Zr (HQ.o.ai k9);clear k9 p;have p:=HB1.o.all));go_ret;exact ⟨rB (by unfold eY;simp [h1,h2,H3.o]),(K0.o.trans HK1.o).trans HK2.o⟩
theorem Dp (w:World) (c:Cp) (a b e q:Option Addr) (ca cb ce cq:Nat) (ha:Came w a c.r.xs) (hb:Came w b c.r.ys) (he:Came w e c.bx) (hq:Came w q c.bl) (lx:c.r.xs.length<=2000000) (ly:c.r.ys.length<=2000000) (lb:c.bx.length<=2000000) (ll:c.bl.length=5*c.bm) (lm:c.bm<=2000000) (wf:WfR c.r) :
  Calls prog 62 #[.agg (cpA c a b e q ca cb ce cq)] w fun r w'=>r=.returned (.bool (qB c))∧Kept 0 0 w w':=by
 have K0:=Zr (kept_alloc w (.cells (cpA c a b e q ca cb ce cq) 40));have BA:=Zr (Blk.new w (cpA c a b e q ca cb ce cq) 40);obtain ⟨X,hX⟩:∃X:World,w.alloc (.cells (cpA c a b e q ca cb ce cq) 40)=X:=⟨_,rfl⟩
 rw [hX] at K0 BA;have HA:=Zr (ha.ai K0.o);have HB:=Zr (hb.ai K0.o);have HE:=Zr (he.ai K0.o);have HQ:=Zr (hq.ai K0.o);have p:=BA.o.all;clear ha hb he hq;cases h1:eY c<;>cases h2:c.st<;>cases h3:c.ha
 all_goals
  have H2:=Zr h2;have H3:=Zr h3;clear h2 h3;go_enter func62,ntmps62;go_wp2_with (go_at_call 84;refine (zk _ c a b e q ca cb ce cq HA.o HB.o HE.o HQ.o lx ly lb ll lm wf).mono ?_;rintro e9 W1 ⟨rfl,k9⟩;rw [h1];have K1:=Zr k9;have p1:=(BA.o.ae k9).all;unfold cpA at p1;rw [H2.o,H3.o] at p1;clear k9);go_ret;exact ⟨rB (by unfold qB;rw [h1,H2.o,H3.o];rfl),K0.o.trans K1.o⟩
theorem Ee {w W:World} {lo:Nat} (hs:nD w) (hn:qZ w) (k:Kept 0 0 w W) (h:w.heap.size<=lo):jm W lo:=by
 have h1:=World.block_lt_of_cell? _ _ (hs 0 (by omega));have h2:=World.block_lt_of_cell? _ _ (hn 0 (by omega));exact ⟨hs.below k.below,hn.below k.below,Nat.lt_of_lt_of_le h1 h,Nat.lt_of_lt_of_le h2 h⟩
def Pl.swC (c:Cp):Cp:=bif qB c then whC c else Ku
def Pl.swV (c:Cp):Int:=bif qB c then whV c else 0
theorem kW {fn:Func} {p q u:Tmp} {ty:TypeId} (h:fn.results=#[.cell p ty,.tmp q,.tmp u]) (tmps:Array Value) (P:Program) (w:World) :
  (results fn tmps).run P w=((asAddr (tmps.getD p undef)).run P w).andThen fun a w₁=>((loadVar ty a).run P w₁).andThen fun v w₂=>.ok (.tuple #[v,tmps.getD q undef,tmps.getD u undef]) w₂:=by
 simp only [results,h];simp [Sem.run_bind,Result.andThen]
theorem N9 (w:World) (c:Cp) (a b e q:Option Addr) (ca cb ce cq:Nat) (ha:aG w a c.r.xs) (hb:aG w b c.r.ys) (he:aG w e c.bx) (hq:aG w q c.bl) (hok:eY c=true) (hl:c.bl.length=5*c.bm) :
  Calls prog 86 #[.agg (cpA c a b e q ca cb ce cq)] w fun r w'=>∃gd cd ga cA g1 c1 g2 c2 mid:Nat,r=.returned (.tuple #[.agg (cpA (whC c) (some (Zt gd 0)) (some (Zt ga 0)) (some (Zt g1 0)) (some (Zt g2 0)) cd cA c1 c2),iv (whV c)])∧CO w' w.heap.size mid (whC c) gd ga g1 g2 c2∧Kept 0 0 w w':=by
 have G:=GM.of hok hl c.st;obtain ⟨k1,k2⟩:=ul hok hl;have N:=GM.of k1 k2 false;have z:=Sz w c a b e q ca cb ce cq ha hb he hq hok hl;unfold cpA;rw [show c.r.xs.length=4 from G.g.d4,show c.r.ys.length=4 from G.g.a4,show c.bx.length=512 from G.bx,show (whC c).r.xs.length=4 from N.g.d4,show (whC c).r.ys.length=4 from N.g.a4,show (whC c).bx.length=512 from N.bx];exact z
theorem vU (w:World) (c:Cp) (a b e q:Option Addr) (ca cb ce cq:Nat) (ha:aG w a c.r.xs) (hb:aG w b c.r.ys) (he:aG w e c.bx) (hq:aG w q c.bl) (lx:c.r.xs.length<=2000000) (ly:c.r.ys.length<=2000000) (lb:c.bx.length<=2000000) (ll:c.bl.length=5*c.bm) (lm:c.bm<=2000000) :
  Calls prog 34 #[.agg (cpA c a b e q ca cb ce cq)] w fun r w'=>∃(a' b' e' q':Option Addr) (ca' cb' ce' cq':Nat),r=.returned (.tuple #[.agg (xQ (swC c) a' b' e' q' ca' cb' ce' cq'),iv (swV c),.bool (qB c)])∧oU w' w.heap.size (swC c) a' b' e' q'∧Kept 0 0 w w':=by
 have K0:=Zr (ag (kept_alloc w (.cells (cpA c a b e q ca cb ce cq) 40)) (.cells cpZ 40));have BA:=Zr ((Blk.new w (cpA c a b e q ca cb ce cq) 40).alloc (.cells cpZ 40));have R0:=Blk.new (w.alloc (.cells (cpA c a b e q ca cb ce cq) 40)) cpZ 40;simp only [World.size_alloc] at R0;replace R0:=Zr R0;obtain ⟨X,hX⟩:∃X:World,(w.alloc (.cells (cpA c a b e q ca cb ce cq) 40)).alloc (.cells cpZ 40)=X:=⟨_,rfl⟩
 rw [hX] at K0 BA R0;have HA:=Zr (ha.ai K0.o);have HB:=Zr (hb.ai K0.o);have HE:=Zr (he.ai K0.o);have HQ:=Zr (hq.ai K0.o);have sX:w.heap.size+1<X.heap.size:=R0.o.lt;have p:=BA.o.all;clear ha hb he hq;cases hs:qB c
 ·have EC:Hid (swC c=Ku∧swV c=0):=Zr (by unfold swC swV;rw [hs];exact ⟨rfl,rfl⟩);have HS9:=Zr hs;rcases Ru hs with h1|⟨h1,h2⟩|⟨h1,h2,h3⟩
  all_goals
   first|(have H2:=Zr h2;have H3:=Zr h3;clear h2 h3)|(have H2:=Zr h2;clear h2)|skip
   clear hs;go_enter func34,ntmps34;go_wp2_with (go_at_call 55;refine (sF _ c a b e q ca cb ce cq HA.o HB.o HE.o HQ.o lx ly lb ll lm).mono ?_;rintro e9 W1 ⟨rfl,k9⟩;rw [h1];have K1:=Zr k9;have R1:=Zr (R0.o.ae k9);have p1:=(BA.o.ae k9).all;(first|(unfold cpA at p1;rw [H2.o,H3.o] at p1)|(unfold cpA at p1;rw [H2.o] at p1)|skip);have r1:=R1.o.all;have rf1:=R1.o.fz;clear k9);have s1:=K1.o.size;refine bodyPost_ret (v:=.tuple #[.agg cpZ,iv 0,.bool false]) ?_ rfl ⟨none,none,none,none,0,0,0,0,by rw [EC.o.1,EC.o.2];first|rfl|(rw [HS9.o];rfl),by rw [EC.o.1];exact zJ _ _,aI (K0.o.trans K1.o) pG (by omega)⟩;rw [kW rfl];go_simp
 ·obtain ⟨h1,h2,h3⟩:=wW hs;obtain ⟨N,hN⟩:∃N,N=whC c:=⟨_,rfl⟩
  obtain ⟨V,hV⟩:∃V,V=whV c:=⟨_,rfl⟩
  have EC:Hid (swC c=N∧swV c=V):=Zr (by unfold swC swV;rw [hs,hN,hV];exact ⟨rfl,rfl⟩);have HS9:=Zr hs;have HW:∀(w9:World) (ra:aG w9 a c.r.xs) (rb:aG w9 b c.r.ys) (re:aG w9 e c.bx) (rq:aG w9 q c.bl),_:=fun w9 ra rb re rq=>N9 w9 c a b e q ca cb ce cq ra rb re rq h1 ll;rw [<-hN,<-hV] at HW;unfold cpA at HW;rw [h2,h3] at HW;have H2:=Zr h2;have H3:=Zr h3;clear h2 h3 hs hN hV;go_enter func34,ntmps34;go_wp2_with (first|(go_at_call 86;refine (HW _ (HA.o.ai K1.o) (HB.o.ai K1.o) (HE.o.ai K1.o) (HQ.o.ai K1.o)).mono ?_;rintro e9 W2 ⟨gd,cd,ga,cA,g1,c1,g2,c2,mid,rfl,hc9,k9⟩;have CO2:=Zr hc9;have K2:=Zr ((K0.o.trans K1.o).trans k9);have R2:=Zr (R1.o.ae k9);have z1:X.heap.size<=W1.heap.size:=K1.o.size;have z2:=k9.size;have r2:=(R2.o.alloc (.cells (cpA N (some (Zt gd 0)) (some (Zt ga 0)) (some (Zt g1 0)) (some (Zt g2 0)) cd cA c1 c2) 40)).all;have rf2:=(R2.o.alloc (.cells (cpA N (some (Zt gd 0)) (some (Zt ga 0)) (some (Zt g1 0)) (some (Zt g2 0)) cd cA c1 c2) 40)).fz;have l2:=(Blk.new W2 (cpA N (some (Zt gd 0)) (some (Zt ga 0)) (some (Zt g1 0)) (some (Zt g2 0)) cd cA c1 c2) 40).all;clear hc9 k9 r1 rf1)|(go_at_call 55;refine (sF _ c a b e q ca cb ce cq HA.o HB.o HE.o HQ.o lx ly lb ll lm).mono ?_;rintro e9 W1 ⟨rfl,k9⟩;rw [h1];have K1:=Zr k9;have R1:=Zr (R0.o.ae k9);have p1:=(BA.o.ae k9).all;(first|(unfold cpA at p1;rw [H2.o,H3.o] at p1)|(unfold cpA at p1;rw [H2.o] at p1)|skip);have r1:=R1.o.all;have rf1:=R1.o.fz;clear k9));refine bodyPost_ret (v:=.tuple #[.agg (cpA N (some (Zt gd 0)) (some (Zt ga 0)) (some (Zt g1 0)) (some (Zt g2 0)) cd cA c1 c2),iv V,.bool true]) ?_ rfl ⟨some (Zt gd 0),some (Zt ga 0),some (Zt g1 0),some (Zt g2 0),cd,cA,c1,c2,by rw [EC.o.1,EC.o.2];first|rfl|(rw [HS9.o];rfl),by rw [EC.o.1];exact (CO2.o.Ws.mvs (kept_alloc W2 _) (by omega) (Nat.le_refl _)).mvs pG (by omega) (by omega),aI (ag K2.o _) pG (by omega)⟩;rw [kW rfl];go_simp
def pJ (F:Ft) (r:Bool):PanicEntry:={v:=.iface 42 (.agg (ftA F)),recovered:=r}
theorem Dv (F:Ft) (w:World) (h:(F.v != 0)=false):Calls prog 200 #[.agg (ftA F)] w fun e w'=>e=.returned (.tuple #[])∧Kept 0 0 w w':=by
 have K0:=Zr (kept_alloc w (.cells (ftA F) 42));go_enter func200,ntmps200;go_wp2_with (go_at_call 79;refine (bP F _).mono ?_;rintro e w2 ⟨rfl,k2⟩;rw [h]);go_end0;exact ⟨rfl,K0.o.trans k2⟩
theorem Du (F:Ft) (w:World) (h:(F.v != 0)=true):Calls prog 200 #[.agg (ftA F)] w fun e w'=>e=.panicked [pJ F false]∧Kept 0 0 w w':=by
 have K0:=Zr (kept_alloc w (.cells (ftA F) 42));have B0:=Zr (Blk.new w (ftA F) 42);go_enter func200,ntmps200;go_wp2_with (go_at_call 79;refine (bP F _).mono ?_;rintro e w2 ⟨rfl,k2⟩;rw [h];have q:=(B0.o.ae k2).all);exact ⟨rfl,rfl,K0.o.trans k2⟩
theorem taF (v:Value) (w:World):(Instr.typeAssert (.iface 42 v) 20 42 true).run prog w=.ok (.tuple #[v,.bool true]) w:=by kernel_rfl
theorem Bq (q b:Nat) (F:Ft) (w:World) (hq:(w.alloc (.cells (ftA F) 42)).cell? (Zt q 0)=some (.pointer (some (Zt b 0)))) (x:Bool) (hc:(w.alloc (.cells (ftA F) 42)).cell? (Zt b 528)=some (.bool x)) (hz:(w.alloc (.cells (ftA F) 42)).frozen? (Zt b 528)=false) :
  CallsD prog 196 #[.pointer (some (Zt q 0))] (.panicking [pJ F false]) w fun e u' w'=>e=.returned (.tuple #[])∧u'=.panicking [pJ F true]∧w'=(w.alloc (.cells (ftA F) 42)).setCell (Zt b 528) (.bool true):=by
 refine callsD_of_wpS func196 rfl fun c₀ cs hu => ?_;unfold pJ at hu;apply wpS_seq;apply wpS_region;simp [wpOpsS,go_sem,recoverD,hu,ntmps196,Exit.thenS];have ta:=taF;refine wpS_of_wp ?_;go_wp2;exact ⟨rfl,.panicking [pJ F true],rfl,.tuple #[],results_none rfl _ _ _,rfl,rfl,rfl⟩
theorem J7 (q:Nat) (w:World) :
  CallsD prog 196 #[.pointer (some (Zt q 0))] .returning w fun e u' w'=>e=.returned (.tuple #[])∧u'=.returning∧w'=w:=by
 refine callsD_of_wpS func196 rfl fun c₀ cs hu => ?_;apply wpS_seq;apply wpS_region;simp [wpOpsS,go_sem,recoverD,hu,ntmps196,Exit.thenS];refine wpS_of_wp ?_;go_wp2;cases c₀;simp_all [bodyPostS,results,f196]
theorem Dt (f:Ft) (w:World):Calls prog 240 #[.agg (ftA f)] w fun e w'=>e=.returned (.bool (oM f.v))∧Kept 0 0 w w':=by
 have H:f.v=2∨¬f.v=2∧(f.v=3∨¬f.v=3):=by omega
 rcases H with h2|⟨h2,h3|h3⟩
 all_goals
  obtain ⟨v,pc,ad,wo,wr⟩:=f;simp only at h2;try simp only at h3
  try subst h2
  try subst h3
  go_enter func240,ntmps240;go_wp2;go_ret;exact ⟨rB (by simp [oM, *]),kept_alloc _ _⟩
theorem LC (r:Rg) (f:Ft) (w:World):Calls prog 241 #[.agg (bkR r),.agg (ftA f)] w fun e w'=>e=.returned (iv (gV r.s f))∧Kept 0 0 w w':=by
 have K0:=Zr (ag (kept_alloc w (.cells (bkR r) 151)) (.cells (ftA f) 42));have e1:IntKind.i64.wrap (fl1 f.wr 1+fl1 r.s 2)=fl1 f.wr 1+fl1 r.s 2:=by cases f.wr<;>cases r.s<;>decide
 unfold bkR at K0 ⊢;go_enter func241,ntmps241;go_wp2_with fail;go_quiet (first|(go_at_call 242;exact Calls.quiet_of_same (zx _ _ _))|fail);go_wp2_with fail;go_ret;exact ⟨rI rfl,au K0.o _⟩
theorem F9 (w:World) (r:Rg) (f:Ft) (hg:Pl.Good r) :
  Calls prog 197 #[.agg (bkR r),.agg (ftA f)] w fun e w'=>∃(g c:Nat),e=.returned (.slice (some (Zt g 0)) (iC r f).length c)∧w.heap.size<=g∧g<w'.heap.size∧Own w' g (iC r f)∧Kept 0 0 w w':=by
 have HG:=Zr hg;clear hg;have K0:=Zr (ag (kept_alloc w (.cells (bkR r) 151)) (.cells (ftA f) 42));have BC0:=Zr ((Blk.new w (bkR r) 151).alloc (.cells (ftA f) 42));have BF0:=Blk.new (w.alloc (.cells (bkR r) 151)) (ftA f) 42;simp only [World.size_alloc] at BF0;replace BF0:=Zr BF0;obtain ⟨X,hX⟩:∃X:World,(w.alloc (.cells (bkR r) 151)).alloc (.cells (ftA f) 42)=X:=⟨_,rfl⟩
 rw [hX] at K0 BC0 BF0;have nX:X.heap.size=w.heap.size+2:=by simp [<-hX]
 obtain ⟨i,hi0,hz0,hz1,hz2⟩:=info_parts Tryz.info3;have H63:Hid (2+3<=maxLen):=Zr (by unfold maxLen;omega);go_enter func197,ntmps197;go_wp2_with fail;go_region_held3 (fun w'=>(∀i,w'.cell? ⟨w.heap.size,i,none⟩=((#[iv (el r.xs 0),iv (el r.xs 1),iv (el r.xs 2),iv (el r.xs 3),iv (el r.ys 0),iv (el r.ys 1),iv (el r.ys 2),iv (el r.ys 3),iv r.o,iv r.p,iv r.f,iv r.m,.bool r.s,.bool r.t]:Array Value))[i]?)∧(∀i,w'.cell? ⟨w.heap.size+1,i,none⟩=(ftA f)[i]?)) (first|exact ⟨BC3.o.all,BF3.o.all⟩|exact ⟨(BC3.o.alloc _).all,(BF3.o.alloc _).all⟩|exact ⟨(show Blk _ _ _ _ from BC0.o).all,(show Blk _ _ _ _ from BF0.o).all⟩) (first|(go_at_call 199;refine (kP r _ HG.o.f0 HG.o.f1 HG.o.m0 HG.o.m1).mono ?_;rintro e9 w3 ⟨rfl,k3⟩;have K3:=Zr (K0.o.trans (aK k3));have BC3:=Zr (BC0.o.ae (aK k3));have BF3:=Zr (BF0.o.ae (aK k3));clear k3));have BC4:=Zr (BC3.o.alloc (.cells #[iv f.pc,iv (Pl.status r)] 3));have BF4:=Zr (BF3.o.alloc (.cells #[iv f.pc,iv (Pl.status r)] 3));have BR4:=Zr (Blk.new w3 #[iv f.pc,iv (Pl.status r)] 3);have K4:=Zr (ag K3.o (.cells #[iv f.pc,iv (Pl.status r)] 3));have n3:=BF3.o.lt;have hs3:w.heap.size<=w3.heap.size:=by omega
 obtain ⟨X4,hX4⟩:∃X:World,w3.alloc (.cells #[iv f.pc,iv (Pl.status r)] 3)=X:=⟨_,rfl⟩
 rw [hX4] at BC4 BF4 BR4 K4;have p:=BF4.o.all;have p2:=BC4.o.all;cases h:oM f.v
 ·have E:Hid (iC r f=[f.pc,Pl.status r]):=Zr (by simp [iC,h]);go_wp2_with (first|(go_at_call 240;refine (Dt f _).mono ?_;rintro e9 w4 ⟨rfl,k4⟩;rw [h];have BC5:=Zr (BC4.o.ae k4);have BF5:=Zr (BF4.o.ae k4);have BR5:=Zr (BR4.o.ae k4);have K5:=Zr (K4.o.trans k4);clear k4));go_ret;exact ⟨_,_,by rw [E.o];rfl,hs3,BR5.o.lt,by rw [E.o];exact ik (xs:=[f.pc,Pl.status r]) BR5.o,K5.o⟩
 ·have E:Hid (iC r f=[f.pc,Pl.status r,f.wo,f.ad,gV r.s f]):=Zr (by simp [iC,h]);go_wp2_with (first|(go_at_call 240;refine (Dt f _).mono ?_;rintro e9 w4 ⟨rfl,k4⟩;rw [h];have BC5:=Zr (BC4.o.ae k4);have BF5:=Zr (BF4.o.ae k4);have BR5:=Zr (BR4.o.ae k4);have K5:=Zr (K4.o.trans k4);clear k4));clear p p2;go_region_held3 (fun w'=>(∀i,w'.cell? ⟨w.heap.size,i,none⟩=((#[iv (el r.xs 0),iv (el r.xs 1),iv (el r.xs 2),iv (el r.xs 3),iv (el r.ys 0),iv (el r.ys 1),iv (el r.ys 2),iv (el r.ys 3),iv r.o,iv r.p,iv r.f,iv r.m,.bool r.s,.bool r.t]:Array Value))[i]?)∧(∀i,w'.cell? ⟨w.heap.size+1,i,none⟩=(ftA f)[i]?)) (first|exact ⟨BC7.o.all,BF7.o.all⟩|exact ⟨BC6.o.all,BF6.o.all⟩|exact ⟨(BC6.o.alloc _).all,(BF6.o.alloc _).all⟩|exact ⟨(show Blk _ _ _ _ from BC5.o).all,(show Blk _ _ _ _ from BF5.o).all⟩) (first|(go_at_call 241;refine (LC r f _).mono ?_;rintro e9 w5 ⟨rfl,k5⟩;have K6:=Zr (K5.o.trans (aK k5));have BC6:=Zr (BC5.o.ae (aK k5));have BF6:=Zr (BF5.o.ae (aK k5));have BR6:=Zr (BR5.o.ae (aK k5));clear k5)|(refine step_append_lies _ (by rfl) _ _ _ (by rfl) w3.heap.size 3 i (iv 0) 1 8 underlying22 hi0 hz0 hz1 hz2 rfl (by decide) (.slice (some (Zt w3.heap.size 0)) 2 2) 2 [iv f.pc,iv (Pl.status r)] (by rfl) (ED (BR6.o.alloc _)) (Zt w5.heap.size 0) 3 3 [iv f.wo,iv f.ad,iv (gV r.s f)] (by rfl) (by rfl) (World.news_of_block (cs:=#[iv f.wo,iv f.ad,iv (gV r.s f)]) (t:=3) (fr:=(0,0)) (heap_alloc_new w5 _)) (by simp [Value.oneCell']) (by decide) H63.o (by decide) (by have:=BR6.o.lt;simp;omega) (w5.heap.size+1) (by simp) ?_;intro g3 c3 w7 hown hgrow hat hlt;have O7:=Zr hown;have G7:=Zr hgrow;have hl6:=BR6.o.lt;have BC7:Hid (Blk w7 w.heap.size (bkR r) 151):=Zr ((hgrow.block w.heap.size (by have:=BC6.o.lt;simp;omega) (by simp [Value.ownBlock];omega)).trans (BC6.o.alloc _));have BF7:Hid (Blk w7 (w.heap.size+1) (ftA f) 42):=Zr ((hgrow.block (w.heap.size+1) (by have:=BF6.o.lt;simp;omega) (by simp [Value.ownBlock];omega)).trans (BF6.o.alloc _));clear hown hgrow));go_wp2_with fail;go_ret;have kk:=kK G7.o (lo:=w3.heap.size) (hi:=w3.heap.size+1) (by intro j hj;have h5:w3.heap.size=j:=Option.some.inj hj;omega);obtain ⟨p3,p4⟩:=O7.o.lt g3 rfl;exact ⟨g3,c3,by rw [E.o];rfl,by omega,p4,by rw [E.o];exact jC (xs:=[f.pc,Pl.status r,f.wo,f.ad,gV r.s f]) O7.o,aI (ag K6.o (.cells #[iv f.wo,iv f.ad,iv (gV r.s f)] 3)) kk (by omega)⟩
end Go.Proofs.YtgikibaajanjiaaGreatDoor
