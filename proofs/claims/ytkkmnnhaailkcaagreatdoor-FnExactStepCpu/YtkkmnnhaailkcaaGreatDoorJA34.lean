/- Part 34 of what the last text leans on. -/
import Derived.Test.YtkkmnnhaailkcaaGreatDoorJA33
import Derived.Test.YtkkmnnhaailkcaaGreatDoorJA23
import Derived.Test.YtkkmnnhaailkcaaGreatDoorJA22
import Derived.Test.YtkkmnnhaailkcaaGreatDoorJA2
import Derived.Test.YtkkmnnhaailkcaaGreatDoorJA1
import Derived.Test.YtkkmnnhaailkcaaGreatDoorJA31
import Derived.Test.YtkkmnnhaailkcaaGreatDoorJA20
import Derived.Test.YtkkmnnhaailkcaaGreatDoorJA21
set_option maxRecDepth 100000
set_option maxHeartbeats 16000000
namespace Go.Proofs.YtkkmnnhaailkcaaGreatDoor
open Go.RowKit Go.Proofs.Tryz
set_option linter.unusedVariables false
theorem Pl.Oi {m:Int} (m0:0≤m) (m1:m≤7):(if Pl.lng m=true then (2:Int) else 1)=if Pl.jS m=true then 2 else 1:=by
 unfold Pl.lng
 rw [show Pl.dB m=true from by simp [Pl.dB,Pl.within];omega]
 rfl
theorem cDo (w:World) (lo b g:Nat) (c:Pl.Mc) (h:Bool) (op z r m k e s a:Int) (hC:CAt w lo b g c h) (G:Pl.GM c) (hf:c.f=Pl.aH) (hx:Pl.dF ⟨op,z,r,m,k,e,s⟩=true) (ht:jF w lo) (a0:0≤a) (a1:a≤65535) :
  Calls prog 73 #[.pointer (some ⟨b,0,none⟩),.agg (inA op z r m k e s),iv a] w fun e' w'=>∃g',e'=.returned (.agg (ftC (c.dn ⟨op,z,r,m,k,e,s⟩ a).f))∧CAt w' lo b g' (c.dn ⟨op,z,r,m,k,e,s⟩ a) h∧Since w b (b+1) g w' g':=by
 have B:=Pl.vJ hx
 have wfm:(Lit.int .i64 m).wf=true:=qU (by have:0≤m:=B.m0;omega) (by have:m≤7:=B.m1;omega)
 obtain ⟨L,hL⟩:∃L,(if Pl.lng m=true then (2:Int) else 1)=L:=⟨_,rfl⟩
 have hl2:L=1∨L=2:=by rw [←hL];split<;>simp
 obtain ⟨BH,hBH⟩:∃BH,(a+L*2)%65536=BH:=⟨_,rfl⟩
 have eb:Pl.beh a ⟨op,z,r,m,k,e,s⟩=BH:=by unfold Pl.beh Pl.Oj;rw [←hBH,←hL,Pl.Oi B.m0 B.m1]
 have b0:0≤BH∧BH≤65535:=by omega
 obtain ⟨N,hN⟩:∃N,Pl.oK ⟨op,z,r,m,k,e,s⟩%65536=N:=⟨_,rfl⟩
 obtain ⟨D,hD⟩:∃D,D=(c.aJ BH).cr ⟨op,z,r,m,k,e,s⟩:=⟨_,rfl⟩
 obtain ⟨F,hF⟩:∃F,F=D.f:=⟨_,rfl⟩
 have ET:Hid (c.dn ⟨op,z,r,m,k,e,s⟩ a=bif F.v==0 then D else {D with r:=c.r,f:=⟨F.v,bif Pl.iW F.v then BH else a,F.ad,N,F.wr⟩}):=hide (by unfold Pl.Mc.dn Pl.Mc.dn';rw [eb,hN,←hD,hF])
 have GP:Hid (Pl.GM (c.aJ BH)):=hide (G.aJ b0.1 b0.2)
 have HL:=hide hL
 have HBH:=hide hBH
 have HN:=hide hN
 have HD:=hide hD
 have HF:=hide hF
 have HX:=hide hx
 have TB:=hide ht
 have gl:=G.bx
 have w2:IntKind.i64.wrap (L*2)=L*2:=by rw [IntKind.wrap_i64];omega
 have w3:IntKind.i64.wrap (a+L*2)=a+L*2:=by rw [IntKind.wrap_i64];omega
 clear hL hBH hN hD hF hx ht B eb
 obtain ⟨l0,l1,l2,l3,l4⟩:=hC.lt
 have HG:=hide G
 obtain ⟨X,hX,K0,C0,A0,R0,sX⟩:=hC.jh op z r m k e s
 have p:=A0.o.all
 clear hC G
 go_enter func73,ntmps73
 go_wp2_with fail
 refine iE (fun A0 l A W=>∃q:Nat,FR [10,11,12,13,14,15,16,17,18,19,7,8] A0 A∧Once l 0 (A.tmps[10]? = some (.pointer (some ⟨b,0,none⟩)))∧Once l 1 (A.tmps[11]? = some (.pointer (some ⟨b,0,none⟩)))∧Once l 2 (A.tmps[12]? = some (.pointer (some ⟨b,0,none⟩)))∧Once l 3 (A.tmps[13]? = some (.agg (bkR c.r)))∧Once l 4 (A.tmps[14]? = some (iv a))∧Once l 5 (A.tmps[15]? = some (.agg (inA op z r m k e s)))∧Once l 6 (A.tmps[16]? = some (iv L))∧Once l 7 (A.tmps[17]? = some (iv (L*2)))∧Once l 8 (A.tmps[18]? = some (iv (a+L*2)))∧Once l 9 (A.tmps[19]? = some (iv BH))∧Once l 10 (A.tmps[7]? = some (.pointer (some ⟨q,0,none⟩)))∧Once l 11 (True)∧Once l 12 (A.tmps[8]? = some (iv BH))∧Once l 10 (X.heap.size≤q∧Blk W q (bif l.getD 11 true then bkR c.r else #[iv 0,iv 0,iv 0,iv 0,iv 0,iv 0,iv 0,iv 0,iv 0,iv 0,iv 0,iv 0,.bool false,.bool false]) 85)∧(l.getD 11 true=true→l.getD 10 true=true)∧Kept 0 0 X W) (by kernel_rfl) (by kernel_rfl) ?start ?fin ?step
 case start=>exact ⟨0,FR.refl _ _,az (by decide),az (by decide),az (by decide),az (by decide),az (by decide),az (by decide),az (by decide),az (by decide),az (by decide),az (by decide),az (by decide),az (by decide),az (by decide),az (by decide),(fun e=>by rw [mM (by decide)] at e;cases e),ae (Kept.refl _ _ _)⟩
 case fin=>
  intro l A W h hl
  obtain ⟨q,hFR,o0,o1,o2,o3,o4,o5,o6,o7,o8,o9,o10,o11,o12,ox,o11w,hK⟩:=h
  have g10:=o10 (hl 10 (by decide))
  have QX:=hide (ox (hl 10 (by decide)))
  rw [hl 11 (by decide)] at QX
  replace QX:Hid (X.heap.size≤q∧Blk W q (bkR c.r) 85):=QX
  have g12:=o12 (hl 12 (by decide))
  have QQ:=hide hK
  have hc9:=hFR.chain
  simp only [List.foldl] at hc9
  rw [nP g10,nP g12] at hc9
  clear ox o11w hl hK hFR g10 g12 o0 o1 o2 o3 o4 o5 o6 o7 o8 o9 o10 o11 o12
  generalize A.tmps.getD 10 undef=s10 at hc9
  generalize A.tmps.getD 11 undef=s11 at hc9
  generalize A.tmps.getD 12 undef=s12 at hc9
  generalize A.tmps.getD 13 undef=s13 at hc9
  generalize A.tmps.getD 14 undef=s14 at hc9
  generalize A.tmps.getD 15 undef=s15 at hc9
  generalize A.tmps.getD 16 undef=s16 at hc9
  generalize A.tmps.getD 17 undef=s17 at hc9
  generalize A.tmps.getD 18 undef=s18 at hc9
  generalize A.tmps.getD 19 undef=s19 at hc9
  subst hc9
  go_simp
  have C1:=hide (C0.o.any QQ.o)
  have A1:=hide (A0.o.af QQ.o)
  have R1:=hide (R0.o.af QQ.o)
  have K1:=hide (K0.o.trans QQ.o)
  have qX:=QX.o.1
  have B1:=hide QX.o.2
  clear p hX K0 C0 A0 R0 QX
  have q9:=C1.o.cP
  have qz:=C1.o.fz
  have p2:=(A1.o.other b 9 (iv BH) (by omega)).all
  go_wp2_with fail
  clear q9 qz p2
  have S2:=hide (((Since.refl w b (b+1) g).any K1.o).set b 9 (iv BH) (.inl (by omega)))
  have A2:=hide (A1.o.other b 9 (iv BH) (by omega))
  have R2:=hide (R1.o.other b 9 (iv BH) (by omega))
  have B2:=hide (B1.o.other b 9 (iv BH) (by omega))
  refine (TZ _ lo b g (c.aJ BH) h op z r m k e s (C1.o.aJ BH) GP.o hf HX.o (TB.o.since S2.o (by omega) (by omega))).mono ?_
  rintro e9 W3 ⟨g',rfl,hc,hs⟩
  rw [←HD.o] at hc ⊢
  rw [←HF.o]
  unfold ftC
  have n3:=hs.ne (b:=w.heap.size+1) R2.o.lt (by omega)
  have m3:=hs.ne (b:=w.heap.size) A2.o.lt (by omega)
  have o3:=hs.ne (b:=q) B2.o.lt (by omega)
  have z3:=hs.size
  obtain ⟨y0,y1,y2,y3,y4⟩:=hc.lt
  have C3:=hide (hc.alloc (.cells (ftA F) 49))
  have A3:=hide ((hs.blk A2.o (by omega) (by omega)).alloc (.cells (ftA F) 49))
  have R3:=hide ((hs.blk R2.o (by omega) (by omega)).alloc (.cells (ftA F) 49))
  have B3:=hide ((hs.blk B2.o (by omega) (by omega)).alloc (.cells (ftA F) 49))
  have S3:=hide ((S2.o.trans hs).alloc (.cells (ftA F) 49))
  have L3:=hide (Blk.new W3 (ftA F) 49)
  have u3:=B3.o.lt
  have v3:w.heap.size+1<W3.heap.size:=by have:=(hs.blk R2.o (by omega) (by omega)).lt;exact this
  have x3:q<W3.heap.size:=(hs.blk B2.o (by omega) (by omega)).lt
  clear hc hs C1 A1 R1 K1 B1 S2 A2 R2 B2
  go_wp2_with fail
  refine (gu F _).mono ?_
  rintro e9 W4 ⟨rfl,kf⟩
  have C4:=hide (C3.o.any kf)
  have A4:=hide (A3.o.af kf)
  have R4:=hide (R3.o.af kf)
  have B4:=hide (B3.o.af kf)
  have L4:=hide (L3.o.af kf)
  have S4:=hide (S3.o.any kf)
  have q4:=L4.o.all
  have r4:=R4.o.all
  have rf4:=R4.o.fz
  clear kf C3 A3 R3 B3 L3 S3
  cases hv:(F.v != 0)
  ·have E1:Hid (c.dn ⟨op,z,r,m,k,e,s⟩ a=D):=hide (by rw [ET.o,show (F.v==0)=true from by simpa using hv];rfl)
   go_wp2_with fail
   have KR:=(((((ak W4 (w.heap.size+1) 0 (iv F.v)).one 1 (iv F.pc)).one 2 (iv F.ad)).one 3 (iv F.wo)).one 4 (.bool F.wr))
   refine bodyPost_ret (v:=.agg (ftA F)) ?_ rfl ⟨g',?_,?_,(S4.o).mine KR (by omega)⟩
   ·rw [aj rfl];go_simp
   ·rw [E1.o,←HF.o];rfl
   ·rw [E1.o];exact ((C4.o).kept KR (by omega) (by omega))
  ·clear r4 rf4
   have b4:=B4.o.all
   unfold bkR at b4
   obtain ⟨y_0,y_1,y_2,y_3,y_4,y_5,y_6,y_7,y_8,y_9,WG,WF,WE,WC⟩:=C4.o.Ac
   have yz:=C4.o.fz
   have KY:=hide (JK W4 b (iv (el c.r.xs 0)) (iv (el c.r.xs 1)) (iv (el c.r.xs 2)) (iv (el c.r.xs 3)) (iv (el c.r.ys 0)) (iv (el c.r.ys 1)) (iv (el c.r.ys 2)) (iv (el c.r.ys 3)) (iv c.r.o) (iv c.r.p) (iv c.r.f) (iv c.r.m) (.bool c.r.s) (.bool c.r.t))
   have C5:=hide (C4.o.X8 c.r)
   obtain ⟨Y,hY⟩:∃Y:World,((((((((((((((W4.setCell ⟨b,0,none⟩ (iv (el c.r.xs 0))).setCell ⟨b,1,none⟩ (iv (el c.r.xs 1))).setCell ⟨b,2,none⟩ (iv (el c.r.xs 2))).setCell ⟨b,3,none⟩ (iv (el c.r.xs 3))).setCell ⟨b,4,none⟩ (iv (el c.r.ys 0))).setCell ⟨b,5,none⟩ (iv (el c.r.ys 1))).setCell ⟨b,6,none⟩ (iv (el c.r.ys 2))).setCell ⟨b,7,none⟩ (iv (el c.r.ys 3))).setCell ⟨b,8,none⟩ (iv c.r.o)).setCell ⟨b,9,none⟩ (iv c.r.p)).setCell ⟨b,10,none⟩ (iv c.r.f)).setCell ⟨b,11,none⟩ (iv c.r.m)).setCell ⟨b,12,none⟩ (.bool c.r.s)).setCell ⟨b,13,none⟩ (.bool c.r.t))=Y:=⟨_,rfl⟩
   rw [hY] at KY C5
   have A5:=hide (A4.o.kept KY.o (by omega))
   have R5:=hide (R4.o.kept KY.o (by omega))
   have L5:=hide (L4.o.kept KY.o (by omega))
   have S5:=hide (S4.o.ai KY.o (Nat.le_refl _) (Nat.le_refl _))
   have p5:=A5.o.all
   go_wp2_with fail
   refine (firstWord _ op z r m k e s).mono ?_
   rw [HN.o]
   rintro e9 W6 ⟨rfl,kf⟩
   have C6:=hide (C5.o.any kf)
   have R6:=hide (R5.o.af kf)
   have L6:=hide (L5.o.af kf)
   have S6:=hide (S5.o.any kf)
   have l6:=L6.o.all
   have lf6:=L6.o.fz
   clear kf p5 C5 A5 R5 L5 S5 y_0 y_1 y_2 y_3 y_4 y_5 y_6 y_7 y_8 y_9 WG WF WE WC b4 yz q4 hY
   have KZ:=hide ((ak W6 W3.heap.size 1 (iv a)).one 3 (iv N))
   have L7:Hid (Blk ((W6.setCell ⟨W3.heap.size,1,none⟩ (iv a)).setCell ⟨W3.heap.size,3,none⟩ (iv N)) W3.heap.size #[iv F.v,iv a,iv F.ad,iv N,.bool F.wr] 49):=hide ((L6.o.set 1 (iv a)).set 3 (iv N))
   obtain ⟨Z,hZ⟩:∃Z:World,(W6.setCell ⟨W3.heap.size,1,none⟩ (iv a)).setCell ⟨W3.heap.size,3,none⟩ (iv N)=Z:=⟨_,rfl⟩
   rw [hZ] at KZ L7
   have C7:=hide (C6.o.kept KZ.o (by omega) (by omega))
   have R7:=hide (R6.o.kept KZ.o (by omega))
   have S7:=hide (S6.o.mine KZ.o (by omega))
   have l7:=L7.o.all
   cases ho:Pl.iW F.v
   ·have E1:Hid (c.dn ⟨op,z,r,m,k,e,s⟩ a={D with r:=c.r,f:=⟨F.v,a,F.ad,N,F.wr⟩}):=hide (by rw [ET.o,show (F.v==0)=false from by simpa using hv,ho];rfl)
    have r7:=R7.o.all
    have rf7:=R7.o.fz
    go_wp2_with (go_at_call 58;refine st (iW F.v _) ?_;rw [ho])
    have KR:=(((((ak Z (w.heap.size+1) 0 (iv F.v)).one 1 (iv a)).one 2 (iv F.ad)).one 3 (iv N)).one 4 (.bool F.wr))
    refine bodyPost_ret (v:=.agg #[iv F.v,iv a,iv F.ad,iv N,.bool F.wr]) ?_ rfl ⟨g',?_,?_,(S7.o).mine KR (by omega)⟩
    ·rw [aj rfl];go_simp
    ·rw [E1.o];rfl
    ·rw [E1.o];exact ((C7.o).kept KR (by omega) (by omega)).fx rfl rfl rfl rfl rfl
   ·have E1:Hid (c.dn ⟨op,z,r,m,k,e,s⟩ a={D with r:=c.r,f:=⟨F.v,BH,F.ad,N,F.wr⟩}):=hide (by rw [ET.o,show (F.v==0)=false from by simpa using hv,ho];rfl)
    have lf7:=L7.o.fz
    have KV:=hide (ak Z W3.heap.size 1 (iv BH))
    have L8:Hid (Blk (Z.setCell ⟨W3.heap.size,1,none⟩ (iv BH)) W3.heap.size #[iv F.v,iv BH,iv F.ad,iv N,.bool F.wr] 49):=hide (L7.o.set 1 (iv BH))
    obtain ⟨V,hV⟩:∃V:World,Z.setCell ⟨W3.heap.size,1,none⟩ (iv BH)=V:=⟨_,rfl⟩
    rw [hV] at KV L8
    have C8:=hide (C7.o.kept KV.o (by omega) (by omega))
    have R8:=hide (R7.o.kept KV.o (by omega))
    have S8:=hide (S7.o.mine KV.o (by omega))
    have l8:=L8.o.all
    have r8:=R8.o.all
    have rf8:=R8.o.fz
    go_wp2_with (go_at_call 58;refine st (iW F.v _) ?_;rw [ho])
    have KR:=(((((ak V (w.heap.size+1) 0 (iv F.v)).one 1 (iv BH)).one 2 (iv F.ad)).one 3 (iv N)).one 4 (.bool F.wr))
    refine bodyPost_ret (v:=.agg #[iv F.v,iv BH,iv F.ad,iv N,.bool F.wr]) ?_ rfl ⟨g',?_,?_,(S8.o).mine KR (by omega)⟩
    ·rw [aj rfl];go_simp
    ·rw [E1.o];rfl
    ·rw [E1.o];exact ((C8.o).kept KR (by omega) (by omega)).fx rfl rfl rfl rfl rfl
 case step=>
  intro l A W i hI hm
  obtain ⟨q,hFR,o0,o1,o2,o3,o4,o5,o6,o7,o8,o9,o10,o11,o12,ox,o11w,hK⟩:=hI
  obtain ⟨hi1,hi2⟩:=jL hm
  have hsz:Hid (19<A.tmps.size):=hide (by rw [hFR.size];simp)
  have m0:A.tmps[0]? = some (.pointer (some ⟨b,0,none⟩)):=(hFR.o 0 (by decide)).trans rfl
  have m2:A.tmps[2]? = some (iv a):=(hFR.o 2 (by decide)).trans rfl
  have m4:A.tmps[4]? = some (.pointer (some ⟨w.heap.size,0,none⟩)):=(hFR.o 4 (by decide)).trans rfl
  rcases i with _|_|_|_|_|_|_|_|_|_|_|_|_|i
  ·refine wpOp_step rfl (fun KK hK2 => ?_)
   go_simp
   exact hK2 (A.put (some 10) (.pointer (some ⟨b,0,none⟩))) _ ⟨q,hFR.put (by decide) _,.now (put_eq (by have hz:=hsz.o;omega)),o1.q,o2.q,o3.q,o4.q,o5.q,o6.q,o7.q,o8.q,o9.q,o10.q,o11.n,o12.q,ox.past (by decide) (fun h=>by rw [getD_set_ne (by decide)];exact h),(fun e=>by rw [getD_set_ne (by decide)] at e ⊢;exact o11w e),hK⟩
  ·have e0:=o0 (aA hm 0 (by kernel_rfl))
   refine wpOp_step rfl (fun KK hK2 => ?_)
   go_simp
   exact hK2 (A.put (some 11) (.pointer (some ⟨b,0,none⟩))) _ ⟨q,hFR.put (by decide) _,o0.q,.now (put_eq (by have hz:=hsz.o;omega)),o2.q,o3.q,o4.q,o5.q,o6.q,o7.q,o8.q,o9.q,o10.q,o11.n,o12.q,ox.past (by decide) (fun h=>by rw [getD_set_ne (by decide)];exact h),(fun e=>by rw [getD_set_ne (by decide)] at e ⊢;exact o11w e),hK⟩
  ·have e1:=o1 (aA hm 1 (by kernel_rfl))
   refine wpOp_step rfl (fun KK hK2 => ?_)
   go_simp
   exact hK2 (A.put (some 12) (.pointer (some ⟨b,0,none⟩))) _ ⟨q,hFR.put (by decide) _,o0.q,o1.q,.now (put_eq (by have hz:=hsz.o;omega)),o3.q,o4.q,o5.q,o6.q,o7.q,o8.q,o9.q,o10.q,o11.n,o12.q,ox.past (by decide) (fun h=>by rw [getD_set_ne (by decide)];exact h),(fun e=>by rw [getD_set_ne (by decide)] at e ⊢;exact o11w e),hK⟩
  ·have e2:=o2 (aA hm 2 (by kernel_rfl))
   have y:=(C0.o.any hK).Ac
   obtain ⟨y0,y1,y2,y3,y4,y5,y6,y7,y8,y9,y10,y11,y12,y13⟩:=y
   refine wpOp_step rfl (fun KK hK2 => ?_)
   go_simp
   exact hK2 (A.put (some 13) (.agg (bkR c.r))) _ ⟨q,hFR.put (by decide) _,o0.q,o1.q,o2.q,.now (put_eq (by have hz:=hsz.o;omega)),o4.q,o5.q,o6.q,o7.q,o8.q,o9.q,o10.q,o11.n,o12.q,ox.past (by decide) (fun h=>by rw [getD_set_ne (by decide)];exact h),(fun e=>by rw [getD_set_ne (by decide)] at e ⊢;exact o11w e),hK⟩
  ·refine wpOp_step rfl (fun KK hK2 => ?_)
   go_simp
   exact hK2 (A.put (some 14) (iv a)) _ ⟨q,hFR.put (by decide) _,o0.q,o1.q,o2.q,o3.q,.now (put_eq (by have hz:=hsz.o;omega)),o5.q,o6.q,o7.q,o8.q,o9.q,o10.q,o11.n,o12.q,ox.past (by decide) (fun h=>by rw [getD_set_ne (by decide)];exact h),(fun e=>by rw [getD_set_ne (by decide)] at e ⊢;exact o11w e),hK⟩
  ·have BL:=hide (A0.o.af hK)
   obtain ⟨x0,x1,x2,x3,x4,x5,x6⟩:=BL.o.c7
   refine wpOp_step rfl (fun KK hK2 => ?_)
   go_simp
   exact hK2 (A.put (some 15) (.agg (inA op z r m k e s))) _ ⟨q,hFR.put (by decide) _,o0.q,o1.q,o2.q,o3.q,o4.q,.now (put_eq (by have hz:=hsz.o;omega)),o6.q,o7.q,o8.q,o9.q,o10.q,o11.n,o12.q,ox.past (by decide) (fun h=>by rw [getD_set_ne (by decide)];exact h),(fun e=>by rw [getD_set_ne (by decide)] at e ⊢;exact o11w e),hK⟩
  ·have e5:=o5 (aA hm 5 (by kernel_rfl))
   refine wpOp_step rfl (fun KK hK2 => ?_)
   go_simp
   refine (lengthOf W op z r m k e s wfm).mono ?_
   rw [HL.o]
   rintro r9 y ⟨rfl,kd⟩
   go_simp
   exact hK2 (A.put (some 16) (iv L)) _ ⟨q,hFR.put (by decide) _,o0.q,o1.q,o2.q,o3.q,o4.q,o5.q,.now (put_eq (by have hz:=hsz.o;omega)),o7.q,o8.q,o9.q,o10.q,o11.n,o12.q,ox.past (by decide) (fun h=>by rw [getD_set_ne (by decide)];exact ⟨h.1,h.2.af kd⟩),(fun e=>by rw [getD_set_ne (by decide)] at e ⊢;exact o11w e),(hK.trans kd)⟩
  ·have e6:=o6 (aA hm 6 (by kernel_rfl))
   refine wpOp_step rfl (fun KK hK2 => ?_)
   go_simp
   exact hK2 (A.put (some 17) (iv (L*2))) _ ⟨q,hFR.put (by decide) _,o0.q,o1.q,o2.q,o3.q,o4.q,o5.q,o6.q,.now (put_eq (by have hz:=hsz.o;omega)),o8.q,o9.q,o10.q,o11.n,o12.q,ox.past (by decide) (fun h=>by rw [getD_set_ne (by decide)];exact h),(fun e=>by rw [getD_set_ne (by decide)] at e ⊢;exact o11w e),hK⟩
  ·have e4:=o4 (aA hm 4 (by kernel_rfl))
   have e7:=o7 (aA hm 7 (by kernel_rfl))
   refine wpOp_step rfl (fun KK hK2 => ?_)
   go_simp
   exact hK2 (A.put (some 18) (iv (a+L*2))) _ ⟨q,hFR.put (by decide) _,o0.q,o1.q,o2.q,o3.q,o4.q,o5.q,o6.q,o7.q,.now (put_eq (by have hz:=hsz.o;omega)),o9.q,o10.q,o11.n,o12.q,ox.past (by decide) (fun h=>by rw [getD_set_ne (by decide)];exact h),(fun e=>by rw [getD_set_ne (by decide)] at e ⊢;exact o11w e),hK⟩
  ·have e8:=o8 (aA hm 8 (by kernel_rfl))
   refine wpOp_step rfl (fun KK hK2 => ?_)
   go_simp
   refine (gY (a+L*2) W).mono ?_
   rw [HBH.o]
   rintro r9 y ⟨rfl,kd⟩
   rw [kd]
   go_simp
   exact hK2 (A.put (some 19) (iv BH)) _ ⟨q,hFR.put (by decide) _,o0.q,o1.q,o2.q,o3.q,o4.q,o5.q,o6.q,o7.q,o8.q,.now (put_eq (by have hz:=hsz.o;omega)),o10.q,o11.n,o12.q,ox.past (by decide) (fun h=>by rw [getD_set_ne (by decide)];exact h),(fun e=>by rw [getD_set_ne (by decide)] at e ⊢;exact o11w e),hK⟩
  ·have n11:l.getD 11 true=false:=by cases q11:l.getD 11 true;rfl;have:=o11w q11;rw [hi2] at this;cases this
   refine wpOp_step rfl (fun KK hK2 => ?_)
   go_simp
   exact hK2 (A.put (some 7) (.pointer (some ⟨W.heap.size,0,none⟩))) _ ⟨W.heap.size,hFR.put (by decide) _,o0.q,o1.q,o2.q,o3.q,o4.q,o5.q,o6.q,o7.q,o8.q,o9.q,.now (put_eq (by have hz:=hsz.o;omega)),o11.n,o12.q,.now ⟨hK.size,by rw [getD_set_ne (by decide),n11];exact Blk.new W _ _⟩,(fun e=>gU),(ah hK _)⟩
  ·have e10:=o10 (aA hm 10 (by kernel_rfl))
   have e3:=o3 (aA hm 3 (by kernel_rfl))
   have oq:=ox (aA hm 10 (by kernel_rfl))
   unfold bkR at e3
   have oR2:Blk W q #[iv 0,iv 0,iv 0,iv 0,iv 0,iv 0,iv 0,iv 0,iv 0,iv 0,iv 0,iv 0,.bool false,.bool false] 85:=by have:=oq.2;rw [hi2] at this;exact this
   have OR:=hide oR2
   have qa:=OR.o.all
   have qf:=OR.o.fz
   refine wpOp_step rfl (fun KK hK2 => ?_)
   go_simp
   exact hK2 A _ ⟨q,hFR,o0.n,o1.n,o2.n,o3.n,o4.n,o5.n,o6.n,o7.n,o8.n,o9.n,o10.n,.now trivial,o12.n,(fun _=>⟨oq.1,by rw [gU];exact Blk.MP oR2⟩),(fun _=>by rw [getD_set_ne (by decide)];exact aA hm 10 (by kernel_rfl)),(ag (ag (ag (ag (ag (ag (ag (ag (ag (ag (ag (ag (ag (ag hK _ _ _ (.inr oq.1)) _ _ _ (.inr oq.1)) _ _ _ (.inr oq.1)) _ _ _ (.inr oq.1)) _ _ _ (.inr oq.1)) _ _ _ (.inr oq.1)) _ _ _ (.inr oq.1)) _ _ _ (.inr oq.1)) _ _ _ (.inr oq.1)) _ _ _ (.inr oq.1)) _ _ _ (.inr oq.1)) _ _ _ (.inr oq.1)) _ _ _ (.inr oq.1)) _ _ _ (.inr oq.1))⟩
  ·have e9:=o9 (aA hm 9 (by kernel_rfl))
   refine wpOp_step rfl (fun KK hK2 => ?_)
   go_simp
   exact hK2 (A.put (some 8) (iv BH)) _ ⟨q,hFR.put (by decide) _,o0.q,o1.q,o2.q,o3.q,o4.q,o5.q,o6.q,o7.q,o8.q,o9.q,o10.q,o11.n,.now (put_eq (by have hz:=hsz.o;omega)),ox.past (by decide) (fun h=>by rw [getD_set_ne (by decide)];exact h),(fun e=>by rw [getD_set_ne (by decide)] at e ⊢;exact o11w e),hK⟩
  ·simp at hi1
   omega
theorem Pl.O8 {c:Pl.Mc} (h:(c.kX.v==0)=true):Pl.dF c.ay=true:=by
 cases hf:c.fetch.fine
 ·have e:c.kX=c.fetch.f:=by unfold Pl.Mc.kX;rw [hf];rfl
  rw [e] at h
  unfold Pl.Mc.fine at hf
  rw [h] at hf;cases hf
 ·exact (Pl.mX hf).1
theorem V4 (w:World) (lo b g:Nat) (c:Pl.Mc) (h:Bool) (hC:CAt w lo b g c h) (G:Pl.GM c) (hf:c.f=Pl.aH) (ht:jF w lo) :
  Calls prog 44 #[.pointer (some ⟨b,0,none⟩)] w fun e' w'=>∃g',e'=.returned (.agg (ftC c.sp.f))∧CAt w' lo b g' (c.sp) h∧Since w b (b+1) g w' g':=by
 obtain ⟨l0,l1,l2,l3,l4⟩:=hC.lt
 obtain ⟨F,hF⟩:∃F,F=c.kX:=⟨_,rfl⟩
 obtain ⟨x,hx⟩:∃x,x=c.ay:=⟨_,rfl⟩
 obtain ⟨N,hN⟩:∃N,N=c.bC:=⟨_,rfl⟩
 obtain ⟨E,hE⟩:∃E,E=c.fetch:=⟨_,rfl⟩
 have ES:Hid (c.sp=bif F.v==0 then E.nf.dn x c.r.p else {E with f:=F}):=hide (by unfold Pl.Mc.sp;rw [hF,hx,hE])
 have XO:Hid ((F.v==0)=true→Pl.dF x=true):=hide (by rw [hF,hx];exact Pl.O8)
 have GE:Hid (Pl.GM E):=hide (by rw [hE];exact G.fetch)
 have ER:Hid (E.r=c.r):=hide (by rw [hE];exact Pl.DL.1)
 have HG:=hide G
 have HF:=hide hF
 have HX:=hide hx
 have HN:=hide hN
 have HE:=hide hE
 have TB:=hide ht
 have K0:=hide (kept_alloc w (.cells ftZ 49))
 have C0:=hide (hC.alloc (.cells ftZ 49))
 have R0:=hide (Blk.new w ftZ 49)
 obtain ⟨X,hX⟩:∃X:World,w.alloc (.cells ftZ 49)=X:=⟨_,rfl⟩
 rw [hX] at K0 C0 R0
 have sX:w.heap.size<X.heap.size:=R0.o.lt
 clear hC G hF hx hN hE ht
 go_enter func44,ntmps44
 go_wp2_with fail
 refine (TY _ lo b g c h C0.o HG.o hf).mono ?_
 rintro e9 W1 ⟨g1,rfl,hc,hs⟩
 rw [←HE.o] at hc
 rw [←HX.o,←HN.o,←HF.o]
 unfold ftC lY
 have n1:=hs.ne (b:=w.heap.size) R0.o.lt (by omega)
 have z1:=hs.size
 obtain ⟨y0,y1,y2,y3,y4⟩:=hc.lt
 have C1:=hide ((hc.alloc (.cells (inX x) 109)).alloc (.cells (ftA F) 49))
 have R1:=hide (((hs.blk R0.o (by omega) (by omega)).alloc (.cells (inX x) 109)).alloc (.cells (ftA F) 49))
 have S1:=hide (((((Since.refl w b (b+1) g).any K0.o).trans hs).alloc (.cells (inX x) 109)).alloc (.cells (ftA F) 49))
 have A1:=hide ((Blk.new W1 (inX x) 109).alloc (.cells (ftA F) 49))
 have L1:=Blk.new (W1.alloc (.cells (inX x) 109)) (ftA F) 49
 simp only [World.size_alloc] at L1
 replace L1:=hide L1
 clear hc hs hX
 go_wp2_with fail
 refine (gu F _).mono ?_
 rintro e9 W2 ⟨rfl,kf⟩
 have C2:=hide (C1.o.any kf)
 have R2:=hide (R1.o.af kf)
 have A2:=hide (A1.o.af kf)
 have L2:=hide (L1.o.af kf)
 have S2:=hide (S1.o.any kf)
 clear kf C1 R1 A1 L1 S1
 cases hv:(F.v != 0)
 ·have h0:(F.v==0)=true:=by simpa using hv
  have XK:=hide (XO.o h0)
  have E1:Hid (c.sp=E.nf.dn x c.r.p):=hide (by rw [ES.o,h0];rfl)
  clear h0
  go_wp2_with fail
  refine wp_region_still_tail 7 (by kernel_rfl) (by kernel_rfl) ?_
  simp only [List.take_succ_cons,List.take_zero,List.drop_succ_cons,List.drop_zero]
  obtain ⟨Y,hY⟩:∃Y:World,Y={W2 with drawn:=W2.drawn+1}:=⟨_,rfl⟩
  rw [←hY]
  have kY:Kept 0 0 W2 Y:=by rw [hY];exact ae (Kept.refl _ _ _)
  have C3:=hide (C2.o.any kY)
  have R3:=hide (R2.o.af kY)
  have A3:=hide (A2.o.af kY)
  have S3:=hide (S2.o.any kY)
  clear hY kY C2 R2 A2 L2 S2
  have p9:=C3.o.cP
  rw [ER.o] at p9
  have q:=A3.o.all
  iterate 7 still_step
  refine wpStill_nil ?_
  have C4:Hid (CAt Y lo b g1 E.nf h):=hide (C3.o.fx rfl rfl rfl rfl rfl)
  clear p9 q
  go_wp2_with (go_at_call 73;refine (cDo _ lo b g1 E.nf h x.op x.z x.r x.m x.k x.e x.s c.r.p C4.o (GE.o.ft Pl.aH) rfl XK.o (TB.o.since S3.o (by omega) (by omega)) HG.o.p0 HG.o.p1).mono ?_;rintro e9 W5 ⟨g',rfl,hc,hs⟩;rw [←show _=E.nf.dn x c.r.p from E1.o] at hc ⊢;obtain ⟨Q,hQ⟩:∃Q,Q=c.sp.f:=⟨_,rfl⟩;rw [←hQ];unfold ftC;have HQ:=hide hQ;clear hQ;have C5:=hide hc;have n5:=hs.ne (b:=w.heap.size) R3.o.lt (by omega);have R5:=hide (hs.blk R3.o (by omega) (by omega));have S5:=hide (S3.o.trans hs);have r5:=R5.o.all;have rf5:=R5.o.fz;clear hc hs)
  have KR:=(((((ak W5 w.heap.size 0 (iv Q.v)).one 1 (iv Q.pc)).one 2 (iv Q.ad)).one 3 (iv Q.wo)).one 4 (.bool Q.wr))
  refine bodyPost_ret (v:=.agg (ftA Q)) ?_ rfl ⟨g',?_,(C5.o).kept KR (by omega) (by omega),(S5.o).mine KR (by omega)⟩
  ·rw [aj rfl];go_simp
  ·rw [←HQ.o];rfl
 ·have E1:Hid (c.sp={E with f:=F}):=hide (by rw [ES.o,show (F.v==0)=false from by simpa using hv];rfl)
  have l2:=L2.o.all
  have r2:=R2.o.all
  have rf2:=R2.o.fz
  go_wp2_with fail
  have KR:=(((((ak W2 w.heap.size 0 (iv F.v)).one 1 (iv F.pc)).one 2 (iv F.ad)).one 3 (iv F.wo)).one 4 (.bool F.wr))
  refine bodyPost_ret (v:=.agg (ftA F)) ?_ rfl ⟨g1,?_,?_,(S2.o).mine KR (by omega)⟩
  ·rw [aj rfl];go_simp
  ·rw [E1.o];rfl
  ·rw [E1.o];exact ((C2.o).kept KR (by omega) (by omega)).fx rfl rfl rfl rfl rfl
def brd (xs:List Int) (u:Value):Array Value:=(cellsOf xs).push u
theorem Ud {xs:List Int} {u:Value} {i:Nat} (hi:i<xs.length):(brd xs u)[i]? = some (iv (el xs i)):=by
 simp [brd,cellsOf,el,hi]
 rw [List.getElem?_append_left (by simpa using hi)]
 simp [hi]
theorem P8 {xs:List Int} {u:Value} (hl:xs.length=512):(brd xs u)[512]? = some u:=by
 simp [brd,cellsOf,hl]
theorem zL (off:Nat):∀(l:List Value) (k:Nat) (A:Array Value) (i:Nat),off+k+l.length≤A.size→
  ((l.zipIdx k).foldl (fun a (x:Value × Nat)=>a.setIfInBounds (off+x.2) x.1) A)[i]? = if off+k≤i∧i<off+k+l.length then l[i-(off+k)]? else A[i]?
 | [],k,A,i,h=>by
  simp only [List.zipIdx_nil,List.foldl_nil,List.length_nil]
  rw [if_neg (by omega)]
 | v :: r,k,A,i,h=>by
  simp only [List.length_cons] at h
  simp only [List.zipIdx_cons,List.foldl_cons,List.length_cons]
  rw [zL off r (k+1) _ i (by simp;omega)]
  by_cases h1:off+(k+1)≤i∧i<off+(k+1)+r.length
  ·rw [if_pos h1,if_pos (by omega),show i-(off+k)=(i-(off+(k+1)))+1 by omega,List.getElem?_cons_succ]
  ·rw [if_neg h1,Array.getElem?_setIfInBounds]
   by_cases h2:off+k=i
   ·rw [if_pos h2,if_pos (by omega),if_pos (by omega),show i-(off+k)=0 by omega];rfl
   ·rw [if_neg h2,if_neg (by omega)]
theorem Tryz.sW:(prog.info? 90).map (fun i=>(i.zero,i.size))=some (some (.agg (brd zeros (.slice none 0 0))),513):=by kernel_rfl
theorem Tryz.Gq:∀w,(zeroValue 90).run prog w=.ok (.agg (brd zeros (.slice none 0 0))) w:=(zero_of_info Tryz.sW).1
theorem Tryz.Gs:(prog.info? 90).map (·.size)=some 513:=(zero_of_info Tryz.sW).2
theorem ku (xs:List Int) (u:Value):(brd xs u).size=xs.length+1:=by simp [brd,cellsOf]
theorem fold_size (off:Nat):∀(l:List (Value × Nat)) (A:Array Value),(l.foldl (fun a (x:Value × Nat)=>a.setIfInBounds (off+x.2) x.1) A).size=A.size
 | [],A=>rfl
 | v :: r,A=>by rw [List.foldl_cons,fold_size off r];simp
def laid (off:Nat) (cs A:Array Value):Array Value:=cs.zipIdx.foldl (fun a (x:Value × Nat)=>a.setIfInBounds (off+x.2) x.1) A
theorem jo (off:Nat) (cs A:Array Value):(laid off cs A).size=A.size:=by
 unfold laid
 rw [←Array.foldl_toList]
 exact fold_size off _ A
theorem qy (off:Nat) (cs A:Array Value) (h:off+cs.size≤A.size) (i:Nat):(laid off cs A)[i]? = if off≤i∧i<off+cs.size then cs[i-off]? else A[i]? := by
 unfold laid
 rw [←Array.foldl_toList,Array.toList_zipIdx]
 have:=zL off cs.toList 0 A i (by simpa using h)
 simpa using this
theorem Kv (cs A:Array Value) (u:Value) (hu:u.cells=#[u]) (hc:cs.size=512) (hA:A.size=513) :
  Instr.fill (#[(0,512),(512,1)][·]?) A [(0,.agg cs),(1,u)]=some (laid 512 #[u] (laid 0 cs A)):=by
 have h1:((laid 0 cs A)).size=513:=by rw [jo,hA]
 have e1:cs.zipIdx.foldl (fun a (x:Value × Nat)=>a.setIfInBounds (0+x.2) x.1) A=laid 0 cs A:=rfl
 unfold Instr.fill
 simp only [Value.cells,List.getElem?_toArray,List.getElem?_cons_zero]
 rw [if_neg (by simp [hc,hA])]
 rw [e1]
 unfold Instr.fill
 simp only [hu,List.getElem?_cons_succ,List.getElem?_cons_zero]
 rw [if_neg (by simp [h1])]
 unfold Instr.fill
 rfl
theorem P7 (xs:List Int) (u:Value) (h:u.oneCell'=true):(brd xs u).all (·.oneCell')=true:=by
 rw [Array.all_eq_true_iff_forall_mem]
 intro v hv
 simp only [brd,Array.mem_push] at hv
 rcases hv with hv|rfl
 ·exact Array.all_eq_true_iff_forall_mem.1 (uj xs) v hv
 ·exact h
theorem Gp {P:Program} {ops:Array Oper} {rest:List Oper} {o:Oper} {a:Act} {w:World} {Q:Exit→Act→World→Prop} (hg:o.guard=none) (t:TypeId) (x y:Operand) (ho:o.op=.build t #[(0,x),(1,y)])
  (v u:Value) (hx:a.eval x=v) (hy:a.eval y=u) (cells:Array Value) (hf:P.built t [(0,v),(1,u)]=some cells)
  (h:wpList P ops Q rest (a.put o.dst (.agg cells)) w):wpList P ops Q (o :: rest) a w:=by
 have e:P.built t (#[(0,x),(1,y)].map fun (p:Nat × Operand)=>(p.1,a.eval p.2)).toList=some cells:=by
  simp [hx,hy,hf]
 refine wpList_build hg t #[(0,x),(1,y)] ho (by rw [e];rfl) ?_
 rw [e]
 exact h
theorem Ci (xs:List Int) (b:Option Addr) (n c:Nat) (lx:xs.length=512) :
  prog.built 90 [(0,.agg (cellsOf xs)),(1,.slice b n c)]=some (brd xs (.slice b n c)):=by
 have hp:(match prog.underlying 90 with|some (.struct fields)=>fields.toList.mapM (fun f=>(prog.info? f.type).map fun i=>(f.offset,i.size))|_=>none)=some [(0,512),(512,1)]:=by kernel_rfl
 have e:prog.built 90 [(0,.agg (cellsOf xs)),(1,.slice b n c)]=Instr.fill (#[(0,512),(512,1)][·]?) (brd zeros (.slice none 0 0)) [(0,.agg (cellsOf xs)),(1,.slice b n c)]:=by
  have hi:=Tryz.sW
  unfold Program.built
  cases h1:prog.info? 90 with
  | none=>rw [h1] at hi;cases hi
  | some it=>
   rw [h1] at hi
   have hz:it.zero=some (.agg (brd zeros (.slice none 0 0))):=congrArg (fun o=>(o.map Prod.fst).getD none) hi
   cases h2:prog.underlying 90 with
   | none=>rw [h2] at hp;cases hp
   | some d=>
    rw [h2] at hp
    cases d
    case struct fields=>
     have hp':fields.toList.mapM (fun f=>(prog.info? f.type).map fun i=>(f.offset,i.size))=some [(0,512),(512,1)]:=hp
     simp only [hz,hp']
     rfl
    all_goals cases hp
 rw [e,Kv (cellsOf xs) (brd zeros (.slice none 0 0)) (.slice b n c) rfl (by rw [cellsOf_size,lx]) (by rw [ku,fK])]
 refine congrArg some ?_
 apply Array.ext_getElem?
 intro i
 rw [qy 512 #[.slice b n c] _ (by rw [jo,ku,fK];simp),qy 0 _ _ (by rw [ku,fK,cellsOf_size,lx];decide),cellsOf_size,lx]
 simp only [brd,Array.getElem?_push,cellsOf_size,lx]
 by_cases h:i<512
 ·rw [if_neg (by simp;omega),if_pos (by omega),if_neg (by omega)]
  rfl
 ·by_cases h2:i=512
  ·subst h2
   rfl
  ·have h3:¬i<513:=by omega
   rw [if_neg (by simp;omega),if_neg (by omega)]
   simp only [fK]
   rw [if_neg h2,if_neg h2]
   rw [Array.getElem?_eq_none (by rw [cellsOf_size,fK];omega),Array.getElem?_eq_none (by rw [cellsOf_size,lx];omega)]
theorem Ld (W:World) (g m sCap:Nat) (sp:Option Addr) (ys:List Int) (cur:List Value) (t:TypeId) (hB:Blk W g cur.toArray t) (hr:aI W sp ys) (hl:ys.length=5*m) (hc:cur.length=5*m) :
  ∃W',(Builtin.copy_ #[32,32] 3 #[.slice (some ⟨g,0,none⟩) m m,.slice sp m sCap]).run prog W=.ok (iv m) W'∧Blk W' g (cellsOf ys) t∧Kept g (g+1) W W':=by
 obtain ⟨i,hi,hz0,hz1,hz2⟩:=info_parts Tryz.jY
 have hmin:Nat.min m m=m:=Nat.min_self m
 by_cases h0:m=0
 ·subst h0
  obtain rfl:ys=[]:=List.eq_nil_of_length_eq_zero (by omega)
  obtain rfl:cur=[]:=List.eq_nil_of_length_eq_zero (by omega)
  refine ⟨W,?_,hB,Kept.refl _ _ _⟩
  have hl0:∀(x:Addr),(loadCells x 0).run prog W=.ok #[] W:=fun x=>by simpa using run_loadCells_list (P:=prog) W x [] (by simp)
  cases sp<;>simp [Builtin.copy_,run_underlying underlying32,Builtin.lenOf,Builtin.firstCells,sizeOf,typeInfo,hi,storeCells,hl0]<;>rfl
 ·obtain ⟨ga,oa,rfl,_⟩:=hr 0 (by omega)
  have hld:=run_loadCells_list (P:=prog) W ⟨ga,oa,none⟩ (ys.map (Value.int .i64)) (iO hr)
  have hst:=run_storeCells_at prog g 0 t (ys.map (Value.int .i64)) 0 cur.toArray W hB (by simp [hl,hc]) iH
  have e5:(ys.map (Value.int .i64)).length=m*5:=by rw [List.length_map,hl];omega
  rw [e5] at hld
  have e:(List.take (0+0) cur.toArray.toList++ys.map (Value.int .i64)++List.drop (0+0+(ys.map (Value.int .i64)).length) cur.toArray.toList)=ys.map (Value.int .i64):=by
   rw [List.drop_eq_nil_of_le (by simp [hl,hc])];simp
  rw [e] at hst
  refine ⟨W.setRow g (cellsOf ys),?_,hB.setRow,⟨rfl,rfl,rfl,by simp,fun k hk hn=>setRow_other W g k _ (by omega)⟩⟩
  simp [Builtin.copy_,run_underlying underlying32,Builtin.lenOf,Builtin.firstCells,sizeOf,typeInfo,hi,hz1,hmin,hld]
  have hst':(storeCells ⟨g,0,none⟩ (ys.map (Value.int .i64))).run prog W=.ok () (W.setRow g (cellsOf ys)):=hst
  rw [hst']
  rfl
theorem zi {w:World} {base g m:Nat} {ys:List Int} (h:Blk w g (cellsOf ys) 119) (hl:ys.length=5*m) (hb:base≤g) (bm:m≤2000000):w.ownsRow base 119 5 (.slice (some ⟨g,0,none⟩) m m) m (ys.map (Value.int .i64)):=by
 refine ⟨by simp [hl];omega,.inr ⟨g,m,cellsOf ys,rfl,hb,h,Nat.le_refl _,by unfold maxLen;omega,by rw [cellsOf_size,hl];omega,?_⟩⟩
 rw [List.take_of_length_le (by simp [cellsOf,hl];omega)]
 simp [cellsOf]
theorem P9 (w:World) (a b:Option Addr) (ca cb m:Nat) (xs ys:List Int) (ha:aI w a xs) (hb:aI w b ys) (lx:xs.length=512) (ly:ys.length=5*m) (bm:m≤400) :
  Calls prog 56 #[.agg #[.slice a xs.length ca,.slice b m cb]] w fun e w'=>∃g:Nat,e=.returned (.agg (brd xs (.slice (some ⟨g,0,none⟩) m m)))∧Blk w' g (cellsOf ys) 119∧w.heap.size≤g∧Kept 0 0 w w':=by
 obtain ⟨i,hi,hz0,hz1,hz2⟩:=info_parts Tryz.jY
 have HA:=hide ha
 have HB:=hide hb
 have HX:=hide lx
 have HY:=hide ly
 have bz:=Tryz.Gq
 have hbuilt:=hide (Ci xs (some ⟨w.heap.size+1+1,0,none⟩) m m lx)
 have K0:=hide (ah (kept_alloc w (.cells #[.slice a xs.length ca,.slice b m cb] 34)) (.cells (brd zeros (.slice none 0 0)) 90))
 have B0:=hide ((Blk.new w #[.slice a xs.length ca,.slice b m cb] 34).alloc (.cells (brd zeros (.slice none 0 0)) 90))
 have B1:=Blk.new (w.alloc (.cells #[.slice a xs.length ca,.slice b m cb] 34)) (brd zeros (.slice none 0 0)) 90
 simp only [World.size_alloc] at B1
 replace B1:=hide B1
 clear ha hb lx ly
 go_enter func56,ntmps56
 go_wp2_with (at_make;refine wpList_make_full _ rfl _ _ 32 rfl w.heap.size 119 i (.agg #[iv 0,iv 0,iv 0,iv 0,iv 0]) 5 underlying32 hi hz0 hz1 _ _ _ _ m rfl rfl rfl rfl ?c1 ?c2 ?c3 ?_)
 case c1=>rw [hz2];omega
 case c2=>unfold maxLen;omega
 case c3=>simp;omega
 intro w1 hown hg
 have k1:=bP hg
 have C0:=B0.o.af k1
 have C1:=B1.o.af k1
 have K1:=K0.o.trans k1
 obtain ⟨W2,hcopy,E2,k2⟩:=Ld w1 (w.heap.size+1+1) m cb b ys _ _ (vY hown) (HB.o.ai K1) HY.o (by rw [hown.1];omega)
 have D0:=hide (C0.kept k2 (by omega))
 have D1:=hide (C1.kept k2 (by omega))
 have K2:=hide (dD K1 k2 (by omega))
 have H2:=hide E2
 have HZ:∀u,Hid ((prog.info? 90).map (·.size)=some (brd xs u).size):=fun u=>hide (by rw [ku,HX.o];exact Tryz.Gs)
 have HZ2:∀u,Hid ((brd zeros (.slice none 0 0)).size=(brd xs u).size):=fun u=>hide (by rw [ku,ku,HX.o,fK])
 have p1:=C0.cell (i:=1) rfl
 have d0:=D0.o.cell (i:=0) rfl
 have d1:=D0.o.cell (i:=1) rfl
 clear hown hg k1 C0 C1 K1 E2 k2
 go_wp2_with (first
  | (go_at_call 89;refine (IK _ a b ca cb m xs (HA.o.ai K2.o) HX.o).mono ?_;rintro e w3 ⟨rfl,k3⟩;have D3:=hide (D1.o.af k3);have H3:=hide (H2.o.af k3);have K3:=hide (K2.o.trans k3);clear k3)
  | (refine Gp rfl 90 (.tmp 13) (.tmp 14) rfl (.agg (cellsOf xs)) (.slice (some ⟨w.heap.size+1+1,0,none⟩) m m) rfl rfl (brd xs (.slice (some ⟨w.heap.size+1+1,0,none⟩) m m)) hbuilt.o ?_)
  | (refine wpList_store_row rfl 90 (.tmp 2) (.tmp 15) rfl (w.heap.size+1) (brd xs (.slice (some ⟨w.heap.size+1+1,0,none⟩) m m)) rfl rfl 90 (brd zeros (.slice none 0 0)) D3.o (HZ _).o (HZ2 _).o (P7 _ _ rfl) ?_))
 refine bodyPost_ret (v:=.agg (brd xs (.slice (some ⟨w.heap.size+1+1,0,none⟩) m m))) ?_ rfl ⟨w.heap.size+1+1,rfl,H3.o.yX (by omega),by omega,lJ K3.o _ _ (by omega)⟩
 exact results_cell_row rfl _ _ _ _ _ (0,0) _ rfl D3.o.setRow underlying90 rfl (HZ _).o
theorem Tryz.JM:(prog.info? 93).map (fun i=>(i.zero,i.size))=some (some (.agg (cor ⟨[0,0,0,0],[0,0,0,0],0,0,0,0,false,false⟩ zeros (.slice none 0 0) false false)),529):=by kernel_rfl
theorem KU (r:Pl.Rg) (xs:List Int) (u:Value) (st ha:Bool) (A:Array Value) (hA:A.size=529) (lx:xs.length=512):laid 528 #[.bool ha] (laid 527 #[.bool st] (laid 14 (brd xs u) (laid 0 (bkR r) A)))=cor r xs u st ha:=by
 have hb:(brd xs u).size=513:=by rw [ku,lx]
 have hr:(bkR r).size=14:=rfl
 apply Array.ext_getElem?
 intro i
 rw [qy 528 _ _ (by simp only [jo,hA];exact Nat.le_refl 529),qy 527 _ _ (by simp only [jo,hA];exact Nat.le_succ 528),qy 14 _ _ (by rw [jo,hA,hb];decide),qy 0 _ _ (by rw [hA,hr];decide),hb,hr]
 by_cases h1:i<14
 ·rw [if_neg (by simp;omega),if_neg (by simp;omega),if_neg (by omega),if_pos (by omega),yC h1];rfl
 ·by_cases h2:i<526
  ·rw [if_neg (by simp;omega),if_neg (by simp;omega),if_pos (by omega)]
   obtain ⟨n,rfl⟩:∃n,i=14+n:=⟨i-14,by omega⟩
   rw [vU (by omega),Nat.add_sub_cancel_left,Ud (by omega)]
  ·by_cases h3:i<529
   ·have:i=526∨i=527∨i=528:=by omega
    rcases this with rfl|rfl|rfl
    ·rw [if_neg (by simp),if_neg (by simp),if_pos (by omega),kK lx];exact P8 lx
    ·rw [if_neg (by simp),if_pos (by simp),KJ lx];rfl
    ·rw [if_pos (by simp),Lc lx];rfl
   ·rw [if_neg (by simp;omega),if_neg (by simp;omega),if_neg (by omega),if_neg (by omega),Array.getElem?_eq_none (by omega),Array.getElem?_eq_none (by rw [zU lx];omega)]
theorem zB (k:Nat) (v:Value) (A:Array Value):laid k #[v] A=A.setIfInBounds k v:=rfl
theorem KI (r:Pl.Rg) (xs:List Int) (m:Nat) (st ha:Bool) (lx:xs.length=512):∃(Z L:Array Value) (M:Option Addr→Array Value),(∀w,(zeroValue 93).run prog w=.ok (.agg Z) w)∧Z.size=529∧(bkR r).size=14∧(∀d,(brd xs (.slice d m m)).size=513)∧
  (bkR r).zipIdx.foldl (fun cs x=>cs.setIfInBounds x.2 x.1) Z 0 14=L∧L.size=529∧(∀d,(brd xs (.slice d m m)).zipIdx.foldl (fun cs x=>cs.setIfInBounds (14+x.2) x.1) L 0 513=M d)∧(∀d,(M d).size=529)∧
  ∀d,((M d).setIfInBounds 527 (.bool st)).setIfInBounds 528 (.bool ha)=cor r xs (.slice d m m) st ha:=by
 have hr:(bkR r).size=14:=rfl
 have hd:∀d,(brd xs (.slice d m m)).size=513:=fun d=>by rw [ku,lx]
 obtain ⟨Z,hz,hs⟩:∃Z:Array Value,(∀w,(zeroValue 93).run prog w=.ok (.agg Z) w)∧Z.size=529:=⟨_,(zero_of_info Tryz.JM).1,zU fK⟩
 refine ⟨Z,laid 0 (bkR r) Z,fun d=>laid 14 (brd xs (.slice d m m)) (laid 0 (bkR r) Z),hz,hs,hr,hd,?_,?_,?_,?_,?_⟩
 ·unfold laid;simp [hr]
 ·rw [jo];exact hs
 ·intro d;unfold laid;simp [hr,hd]
 ·intro d;rw [jo,jo];exact hs
 ·intro d
  have:=KU r xs (.slice d m m) st ha Z hs lx
  rw [zB,zB] at this
  exact this
theorem zT {w:World} {x:Nat} {c:Pl.Cp} {a b e q:Option Addr} {ca cb ce cq:Nat} {ty:TypeId} (h:Blk w x (cpA c a b e q ca cb ce cq) ty):w.cell? ⟨x,0,none⟩=some (.slice a c.r.xs.length ca)∧w.cell? ⟨x,1,none⟩=some (.slice b c.r.ys.length cb)∧w.cell? ⟨x,2,none⟩=some (.int .i64 c.r.o)∧w.cell? ⟨x,3,none⟩=some (.int .i64 c.r.p)∧w.cell? ⟨x,4,none⟩=some (.int .i64 c.r.f)∧w.cell? ⟨x,5,none⟩=some (.int .i64 c.r.m)∧w.cell? ⟨x,6,none⟩=some (.bool c.r.s)∧w.cell? ⟨x,7,none⟩=some (.bool c.r.t)∧w.cell? ⟨x,8,none⟩=some (.slice e c.bx.length ce)∧w.cell? ⟨x,9,none⟩=some (.slice q c.bm cq)∧w.cell? ⟨x,10,none⟩=some (.bool c.st)∧w.cell? ⟨x,11,none⟩=some (.bool c.ha):=
 ⟨h.cell (i:=0) rfl,h.cell (i:=1) rfl,h.cell (i:=2) rfl,h.cell (i:=3) rfl,h.cell (i:=4) rfl,h.cell (i:=5) rfl,h.cell (i:=6) rfl,h.cell (i:=7) rfl,h.cell (i:=8) rfl,h.cell (i:=9) rfl,h.cell (i:=10) rfl,h.cell (i:=11) rfl⟩
theorem Tu (w:World) (c:Pl.Cp) (a b e q:Option Addr) (ca cb ce cq:Nat) (ha:aI w a c.r.xs) (hb:aI w b c.r.ys) (he:aI w e c.bx) (hq:aI w q c.bl) (lx:c.r.xs.length=4) (ly:c.r.ys.length=4) (lb:c.bx.length=512) (ll:c.bl.length=5*c.bm) (lm:c.bm≤400) :
  Calls prog 31 #[.agg (cpA c a b e q ca cb ce cq)] w fun r w'=>∃p g:Nat,r=.returned (.pointer (some ⟨p,0,none⟩))∧CAt w' w.heap.size p g (Pl.Mc.ofC c) c.ha∧Kept 0 0 w w':=by
 have K0:=hide (kept_alloc w (.cells (cpA c a b e q ca cb ce cq) 36))
 have HBA:=hide (Blk.new w (cpA c a b e q ca cb ce cq) 36)
 obtain ⟨X,hX⟩:∃X:World,w.alloc (.cells (cpA c a b e q ca cb ce cq) 36)=X:=⟨_,rfl⟩
 rw [hX] at K0 HBA
 have HA:=hide (ha.ai K0.o)
 have HB:=hide (hb.ai K0.o)
 have HE:=hide (he.ai K0.o)
 have HQ:=hide (hq.ai K0.o)
 obtain ⟨CZ,L1,L2,bz,z1,z2,z3,z4,z5,z6,z7,z8⟩:=KI c.r c.bx c.bm c.st c.ha lb
 have LX:=hide lx
 have LY:=hide ly
 have LB:=hide lb
 have LL:=hide ll
 have LM:=hide lm
 clear ha hb he hq lx ly lb ll lm
 obtain ⟨i0,i1,i2,i3,i4,i5,i6,i7,i8,i9,i10,i11⟩:=zT HBA.o
 go_enter func31,ntmps31
 go_wp2_with fail
 clear hX
 go_region_held3 (fun w'=>w'.cell? ⟨w.heap.size,0,none⟩=some (.slice a c.r.xs.length ca)∧w'.cell? ⟨w.heap.size,1,none⟩=some (.slice b c.r.ys.length cb)∧w'.cell? ⟨w.heap.size,2,none⟩=some (.int .i64 c.r.o)∧w'.cell? ⟨w.heap.size,3,none⟩=some (.int .i64 c.r.p)∧w'.cell? ⟨w.heap.size,4,none⟩=some (.int .i64 c.r.f)∧w'.cell? ⟨w.heap.size,5,none⟩=some (.int .i64 c.r.m)∧w'.cell? ⟨w.heap.size,6,none⟩=some (.bool c.r.s)∧w'.cell? ⟨w.heap.size,7,none⟩=some (.bool c.r.t)∧w'.cell? ⟨w.heap.size,8,none⟩=some (.slice e c.bx.length ce)∧w'.cell? ⟨w.heap.size,9,none⟩=some (.slice q c.bm cq)∧w'.cell? ⟨w.heap.size,10,none⟩=some (.bool c.st)∧w'.cell? ⟨w.heap.size,11,none⟩=some (.bool c.ha)) (first|exact zT B4.o|exact zT B3.o|exact zT (show Blk _ _ _ _ from HBA.o)|exact zT (B4.o.alloc _))
  (first|(go_at_call 56;have z9:=B3;refine (P9 _ e q ce cq c.bm c.bx c.bl (HE.o.ai K3.o) (HQ.o.ai K3.o) LB.o LL.o LM.o).mono ?_;rintro e9 w4 ⟨g,rfl,hb4,hg4,k4⟩;have B4:=hide (B3.o.af k4);have G4:=hide hb4;have L4:=hide hg4;have K4:=hide (K3.o.trans k4);clear hb4 hg4 k4)|(go_at_call 55;refine (Uh _ c.r a b ca cb (HA.o.ai (ae (Kept.refl _ _ _))) (HB.o.ai (ae (Kept.refl _ _ _))) LX.o LY.o).mono ?_;rintro e9 w3 ⟨rfl,kd⟩;have k3:=bW kd;have B3:=hide (HBA.o.af k3);have K3:=hide k3;clear kd k3))
 go_wp2_with fail
 go_ret
 have s0:=K0.o.size
 have s3:=K3.o.size
 have l4:=L4.o
 have g4:=G4.o.lt
 refine ⟨w4.heap.size,g,rfl,⟨c.bm,Blk.new w4 _ _,⟨zi (G4.o.alloc _) LL.o (by omega) (show c.bm≤2000000 by have:=LM.o;omega),?_,?_⟩⟩,K0.o.trans (ah K4.o _)⟩
 ·have:=K4.o.size;omega
 ·omega
theorem CAt.Aa {w:World} {lo b g:Nat} {c:Pl.Mc} {h:Bool} (a:CAt w lo b g c h) (l:c.bx.length=512):w.cell? ⟨b,0,none⟩=some (.int .i64 (el c.r.xs 0))∧w.cell? ⟨b,1,none⟩=some (.int .i64 (el c.r.xs 1))∧w.cell? ⟨b,2,none⟩=some (.int .i64 (el c.r.xs 2))∧w.cell? ⟨b,3,none⟩=some (.int .i64 (el c.r.xs 3))∧w.cell? ⟨b,4,none⟩=some (.int .i64 (el c.r.ys 0))∧w.cell? ⟨b,5,none⟩=some (.int .i64 (el c.r.ys 1))∧w.cell? ⟨b,6,none⟩=some (.int .i64 (el c.r.ys 2))∧w.cell? ⟨b,7,none⟩=some (.int .i64 (el c.r.ys 3))∧w.cell? ⟨b,8,none⟩=some (.int .i64 c.r.o)∧w.cell? ⟨b,9,none⟩=some (.int .i64 c.r.p)∧w.cell? ⟨b,10,none⟩=some (.int .i64 c.r.f)∧w.cell? ⟨b,11,none⟩=some (.int .i64 c.r.m)∧w.cell? ⟨b,12,none⟩=some (.bool c.r.s)∧w.cell? ⟨b,13,none⟩=some (.bool c.r.t)∧w.cell? ⟨b,527,none⟩=some (.bool c.st)∧w.cell? ⟨b,528,none⟩=some (.bool h):=
 ⟨a.cX (by omega),a.cX (by omega),a.cX (by omega),a.cX (by omega),a.cY (k:=0) (by omega),a.cY (k:=1) (by omega),a.cY (k:=2) (by omega),a.cY (k:=3) (by omega),a.cO,a.cP,a.cF,a.cM,a.cS,a.cT,a.cSt l,a.cH l⟩
theorem X6 (w:World) {r:Pl.Rg} {st ha:Bool} (b:Nat) (xs:List Int) (d:Option Addr) (n c:Nat) (hB:Blk w b (cor r xs (.slice d n c) st ha) 93) (lx:xs.length=512) :
  Calls prog 60 #[.pointer (some ⟨b,14,none⟩)] w fun e w'=>∃g:Nat,e=.returned (.agg #[.slice (some ⟨g,0,none⟩) 512 512,.slice d n c])∧Blk w' g (cellsOf xs) 3∧w.heap.size≤g∧Kept 0 0 w w':=by
 have HX:=hide lx
 have HB:=hide hB
 have hu:=underlying88
 have hcs:(xs.map (Value.int .i64)).length=512:=by rw [List.length_map,lx]
 have hi:(prog.info? 88).map (·.size)=some (xs.map (Value.int .i64)).length:=by rw [hcs];exact Tryz.xN
 have h1:∀v∈xs.map (Value.int .i64),v.oneCell'=true:=iH
 have hlt:=hB.lt
 have HR:=hide ((Blk.new w #[.slice none 0 0,.slice none 0 0] 34))
 have K0:=hide (kept_alloc w (.cells #[.slice none 0 0,.slice none 0 0] 34))
 have B0:=hide (hB.alloc (.cells #[.slice none 0 0,.slice none 0 0] 34))
 clear hB lx
 go_enter func60,ntmps60
 go_wp2_with fail
 obtain ⟨W,hW⟩:∃W:World,W=w.alloc (.cells #[.slice none 0 0,.slice none 0 0] 34):=⟨_,rfl⟩
 rw [←hW] at HR K0 B0 ⊢
 clear hW
 obtain ⟨r1,r2⟩:=F7 B0.o HX.o
 go_region_held3 (fun w'=>w'.rangeAt b 14 (xs.map (Value.int .i64))∧w'.cell? ⟨b,526,none⟩=some (.slice d n c)) (first|exact F7 B3.o HX.o|exact F7 ((B3.o.other _ _ _ (by omega)).other _ _ _ (by omega)) HX.o|go_keep_ranges|go_keep)
  (first|(go_at_call 98;refine (NW _ xs HX.o).mono ?_;rintro e w3 ⟨g,rfl,hb3,hg3,kd⟩;have k3:=bW kd;have B3:=hide (B0.o.af k3);have R3:=hide (HR.o.af k3);have q0:=R3.o.cell (i:=0) rfl;have q1:=R3.o.cell (i:=1) rfl;have f0:=R3.o.frozen 0;have f1:=R3.o.frozen 1;have G3:=hide hb3;have L3:=hide hg3;have K3:=hide (K0.o.trans k3);clear hb3 hg3 kd k3))
 go_wp2_with fail
 have l3:W.heap.size≤g:=L3.o
 have k0:=K0.o.size
 have k1:=HR.o.lt
 refine bodyPost_ret (v:=.agg #[.slice (some ⟨g,0,none⟩) 512 512,.slice d n c]) ?_ rfl ⟨g,rfl,?_,by omega,?_⟩
 ·rw [aj rfl];go_simp
 ·exact (G3.o.other _ _ _ (by omega)).other _ _ _ (by omega)
 ·exact ag (ag K3.o _ _ _ (.inr (by omega))) _ _ _ (.inr (by omega))
theorem XZ (w:World) (lo b g:Nat) (c:Pl.Mc) (h:Bool) (hC:CAt w lo b g c h) (G:Pl.GM c) :
  Calls prog 33 #[.pointer (some ⟨b,0,none⟩)] w fun r w'=>∃(a' b' e' q':Option Addr) (ca' cb' ce' cq':Nat),r=.returned (.agg (pY (c.cpu h) a' b' e' q' ca' cb' ce' cq'))∧lQ w' lo (c.cpu h) a' b' e' q'∧Kept 0 0 w w':=by
 obtain ⟨l0,l1,l2,l3,l4⟩:=hC.lt
 have K0:=hide (kept_alloc w (.cells cpZ 36))
 have R0:=hide (Blk.new w cpZ 36)
 have C0:=hide (hC.alloc (.cells cpZ 36))
 have LX:=hide G.g.d4
 have LY:=hide G.g.a4
 have LB:=hide G.bx
 clear hC G
 obtain ⟨X,hX⟩:∃X:World,w.alloc (.cells cpZ 36)=X:=⟨_,rfl⟩
 rw [hX] at K0 R0 C0
 obtain ⟨i0,i1,i2,i3,i4,i5,i6,i7,i8,i9,i10,i11,i12,i13,j1,j2⟩:=C0.o.Aa LB.o
 go_enter func33,ntmps33
 go_wp2_with fail
 clear hX
 go_region_held3 (fun w'=>w'.cell? ⟨b,0,none⟩=some (.int .i64 (el c.r.xs 0))∧w'.cell? ⟨b,1,none⟩=some (.int .i64 (el c.r.xs 1))∧w'.cell? ⟨b,2,none⟩=some (.int .i64 (el c.r.xs 2))∧w'.cell? ⟨b,3,none⟩=some (.int .i64 (el c.r.xs 3))∧w'.cell? ⟨b,4,none⟩=some (.int .i64 (el c.r.ys 0))∧w'.cell? ⟨b,5,none⟩=some (.int .i64 (el c.r.ys 1))∧w'.cell? ⟨b,6,none⟩=some (.int .i64 (el c.r.ys 2))∧w'.cell? ⟨b,7,none⟩=some (.int .i64 (el c.r.ys 3))∧w'.cell? ⟨b,8,none⟩=some (.int .i64 c.r.o)∧w'.cell? ⟨b,9,none⟩=some (.int .i64 c.r.p)∧w'.cell? ⟨b,10,none⟩=some (.int .i64 c.r.f)∧w'.cell? ⟨b,11,none⟩=some (.int .i64 c.r.m)∧w'.cell? ⟨b,12,none⟩=some (.bool c.r.s)∧w'.cell? ⟨b,13,none⟩=some (.bool c.r.t)∧w'.cell? ⟨b,527,none⟩=some (.bool c.st)∧w'.cell? ⟨b,528,none⟩=some (.bool h)) (first|with_reducible exact C4.o.Aa LB.o|with_reducible exact C3.o.Aa LB.o|with_reducible exact C0.o.drew.Aa LB.o|exact (C4.o.kept ((((((((((((ak _ w.heap.size _ _).one _ _).one _ _).one _ _).one _ _).one _ _).one _ _).one _ _).one _ _).one _ _).one _ _).one _ _) (by omega) (by omega)).Aa LB.o)
  (first|(go_at_call 60;have z9:=C3;obtain ⟨cu,hb9,ho9⟩:=C3.o;refine (X6 _ b c.bx _ _ _ hb9 LB.o).mono ?_;rintro e9 w4 ⟨gb,rfl,hb4,hg4,k4⟩;have C4:=hide (C3.o.any k4);have B4:=hide hb4;have L4:=hide hg4;have RI4:=hide (RI3.o.kept k4);have R4:=hide (R3.o.af k4);have p:=R4.o.all;have pf:=R4.o.fz;have O4:=hide (ho9.any k4);have K4:=hide (K3.o.trans k4);clear hb4 hg4 k4 hb9 ho9)|(go_at_call 59;refine (LP c.r _ LX.o LY.o).mono ?_;rintro e9 w3 ⟨a',b',ca',cb',rfl,hr3,kd⟩;have k3:=bW kd;have C3:=hide (C0.o.any k3);have R3:=hide (R0.o.af k3);have RI3:=hide hr3;have K3:=hide k3;clear kd k3 hr3))
 go_wp2_with fail
 have K5:=((((((((((((ak w4 w.heap.size 0 (.slice a' c.r.xs.length ca')).one 1 (.slice b' c.r.ys.length cb')).one 2 (.int .i64 c.r.o)).one 3 (.int .i64 c.r.p)).one 4 (.int .i64 c.r.f)).one 5 (.int .i64 c.r.m)).one 6 (.bool c.r.s)).one 7 (.bool c.r.t)).one 8 (.slice (some ⟨gb,0,none⟩) 512 512)).one 9 (.slice (some ⟨g,0,none⟩) c.bm cu)).one 10 (.bool c.st)).one 11 (.bool h))
 have s0:w.heap.size<X.heap.size:=R0.o.lt
 have s3:X.heap.size≤w3.heap.size:=K3.o.size
 have s4:w3.heap.size≤w4.heap.size:=by have:=K4.o.size;have:=L4.o;have:=B4.o.lt;omega
 have l4:=L4.o
 have b4:=B4.o.lt
 have s5:=K5.size
 have ra:∀x,blk a'=some x→X.heap.size≤x∧x<w3.heap.size:=by
  intro x hx
  rcases RI3.o.1 with ⟨e1,_⟩|⟨y,e1,y0,y1,_⟩
  ·rw [e1] at hx;cases hx
  ·rw [e1] at hx;have hx':y=x:=Option.some.inj hx;subst hx';exact ⟨y0,y1⟩
 have rb:∀x,blk b'=some x→X.heap.size≤x∧x<w3.heap.size:=by
  intro x hx
  rcases RI3.o.2.1 with ⟨e1,_⟩|⟨y,e1,y0,y1,_⟩
  ·rw [e1] at hx;cases hx
  ·rw [e1] at hx;have hx':y=x:=Option.some.inj hx;subst hx';exact ⟨y0,y1⟩
 refine bodyPost_ret (v:=.agg #[.slice a' c.r.xs.length ca',.slice b' c.r.ys.length cb',.int .i64 c.r.o,.int .i64 c.r.p,.int .i64 c.r.f,.int .i64 c.r.m,.bool c.r.s,.bool c.r.t,.slice (some ⟨gb,0,none⟩) 512 512,.slice (some ⟨g,0,none⟩) c.bm cu,.bool c.st,.bool h]) ?_ rfl ⟨a',b',some ⟨gb,0,none⟩,some ⟨g,0,none⟩,ca',cb',512,cu,?_,⟨?_,?_,?_,?_,RI3.o.2.2,?_,?_,?_,?_,?_⟩,?_⟩
 ·rw [aj rfl];go_simp
 ·unfold pY Pl.Mc.cpu;dsimp only;rw [LB.o]
 ·exact (aZ.kept RI4.o.1 K5 (.inr (.inl (show w.heap.size+1≤X.heap.size by omega)))).wide (show lo≤X.heap.size by omega) s5
 ·exact (aZ.kept RI4.o.2.1 K5 (.inr (.inl (show w.heap.size+1≤X.heap.size by omega)))).wide (show lo≤X.heap.size by omega) s5
 ·exact .inr ⟨gb,rfl,by omega,by omega,jM (B4.o.kept K5 (by omega))⟩
 ·exact .inr ⟨g,rfl,l2,by omega,gQ (dJ O4.o.l K5 (by omega))⟩
 ·intro x h1 h2;have h3:gb=x:=Option.some.inj h2;have:=ra x h1;omega
 ·intro x h1 h2;have h3:g=x:=Option.some.inj h2;have:=ra x h1;omega
 ·intro x h1 h2;have h3:gb=x:=Option.some.inj h2;have:=rb x h1;omega
 ·intro x h1 h2;have h3:g=x:=Option.some.inj h2;have:=rb x h1;omega
 ·intro x h1 h2;have h3:gb=x:=Option.some.inj h1;have h4:g=x:=Option.some.inj h2;omega
 ·exact dD (K0.o.trans K4.o) K5 (by omega)
theorem lK (w:World) (c:Pl.Cp) (a b e q:Option Addr) (ca cb ce cq:Nat) (ha:Came w a c.r.xs) (hb:Came w b c.r.ys) (he:Came w e c.bx) (hq:Came w q c.bl) (lx:c.r.xs.length≤2000000) (ly:c.r.ys.length≤2000000) (lb:c.bx.length≤2000000) (ll:c.bl.length=5*c.bm) (lm:c.bm≤2000000) (wf:Pl.WfR c.r) :
  Calls prog 30 #[.agg #[.slice a c.r.xs.length ca,.slice b c.r.ys.length cb,iv c.r.o,iv c.r.p,iv c.r.f,iv c.r.m,.bool c.r.s,.bool c.r.t,.slice e c.bx.length ce,.slice q c.bm cq,.bool c.st,.bool c.ha]] w fun r w'=>r=.returned (.bool (Pl.iP c))∧Kept 0 0 w w':=by
 have K0:=hide (kept_alloc w (.cells #[.slice a c.r.xs.length ca,.slice b c.r.ys.length cb,iv c.r.o,iv c.r.p,iv c.r.f,iv c.r.m,.bool c.r.s,.bool c.r.t,.slice e c.bx.length ce,.slice q c.bm cq,.bool c.st,.bool c.ha] 36))
 have HBA:=hide (Blk.new w #[.slice a c.r.xs.length ca,.slice b c.r.ys.length cb,iv c.r.o,iv c.r.p,iv c.r.f,iv c.r.m,.bool c.r.s,.bool c.r.t,.slice e c.bx.length ce,.slice q c.bm cq,.bool c.st,.bool c.ha] 36)
 obtain ⟨X,hX⟩:∃X:World,w.alloc (.cells #[.slice a c.r.xs.length ca,.slice b c.r.ys.length cb,iv c.r.o,iv c.r.p,iv c.r.f,iv c.r.m,.bool c.r.s,.bool c.r.t,.slice e c.bx.length ce,.slice q c.bm cq,.bool c.st,.bool c.ha] 36)=X:=⟨_,rfl⟩
 rw [hX] at K0 HBA
 have HA:=hide (ha.ai K0.o)
 have HB:=hide (hb.ai K0.o)
 have HE:=hide (he.ai K0.o)
 have HQ:=hide (hq.ai K0.o)
 clear ha hb he hq
 have p:=HBA.o.all
 cases h1:Pl.sJ c.r
 ·go_enter func30,ntmps30
  go_wp2_with (go_at_call 53;refine (nO _ c.r a b ca cb HA.o HB.o lx ly wf).mono ?_;rintro e9 W ⟨rfl,k9⟩;rw [h1];have HK1:=hide k9;have HB1:=hide (HBA.o.af k9);have HE1:=hide (HE.o.ai k9);have HQ1:=hide (HQ.o.ai k9);clear k9 p;have p:=HB1.o.all)
  go_ret
  exact ⟨rB (by unfold Pl.iP;simp [h1]),K0.o.trans HK1.o⟩
 ·cases h2:Pl.fF c.bx c.bl c.bm
  ·go_enter func30,ntmps30
   go_wp2_with (first|(go_at_call 54;have z9:=HB1;refine (fF _ e q ce cq c.bm c.bx c.bl HE1.o HQ1.o lb ll lm).mono ?_;rintro e9 W2 ⟨rfl,k9⟩;rw [h2];have HK2:=hide k9;have HB2:=hide (HB1.o.af k9);clear k9 p;have p:=HB2.o.all)|(go_at_call 53;refine (nO _ c.r a b ca cb HA.o HB.o lx ly wf).mono ?_;rintro e9 W ⟨rfl,k9⟩;rw [h1];have HK1:=hide k9;have HB1:=hide (HBA.o.af k9);have HE1:=hide (HE.o.ai k9);have HQ1:=hide (HQ.o.ai k9);clear k9 p;have p:=HB1.o.all))
   go_ret
   exact ⟨rB (by unfold Pl.iP;simp [h1,h2]),(K0.o.trans HK1.o).trans HK2.o⟩
  ·rcases Bool.eq_false_or_eq_true c.st with h3|h3
   all_goals
    have H3:=hide h3
    clear h3
    go_enter func30,ntmps30
    go_wp2_with (first|(go_at_call 54;have z9:=HB1;refine (fF _ e q ce cq c.bm c.bx c.bl HE1.o HQ1.o lb ll lm).mono ?_;rintro e9 W2 ⟨rfl,k9⟩;rw [h2];have HK2:=hide k9;have HB2:=hide (HB1.o.af k9);clear k9 p;have p:=HB2.o.all;rw [H3.o] at p)|(go_at_call 53;refine (nO _ c.r a b ca cb HA.o HB.o lx ly wf).mono ?_;rintro e9 W ⟨rfl,k9⟩;rw [h1];have HK1:=hide k9;have HB1:=hide (HBA.o.af k9);have HE1:=hide (HE.o.ai k9);have HQ1:=hide (HQ.o.ai k9);clear k9 p;have p:=HB1.o.all))
    go_ret
    exact ⟨rB (by unfold Pl.iP;simp [h1,h2,H3.o]),(K0.o.trans HK1.o).trans HK2.o⟩
end Go.Proofs.YtkkmnnhaailkcaaGreatDoor
