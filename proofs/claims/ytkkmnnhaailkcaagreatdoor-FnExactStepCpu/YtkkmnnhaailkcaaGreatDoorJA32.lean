/- Part 32 of what the last text leans on. -/
import Derived.Test.YtkkmnnhaailkcaaGreatDoorJA31
import Derived.Test.YtkkmnnhaailkcaaGreatDoorJA14
import Derived.Test.YtkkmnnhaailkcaaGreatDoorJA5
import Derived.Test.YtkkmnnhaailkcaaGreatDoorJA1
import Derived.Test.YtkkmnnhaailkcaaGreatDoorJA2
import Derived.Deep.QuietTactic
import Derived.BigQuiet
set_option maxRecDepth 100000
set_option maxHeartbeats 16000000
namespace Go.Proofs.YtkkmnnhaailkcaaGreatDoor
open Go.RowKit Go.Proofs.Tryz
set_option linter.unusedVariables false
namespace Pl
theorem yP {r:Rg} (h:Good r) {r':Rg} (h0:r'.s=r.s) (h1:r'.t=r.t) (h2:r'.m=r.m) (h3:r'.f=r.f):bJ r' (status r)=r':=by
 have a:=h.f0;have b:=h.f1;have c:=h.m0;have d:=h.m1
 have e1:dI (status r)=r.s:=by unfold dI status fl1;cases r.s<;>cases r.t<;>simp<;>omega
 have e2:fC (status r)=r.t:=by unfold fC status fl1;cases r.s<;>cases r.t<;>simp<;>omega
 have e3:status r/32%8=r.m:=by unfold status fl1;cases r.s<;>cases r.t<;>simp<;>omega
 have e4:status r%32=r.f:=by unfold status fl1;cases r.s<;>cases r.t<;>simp<;>omega
 unfold bJ
 rw [e1,e2,e3,e4,if_pos h0.symm]
 obtain ⟨xs,ys,o,p,f,m,s,t⟩:=r'
 simp only at h0 h1 h2 h3
 rw [h0,h1,h2,h3]
theorem Vb (c:Mc):c.pop.f=Mc.fA c.f 1 2 (el c.r.ys 3):=by
 unfold Mc.pop
 cases (c.acc 1 2 (el c.r.ys 3) 0).fine<;>rfl
theorem AQ {c E:Mc} (hf:c.f=aH) (hE:E=c.pop) (h:(E.f.v != 0)=false):E.f=aH:=by
 rw [hE,Vb,hf] at h ⊢
 exact (nU h).2
def Mc.cb0 (c:Mc):Mc:=bif c.pop.fine then (c.pop.aJ c.dV).dh (bJ (c.pop.aJ c.dV).r (status c.r)) else c.pop.aJ c.dV
def Mc.cb1 (c:Mc):Mc:=bif c.pop.fine then (bif c.pop.pop.fine then (c.pop.pop.aJ c.pop.dV).dh (bJ (c.pop.pop.aJ c.pop.dV).r (c.dV%1024)) else c.pop.pop.aJ c.pop.dV) else c.pop
end Pl
theorem TK (w:World) (lo b g:Nat) (c:Pl.Mc) (h:Bool) (op z r m k e:Int) (hC:CAt w lo b g c h) (G:Pl.GM c) (B:Pl.InB ⟨op,z,r,m,k,e,0⟩) (he:e≤1023) :
  Calls prog 172 #[.pointer (some ⟨b,0,none⟩),.agg (inA op z r m k e 0)] w fun e' w'=>e'=.returned (.tuple #[])∧CAt w' lo b g (c.dh (Pl.bJ c.r e)) h∧Kept b (b+1) w w':=by
 obtain ⟨l0,l1,l2,l3,l4⟩:=hC.lt
 have HG:=hide G
 have HB:=hide B
 have K0:=hide (kept_alloc w (.cells (inA op z r m k e 0) 109))
 have C0:=hide (hC.alloc (.cells (inA op z r m k e 0) 109))
 have A0:=hide (Blk.new w (inA op z r m k e 0) 109)
 obtain ⟨X,hX⟩:∃X:World,w.alloc (.cells (inA op z r m k e 0) 109)=X:=⟨_,rfl⟩
 rw [hX] at K0 C0 A0
 have sX:w.heap.size<X.heap.size:=A0.o.lt
 have p:=A0.o.all
 clear hC G B
 have e0:0≤e:=HB.o.e0
 go_enter func172,ntmps172
 go_wp2_with fail
 clear hX p
 have u5:=A0.o.cell (i:=5) rfl
 go_region_held3 (fun w'=>w'.cell? ⟨w.heap.size,5,none⟩=some (iv e)) (first|with_reducible exact A1.o.cell (i:=5) rfl|exact (show Blk _ _ _ _ from A0.o).cell (i:=5) rfl)
  (first|(go_at_call 92;refine (DZ _ lo b g c h e C0.o.drew HG.o.g e0 he).mono ?_;rintro e9 W1 ⟨rfl,hc,kd⟩;have k1:=bW kd;have C1:=hide hc;have A1:=hide (A0.o.kept k1 (by omega));have K1:=hide (K0.o.any.trans k1);clear hc kd k1))
 go_wp2_with fail
 first|go_end0|refine bodyPost_ret (results_none rfl _ _ _) rfl ?_
 exact ⟨rfl,C1.o,K1.o⟩
theorem TJ (w:World) (lo b g:Nat) (c:Pl.Mc) (h:Bool) (op z r m k e:Int) (hC:CAt w lo b g c h) (G:Pl.GM c) (B:Pl.InB ⟨op,z,r,m,k,e,1⟩) :
  Calls prog 172 #[.pointer (some ⟨b,0,none⟩),.agg (inA op z r m k e 1)] w fun e' w'=>e'=.returned (.tuple #[])∧CAt w' lo b g (c.dh {c.r with xs:=c.r.xs.set r.toNat (Pl.status c.r)}) h∧Kept b (b+1) w w':=by
 obtain ⟨l0,l1,l2,l3,l4⟩:=hC.lt
 have HG:=hide G
 have HB:=hide B
 have K0:=hide (kept_alloc w (.cells (inA op z r m k e 1) 109))
 have C0:=hide (hC.alloc (.cells (inA op z r m k e 1) 109))
 have A0:=hide (Blk.new w (inA op z r m k e 1) 109)
 obtain ⟨X,hX⟩:∃X:World,w.alloc (.cells (inA op z r m k e 1) 109)=X:=⟨_,rfl⟩
 rw [hX] at K0 C0 A0
 have sX:w.heap.size<X.heap.size:=A0.o.lt
 have p:=A0.o.all
 clear hC G B
 obtain ⟨n,rfl⟩:∃n:Nat,r=(n:Int):=⟨r.toNat,by have:0≤r:=HB.o.r0;omega⟩
 have hn:n<4:=by have:(n:Int)≤3:=HB.o.r1;omega
 have i0:(0:Int)≤(n:Int):=by omega
 have i1:(n:Int)<4:=by omega
 go_enter func172,ntmps172
 go_wp2_with fail
 clear hX p
 have u2:=A0.o.cell (i:=2) rfl
 obtain ⟨v0,v1,v2,v3,v4,v5,v6,v7,v8,v9,v10,v11,v12,v13⟩:=C0.o.Ac
 go_region_with (first|(go_at_call 93;refine (qN c.r _ HG.o.g.f0 HG.o.g.f1 HG.o.g.m0 HG.o.g.m1).mono ?_;rintro e9 W1 ⟨rfl,kd⟩;have k1:=bW kd;have C1:=hide (C0.o.any k1);have K1:=hide (K0.o.trans k1);have q1:=C1.o.cX hn;have qz:=C1.o.fz;have u2':=(A0.o.af k1).cell (i:=2) rfl;clear kd k1))
 all_goals
  go_wp2_with fail
  first|go_end0|refine bodyPost_ret (results_none rfl _ _ _) rfl ?_
  exact ⟨rfl,C1.o.yV HG.o.g.d4 hn _,ag K1.o.any _ _ _ (.inl ⟨by omega,by omega⟩)⟩
theorem Ub (w:World) (lo b g:Nat) (c:Pl.Mc) (h:Bool) (op z r m k e:Int) (hC:CAt w lo b g c h) (G:Pl.GM c) (hf:c.f=Pl.aH) :
  Calls prog 204 #[.pointer (some ⟨b,0,none⟩),.agg (inA op z r m k e 0)] w fun e' w'=>∃g',e'=.returned (.agg (ftC c.cb0.f))∧CAt w' lo b g' (c.cb0) h∧Since w b (b+1) g w' g':=by
 obtain ⟨l0,l1,l2,l3,l4⟩:=hC.lt
 have HG:=hide G
 obtain ⟨X,hX,K0,C0,A0,R0,sX⟩:=hC.jh op z r m k e 0
 have p:=A0.o.all
 clear hC G
 obtain ⟨ST,hST⟩:∃x,x=Pl.status c.r:=⟨_,rfl⟩
 have st:=Pl.wS HG.o.g
 rw [←hST] at st
 obtain ⟨st0,st1⟩:=st
 obtain ⟨E,hE⟩:∃E,E=c.pop:=⟨_,rfl⟩
 obtain ⟨V,hV⟩:∃V,V=c.dV:=⟨_,rfl⟩
 obtain ⟨F,hF⟩:∃F,F=E.f:=⟨_,rfl⟩
 have vb:=Pl.kH HG.o
 rw [←hV] at vb
 have GE:Hid (Pl.GM (E.aJ V)):=hide (by have q:=HG.o.pop;rw [←hE] at q;exact q.aJ vb.1 vb.2)
 have ET:Hid (c.cb0=bif !(F.v != 0) then (E.aJ V).dh (Pl.bJ (E.aJ V).r ST) else E.aJ V):=hide (by
  unfold Pl.Mc.cb0
  rw [←hE,←hV,←hST,hF];unfold Pl.Mc.fine;simp [bne])
 have HS:=hide hST
 have HE:=hide hE
 have HV:=hide hV
 have HF:=hide hF
 have er:ST%1024=ST:=by omega
 have er2:ST.tmod 1024=ST:=by rw [Int.tmod_eq_emod_of_nonneg st0];exact er
 clear hST hE hV hF vb
 obtain ⟨v0,v1,v2,v3,v4,v5,v6,v7,v8,v9,v10,v11,v12,v13⟩:=C0.o.Ac
 go_enter func204,ntmps204
 go_wp2_with (first|(go_at_call 233;have z9:=C1;refine (TF _ lo b g c h C1.o HG.o hf).mono ?_;rintro e9 W2 ⟨g',rfl,hc,hs⟩;rw [←HE.o] at hc ⊢;rw [←HV.o,←HF.o];unfold ftC;have C2:=hide hc;have A2:=hide (hs.blk A1.o (by omega) (by omega));have R2:=hide (hs.blk R1.o (by omega) (by omega));have L2:=hide (hs.blk L1.o (by omega) (by omega));have S2:=hide (((Since.refl w b (b+1) g).any K1.o).trans hs);have z2:=hs.size;have n2:=hs.ne (b:=w.heap.size+1) R1.o.lt (by omega);have m2:=hs.ne (b:=W1.heap.size) L1.o.lt (by omega);have o2:=hs.ne (b:=w.heap.size) A1.o.lt (by omega);have c9:=hc.cP;have cz:=hc.fz;have lb:=((hs.blk L1.o (by omega) (by omega)).other b 9 (iv V) (by omega)).all;have lf:=((hs.blk L1.o (by omega) (by omega)).other b 9 (iv V) (by omega)).fz;clear hc hs)|(go_at_call 93;refine (qN c.r _ HG.o.g.f0 HG.o.g.f1 HG.o.g.m0 HG.o.g.m1).mono ?_;rintro e9 W1 ⟨rfl,k1⟩;rw [←HS.o];have C1:=hide ((C0.o.any k1).alloc (.cells ftZ 49));have A1:=hide ((A0.o.af k1).alloc (.cells ftZ 49));have R1:=hide ((R0.o.af k1).alloc (.cells ftZ 49));have K1:=hide (ah (K0.o.trans k1) (.cells ftZ 49));have L1:=hide (Blk.new W1 ftZ 49);have s1:=k1.size;have p1:=A1.o.all;have l1a:=L1.o.all;have l1f:=L1.o.fz;clear k1))
 have KF4:=(((((ak (W2.setCell ⟨b,9,none⟩ (iv V)) W1.heap.size 0 (iv F.v)).one 1 (iv F.pc)).one 2 (iv F.ad)).one 3 (iv F.wo)).one 4 (.bool F.wr))
 refine (gu F _).mono ?_
 rintro e9 W4 ⟨rfl,kf⟩
 have C4:=hide (((C2.o.aJ V).kept KF4 (by omega) (by omega)).any kf)
 have A4:=hide (((A2.o.other b 9 (iv V) (by omega)).kept KF4 (by omega)).af kf)
 have R4:=hide (((R2.o.other b 9 (iv V) (by omega)).kept KF4 (by omega)).af kf)
 have S4:=hide (((S2.o.set b 9 (iv V) (.inl (by omega))).mine KF4 (by omega)).any kf)
 have L4:Hid (Blk W4 W1.heap.size (ftA F) 49):=hide (Blk.af (((((((L2.o.other b 9 (iv V) (by omega))).set 0 (iv F.v)).set 1 (iv F.pc)).set 2 (iv F.ad)).set 3 (iv F.wo)).set 4 (.bool F.wr)) kf)
 have p4:=A4.o.all
 have q4:=L4.o.all
 have r4:=R4.o.all
 have rf4:=R4.o.fz
 have qf4:=L4.o.fz
 clear kf KF4
 clear hX p p1 l1a l1f lb lf c9 cz v0 v1 v2 v3 v4 v5 v6 v7 v8 v9 v10 v11 v12 v13
 cases hv:(F.v != 0)
 ·have E1:Hid (c.cb0=(E.aJ V).dh (Pl.bJ (E.aJ V).r ST)):=hide (by rw [ET.o,hv];rfl)
  have EF:Hid (E.f=Pl.aH):=hide (Pl.AQ hf HE.o (by rw [←HF.o];exact hv))
  go_wp2_with (first|(go_at_call 92;refine (DZ _ lo b g' (E.aJ V) h ST C4.o GE.o.g st0 st1).mono ?_;rintro e9 W5 ⟨rfl,hc,hk⟩;have C5:=hide hc;have R5:=hide (R4.o.kept hk (by omega));have S5:=hide (S4.o.ai hk (Nat.le_refl _) (Nat.le_refl _));have r5:=R5.o.all;have rf5:=R5.o.fz;clear hc hk))
  have KR:=(((((ak W5 (w.heap.size+1) 0 (iv 0)).one 1 (iv 0)).one 2 (iv 0)).one 3 (iv 0)).one 4 (.bool false))
  refine bodyPost_ret (v:=.agg ftZ) ?_ rfl ⟨g',?_,?_,(S5.o).mine KR (by omega)⟩
  ·rw [aj rfl];go_simp
  ·rw [E1.o,show ((E.aJ V).dh (Pl.bJ (E.aJ V).r ST)).f=Pl.aH from EF.o];rfl
  ·rw [E1.o];exact ((C5.o).kept KR (by omega) (by omega))
 ·have E1:Hid (c.cb0=E.aJ V):=hide (by rw [ET.o,hv];rfl)
  go_wp2_with fail
  have KR:=(((((ak W4 (w.heap.size+1) 0 (iv F.v)).one 1 (iv F.pc)).one 2 (iv F.ad)).one 3 (iv F.wo)).one 4 (.bool F.wr))
  refine bodyPost_ret (v:=.agg (ftA F)) ?_ rfl ⟨g',?_,?_,(S4.o).mine KR (by omega)⟩
  ·rw [aj rfl];go_simp
  ·rw [E1.o,show (E.aJ V).f=F from HF.o.symm];rfl
  ·rw [E1.o];exact ((C4.o).kept KR (by omega) (by omega))
theorem Ua (w:World) (lo b g:Nat) (c:Pl.Mc) (h:Bool) (op z r m k e:Int) (hC:CAt w lo b g c h) (G:Pl.GM c) (hf:c.f=Pl.aH) :
  Calls prog 204 #[.pointer (some ⟨b,0,none⟩),.agg (inA op z r m k e 1)] w fun e' w'=>∃g',e'=.returned (.agg (ftC c.cb1.f))∧CAt w' lo b g' (c.cb1) h∧Since w b (b+1) g w' g':=by
 obtain ⟨l0,l1,l2,l3,l4⟩:=hC.lt
 have HG:=hide G
 obtain ⟨X,hX,K0,C0,A0,R0,sX⟩:=hC.jh op z r m k e 1
 have p:=A0.o.all
 clear hC G
 obtain ⟨E,hE⟩:∃E,E=c.pop:=⟨_,rfl⟩
 obtain ⟨V,hV⟩:∃V,V=c.dV:=⟨_,rfl⟩
 obtain ⟨F,hF⟩:∃F,F=E.f:=⟨_,rfl⟩
 have vb:=Pl.kH HG.o
 rw [←hV] at vb
 obtain ⟨vb0,vb1⟩:=vb
 have GE:Hid (Pl.GM E):=hide (by rw [hE];exact HG.o.pop)
 obtain ⟨D,hD⟩:∃D,D=E.pop:=⟨_,rfl⟩
 obtain ⟨U,hU⟩:∃U,U=E.dV:=⟨_,rfl⟩
 obtain ⟨J,hJ⟩:∃J,J=D.f:=⟨_,rfl⟩
 have ub:=Pl.kH GE.o
 rw [←hU] at ub
 have GD:Hid (Pl.GM (D.aJ U)):=hide (by have q:=GE.o.pop;rw [←hD] at q;exact q.aJ ub.1 ub.2)
 have ET:Hid (c.cb1=bif !(F.v != 0) then (bif !(J.v != 0) then (D.aJ U).dh (Pl.bJ (D.aJ U).r (V%1024)) else D.aJ U) else E):=hide (by
  unfold Pl.Mc.cb1
  rw [←hE,←hV,←hD,←hU,hF,hJ];unfold Pl.Mc.fine;simp [bne])
 have HE:=hide hE
 have HV:=hide hV
 have HF:=hide hF
 have HD:=hide hD
 have HU:=hide hU
 have HJ:=hide hJ
 have er0:0≤V%1024:=by omega
 have er1:V%1024≤1023:=by omega
 have er2:V.tmod 1024=V%1024:=Int.tmod_eq_emod_of_nonneg vb0
 clear hE hV hF hD hU hJ ub
 obtain ⟨v0,v1,v2,v3,v4,v5,v6,v7,v8,v9,v10,v11,v12,v13⟩:=C0.o.Ac
 go_enter func204,ntmps204
 go_wp2_with (first|(go_at_call 233;have z9:=C1;refine (TF _ lo b g c h C1.o HG.o hf).mono ?_;rintro e9 W2 ⟨g2,rfl,hc,hs⟩;rw [←HE.o] at hc ⊢;rw [←HV.o,←HF.o];unfold ftC;have C2:=hide hc;have A2:=hide (hs.blk A1.o (by omega) (by omega));have R2:=hide (hs.blk R1.o (by omega) (by omega));have L2:=hide (hs.blk L1.o (by omega) (by omega));have S2:=hide (((Since.refl w b (b+1) g).any K1.o).trans hs);have z2:=hs.size;have n2:=hs.ne (b:=w.heap.size+1) R1.o.lt (by omega);have m2:=hs.ne (b:=W1.heap.size) L1.o.lt (by omega);have o2:=hs.ne (b:=w.heap.size) A1.o.lt (by omega);have lb:=(hs.blk L1.o (by omega) (by omega)).all;have lf:=(hs.blk L1.o (by omega) (by omega)).fz;clear hc hs)|(go_at_call 93;refine (qN c.r _ HG.o.g.f0 HG.o.g.f1 HG.o.g.m0 HG.o.g.m1).mono ?_;rintro e9 W1 ⟨rfl,k1⟩;have C1:=hide ((C0.o.any k1).alloc (.cells ftZ 49));have A1:=hide ((A0.o.af k1).alloc (.cells ftZ 49));have R1:=hide ((R0.o.af k1).alloc (.cells ftZ 49));have K1:=hide (ah (K0.o.trans k1) (.cells ftZ 49));have L1:=hide (Blk.new W1 ftZ 49);have s1:=k1.size;have p1:=A1.o.all;have l1a:=L1.o.all;have l1f:=L1.o.fz;clear k1))
 have KF4:=(((((ak W2 W1.heap.size 0 (iv F.v)).one 1 (iv F.pc)).one 2 (iv F.ad)).one 3 (iv F.wo)).one 4 (.bool F.wr))
 refine (gu F _).mono ?_
 rintro e9 W4 ⟨rfl,kf⟩
 have C4:=hide ((C2.o.kept KF4 (by omega) (by omega)).any kf)
 have A4:=hide ((A2.o.kept KF4 (by omega)).af kf)
 have R4:=hide ((R2.o.kept KF4 (by omega)).af kf)
 have S4:=hide ((S2.o.mine KF4 (by omega)).any kf)
 have L4:Hid (Blk W4 W1.heap.size (ftA F) 49):=hide (Blk.af ((((((L2.o).set 0 (iv F.v)).set 1 (iv F.pc)).set 2 (iv F.ad)).set 3 (iv F.wo)).set 4 (.bool F.wr)) kf)
 have p4:=A4.o.all
 have q4:=L4.o.all
 have r4:=R4.o.all
 have rf4:=R4.o.fz
 have qf4:=L4.o.fz
 clear kf KF4
 clear hX p p1 l1a l1f lb lf v0 v1 v2 v3 v4 v5 v6 v7 v8 v9 v10 v11 v12 v13
 cases hv:(F.v != 0)
 ·have EF:Hid (E.f=Pl.aH):=hide (Pl.AQ hf HE.o (by rw [←HF.o];exact hv))
  go_wp2_with (first|(go_at_call 233;have z9:=C4;refine (TF _ lo b g2 E h C4.o GE.o EF.o).mono ?_;rintro e9 W6 ⟨g6,rfl,hc,hs⟩;rw [←HD.o] at hc ⊢;rw [←HU.o,←HJ.o];unfold ftC;have C6:=hide hc;have A6:=hide (hs.blk A4.o (by omega) (by omega));have R6:=hide (hs.blk R4.o (by omega) (by omega));have L6:=hide (hs.blk L4.o (by omega) (by omega));have S6:=hide (S4.o.trans hs);have z6:=hs.size;have n6:=hs.ne (b:=w.heap.size+1) R4.o.lt (by omega);have m6:=hs.ne (b:=W1.heap.size) L4.o.lt (by omega);have o6:=hs.ne (b:=w.heap.size) A4.o.lt (by omega);have c9:=hc.cP;have cz:=hc.fz;have lb:=((hs.blk L4.o (by omega) (by omega)).other b 9 (iv U) (by omega)).all;have lf:=((hs.blk L4.o (by omega) (by omega)).other b 9 (iv U) (by omega)).fz;clear hc hs))
  have KF8:=(((((ak (W6.setCell ⟨b,9,none⟩ (iv U)) W1.heap.size 0 (iv J.v)).one 1 (iv J.pc)).one 2 (iv J.ad)).one 3 (iv J.wo)).one 4 (.bool J.wr))
  refine (gu J _).mono ?_
  rintro e9 W8 ⟨rfl,kf⟩
  have C8:=hide (((C6.o.aJ U).kept KF8 (by omega) (by omega)).any kf)
  have A8:=hide (((A6.o.other b 9 (iv U) (by omega)).kept KF8 (by omega)).af kf)
  have R8:=hide (((R6.o.other b 9 (iv U) (by omega)).kept KF8 (by omega)).af kf)
  have S8:=hide (((S6.o.set b 9 (iv U) (.inl (by omega))).mine KF8 (by omega)).any kf)
  have L8:Hid (Blk W8 W1.heap.size (ftA J) 49):=hide (Blk.af (((((((L6.o.other b 9 (iv U) (by omega))).set 0 (iv J.v)).set 1 (iv J.pc)).set 2 (iv J.ad)).set 3 (iv J.wo)).set 4 (.bool J.wr)) kf)
  have p8:=A8.o.all
  have q8:=L8.o.all
  have r8:=R8.o.all
  have rf8:=R8.o.fz
  have qf8:=L8.o.fz
  clear kf KF8
  clear lb lf c9 cz p4 q4 r4 rf4 qf4
  cases hw:(J.v != 0)
  ·have E1:Hid (c.cb1=(D.aJ U).dh (Pl.bJ (D.aJ U).r (V%1024))):=hide (by rw [ET.o,hv,hw];rfl)
   have DF:Hid (D.f=Pl.aH):=hide (Pl.AQ EF.o HD.o (by rw [←HJ.o];exact hw))
   go_wp2_with (first|(go_at_call 92;refine (DZ _ lo b g6 (D.aJ U) h (V%1024) C8.o GD.o.g er0 er1).mono ?_;rintro e9 W9 ⟨rfl,hc,hk⟩;have C9:=hide hc;have R9:=hide (R8.o.kept hk (by omega));have S9:=hide (S8.o.ai hk (Nat.le_refl _) (Nat.le_refl _));have r9:=R9.o.all;have rf9:=R9.o.fz;clear hc hk))
   have KR:=(((((ak W9 (w.heap.size+1) 0 (iv 0)).one 1 (iv 0)).one 2 (iv 0)).one 3 (iv 0)).one 4 (.bool false))
   refine bodyPost_ret (v:=.agg ftZ) ?_ rfl ⟨g6,?_,?_,(S9.o).mine KR (by omega)⟩
   ·rw [aj rfl];go_simp
   ·rw [E1.o,show ((D.aJ U).dh (Pl.bJ (D.aJ U).r (V%1024))).f=Pl.aH from DF.o];rfl
   ·rw [E1.o];exact ((C9.o).kept KR (by omega) (by omega))
  ·have E1:Hid (c.cb1=D.aJ U):=hide (by rw [ET.o,hv,hw];rfl)
   go_wp2_with fail
   have KR:=(((((ak W8 (w.heap.size+1) 0 (iv J.v)).one 1 (iv J.pc)).one 2 (iv J.ad)).one 3 (iv J.wo)).one 4 (.bool J.wr))
   refine bodyPost_ret (v:=.agg (ftA J)) ?_ rfl ⟨g6,?_,?_,(S8.o).mine KR (by omega)⟩
   ·rw [aj rfl];go_simp
   ·rw [E1.o,show (D.aJ U).f=J from HJ.o.symm];rfl
   ·rw [E1.o];exact ((C8.o).kept KR (by omega) (by omega))
 ·have E1:Hid (c.cb1=E):=hide (by rw [ET.o,hv];rfl)
  go_wp2_with fail
  have KR:=(((((ak W4 (w.heap.size+1) 0 (iv F.v)).one 1 (iv F.pc)).one 2 (iv F.ad)).one 3 (iv F.wo)).one 4 (.bool F.wr))
  refine bodyPost_ret (v:=.agg (ftA F)) ?_ rfl ⟨g2,?_,?_,(S4.o).mine KR (by omega)⟩
  ·rw [aj rfl];go_simp
  ·rw [E1.o,←HF.o];rfl
  ·rw [E1.o];exact ((C4.o).kept KR (by omega) (by omega))
namespace Pl
def Mc.fw (c:Mc) (x:In):Mc:=
 bif x.s==0 then c.cb0 else bif x.s==1 then c.cb1 else bif x.s==3 then {c.dh (bJ c.r x.e) with st:=true} else bif x.s==4 then {c with f:=⟨18+x.r,0,0,0,false⟩}
 else bif x.s==5 then (c.put 2 x.r (lT (el c.r.xs x.r.toNat))).aB (aQ 2 c.r.f (lT (el c.r.xs x.r.toNat))) else bif x.s==6 then (c.put 2 x.r (mY (c.low 1 x.r))).aB (aQ 2 c.r.f (mY (c.low 1 x.r))) else c
end Pl
theorem TW (w:World) (lo b g:Nat) (c:Pl.Mc) (h:Bool) (op z r m k e:Int) (hC:CAt w lo b g c h) (G:Pl.GM c) (hf:c.f=Pl.aH) (B:Pl.InB ⟨op,z,r,m,k,e,0⟩) :
  Calls prog 170 #[.pointer (some ⟨b,0,none⟩),.agg (inA op z r m k e 0)] w fun e' w'=>∃g',e'=.returned (.agg (ftC (c.fw ⟨op,z,r,m,k,e,0⟩).f))∧CAt w' lo b g' (c.fw ⟨op,z,r,m,k,e,0⟩) h∧Since w b (b+1) g w' g':=by
 have HB:=hide B
 clear B
 obtain ⟨l0,l1,l2,l3,l4⟩:=hC.lt
 have HG:=hide G
 obtain ⟨X,hX,K0,C0,A0,R0,sX⟩:=hC.jh op z r m k e 0
 have p:=A0.o.all
 clear hC G
 have r0:=R0.o.all
 have rf0:=R0.o.fz
 obtain ⟨E,hE⟩:∃E,E=c.cb0:=⟨_,rfl⟩
 obtain ⟨F,hF⟩:∃F,F=E.f:=⟨_,rfl⟩
 have ET:Hid (c.fw ⟨op,z,r,m,k,e,0⟩=E):=hide (by rw [hE];rfl)
 have HE:=hide hE
 have HF:=hide hF
 clear hE hF
 go_enter func170,ntmps170
 go_wp2_with (go_at_call 204;refine (Ub _ lo b g c h op z r m k e C0.o HG.o hf).mono ?_;rintro e9 W1 ⟨g',rfl,hc,hs⟩;rw [←HE.o] at hc ⊢;rw [←HF.o];unfold ftC;have C1:=hide hc;have R1:=hide (hs.blk R0.o (by omega) (by omega));have n1:=hs.ne (b:=w.heap.size+1) R0.o.lt (by omega);have S1:=hide (((Since.refl w b (b+1) g).any K0.o).trans hs);have r1:=R1.o.all;have rf1:=R1.o.fz;clear hc hs)
 have KR:=(((((ak W1 (w.heap.size+1) 0 (iv F.v)).one 1 (iv F.pc)).one 2 (iv F.ad)).one 3 (iv F.wo)).one 4 (.bool F.wr))
 refine bodyPost_ret (v:=.agg (ftA F)) ?_ rfl ⟨g',?_,?_,(S1.o).mine KR (by omega)⟩
 ·rw [aj rfl];go_simp
 ·rw [ET.o,←HF.o];rfl
 ·rw [ET.o];exact ((C1.o).kept KR (by omega) (by omega))
theorem TV (w:World) (lo b g:Nat) (c:Pl.Mc) (h:Bool) (op z r m k e:Int) (hC:CAt w lo b g c h) (G:Pl.GM c) (hf:c.f=Pl.aH) (B:Pl.InB ⟨op,z,r,m,k,e,1⟩) :
  Calls prog 170 #[.pointer (some ⟨b,0,none⟩),.agg (inA op z r m k e 1)] w fun e' w'=>∃g',e'=.returned (.agg (ftC (c.fw ⟨op,z,r,m,k,e,1⟩).f))∧CAt w' lo b g' (c.fw ⟨op,z,r,m,k,e,1⟩) h∧Since w b (b+1) g w' g':=by
 have HB:=hide B
 clear B
 obtain ⟨l0,l1,l2,l3,l4⟩:=hC.lt
 have HG:=hide G
 obtain ⟨X,hX,K0,C0,A0,R0,sX⟩:=hC.jh op z r m k e 1
 have p:=A0.o.all
 clear hC G
 have r0:=R0.o.all
 have rf0:=R0.o.fz
 obtain ⟨E,hE⟩:∃E,E=c.cb1:=⟨_,rfl⟩
 obtain ⟨F,hF⟩:∃F,F=E.f:=⟨_,rfl⟩
 have ET:Hid (c.fw ⟨op,z,r,m,k,e,1⟩=E):=hide (by rw [hE];rfl)
 have HE:=hide hE
 have HF:=hide hF
 clear hE hF
 go_enter func170,ntmps170
 go_wp2_with (go_at_call 204;refine (Ua _ lo b g c h op z r m k e C0.o HG.o hf).mono ?_;rintro e9 W1 ⟨g',rfl,hc,hs⟩;rw [←HE.o] at hc ⊢;rw [←HF.o];unfold ftC;have C1:=hide hc;have R1:=hide (hs.blk R0.o (by omega) (by omega));have n1:=hs.ne (b:=w.heap.size+1) R0.o.lt (by omega);have S1:=hide (((Since.refl w b (b+1) g).any K0.o).trans hs);have r1:=R1.o.all;have rf1:=R1.o.fz;clear hc hs)
 have KR:=(((((ak W1 (w.heap.size+1) 0 (iv F.v)).one 1 (iv F.pc)).one 2 (iv F.ad)).one 3 (iv F.wo)).one 4 (.bool F.wr))
 refine bodyPost_ret (v:=.agg (ftA F)) ?_ rfl ⟨g',?_,?_,(S1.o).mine KR (by omega)⟩
 ·rw [aj rfl];go_simp
 ·rw [ET.o,←HF.o];rfl
 ·rw [ET.o];exact ((C1.o).kept KR (by omega) (by omega))
theorem TU (w:World) (lo b g:Nat) (c:Pl.Mc) (h:Bool) (op z r m k e:Int) (hC:CAt w lo b g c h) (G:Pl.GM c) (hf:c.f=Pl.aH) (B:Pl.InB ⟨op,z,r,m,k,e,2⟩) :
  Calls prog 170 #[.pointer (some ⟨b,0,none⟩),.agg (inA op z r m k e 2)] w fun e' w'=>∃g',e'=.returned (.agg (ftC (c.fw ⟨op,z,r,m,k,e,2⟩).f))∧CAt w' lo b g' (c.fw ⟨op,z,r,m,k,e,2⟩) h∧Since w b (b+1) g w' g':=by
 have HB:=hide B
 clear B
 obtain ⟨l0,l1,l2,l3,l4⟩:=hC.lt
 have HG:=hide G
 obtain ⟨X,hX,K0,C0,A0,R0,sX⟩:=hC.jh op z r m k e 2
 have p:=A0.o.all
 clear hC G
 have r0:=R0.o.all
 have rf0:=R0.o.fz
 have ET:Hid (c.fw ⟨op,z,r,m,k,e,2⟩=c):=hide rfl
 go_enter func170,ntmps170
 go_wp2_with fail
 have KR:=(((((ak X (w.heap.size+1) 0 (iv 0)).one 1 (iv 0)).one 2 (iv 0)).one 3 (iv 0)).one 4 (.bool false))
 refine bodyPost_ret (v:=.agg ftZ) ?_ rfl ⟨g,?_,?_,((Since.refl w b (b+1) g).any K0.o).mine KR (by omega)⟩
 ·rw [aj rfl];go_simp
 ·rw [ET.o,hf];rfl
 ·rw [ET.o];exact ((C0.o).kept KR (by omega) (by omega))
theorem TS (w:World) (lo b g:Nat) (c:Pl.Mc) (h:Bool) (op z r m k e:Int) (hC:CAt w lo b g c h) (G:Pl.GM c) (hf:c.f=Pl.aH) (B:Pl.InB ⟨op,z,r,m,k,e,4⟩) :
  Calls prog 170 #[.pointer (some ⟨b,0,none⟩),.agg (inA op z r m k e 4)] w fun e' w'=>∃g',e'=.returned (.agg (ftC (c.fw ⟨op,z,r,m,k,e,4⟩).f))∧CAt w' lo b g' (c.fw ⟨op,z,r,m,k,e,4⟩) h∧Since w b (b+1) g w' g':=by
 have HB:=hide B
 clear B
 obtain ⟨l0,l1,l2,l3,l4⟩:=hC.lt
 have HG:=hide G
 obtain ⟨X,hX,K0,C0,A0,R0,sX⟩:=hC.jh op z r m k e 4
 have p:=A0.o.all
 clear hC G
 have r0:=R0.o.all
 have rf0:=R0.o.fz
 have rb0:0≤r:=HB.o.r0
 have rb1:r≤3:=HB.o.r1
 have ET:Hid (c.fw ⟨op,z,r,m,k,e,4⟩={c with f:=⟨18+r,0,0,0,false⟩}):=hide rfl
 go_enter func170,ntmps170
 go_wp2_with fail
 have KR:=(((((ak X (w.heap.size+1) 0 (iv (18+r))).one 1 (iv 0)).one 2 (iv 0)).one 3 (iv 0)).one 4 (.bool false))
 refine bodyPost_ret (v:=.agg #[iv (18+r),iv 0,iv 0,iv 0,.bool false]) ?_ rfl ⟨g,?_,?_,((Since.refl w b (b+1) g).any K0.o).mine KR (by omega)⟩
 ·rw [aj rfl];go_simp
 ·rw [ET.o];rfl
 ·rw [ET.o];exact ((C0.o).kept KR (by omega) (by omega)).fx rfl rfl rfl rfl rfl
theorem TT (w:World) (lo b g:Nat) (c:Pl.Mc) (h:Bool) (op z r m k e:Int) (hC:CAt w lo b g c h) (G:Pl.GM c) (hf:c.f=Pl.aH) (B:Pl.InB ⟨op,z,r,m,k,e,3⟩) (he:e≤1023) :
  Calls prog 170 #[.pointer (some ⟨b,0,none⟩),.agg (inA op z r m k e 3)] w fun e' w'=>∃g',e'=.returned (.agg (ftC (c.fw ⟨op,z,r,m,k,e,3⟩).f))∧CAt w' lo b g' (c.fw ⟨op,z,r,m,k,e,3⟩) h∧Since w b (b+1) g w' g':=by
 have HB:=hide B
 clear B
 obtain ⟨l0,l1,l2,l3,l4⟩:=hC.lt
 have HG:=hide G
 obtain ⟨X,hX,K0,C0,A0,R0,sX⟩:=hC.jh op z r m k e 3
 have p:=A0.o.all
 clear hC G
 have r0:=R0.o.all
 have rf0:=R0.o.fz
 have e0:0≤e:=HB.o.e0
 have ET:Hid (c.fw ⟨op,z,r,m,k,e,3⟩={c.dh (Pl.bJ c.r e) with st:=true}):=hide rfl
 go_enter func170,ntmps170
 go_wp2_with fail
 clear hX p r0 rf0
 have u5:=A0.o.cell (i:=5) rfl
 go_region_held3 (fun w'=>w'.cell? ⟨w.heap.size,5,none⟩=some (iv e)) (first|with_reducible exact A1.o.cell (i:=5) rfl|exact (show Blk _ _ _ _ from A0.o).cell (i:=5) rfl)
  (first|(go_at_call 92;refine (DZ _ lo b g c h e C0.o.drew HG.o.g e0 he).mono ?_;rintro e9 W1 ⟨rfl,hc,kd⟩;have k1:=bW kd;have C1:=hide hc;have A1:=hide (A0.o.kept k1 (by omega));have R1:=hide (R0.o.kept k1 (by omega));have S1:=hide (((Since.refl w b (b+1) g).any K0.o).ai k1 (Nat.le_refl _) (Nat.le_refl _));clear hc kd k1))
 have c7:=C1.o.cSt HG.o.bx
 have cz:=C1.o.fz
 have r2:=(R1.o.other b 527 (.bool true) (by omega)).all
 have rf2:=(R1.o.other b 527 (.bool true) (by omega)).fz
 go_wp2_with fail
 have KR:=(((((ak (W1.setCell ⟨b,527,none⟩ (.bool true)) (w.heap.size+1) 0 (iv 0)).one 1 (iv 0)).one 2 (iv 0)).one 3 (iv 0)).one 4 (.bool false))
 refine bodyPost_ret (v:=.agg ftZ) ?_ rfl ⟨g,?_,?_,(S1.o.set b 527 (.bool true) (.inl (by omega))).mine KR (by omega)⟩
 ·rw [aj rfl];go_simp
 ·rw [ET.o,show ({c.dh (Pl.bJ c.r e) with st:=true}:Pl.Mc).f=Pl.aH from hf];rfl
 ·rw [ET.o];exact ((C1.o.XF HG.o.bx true).kept KR (by omega) (by omega))
theorem Bd' {w:World} {b:Nat} {cs:Array Value} {t:TypeId} (h:Blk w b cs t):Blk w.drew b cs t:=h
theorem Pl.xE {c:Pl.Mc} (h:Pl.GM c) {n:Nat} (hn:n<4) {v:Int}:el (c.put 2 (n:Int) v).r.xs n=v:=by
 show el (c.r.xs.set n _) n=v
 rw [Pl.vP (by have:=h.g.d4;omega),if_pos rfl]
 rfl
theorem TR (w:World) (lo b g:Nat) (c:Pl.Mc) (h:Bool) (op z r m k e:Int) (hC:CAt w lo b g c h) (G:Pl.GM c) (hf:c.f=Pl.aH) (B:Pl.InB ⟨op,z,r,m,k,e,5⟩) :
  Calls prog 170 #[.pointer (some ⟨b,0,none⟩),.agg (inA op z r m k e 5)] w fun e' w'=>∃g',e'=.returned (.agg (ftC (c.fw ⟨op,z,r,m,k,e,5⟩).f))∧CAt w' lo b g' (c.fw ⟨op,z,r,m,k,e,5⟩) h∧Since w b (b+1) g w' g':=by
 have HB:=hide B
 clear B
 obtain ⟨l0,l1,l2,l3,l4⟩:=hC.lt
 have HG:=hide G
 obtain ⟨X,hX,K0,C0,A0,R0,sX⟩:=hC.jh op z r m k e 5
 have p:=A0.o.all
 clear hC G
 have r0:=R0.o.all
 have rf0:=R0.o.fz
 obtain ⟨n,rfl⟩:∃n:Nat,r=(n:Int):=⟨r.toNat,by have:0≤r:=HB.o.r0;omega⟩
 have hn:n<4:=by have:(n:Int)≤3:=HB.o.r1;omega
 have i0:(0:Int)≤(n:Int):=by omega
 have i1:(n:Int)<4:=by omega
 have xb:=HG.o.g.dw n hn
 obtain ⟨xb0,xb1⟩:=xb
 obtain ⟨V,hV⟩:∃V,V=Pl.lT (el c.r.xs n):=⟨_,rfl⟩
 have vb:Pl.okv 2 V=true:=by rw [hV];exact Pl.Dj _
 have vb2:=Pl.aP vb
 obtain ⟨vb0,vb1⟩:0≤V∧V≤65535:=by omega
 have ET:Hid (c.fw ⟨op,z,(n:Int),m,k,e,5⟩=(c.put 2 (n:Int) V).aB (Pl.aQ 2 c.r.f V)):=hide (by rw [hV];rfl)
 have eV:Pl.lT (el c.r.xs n)=V:=hV.symm
 clear hV vb vb2
 go_enter func170,ntmps170
 go_wp2_with fail
 clear hX p r0 rf0
 have q1:=C0.o.cX hn
 have qf:=C0.o.fz n
 have u1:=A0.o.cell (i:=2) rfl
 go_region_with (first|(go_at_call 205;refine st (Es _ _ (by omega) (by omega)) ?_;rw [eV]))
 all_goals
  go_wp2_with fail
  have C3:Hid (CAt (X.setCell ⟨b,n,none⟩ (iv V)).drew lo b g (c.put 2 (n:Int) V) h):=hide (C0.o.yV HG.o.g.d4 hn V).drew
  have A3:=hide (Bd' (A0.o.other b n (iv V) (by omega)))
  have R3:=hide (Bd' (R0.o.other b n (iv V) (by omega)))
  have S3:=hide ((((Since.refl w b (b+1) g).any K0.o).set b n (iv V) (.inl (by omega))).drew)
  obtain ⟨W3,hW⟩:∃W:World,(X.setCell ⟨b,n,none⟩ (iv V)).drew=W:=⟨_,rfl⟩
  rw [hW] at C3 A3 R3 S3 ⊢
  clear hW q1 qf u1
  have u2:=A3.o.cell (i:=2) rfl
  have q3:=C3.o.cX hn
  rw [show el (c.put 2 (n:Int) V).r.xs n=V from Pl.xE HG.o hn] at q3
  go_region_held3 (fun w'=>w'.cell? ⟨w.heap.size,2,none⟩=some (iv (n:Int))∧w'.cell? ⟨b,n,none⟩=some (iv V)) (first|with_reducible exact ⟨A4.o.cell (i:=2) rfl,q4⟩|exact ⟨(show Blk _ _ _ _ from A3.o).cell (i:=2) rfl,q3⟩)
   (first|(go_at_call 196;refine (tH _ lo b g (c.put 2 (n:Int) V) h 2 V C3.o.drew vb0 vb1).mono ?_;rintro e9 W4 ⟨rfl,hc,kd⟩;have k4:=bW kd;have C4:=hide hc;have A4:=hide (A3.o.kept k4 (by omega));have R4:=hide (R3.o.kept k4 (by omega));have S4:=hide (S3.o.ai k4 (Nat.le_refl _) (Nat.le_refl _));have q4:=hc.cX hn;rw [show el ((c.put 2 (n:Int) V).aB (Pl.aQ 2 (c.put 2 (n:Int) V).r.f V)).r.xs n=V from Pl.xE HG.o hn] at q4;clear hc kd k4))
  have r4:=R4.o.all
  have rf4:=R4.o.fz
  go_wp2_with fail
  have KR:=(((((ak W4 (w.heap.size+1) 0 (iv 0)).one 1 (iv 0)).one 2 (iv 0)).one 3 (iv 0)).one 4 (.bool false))
  refine bodyPost_ret (v:=.agg ftZ) ?_ rfl ⟨g,?_,?_,(S4.o).mine KR (by omega)⟩
  ·rw [aj rfl];go_simp
  ·rw [ET.o,show ((c.put 2 (n:Int) V).aB (Pl.aQ 2 c.r.f V)).f=Pl.aH from hf];rfl
  ·rw [ET.o];exact ((C4.o).kept KR (by omega) (by omega))
theorem TQ (w:World) (lo b g:Nat) (c:Pl.Mc) (h:Bool) (op z r m k e:Int) (hC:CAt w lo b g c h) (G:Pl.GM c) (hf:c.f=Pl.aH) (B:Pl.InB ⟨op,z,r,m,k,e,6⟩) :
  Calls prog 170 #[.pointer (some ⟨b,0,none⟩),.agg (inA op z r m k e 6)] w fun e' w'=>∃g',e'=.returned (.agg (ftC (c.fw ⟨op,z,r,m,k,e,6⟩).f))∧CAt w' lo b g' (c.fw ⟨op,z,r,m,k,e,6⟩) h∧Since w b (b+1) g w' g':=by
 have HB:=hide B
 clear B
 obtain ⟨l0,l1,l2,l3,l4⟩:=hC.lt
 have HG:=hide G
 obtain ⟨X,hX,K0,C0,A0,R0,sX⟩:=hC.jh op z r m k e 6
 have p:=A0.o.all
 clear hC G
 have r0:=R0.o.all
 have rf0:=R0.o.fz
 obtain ⟨n,rfl⟩:∃n:Nat,r=(n:Int):=⟨r.toNat,by have:0≤r:=HB.o.r0;omega⟩
 have hn:n<4:=by have:(n:Int)≤3:=HB.o.r1;omega
 have i0:(0:Int)≤(n:Int):=by omega
 have i1:(n:Int)<4:=by omega
 have OQ:Hid (Pl.okv 1 (c.low 1 (n:Int))=true):=hide (Pl.fJ HG.o (.inl rfl) i0 (by omega))
 obtain ⟨Q,hQ⟩:∃Q,Q=c.low 1 (n:Int):=⟨_,rfl⟩
 rw [←hQ] at OQ
 have tq:=Pl.aP OQ.o
 obtain ⟨qb0,qb1⟩:0≤Q∧Q≤255:=by omega
 obtain ⟨V,hV⟩:∃V,V=Pl.mY Q:=⟨_,rfl⟩
 have vb:Pl.okv 2 V=true:=by rw [hV];exact Pl.Dl _
 have vb2:=Pl.aP vb
 obtain ⟨vb0,vb1⟩:0≤V∧V≤65535:=by omega
 have ET:Hid (c.fw ⟨op,z,(n:Int),m,k,e,6⟩=(c.put 2 (n:Int) V).aB (Pl.aQ 2 c.r.f V)):=hide (by rw [hV,hQ];rfl)
 have HV:=hide hV
 have HQ:=hide hQ
 clear hV vb vb2 hQ tq
 go_enter func170,ntmps170
 go_wp2_with fail
 clear hX p r0 rf0
 have u1:=A0.o.cell (i:=2) rfl
 go_region_held3 (fun w'=>w'.cell? ⟨w.heap.size,2,none⟩=some (iv (n:Int))) (first|with_reducible exact A1.o.cell (i:=2) rfl|exact (show Blk _ _ _ _ from A0.o).cell (i:=2) rfl|exact (A1.o.other b n (iv V) (by omega)).cell (i:=2) rfl)
  (first|(go_at_call 206;have z9:=C1;refine st (BP Q _ (by omega) (by omega)) ?_;rw [←HV.o])|(go_at_call 194;refine (nT _ lo b g c h 1 (n:Int) C0.o.drew (.inl rfl) i0 (by omega)).mono ?_;rintro e9 W1 ⟨rfl,kd⟩;rw [←HQ.o];have k1:=bW kd;have C1:=hide (C0.o.any k1);have A1:=hide (A0.o.af k1);have R1:=hide (R0.o.af k1);have K1:=hide (K0.o.trans k1);have q1:=C1.o.cX hn;have qz:=C1.o.fz;clear kd k1))
 go_wp2_with fail
 have C3:Hid (CAt (W1.setCell ⟨b,n,none⟩ (iv V)) lo b g (c.put 2 (n:Int) V) h):=hide (C1.o.yV HG.o.g.d4 hn V)
 have A3:=hide (A1.o.other b n (iv V) (by omega))
 have R3:=hide (R1.o.other b n (iv V) (by omega))
 have S3:=hide (((Since.refl w b (b+1) g).any K1.o).set b n (iv V) (.inl (by omega)))
 obtain ⟨W3,hW⟩:∃W:World,W1.setCell ⟨b,n,none⟩ (iv V)=W:=⟨_,rfl⟩
 rw [hW] at C3 A3 R3 S3 ⊢
 clear hW q1 qz
 have u2:=A3.o.cell (i:=2) rfl
 have q3:=C3.o.cX hn
 rw [show el (c.put 2 (n:Int) V).r.xs n=V from Pl.xE HG.o hn] at q3
 go_region_held3 (fun w'=>w'.cell? ⟨w.heap.size,2,none⟩=some (iv (n:Int))∧w'.cell? ⟨b,n,none⟩=some (iv V)) (first|with_reducible exact ⟨A4.o.cell (i:=2) rfl,q4⟩|exact ⟨(show Blk _ _ _ _ from A3.o).cell (i:=2) rfl,q3⟩)
  (first|(go_at_call 196;refine (tH _ lo b g (c.put 2 (n:Int) V) h 2 V C3.o.drew vb0 vb1).mono ?_;rintro e9 W4 ⟨rfl,hc,kd⟩;have k4:=bW kd;have C4:=hide hc;have A4:=hide (A3.o.kept k4 (by omega));have R4:=hide (R3.o.kept k4 (by omega));have S4:=hide (S3.o.ai k4 (Nat.le_refl _) (Nat.le_refl _));have q4:=hc.cX hn;rw [show el ((c.put 2 (n:Int) V).aB (Pl.aQ 2 (c.put 2 (n:Int) V).r.f V)).r.xs n=V from Pl.xE HG.o hn] at q4;clear hc kd k4))
 have r4:=R4.o.all
 have rf4:=R4.o.fz
 go_wp2_with fail
 have KR:=(((((ak W4 (w.heap.size+1) 0 (iv 0)).one 1 (iv 0)).one 2 (iv 0)).one 3 (iv 0)).one 4 (.bool false))
 refine bodyPost_ret (v:=.agg ftZ) ?_ rfl ⟨g,?_,?_,(S4.o).mine KR (by omega)⟩
 ·rw [aj rfl];go_simp
 ·rw [ET.o,show ((c.put 2 (n:Int) V).aB (Pl.aQ 2 c.r.f V)).f=Pl.aH from hf];rfl
 ·rw [ET.o];exact ((C4.o).kept KR (by omega) (by omega))
theorem Pl.zK (u l:Int) (u0:0≤u) (u1:u≤15) (l0:0≤l) (l1:l≤15):bits .or .i64 (u*16) l=u*16+l:=
 bits_join .i64 62 (by decide) ig 4 (u*16) l (by omega) (by omega) (by omega) (by omega) (by omega) (by omega)
theorem mW (v:Int) (w:World) (lv : -9223372036854775808≤v) (hv:v≤9223372036854775807) :
  Calls prog 258 #[iv v] w fun e w'=>e=.returned (.tuple #[iv (v/16),iv (v%16)])∧w'=w:=by
 have k:=Pl.LV v
 go_enter func258,ntmps258
 go_wp2
 go_ret2
 exact ⟨rII (by omega) (by omega),rfl⟩
theorem byteOf (u l:Int) (w:World) (u0:0≤u) (u1:u≤15) (l0:0≤l) (l1:l≤15) :
  Calls prog 259 #[iv u,iv l] w fun e w'=>e=.returned (iv (u*16+l))∧w'=w:=by
 have k:=Pl.zK u l u0 u1 l0 l1
 go_enter func259,ntmps259
 go_wp2
 go_ret
 exact ⟨rI (by omega),rfl⟩
theorem qK (v:Int) (w:World) (lv : -9223372036854775808≤v) (hv:v≤9223372036854775807) :
  Calls prog 235 #[iv v] w fun e w'=>e=.returned (.bool (Pl.bcd v))∧w'=w:=by
 cases ko:Pl.okv 1 v
 ·have kn:Pl.bcd v=false:=by
   cases c:Pl.bcd v
   ·rfl
   ·have:=Pl.qh c
    rw [Pl.Dk (by omega) (by omega)] at ko
    cases ko
  go_enter func235,ntmps235
  go_wp2_with fail
  refine (dE 1 v _ lv hv).mono ?_
  rintro e w' ⟨rfl,rfl⟩
  go_wp2_with fail
  go_ret
  exact ⟨rB kn.symm,rfl⟩
 ·have kr:=Pl.aP ko
  have k0:0≤v∧v<256:=by omega
  obtain ⟨k0,k1⟩:=k0
  clear kr
  by_cases h9:v/16≤9
  all_goals
   by_cases h8:v%16≤9
   all_goals
    go_enter func235,ntmps235
    go_wp2_with fail
    refine (dE 1 v _ lv hv).mono ?_
    rintro e w' ⟨rfl,rfl⟩
    go_wp2_with fail
    refine (mW v _ lv hv).mono ?_
    rintro e w' ⟨rfl,rfl⟩
    go_wp2_with fail
    go_ret
    exact ⟨rB (by simp [Pl.bcd,h9,h8]<;>omega),rfl⟩
theorem pU (x:Int) (w:World) :
  Calls prog 234 #[iv x] w fun e w'=>e=.returned (.bool (Pl.bit x))∧w'=w:=by
 by_cases h0:x=0
 ·subst h0
  go_enter func234,ntmps234
  go_wp2
  go_ret
  exact ⟨rfl,rfl⟩
 ·by_cases h1:x=1
  ·subst h1
   go_enter func234,ntmps234
   go_wp2
   go_ret
   exact ⟨rfl,rfl⟩
  ·have k0:(x==0)=false:=by simpa using h0
   have k1:(x==1)=false:=by simpa using h1
   go_enter func234,ntmps234
   go_wp2
   go_ret
   exact ⟨rB (by simp [Pl.bit];omega),rfl⟩
def oI (w:World):Prop:=∀i:Nat,i<20→w.cell? ⟨0,i,none⟩=some (iv ((i:Int)/10*16+(i:Int)%10))
def rV (w:World):Prop:=∀i:Nat,i<10→w.cell? ⟨1,i,none⟩=some (iv (9-(i:Int)))
theorem oI.below {w w':World} (h:oI w) (hb:Below w.heap.size w w'):oI w':=by
 intro i hi
 have hc:=h i hi
 rw [hb.cell (World.block_lt_of_cell? _ _ hc)];exact hc
theorem rV.below {w w':World} (h:rV w) (hb:Below w.heap.size w w'):rV w':=by
 intro i hi
 have hc:=h i hi
 rw [hb.cell (World.block_lt_of_cell? _ _ hc)];exact hc
theorem oI.drewN {w:World} (h:oI w) (n:Nat):oI (w.drewN n):=h
theorem oI.at {w:World} (h:oI w) (s:Int) (s0:0≤s) (s1:s<20):∃d:Int,w.cell? ⟨0,s.toNat,none⟩=some (iv d)∧0≤d∧d≤25∧d/16=s/10∧d%16=s%10:=
 ⟨_,h s.toNat (by omega),by omega,by omega,by omega,by omega⟩
theorem rV.at {w:World} (h:rV w) (s:Int) (s0:0≤s) (s1:s<10):w.cell? ⟨1,s.toNat,none⟩=some (iv (9-s)):=by
 rw [h s.toNat (by omega),Int.toNat_of_nonneg s0]
theorem uN (c a b:Int) (w:World) (ht:oI w) (c0:0≤c) (c1:c≤1) (ka:Pl.bcd a=true) (kb:Pl.bcd b=true) :
  Calls prog 236 #[iv c,iv a,iv b] w fun e w'=>e=.returned (.tuple #[iv (Pl.aV c a b),iv (Pl.aC c a b)])∧w'=w:=by
 have K:=Pl.lh c0 c1 ka kb
 obtain ⟨a0,a1,a2,a3⟩:=Pl.qh ka
 obtain ⟨b0,b1,b2,b3⟩:=Pl.qh kb
 obtain ⟨d,hd,d0,d1,d2,d3⟩:=ht.at (a%16+b%16+c) (by omega) (by omega)
 have d4:d/16≤1:=by omega
 have d5:0≤d/16:=by omega
 obtain ⟨f,hf,f0,f1,f2,f3⟩:=ht.at (a/16+b/16+d/16) (by omega) (by omega)
 have f4:f/16≤1:=by omega
 have E:Hid (Pl.aV c a b=f%16*16+d%16∧Pl.aC c a b=f/16):=by
  refine hide ?_
  rw [Pl.Ed K,Pl.Ee K]
  unfold Pl.ofN Pl.num
  omega
 clear ka kb K ht d2 d3 f2 f3
 go_enter func236,ntmps236
 go_wp2_with fail
 refine (mW a _ (by omega) (by omega)).mono ?_
 rintro e w' ⟨rfl,rfl⟩
 go_wp2_with fail
 refine (mW b _ (by omega) (by omega)).mono ?_
 rintro e w' ⟨rfl,rfl⟩
 go_wp2_with fail
 refine (mW d _ (by omega) (by omega)).mono ?_
 rintro e w' ⟨rfl,rfl⟩
 go_wp2_with fail
 refine (mW f _ (by omega) (by omega)).mono ?_
 rintro e w' ⟨rfl,rfl⟩
 go_wp2_with fail
 refine (byteOf (f%16) (d%16) _ (by omega) (by omega) (by omega) (by omega)).mono ?_
 rintro e w' ⟨rfl,rfl⟩
 go_wp2_with fail
 go_ret2
 exact ⟨rII E.o.1.symm E.o.2.symm,rfl⟩
theorem rM (v:Int) (w:World) (ht:rV w) (kv:Pl.bcd v=true) :
  Calls prog 237 #[iv v] w fun e w'=>e=.returned (iv (Pl.tC v))∧∃n,w'=w.drewN n:=by
 obtain ⟨v0,v1,v2,v3⟩:=Pl.qh kv
 have h1:=ht.at (v/16) (by omega) (by omega)
 have h2:=ht.at (v%16) (by omega) (by omega)
 have E:Hid (Pl.tC v=(9-v/16)*16+(9-v%16)):=by
  refine hide ?_
  simp only [Pl.tC,kv,if_true]
  unfold Pl.ofN Pl.num
  omega
 clear kv ht
 go_enter func237,ntmps237
 go_wp2_with fail
 refine (mW v _ (by omega) (by omega)).mono ?_
 rintro e w' ⟨rfl,rfl⟩
 go_wp2_with fail
 go_quiet ((go_at_call 259;exact Calls.quiet_of_same (byteOf (9-v/16) (9-v%16) _ (by omega) (by omega) (by omega) (by omega))))
 go_wp2_with fail
 go_ret
 exact ⟨rI E.o.symm,_,rfl⟩
theorem Ul (x a b:Int) (w:World) (ht:oI w) (lx : -9223372036854775808≤x) (hx:x≤9223372036854775807) (la : -9223372036854775808≤a) (ha:a≤9223372036854775807) (lb : -9223372036854775808≤b) (hb:b≤9223372036854775807) :
  Calls prog 207 #[iv x,iv a,iv b] w fun e w'=>e=.returned (.tuple #[iv (Pl.aV x a b),iv (Pl.aC x a b),.bool (Pl.fB x a b)])∧w'=w:=by
 cases kx:Pl.bit x
 ·have K:Hid (Pl.fB x a b=false):=hide (by simp [Pl.fB,kx])
  go_enter func207,ntmps207
  go_wp2_with fail
  refine (pU x _).mono ?_
  rintro e w' ⟨rfl,rfl⟩
  go_wp2_with fail
  go_ret3
  exact ⟨lU (by simp [Pl.aV,K.o]) (by simp [Pl.aC,K.o]) K.o.symm,rfl⟩
 ·cases ka:Pl.bcd a
  ·have K:Hid (Pl.fB x a b=false):=hide (by simp [Pl.fB,ka])
   go_enter func207,ntmps207
   go_wp2_with fail
   refine (pU x _).mono ?_
   rintro e w' ⟨rfl,rfl⟩
   go_wp2_with fail
   refine (qK a _ la ha).mono ?_
   rintro e w' ⟨rfl,rfl⟩
   go_wp2_with fail
   go_ret3
   exact ⟨lU (by simp [Pl.aV,K.o]) (by simp [Pl.aC,K.o]) K.o.symm,rfl⟩
  ·cases kb:Pl.bcd b
   ·have K:Hid (Pl.fB x a b=false):=hide (by simp [Pl.fB,kb])
    go_enter func207,ntmps207
    go_wp2_with fail
    refine (pU x _).mono ?_
    rintro e w' ⟨rfl,rfl⟩
    go_wp2_with fail
    refine (qK a _ la ha).mono ?_
    rintro e w' ⟨rfl,rfl⟩
    go_wp2_with fail
    refine (qK b _ lb hb).mono ?_
    rintro e w' ⟨rfl,rfl⟩
    go_wp2_with fail
    go_ret3
    exact ⟨lU (by simp [Pl.aV,K.o]) (by simp [Pl.aC,K.o]) K.o.symm,rfl⟩
   ·obtain ⟨x0,x1⟩:=Pl.tJ kx
    have K:Hid (Pl.fB x a b=true):=hide (by simp [Pl.fB,kx,ka,kb])
    go_enter func207,ntmps207
    go_wp2_with fail
    refine (pU x _).mono ?_
    rintro e w' ⟨rfl,rfl⟩
    go_wp2_with fail
    refine (qK a _ la ha).mono ?_
    rintro e w' ⟨rfl,rfl⟩
    go_wp2_with fail
    refine (qK b _ lb hb).mono ?_
    rintro e w' ⟨rfl,rfl⟩
    go_wp2_with fail
    refine (uN x a b _ ht x0 x1 ka kb).mono ?_
    rintro e w' ⟨rfl,rfl⟩
    go_wp2_with fail
    go_ret3
    exact ⟨lU rfl rfl K.o.symm,rfl⟩
theorem Pl.AA {x a b:Int} (x0:0≤x) (x1:x≤1) (ka:Pl.bcd a=true) (kb:Pl.bcd b=true) :
  Pl.bcd (Pl.tC b)=true∧Pl.aV (1-x) a (Pl.tC b)=Pl.sV x a b∧1-Pl.aC (1-x) a (Pl.tC b)=Pl.sC x a b:=by
 have nb:=Pl.lV kb
 have na:=Pl.lV ka
 have ec:Pl.tC b=Pl.ofN (99-Pl.num b):=by simp [Pl.tC,kb]
 have kc:Pl.bcd (Pl.tC b)=true:=by rw [ec];exact Pl.xK (by omega) (by omega)
 have nc:Pl.num (Pl.tC b)=99-Pl.num b:=by rw [ec];exact Pl.NT (by omega) (by omega)
 have k1:Pl.fB (1-x) a (Pl.tC b)=true:=Pl.lh (by omega) (by omega) ka kc
 have k2:Pl.fB x a b=true:=Pl.lh x0 x1 ka kb
 refine ⟨kc,?_,?_⟩
 ·rw [Pl.Ed k1,Pl.H7 k2,nc,Pl.BU]
  congr 1
  split<;>omega
 ·rw [Pl.Ee k1,Pl.Qq k2,nc,Pl.KC]
  split<;>omega
theorem Rh (x a b:Int) (w:World) (ht:oI w) (hn:rV w) (lx : -9223372036854775808≤x) (hx:x≤9223372036854775807) (la : -9223372036854775808≤a) (ha:a≤9223372036854775807) (lb : -9223372036854775808≤b) (hb:b≤9223372036854775807) :
  Calls prog 208 #[iv x,iv a,iv b] w fun e w'=>e=.returned (.tuple #[iv (Pl.sV x a b),iv (Pl.sC x a b),.bool (Pl.fB x a b)])∧∃n,w'=w.drewN n:=by
 cases kx:Pl.bit x
 ·have K:Hid (Pl.fB x a b=false):=hide (by simp [Pl.fB,kx])
  go_enter func208,ntmps208
  go_wp2_with fail
  refine (pU x _).mono ?_
  rintro e w' ⟨rfl,rfl⟩
  go_wp2_with fail
  go_ret3
  exact ⟨lU (by simp [Pl.sV,K.o]) (by simp [Pl.sC,K.o]) K.o.symm,0,rfl⟩
 ·cases ka:Pl.bcd a
  ·have K:Hid (Pl.fB x a b=false):=hide (by simp [Pl.fB,ka])
   go_enter func208,ntmps208
   go_wp2_with fail
   refine (pU x _).mono ?_
   rintro e w' ⟨rfl,rfl⟩
   go_wp2_with fail
   refine (qK a _ la ha).mono ?_
   rintro e w' ⟨rfl,rfl⟩
   go_wp2_with fail
   go_ret3
   exact ⟨lU (by simp [Pl.sV,K.o]) (by simp [Pl.sC,K.o]) K.o.symm,0,rfl⟩
  ·cases kb:Pl.bcd b
   ·have K:Hid (Pl.fB x a b=false):=hide (by simp [Pl.fB,kb])
    go_enter func208,ntmps208
    go_wp2_with fail
    refine (pU x _).mono ?_
    rintro e w' ⟨rfl,rfl⟩
    go_wp2_with fail
    refine (qK a _ la ha).mono ?_
    rintro e w' ⟨rfl,rfl⟩
    go_wp2_with fail
    refine (qK b _ lb hb).mono ?_
    rintro e w' ⟨rfl,rfl⟩
    go_wp2_with fail
    go_ret3
    exact ⟨lU (by simp [Pl.sV,K.o]) (by simp [Pl.sC,K.o]) K.o.symm,0,rfl⟩
   ·obtain ⟨x0,x1⟩:=Pl.tJ kx
    have K:Hid (Pl.fB x a b=true):=hide (by simp [Pl.fB,kx,ka,kb])
    obtain ⟨kc,e1,e2⟩:=Pl.AA x0 x1 ka kb
    obtain ⟨c0,c1⟩:=Pl.Ae (1-x) a (Pl.tC b)
    have E1:=hide e1
    have E2:=hide e2
    clear e1 e2
    go_enter func208,ntmps208
    go_wp2_with fail
    refine (pU x _).mono ?_
    rintro e w' ⟨rfl,rfl⟩
    go_wp2_with fail
    refine (qK a _ la ha).mono ?_
    rintro e w' ⟨rfl,rfl⟩
    go_wp2_with fail
    refine (qK b _ lb hb).mono ?_
    rintro e w' ⟨rfl,rfl⟩
    go_wp2_with fail
    refine (rM b _ hn kb).mono ?_
    rintro e w' ⟨rfl,n,rfl⟩
    go_wp2_with fail
    refine (uN (1-x) a (Pl.tC b) _ (ht.drewN n) (by omega) (by omega) ka kc).mono ?_
    rintro e w' ⟨rfl,rfl⟩
    go_wp2_with fail
    go_ret3
    exact ⟨lU E1.o E2.o K.o.symm,n,rfl⟩
end Go.Proofs.YtkkmnnhaailkcaaGreatDoor
