/- Part 12 of what the last text leans on. -/
import Derived.Test.YtblddehlkaolbaaGreatDoorJA10
import Derived.Test.YtblddehlkaolbaaGreatDoorJA11
import Derived.Test.YtblddehlkaolbaaGreatDoorJA7
import Derived.Test.YtblddehlkaolbaaGreatDoorJA9
import Derived.Test.YtblddehlkaolbaaGreatDoorJA2
import Derived.Test.YtblddehlkaolbaaGreatDoorJA1
import Derived.Test.YtblddehlkaolbaaGreatDoorJA3
import Derived.Test.YtblddehlkaolbaaGreatDoorJA6
set_option maxRecDepth 100000
set_option maxHeartbeats 16000000
namespace Go.Proofs.YtblddehlkaolbaaGreatDoor
open Go.RowKit Go.Proofs.Tryz
set_option linter.unusedVariables false
namespace Pl
def cbM (op q v:Int):Int:=bif op==5 then bits .and .i64 q v else bif op==6 then bits .or .i64 q v else bif op==7 then bits .xor .i64 q v else bif op==16 then xO q v else bif op==17 then dvQ 0 q v else v
def cbU (op q v:Int):Int:=bif op==16 then EL q v else 0
def cbV (op z q v:Int):Int:=bif op==3 then qQ z 0 q v else bif op==4 then kR z 0 q v else bif op==8 then q else cbM op q v
def cbF (op z f q v:Int):Int:=bif op==3 then ji z 0 q v else bif op==4 then gz z 0 q v else bif op==8 then oH z f q v else bits .or .i64 (aQ z f (cbM op q v)) (fl (cbU op q v != 0) 2)
end Pl
theorem Pi (w:World) (op z r m k e s f q v:Int) (hop:op=1∨op=3∨op=4∨op=5∨op=6∨op=7∨op=8∨op=16∨op=17) (q0:0≤q) (q1:q≤65535) (v0:0≤v) (v1:v≤65535) (M0:0≤Pl.cbM op q v) (M1:Pl.cbM op q v≤65535) :
  Calls prog 171 #[.agg (inA op z r m k e s),iv f,iv q,iv v] w fun e' w'=>e'=.returned (.tuple #[iv (Pl.cbV op z q v),iv (Pl.cbF op z f q v)])∧Kept 0 0 w w':=by
 have wq:(Lit.int .i64 q).wf=true:=qW (by omega) (by omega)
 have wv:(Lit.int .i64 v).wf=true:=qW (by omega) (by omega)
 have b0:=hide M0
 have b1:=hide M1
 clear M0 M1
 rcases hop with rfl|rfl|rfl|rfl|rfl|rfl|rfl|rfl|rfl
 ·have K0:=hide (kept_alloc w (.cells (inA 1 z r m k e s) 79))
  have A0:=hide (Blk.new w (inA 1 z r m k e s) 79)
  obtain ⟨X,hX⟩:∃X:World,w.alloc (.cells (inA 1 z r m k e s) 79)=X:=⟨_,rfl⟩
  rw [hX] at K0 A0
  have p:=A0.o.all
  go_enter func171,ntmps171
  go_wp2_with (first|(go_at_call 189;refine st (gy _ _ _) ?_)|(go_at_call 207;refine st (jg _ _ _ _ (by have:=b0.o;first|omega|(simp only [Pl.cbM] at this;exact Int.le_trans (by decide) this)) (by have:=b1.o;first|omega|(simp only [Pl.cbM] at this;exact Int.le_trans this (by decide)))) ?_))
  go_ret2
  exact ⟨rfl,K0.o⟩
 ·have K0:=hide (kept_alloc w (.cells (inA 3 z r m k e s) 79))
  have A0:=hide (Blk.new w (inA 3 z r m k e s) 79)
  obtain ⟨X,hX⟩:∃X:World,w.alloc (.cells (inA 3 z r m k e s) 79)=X:=⟨_,rfl⟩
  rw [hX] at K0 A0
  have p:=A0.o.all
  go_enter func171,ntmps171
  go_wp2_with (first|(go_at_call 202;refine st (L9 _ _ _ _ _ (by omega) (by omega) (by omega) (by omega)) ?_))
  go_ret2
  exact ⟨rfl,K0.o⟩
 ·have K0:=hide (kept_alloc w (.cells (inA 4 z r m k e s) 79))
  have A0:=hide (Blk.new w (inA 4 z r m k e s) 79)
  obtain ⟨X,hX⟩:∃X:World,w.alloc (.cells (inA 4 z r m k e s) 79)=X:=⟨_,rfl⟩
  rw [hX] at K0 A0
  have p:=A0.o.all
  go_enter func171,ntmps171
  go_wp2_with (first|(go_at_call 203;refine st (oU _ _ _ _ _ (by omega) (by omega) (by omega) (by omega)) ?_))
  go_ret2
  exact ⟨rfl,K0.o⟩
 ·have K0:=hide (kept_alloc w (.cells (inA 5 z r m k e s) 79))
  have A0:=hide (Blk.new w (inA 5 z r m k e s) 79)
  obtain ⟨X,hX⟩:∃X:World,w.alloc (.cells (inA 5 z r m k e s) 79)=X:=⟨_,rfl⟩
  rw [hX] at K0 A0
  have p:=A0.o.all
  go_enter func171,ntmps171
  go_wp2_with (first|(go_at_call 189;refine st (gy _ _ _) ?_)|(go_at_call 207;refine st (jg _ _ _ _ (by have:=b0.o;first|omega|(simp only [Pl.cbM] at this;exact Int.le_trans (by decide) this)) (by have:=b1.o;first|omega|(simp only [Pl.cbM] at this;exact Int.le_trans this (by decide)))) ?_))
  go_ret2
  exact ⟨rfl,K0.o⟩
 ·have K0:=hide (kept_alloc w (.cells (inA 6 z r m k e s) 79))
  have A0:=hide (Blk.new w (inA 6 z r m k e s) 79)
  obtain ⟨X,hX⟩:∃X:World,w.alloc (.cells (inA 6 z r m k e s) 79)=X:=⟨_,rfl⟩
  rw [hX] at K0 A0
  have p:=A0.o.all
  go_enter func171,ntmps171
  go_wp2_with (first|(go_at_call 189;refine st (gy _ _ _) ?_)|(go_at_call 207;refine st (jg _ _ _ _ (by have:=b0.o;first|omega|(simp only [Pl.cbM] at this;exact Int.le_trans (by decide) this)) (by have:=b1.o;first|omega|(simp only [Pl.cbM] at this;exact Int.le_trans this (by decide)))) ?_))
  go_ret2
  exact ⟨rfl,K0.o⟩
 ·have K0:=hide (kept_alloc w (.cells (inA 7 z r m k e s) 79))
  have A0:=hide (Blk.new w (inA 7 z r m k e s) 79)
  obtain ⟨X,hX⟩:∃X:World,w.alloc (.cells (inA 7 z r m k e s) 79)=X:=⟨_,rfl⟩
  rw [hX] at K0 A0
  have p:=A0.o.all
  go_enter func171,ntmps171
  go_wp2_with (first|(go_at_call 189;refine st (gy _ _ _) ?_)|(go_at_call 207;refine st (jg _ _ _ _ (by have:=b0.o;first|omega|(simp only [Pl.cbM] at this;exact Int.le_trans (by decide) this)) (by have:=b1.o;first|omega|(simp only [Pl.cbM] at this;exact Int.le_trans this (by decide)))) ?_))
  go_ret2
  exact ⟨rfl,K0.o⟩
 ·have K0:=hide (kept_alloc w (.cells (inA 8 z r m k e s) 79))
  have A0:=hide (Blk.new w (inA 8 z r m k e s) 79)
  obtain ⟨X,hX⟩:∃X:World,w.alloc (.cells (inA 8 z r m k e s) 79)=X:=⟨_,rfl⟩
  rw [hX] at K0 A0
  have p:=A0.o.all
  go_enter func171,ntmps171
  go_wp2_with (first|(go_at_call 204;refine st (Lj _ _ _ _ _ (by omega) (by omega) (by omega) (by omega)) ?_))
  go_ret2
  exact ⟨rfl,K0.o⟩
 ·have K0:=hide (kept_alloc w (.cells (inA 16 z r m k e s) 79))
  have A0:=hide (Blk.new w (inA 16 z r m k e s) 79)
  obtain ⟨X,hX⟩:∃X:World,w.alloc (.cells (inA 16 z r m k e s) 79)=X:=⟨_,rfl⟩
  rw [hX] at K0 A0
  have p:=A0.o.all
  go_enter func171,ntmps171
  go_wp2_with (first|(go_at_call 189;refine st (gy _ _ _) ?_)|(go_at_call 207;refine st (jg _ _ _ _ (by have:=b0.o;first|omega|(simp only [Pl.cbM] at this;exact Int.le_trans (by decide) this)) (by have:=b1.o;first|omega|(simp only [Pl.cbM] at this;exact Int.le_trans this (by decide)))) ?_)|(go_at_call 205;refine (xY _ q v wq wv).mono ?_;rintro e9 W1 ⟨rfl,k1⟩;have K1:=hide (K0.o.trans k1);have p1:=(A0.o.af k1).all;clear k1))
  go_ret2
  exact ⟨rfl,K1.o⟩
 ·have K0:=hide (kept_alloc w (.cells (inA 17 z r m k e s) 79))
  have A0:=hide (Blk.new w (inA 17 z r m k e s) 79)
  obtain ⟨X,hX⟩:∃X:World,w.alloc (.cells (inA 17 z r m k e s) 79)=X:=⟨_,rfl⟩
  rw [hX] at K0 A0
  have p:=A0.o.all
  go_enter func171,ntmps171
  go_wp2_with (first|(go_at_call 189;refine st (gy _ _ _) ?_)|(go_at_call 207;refine st (jg _ _ _ _ (by have:=b0.o;first|omega|(simp only [Pl.cbM] at this;exact Int.le_trans (by decide) this)) (by have:=b1.o;first|omega|(simp only [Pl.cbM] at this;exact Int.le_trans this (by decide)))) ?_)|(go_at_call 206;refine (xZ _ 0 q v (by decide) wq wv).mono ?_;rintro e9 W1 ⟨rfl,k1⟩;have K1:=hide (K0.o.trans k1);have p1:=(A0.o.af k1).all;clear k1))
  go_ret2
  exact ⟨rfl,K1.o⟩
namespace Pl
theorem V3 {op z q v:Int} (hz:z=1∨z=2) (hq:okv z q=true) (hv:okv z v=true) (h2:op=16∨op=17→z=2) (h0:op=17→v≠0):okv z (cbM op q v)=true∧okv z (cbV op z q v)=true:=by
 obtain ⟨o1,o2,o3⟩:=mV hq hv
 have tq:=aP hq
 have tv:=aP hv
 have hM:okv z (cbM op q v)=true:=by
  unfold cbM
  cases e5:op==5
  ·cases e6:op==6
   ·cases e7:op==7
    ·cases e16:op==16
     ·cases e17:op==17
      ·exact hv
      ·have ho:op=17:=by simpa using e17
       have ez:=h2 (.inr ho)
       subst ez
       have hv0:=h0 ho
       show okv 2 (dvQ 0 q v)=true
       have e:dvQ 0 q v=q/v:=by
        have hk:dOk 0 q v=true:=by simp [dOk,wOk];omega
        unfold dvQ
        rw [if_pos hk]
        exact (yV (by omega) (by omega) (by omega)).1
       rw [e]
       have h1:0≤q/v:=Int.ediv_nonneg (by omega) (by omega)
       have h3:q/v≤q:=Int.ediv_le_self _ (by omega)
       simp [okv,top];omega
     ·have ho:op=16:=by simpa using e16
      have ez:=h2 (.inl ho)
      subst ez
      show okv 2 (xO q v)=true
      unfold xO
      simp only [okv,top]
      split
      ·simp;omega
      ·rfl
    ·exact o3
   ·exact o2
  ·exact o1
 refine ⟨hM,?_⟩
 unfold cbV
 cases op==3
 ·cases op==4
  ·cases op==8
   ·exact hM
   ·exact hq
  ·exact mQ hz
 ·exact vw hq
theorem qY {c D:Mc} {z m k e:Int} (hf:c.f=aH) (hD:D=c.read z m k e) (h:(D.f.v != 0)=false):D.f=aH:=by
 subst hD
 unfold Mc.read at *
 cases hi:Mc.gI m
 ·rw [hi] at h
  have ee:((c.plc z m k e).acc 1 z (bZ c.r z m k e) 0).f=Mc.fA aH 1 z (bZ c.r z m k e):=by show Mc.fA c.f _ _ _=_;rw [hf]
  show ((c.plc z m k e).acc 1 z (bZ c.r z m k e) 0).f=aH
  rw [ee]
  exact (nV (by rw [←ee];exact h)).2
 ·exact hf
def Mc.tk' (d:Mc) (op z r v:Int):Mc:=bif op==9 then d.fM r.toNat v else bif (op==17)&&(v==0) then {d with f:=⟨5,0,0,0,false⟩} else ((d.put z r (cbV op z (d.low z r) v)).aB (cbF op z d.r.f (d.low z r) v))
def Mc.tk (c:Mc) (x:In):Mc:=bif (c.read x.z x.m x.k x.e).fine then (c.read x.z x.m x.k x.e).tk' x.op x.z x.r (c.aY x.z x.m x.k x.e) else c.read x.z x.m x.k x.e
end Pl
theorem and7 {a b c d e f g h:Prop} (x:a∧b∧c∧d∧e∧f∧g) (y:h):a∧b∧c∧d∧e∧f∧g∧h:=⟨x.1,x.2.1,x.2.2.1,x.2.2.2.1,x.2.2.2.2.1,x.2.2.2.2.2.1,x.2.2.2.2.2.2,y⟩
theorem QM (w:World) (lo b g:Nat) (c:Pl.Mc) (h:Bool) (op z r m k e s:Int) (hC:CAt w lo b g c h) (G:Pl.GM c) (hf:c.f=Pl.aH) (B:Pl.InB ⟨op,z,r,m,k,e,s⟩) (hop:op=9∨op=1∨op=3∨op=4∨op=5∨op=6∨op=7∨op=8∨op=16∨op=17) (h1:m=1→z=2) (h2:op=16∨op=17→z=2) :
  Calls prog 141 #[.pointer (some ⟨b,0,none⟩),.agg (inA op z r m k e s)] w fun e' w'=>∃g',e'=.returned (.agg (ftC (c.tk ⟨op,z,r,m,k,e,s⟩).f))∧CAt w' lo b g' (c.tk ⟨op,z,r,m,k,e,s⟩) h∧Since w b (b+1) g w' g':=by
 have HB:=hide B
 clear B
 obtain ⟨l0,l1,l2,l3,l4⟩:=hC.lt
 have HG:=hide G
 obtain ⟨X,hX,K0,C0,A0,R0,sX⟩:=hC.jh op z r m k e s
 have p:=A0.o.all
 clear hC G
 obtain ⟨D,hD⟩:∃D,D=c.read z m k e:=⟨_,rfl⟩
 obtain ⟨V,hV⟩:∃V,V=c.aY z m k e:=⟨_,rfl⟩
 obtain ⟨F,hF⟩:∃F,F=D.f:=⟨_,rfl⟩
 have GD:Hid (Pl.GM D):=hide (by rw [hD];exact HG.o.read HB.o.z HB.o.k0 HB.o.k1 HB.o.e0 HB.o.e1)
 have OV:Hid (Pl.okv z V=true):=hide (by rw [hV];exact Pl.di HG.o HB.o.z HB.o.k0 HB.o.k1 HB.o.e0 HB.o.e1 h1 HB.o.n7)
 have ET:Hid (c.tk ⟨op,z,r,m,k,e,s⟩=bif !(F.v != 0) then D.tk' op z r V else D):=hide (by
  show (bif (c.read z m k e).fine then (c.read z m k e).tk' op z r (c.aY z m k e) else c.read z m k e)=_
  rw [←hD,←hV,hF];unfold Pl.Mc.fine;simp [bne])
 have HD:=hide hD
 have HV:=hide hV
 have HF:=hide hF
 have H2:=hide h2
 have HO:=hide hop
 clear hD hV hF h1 h2 hop
 go_enter func141,ntmps141
 go_wp2_with (first|(go_at_call 170;have z9:=C1;refine (yI _ lo b g c h z m k e C1.o HG.o hf HB.o.z HB.o.m0 HB.o.m1 HB.o.k0 HB.o.k1 HB.o.e0 HB.o.e1).mono ?_;rintro e9 W2 ⟨g',rfl,hc,hs⟩;rw [←HD.o] at hc ⊢;rw [←HV.o,←HF.o];unfold ftC;have C2:=hide (hc.alloc (.cells (ftA F) 38));have A2:=hide ((hs.blk A1.o (by omega) (by omega)).alloc (.cells (ftA F) 38));have R2:=hide ((hs.blk R1.o (by omega) (by omega)).alloc (.cells (ftA F) 38));have S2:=hide ((S1.o.trans hs).alloc (.cells (ftA F) 38));have L2:=hide (Blk.new W2 (ftA F) 38);have z2:=hs.size;have n2:=hs.ne (b:=w.heap.size+1) R1.o.lt (by omega);have m2:=hs.ne (b:=w.heap.size) A1.o.lt (by omega);clear hc hs)|(go_at_call 144;refine (rU _ lo b g c h ⟨op,z,r,m,k,e,s⟩ C0.o HG.o HB.o).mono ?_;rintro e9 W1 ⟨rfl,hc,hk⟩;have C1:=hide hc;have A1:=hide (A0.o.kept hk (by omega));have R1:=hide (R0.o.kept hk (by omega));have S1:=hide (((Since.refl w b (b+1) g).any K0.o).ai hk (Nat.le_refl _) (Nat.le_refl _));have p1:=A1.o.all;clear hc hk))
 refine (gu F _).mono ?_
 rintro e9 W4 ⟨rfl,kf⟩
 have C4:=hide (C2.o.any kf)
 have A4:=hide (A2.o.af kf)
 have R4:=hide (R2.o.af kf)
 have L4:=hide (L2.o.af kf)
 have S4:=hide (S2.o.any kf)
 have p4:=A4.o.all
 have q4:=L4.o.all
 have r4:=R4.o.all
 have rf4:=R4.o.fz
 clear kf
 clear hX p p1
 cases hv:(F.v != 0)
 ·have E1:Hid (c.tk ⟨op,z,r,m,k,e,s⟩=D.tk' op z r V):=hide (by rw [ET.o,hv];rfl)
  have DF:Hid (D.f=Pl.aH):=hide (Pl.qY hf HD.o (by rw [←HF.o];exact hv))
  cases h9:(op==9)
  ·cases h17:(op==17)<;>cases hV0:(V==0)
   case true.true=>
    have E2:Hid (D.tk' op z r V={D with f:=⟨5,0,0,0,false⟩}):=hide (by unfold Pl.Mc.tk';rw [h9,h17,hV0];rfl)
    go_wp2_with fail
    have KR:=(((((ak W4 (w.heap.size+1) 0 (iv 5)).one 1 (iv 0)).one 2 (iv 0)).one 3 (iv 0)).one 4 (.bool false))
    refine bodyPost_ret (v:=.agg #[iv 5,iv 0,iv 0,iv 0,.bool false]) ?_ rfl ⟨g',?_,?_,(S4.o).mine KR (by omega)⟩
    ·rw [aj rfl];go_simp
    ·rw [E1.o,E2.o];rfl
    ·rw [E1.o,E2.o];exact ((C4.o).kept KR (by omega) (by omega)).fx rfl rfl rfl rfl rfl
   all_goals
    have E2:Hid (D.tk' op z r V=(D.put z r (Pl.cbV op z (D.low z r) V)).aB (Pl.cbF op z D.r.f (D.low z r) V)):=hide (by unfold Pl.Mc.tk';rw [h9,h17,hV0];rfl)
    have hop2:op=1∨op=3∨op=4∨op=5∨op=6∨op=7∨op=8∨op=16∨op=17:=by rcases HO.o with h|h;exact absurd h (by simpa using h9);exact h
    have CB:Hid (Pl.okv z (Pl.cbM op (D.low z r) V)=true∧Pl.okv z (Pl.cbV op z (D.low z r) V)=true):=hide (Pl.V3 HB.o.z (Pl.fJ GD.o HB.o.z HB.o.r0 HB.o.r1) OV.o H2.o (by intro ho hv;first|(simp [ho] at h17;done)|(simp [hv] at hV0)))
    have OQ:=hide (Pl.fJ GD.o HB.o.z HB.o.r0 HB.o.r1)
    obtain ⟨Q,hQ⟩:∃Q,Q=D.low z r:=⟨_,rfl⟩
    rw [←hQ] at E2 CB OQ
    have HQ:=hide hQ
    have HP:=hide hop2
    clear hQ hop2
    go_wp2_with fail
    clear p4 q4 r4 rf4
    obtain ⟨u0,u1,u2,u3,u4,u5,u6⟩:=A4.o.c7
    have u10:=C4.o.cF
    go_region_held3 (fun w'=>w'.cell? ⟨w.heap.size,0,none⟩=some (iv op)∧w'.cell? ⟨w.heap.size,1,none⟩=some (iv z)∧w'.cell? ⟨w.heap.size,2,none⟩=some (iv r)∧w'.cell? ⟨w.heap.size,3,none⟩=some (iv m)∧w'.cell? ⟨w.heap.size,4,none⟩=some (iv k)∧w'.cell? ⟨w.heap.size,5,none⟩=some (iv e)∧w'.cell? ⟨w.heap.size,6,none⟩=some (iv s)∧w'.cell? ⟨b,10,none⟩=some (iv D.r.f)) (first|with_reducible exact and7 A6.o.c7 C6.o.cF|with_reducible exact and7 A5.o.c7 C5.o.cF|exact and7 (show Blk _ _ _ _ from A4.o).c7 C4.o.drew.cF)
     (first|(go_at_call 171;have z9:=A5;refine (Pi _ op z r m k e s D.r.f Q V HP.o (by have:=Pl.aP OQ.o;omega) (by have:=Pl.aP OQ.o;omega) (by have:=Pl.aP OV.o;omega) (by have:=Pl.aP OV.o;omega) (by have:=Pl.aP CB.o.1;omega) (by have:=Pl.aP CB.o.1;omega)).mono ?_;rintro e9 W6 ⟨rfl,k6⟩;have C6:=hide (C5.o.any k6);have A6:=hide (A5.o.af k6);have R6:=hide (R5.o.af k6);have S6:=hide (S5.o.any k6);clear k6)|(go_at_call 172;refine (nU _ lo b g' D h z r C4.o.drew HB.o.z HB.o.r0 HB.o.r1).mono ?_;rintro e9 W5 ⟨rfl,kd⟩;rw [←HQ.o];have k5:=bW kd;have C5:=hide (C4.o.any k5);have A5:=hide (A4.o.af k5);have R5:=hide (R4.o.af k5);have S5:=hide (S4.o.any k5);clear kd k5))
    clear u0 u1 u2 u3 u4 u5 u6 u10
    obtain ⟨MV,hMV⟩:∃M,M=Pl.cbV op z Q V:=⟨_,rfl⟩
    obtain ⟨MF,hMF⟩:∃M,M=Pl.cbF op z D.r.f Q V:=⟨_,rfl⟩
    rw [←hMV,←hMF] at E2 ⊢
    rw [←hMV] at CB
    clear hMV hMF
    go_wp2_with fail
    have u1:=A6.o.cell (i:=1) rfl
    have u2:=A6.o.cell (i:=2) rfl
    go_region_held3 (fun w'=>w'.cell? ⟨w.heap.size,1,none⟩=some (iv z)∧w'.cell? ⟨w.heap.size,2,none⟩=some (iv r)) (first|with_reducible exact ⟨A7.o.cell (i:=1) rfl,A7.o.cell (i:=2) rfl⟩|exact ⟨(show Blk _ _ _ _ from A6.o).cell (i:=1) rfl,(show Blk _ _ _ _ from A6.o).cell (i:=2) rfl⟩)
     (first|(go_at_call 173;refine (Ls _ lo b g' D h z r MV C6.o.drew GD.o.g HB.o.r0 HB.o.r1 HB.o.z CB.o.2).mono ?_;rintro e9 W7 ⟨rfl,hc7,kd⟩;have k7:=bW kd;have C7:=hide hc7;have A7:=hide (A6.o.kept k7 (by omega));have R7:=hide (R6.o.kept k7 (by omega));have S7:=hide (S6.o.ai k7 (Nat.le_refl _) (Nat.le_refl _));clear hc7 kd k7))
    have cf:=C7.o.cF
    have cz:=C7.o.fz
    have rr:=(R7.o.other b 10 (iv MF) (by omega)).all
    have rz:=(R7.o.other b 10 (iv MF) (by omega)).fz
    go_wp2_with fail
    have KR:=(((((ak (W7.setCell ⟨b,10,none⟩ (iv MF)) (w.heap.size+1) 0 (iv 0)).one 1 (iv 0)).one 2 (iv 0)).one 3 (iv 0)).one 4 (.bool false))
    refine bodyPost_ret (v:=.agg ftZ) ?_ rfl ⟨g',?_,?_,(S7.o.set b 10 (iv MF) (.inl (by omega))).mine KR (by omega)⟩
    ·rw [aj rfl];go_simp
    ·rw [E1.o,E2.o,show ((D.put z r MV).aB MF).f=Pl.aH from DF.o];rfl
    ·rw [E1.o,E2.o];exact ((C7.o.aB MF).kept KR (by omega) (by omega))
  ·have E2:Hid (D.tk' op z r V=D.fM r.toNat V):=hide (by unfold Pl.Mc.tk';rw [h9];rfl)
   obtain ⟨n,rfl⟩:∃n:Nat,r=(n:Int):=⟨r.toNat,by have:0≤r:=HB.o.r0;omega⟩
   have hn:n<4:=by have:(n:Int)≤3:=HB.o.r1;omega
   have i0:(0:Int)≤(n:Int):=by omega
   have i1:(n:Int)<4:=by omega
   go_wp2_with fail
   have cy:=C4.o.cY hn
   have cz:=C4.o.fz
   go_region
   have rr:=(R4.o.other b (4+n) (iv V) (by omega)).all
   have rz:=(R4.o.other b (4+n) (iv V) (by omega)).fz
   go_wp2_with fail
   have KR:=(ae (((((ak (W4.setCell ⟨b,4+n,none⟩ (iv V)) (w.heap.size+1) 0 (iv 0)).one 1 (iv 0)).one 2 (iv 0)).one 3 (iv 0)).one 4 (.bool false)))
   refine bodyPost_ret (v:=.agg ftZ) ?_ rfl ⟨g',?_,?_,(S4.o.set b (4+n) (iv V) (.inl (by omega))).mine KR (by omega)⟩
   ·rw [aj rfl];go_simp
   ·rw [E1.o,E2.o,show (D.fM (n:Int).toNat V).f=Pl.aH from DF.o];rfl
   ·rw [E1.o,E2.o];exact ((C4.o.uX GD.o.g.a4 hn V).kept KR (by omega) (by omega))
 ·have E1:Hid (c.tk ⟨op,z,r,m,k,e,s⟩=D):=hide (by rw [ET.o,hv];rfl)
  go_wp2_with fail
  have KR:=(((((ak W4 (w.heap.size+1) 0 (iv F.v)).one 1 (iv F.pc)).one 2 (iv F.ad)).one 3 (iv F.wo)).one 4 (.bool F.wr))
  refine bodyPost_ret (v:=.agg (ftA F)) ?_ rfl ⟨g',?_,?_,(S4.o).mine KR (by omega)⟩
  ·rw [aj rfl];go_simp
  ·rw [E1.o,←HF.o];rfl
  ·rw [E1.o];exact ((C4.o).kept KR (by omega) (by omega))
namespace Pl
def Mc.gv (c:Mc) (x:In):Mc:=((c.aB (aQ x.z c.r.f (c.low x.z x.r))).slot x.z x.m x.k x.e).write x.z x.m x.k (c.readA x.z x.m x.k x.e) (c.low x.z x.r)
def chV (s z v:Int):Int:=bif s==1 then kR z 0 0 v else bif s==2 then top z-1-v else v
def chF (s z f v:Int):Int:=bif s==1 then gz z 0 0 v else aQ z f (chV s z v)
def Mc.ch' (d:Mc) (z m k a s v:Int):Mc:=bif s==3 then d.aB (chF s z d.r.f v) else (d.aB (chF s z d.r.f v)).write z m k a (chV s z v)
def Mc.ch (c:Mc) (x:In):Mc:=bif x.s==0 then (c.slot x.z x.m x.k x.e).ch' x.z x.m x.k (c.readA x.z x.m x.k x.e) 0 0 else bif (c.read x.z x.m x.k x.e).fine then (c.read x.z x.m x.k x.e).ch' x.z x.m x.k (c.readA x.z x.m x.k x.e) x.s (c.aY x.z x.m x.k x.e) else c.read x.z x.m x.k x.e
theorem tY (n x:Nat) (h:x<2^n):x ^^^ (2^n-1)=2^n-(x+1):=by
 apply Nat.eq_of_testBit_eq
 intro i
 rw [Nat.testBit_xor,Nat.testBit_two_pow_sub_one,Nat.testBit_two_pow_sub_succ h]
 by_cases hi:i<n
 ·simp [hi]
 ·have:x.testBit i=false:=Nat.testBit_lt_two_pow (Nat.lt_of_lt_of_le h (Nat.pow_le_pow_right (by decide) (by omega)))
  simp [hi,this]
theorem MM {z v:Int} (hz:z=1∨z=2) (hv:okv z v=true):bits .xor .i64 v (top z-1)=top z-1-v:=by
 have tv:=aP hv
 rcases hz with rfl|rfl
 ·obtain ⟨n,rfl⟩:∃n:Nat,v=(n:Int):=⟨v.toNat,by omega⟩
  have e:=(bits_nat n 255 (by omega) (by decide)).2.2
  show bits .xor .i64 (n:Int) ((255:Nat):Int)=_
  rw [e,tY 8 n (by omega)]
  show ((256-(n+1):Nat):Int)=256-1-(n:Int)
  omega
 ·obtain ⟨n,rfl⟩:∃n:Nat,v=(n:Int):=⟨v.toNat,by omega⟩
  have e:=(bits_nat n 65535 (by omega) (by decide)).2.2
  show bits .xor .i64 (n:Int) ((65535:Nat):Int)=_
  rw [e,tY 16 n (by omega)]
  show ((65536-(n+1):Nat):Int)=65536-1-(n:Int)
  omega
theorem NT {z v:Int} (hz:z=1∨z=2) (hv:okv z v=true):okv z (top z-1-v)=true:=by
 have tv:=aP hv
 rcases hz with rfl|rfl
 ·simp [okv,top] at *;omega
 ·simp [okv,top] at *;omega
theorem DX {s z v:Int} (hz:z=1∨z=2) (hv:okv z v=true):okv z (chV s z v)=true:=by
 unfold chV
 cases s==1
 ·cases s==2
  ·exact hv
  ·exact NT hz hv
 ·exact mQ hz
theorem Cf {s z f v:Int} (hz:z=1∨z=2) (hv:okv z v=true) (hf:flags f=true):0≤chF s z f v∧chF s z f v≤31:=by
 unfold chF
 cases s==1
 ·exact dX z f _ (DX hz hv) hf
 ·have h0:okv z 0=true:=by rcases hz with rfl|rfl<;>rfl
  exact lC z 0 0 v
theorem GM.slot {c:Mc} (h:GM c) {z m k e:Int} (k0:0≤k) (k1:k≤3):GM (c.slot z m k e):=by
 unfold Mc.slot
 cases Mc.gI m
 ·exact h.plc k0 k1
 ·exact h
end Pl
theorem V8 (w:World) (lo b g:Nat) (c:Pl.Mc) (h:Bool) (op z r m k e s:Int) (hC:CAt w lo b g c h) (G:Pl.GM c) (hf:c.f=Pl.aH) (B:Pl.InB ⟨op,z,r,m,k,e,s⟩) (hm:m=0∨(2≤m∧m≤6)) :
  Calls prog 142 #[.pointer (some ⟨b,0,none⟩),.agg (inA op z r m k e s)] w fun e' w'=>∃g',e'=.returned (.agg (ftC (c.gv ⟨op,z,r,m,k,e,s⟩).f))∧CAt w' lo b g' (c.gv ⟨op,z,r,m,k,e,s⟩) h∧Since w b (b+1) g w' g':=by
 have HB:=hide B
 clear B
 obtain ⟨l0,l1,l2,l3,l4⟩:=hC.lt
 have HG:=hide G
 obtain ⟨X,hX,K0,C0,A0,R0,sX⟩:=hC.jh op z r m k e s
 have p:=A0.o.all
 clear hC G
 have OQ:Hid (Pl.okv z (c.low z r)=true):=hide (Pl.fJ HG.o HB.o.z HB.o.r0 HB.o.r1)
 obtain ⟨Q,hQ⟩:∃Q,Q=c.low z r:=⟨_,rfl⟩
 obtain ⟨d,hd⟩:∃d,d=c.aB (Pl.aQ z c.r.f Q):=⟨_,rfl⟩
 have GD:Hid (Pl.GM d):=hide (by rw [hd,hQ];have q:=Pl.dX z c.r.f _ OQ.o (Pl.bG HG.o);exact HG.o.aB q.1 q.2)
 have qb:0≤Q∧Q≤65535:=by rw [hQ];have:=Pl.aP OQ.o;omega
 obtain ⟨qb0,qb1⟩:=qb
 have ab:=Pl.mP GD.o (z:=z) (m:=m) (k:=k) (e:=e) HB.o.k0 HB.o.k1 HB.o.e0 HB.o.e1
 obtain ⟨a,ha⟩:∃a,a=d.readA z m k e:=⟨_,rfl⟩
 rw [←ha] at ab
 obtain ⟨ab0,ab1⟩:=ab
 obtain ⟨N,hN⟩:∃N,N=(d.slot z m k e).write z m k a Q:=⟨_,rfl⟩
 have ET:Hid (c.gv ⟨op,z,r,m,k,e,s⟩=N):=hide (by rw [hN,ha,hd,hQ];rfl)
 have GS:Hid (Pl.GM (d.slot z m k e)):=hide (GD.o.slot HB.o.k0 HB.o.k1)
 have FS:Hid ((d.slot z m k e).f=Pl.aH):=hide (by rw [hd];unfold Pl.Mc.slot;cases Pl.Mc.gI m<;>exact hf)
 rw [ET.o]
 rw [←hQ] at OQ
 obtain ⟨F,hF⟩:∃F,F=N.f:=⟨_,rfl⟩
 rw [←hF]
 have HN:=hide hN
 have HQ:=hide hQ
 have HD:=hide hd
 have HA:=hide ha
 have HF:=hide hF
 have HM:=hide hm
 clear hQ hd ha hN hF hm
 go_enter func142,ntmps142
 go_wp2_with (first|(go_at_call 175;have z9:=C3;refine (uJ _ lo b g (d.slot z m k e) h z m k e a Q C3.o GS.o FS.o HB.o.z HM.o HB.o.k0 HB.o.k1 ab0 ab1 OQ.o).mono ?_;rintro e9 W4 ⟨g',rfl,hc,hs⟩;rw [←HN.o] at hc ⊢;rw [←HF.o];unfold ftC;have C4:=hide hc;have R4:=hide (hs.blk R3.o (by omega) (by omega));have n4:=hs.ne (b:=w.heap.size+1) R3.o.lt (by omega);have S4:=hide (S3.o.trans hs);have r4:=R4.o.all;have rf4:=R4.o.fz;clear hc hs)|(go_at_call 144;have z9:=C2;refine (rU _ lo b g d h ⟨op,z,r,m,k,e,s⟩ C2.o GD.o HB.o).mono ?_;rintro e9 W3 ⟨rfl,hc,hk⟩;rw [←HA.o];have C3:=hide hc;have R3:=hide (R2.o.kept hk (by omega));have S3:=hide (S2.o.ai hk (Nat.le_refl _) (Nat.le_refl _));clear hc hk)|(go_at_call 174;have z9:=C1;refine (tJ _ lo b g c h z Q C1.o qb0 qb1).mono ?_;rintro e9 W2 ⟨rfl,hc,hk⟩;rw [←HD.o] at hc;have C2:=hide hc;have A2:=hide (A1.o.kept hk (by omega));have R2:=hide (R1.o.kept hk (by omega));have S2:=hide (((Since.refl w b (b+1) g).any K1.o).ai hk (Nat.le_refl _) (Nat.le_refl _));have p2:=A2.o.all;clear hc hk)|(go_at_call 172;refine (nU _ lo b g c h z r C0.o HB.o.z HB.o.r0 HB.o.r1).mono ?_;rintro e9 W1 ⟨rfl,k1⟩;rw [←HQ.o];have C1:=hide (C0.o.any k1);have A1:=hide (A0.o.af k1);have R1:=hide (R0.o.af k1);have K1:=hide (K0.o.trans k1);have p1:=A1.o.all;clear k1))
 have KR:=(((((ak W4 (w.heap.size+1) 0 (iv F.v)).one 1 (iv F.pc)).one 2 (iv F.ad)).one 3 (iv F.wo)).one 4 (.bool F.wr))
 refine bodyPost_ret (v:=.agg (ftA F)) ?_ rfl ⟨g',?_,?_,(S4.o).mine KR (by omega)⟩
 ·rw [aj rfl];go_simp
 ·rfl
 ·exact ((C4.o).kept KR (by omega) (by omega))
theorem LG (w:World) (lo b g:Nat) (c:Pl.Mc) (h:Bool) (op z r m k e:Int) (hC:CAt w lo b g c h) (G:Pl.GM c) (hf:c.f=Pl.aH) (B:Pl.InB ⟨op,z,r,m,k,e,0⟩) (hm:m=0∨(2≤m∧m≤6)) :
  Calls prog 143 #[.pointer (some ⟨b,0,none⟩),.agg (inA op z r m k e 0)] w fun e' w'=>∃g',e'=.returned (.agg (ftC (c.ch ⟨op,z,r,m,k,e,0⟩).f))∧CAt w' lo b g' (c.ch ⟨op,z,r,m,k,e,0⟩) h∧Since w b (b+1) g w' g':=by
 have HB:=hide B
 clear B
 obtain ⟨l0,l1,l2,l3,l4⟩:=hC.lt
 have HG:=hide G
 obtain ⟨X,hX,K0,C0,A0,R0,sX⟩:=hC.jh op z r m k e 0
 have p:=A0.o.all
 clear hC G
 have ab:=Pl.mP HG.o (z:=z) (m:=m) (k:=k) (e:=e) HB.o.k0 HB.o.k1 HB.o.e0 HB.o.e1
 obtain ⟨a,ha⟩:∃a,a=c.readA z m k e:=⟨_,rfl⟩
 rw [←ha] at ab
 obtain ⟨ab0,ab1⟩:=ab
 have HA:=hide ha
 obtain ⟨T,U,hW⟩:=lh m k e
 have HW:=hide hW
 have HM:=hide hm
 clear ha hW hm
 obtain ⟨D,hD⟩:∃D,D=c.slot z m k e:=⟨_,rfl⟩
 obtain ⟨E,hE⟩:∃E,E=D.aB (Pl.aQ z D.r.f 0):=⟨_,rfl⟩
 have O0:Pl.okv z 0=true:=by rcases HB.o.z with h|h<;>(have h':z=_:=h;subst h';rfl)
 have OV2:=hide O0
 have GD:Pl.GM D:=by rw [hD];exact HG.o.slot HB.o.k0 HB.o.k1
 have GE:Hid (Pl.GM E):=hide (by rw [hE];have q:=Pl.dX z D.r.f 0 O0 (Pl.bG GD);exact GD.aB q.1 q.2)
 have FE:Hid (E.f=Pl.aH):=hide (by rw [hE,hD];unfold Pl.Mc.slot;cases Pl.Mc.gI m<;>exact hf)
 obtain ⟨N,hN⟩:∃N,N=E.write z m k a 0:=⟨_,rfl⟩
 have ET:Hid (c.ch ⟨op,z,r,m,k,e,0⟩=N):=hide (by rw [hN,hE,hD,HA.o];rfl)
 rw [ET.o]
 obtain ⟨F,hF⟩:∃F,F=N.f:=⟨_,rfl⟩
 rw [←hF]
 have HD:=hide hD
 have HE:=hide hE
 have HN:=hide hN
 have HF2:=hide hF
 clear hD hE hN hF GD O0
 go_enter func143,ntmps143
 go_wp2_with (first|(go_at_call 175;have z9:=C2;rw [←HW.o];refine (uJ _ lo b g E h z m k e a 0 C2.o GE.o FE.o HB.o.z HM.o HB.o.k0 HB.o.k1 ab0 ab1 OV2.o).mono ?_;rintro e9 W3 ⟨g',rfl,hc,hs⟩;rw [←HN.o] at hc ⊢;rw [←HF2.o];try rw [HW.o];unfold ftC;have C3:=hide hc;have R3:=hide (hs.blk R2.o (by omega) (by omega));have n3:=hs.ne (b:=w.heap.size+1) R2.o.lt (by omega);have S3:=hide (S2.o.trans hs);have r3:=R3.o.all;have rf3:=R3.o.fz;clear hc hs)|(go_at_call 174;have z9:=C1;refine (tJ _ lo b g D h z 0 C1.o (by decide) (by decide)).mono ?_;rintro e9 W2 ⟨rfl,hc,hk⟩;rw [←HE.o] at hc;have C2:=hide hc;have A2:=hide (A1.o.kept hk (by omega));have R2:=hide (R1.o.kept hk (by omega));have J2:=hide (J1.o.kept hk (by omega));have S2:=hide (S1.o.ai hk (Nat.le_refl _) (Nat.le_refl _));have p2:=A2.o.all;have j2:=J2.o.all;have r2:=R2.o.all;have rf2:=R2.o.fz;clear hc hk)|(go_at_call 144;refine (rU _ lo b g c h ⟨op,z,r,m,k,e,0⟩ C0.o HG.o HB.o).mono ?_;rintro e9 W1 ⟨rfl,hc,hk⟩;rw [←HA.o,HW.o];rw [←HD.o] at hc;have C1:=hide (hc.alloc (.cells #[.iface T U,iv z,iv a] 162));have A1:=hide ((A0.o.kept hk (by omega)).alloc (.cells #[.iface T U,iv z,iv a] 162));have R1:=hide ((R0.o.kept hk (by omega)).alloc (.cells #[.iface T U,iv z,iv a] 162));have S1:=hide ((((Since.refl w b (b+1) g).any K0.o).ai hk (Nat.le_refl _) (Nat.le_refl _)).alloc (.cells #[.iface T U,iv z,iv a] 162));have J1:=hide (Blk.new W1 #[.iface T U,iv z,iv a] 162);have s1:=hk.size;have p1:=A1.o.all;have j1:=J1.o.all;clear hc hk))
 have KR:=(((((ak W3 (w.heap.size+1) 0 (iv F.v)).one 1 (iv F.pc)).one 2 (iv F.ad)).one 3 (iv F.wo)).one 4 (.bool F.wr))
 refine bodyPost_ret (v:=.agg (ftA F)) ?_ rfl ⟨g',?_,?_,(S3.o).mine KR (by omega)⟩
 ·rw [aj rfl];go_simp
 ·rfl
 ·exact ((C3.o).kept KR (by omega) (by omega))
theorem LD (w:World) (lo b g:Nat) (c:Pl.Mc) (h:Bool) (op z r m k e:Int) (hC:CAt w lo b g c h) (G:Pl.GM c) (hf:c.f=Pl.aH) (B:Pl.InB ⟨op,z,r,m,k,e,1⟩) (hm:m=0∨(2≤m∧m≤6)) :
  Calls prog 143 #[.pointer (some ⟨b,0,none⟩),.agg (inA op z r m k e 1)] w fun e' w'=>∃g',e'=.returned (.agg (ftC (c.ch ⟨op,z,r,m,k,e,1⟩).f))∧CAt w' lo b g' (c.ch ⟨op,z,r,m,k,e,1⟩) h∧Since w b (b+1) g w' g':=by
 have HB:=hide B
 clear B
 obtain ⟨l0,l1,l2,l3,l4⟩:=hC.lt
 have HG:=hide G
 obtain ⟨X,hX,K0,C0,A0,R0,sX⟩:=hC.jh op z r m k e 1
 have p:=A0.o.all
 clear hC G
 have ab:=Pl.mP HG.o (z:=z) (m:=m) (k:=k) (e:=e) HB.o.k0 HB.o.k1 HB.o.e0 HB.o.e1
 obtain ⟨a,ha⟩:∃a,a=c.readA z m k e:=⟨_,rfl⟩
 rw [←ha] at ab
 obtain ⟨ab0,ab1⟩:=ab
 have HA:=hide ha
 obtain ⟨T,U,hW⟩:=lh m k e
 have HW:=hide hW
 have HM:=hide hm
 clear ha hW hm
 obtain ⟨D,hD⟩:∃D,D=c.read z m k e:=⟨_,rfl⟩
 obtain ⟨V,hV⟩:∃V,V=c.aY z m k e:=⟨_,rfl⟩
 obtain ⟨F,hF⟩:∃F,F=D.f:=⟨_,rfl⟩
 have GD:Hid (Pl.GM D):=hide (by rw [hD];exact HG.o.read HB.o.z HB.o.k0 HB.o.k1 HB.o.e0 HB.o.e1)
 have OV:Hid (Pl.okv z V=true):=hide (by rw [hV];exact Pl.di HG.o HB.o.z HB.o.k0 HB.o.k1 HB.o.e0 HB.o.e1 (fun q=>by have:=HM.o;omega) HB.o.n7)
 have ET:Hid (c.ch ⟨op,z,r,m,k,e,1⟩=bif !(F.v != 0) then D.ch' z m k a 1 V else D):=hide (by
  show (bif (c.read z m k e).fine then (c.read z m k e).ch' z m k (c.readA z m k e) 1 (c.aY z m k e) else c.read z m k e)=_
  rw [←hD,←hV,hF,←HA.o];unfold Pl.Mc.fine;simp [bne])
 have HD:=hide hD
 have HV:=hide hV
 have HF:=hide hF
 clear hD hV hF
 go_enter func143,ntmps143
 go_wp2_with (first|(go_at_call 170;have z9:=C1;have hr:=yI _ lo b g c h z m k e C1.o HG.o hf HB.o.z HB.o.m0 HB.o.m1 HB.o.k0 HB.o.k1 HB.o.e0 HB.o.e1;rw [HW.o,←HA.o] at hr;refine hr.mono ?_;clear hr;rintro e9 W2 ⟨g',rfl,hc,hs⟩;rw [←HD.o] at hc ⊢;rw [←HV.o,←HF.o];unfold ftC;have C2:=hide (hc.alloc (.cells (ftA F) 38));have A2:=hide ((hs.blk A1.o (by omega) (by omega)).alloc (.cells (ftA F) 38));have R2:=hide ((hs.blk R1.o (by omega) (by omega)).alloc (.cells (ftA F) 38));have J2:=hide ((hs.blk J1.o (by omega) (by have:=J1.o.lt;omega)).alloc (.cells (ftA F) 38));have S2:=hide ((S1.o.trans hs).alloc (.cells (ftA F) 38));have L2:=hide (Blk.new W2 (ftA F) 38);have z2:=hs.size;have n2:=hs.ne (b:=w.heap.size+1) R1.o.lt (by omega);have m2:=hs.ne (b:=w.heap.size) A1.o.lt (by omega);have o2:=hs.ne (b:=W1.heap.size) J1.o.lt (by omega);clear hc hs)|(go_at_call 144;refine (rU _ lo b g c h ⟨op,z,r,m,k,e,1⟩ C0.o HG.o HB.o).mono ?_;rintro e9 W1 ⟨rfl,hc,hk⟩;rw [←HA.o];rw [HW.o];have C1:=hide (hc.alloc (.cells #[.iface T U,iv z,iv a] 162));have A1:=hide ((A0.o.kept hk (by omega)).alloc (.cells #[.iface T U,iv z,iv a] 162));have R1:=hide ((R0.o.kept hk (by omega)).alloc (.cells #[.iface T U,iv z,iv a] 162));have S1:=hide ((((Since.refl w b (b+1) g).any K0.o).ai hk (Nat.le_refl _) (Nat.le_refl _)).alloc (.cells #[.iface T U,iv z,iv a] 162));have J1:=hide (Blk.new W1 #[.iface T U,iv z,iv a] 162);have s1:=hk.size;have p1:=A1.o.all;have j1:=J1.o.all;clear hc hk))
 refine (gu F _).mono ?_
 rintro e9 W4 ⟨rfl,kf⟩
 have C4:=hide (C2.o.any kf)
 have A4:=hide (A2.o.af kf)
 have R4:=hide (R2.o.af kf)
 have L4:=hide (L2.o.af kf)
 have S4:=hide (S2.o.any kf)
 have p4:=A4.o.all
 have q4:=L4.o.all
 have r4:=R4.o.all
 have rf4:=R4.o.fz
 have J4:=hide (J2.o.af kf)
 have j4:=J4.o.all
 clear kf
 clear hX p p1 j1
 have b4:=C4.o.cF
 have bz4:=C4.o.fz
 have tv:=Pl.aP OV.o
 obtain ⟨tv0,tv1⟩:0≤V∧V≤65535:=by omega
 cases hv:(F.v != 0)
 ·have E1:Hid (c.ch ⟨op,z,r,m,k,e,1⟩=D.ch' z m k a 1 V):=hide (by rw [ET.o,hv];rfl)
  have DF:Hid (D.f=Pl.aH):=hide (Pl.qY hf HD.o (by rw [←HF.o];exact hv))
  obtain ⟨V2,hV2⟩:∃v,v=Pl.chV 1 z V:=⟨_,rfl⟩
  have OV2:Hid (Pl.okv z V2=true):=hide (by rw [hV2];exact Pl.DX HB.o.z OV.o)
  have tw:=Pl.aP OV2.o
  obtain ⟨tw0,tw1⟩:0≤V2∧V2≤65535:=by omega
  obtain ⟨FL,hFL⟩:∃v,v=Pl.chF 1 z D.r.f V:=⟨_,rfl⟩
  have fl:0≤FL∧FL≤31:=by rw [hFL];exact Pl.Cf HB.o.z OV.o (Pl.bG GD.o)
  obtain ⟨E,hE⟩:∃E,E=D.aB FL:=⟨_,rfl⟩
  have GE:Hid (Pl.GM E):=hide (by rw [hE];exact GD.o.aB fl.1 fl.2)
  have FE:Hid (E.f=Pl.aH):=hide (by rw [hE];exact DF.o)
  obtain ⟨N,hN⟩:∃N,N=E.write z m k a V2:=⟨_,rfl⟩
  have E2:Hid (D.ch' z m k a 1 V=N):=hide (by rw [hN,hE,hFL,hV2];rfl)
  obtain ⟨F2,hF2⟩:∃F,F=N.f:=⟨_,rfl⟩
  have HN:=hide hN
  have HF2:=hide hF2
  have HE:=hide hE
  have e1:Pl.kR z 0 0 V=V2:=hV2.symm
  have e2:Pl.gz z 0 0 V=FL:=hFL.symm
  clear hE hFL hV2 hN hF2 fl tw tv
  have C5:Hid (CAt (W4.setCell ⟨b,10,none⟩ (iv FL)) lo b g' E h):=hide (by rw [HE.o];exact C4.o.aB FL)
  have R5:=hide (R4.o.other b 10 (iv FL) (by omega))
  have S5:=hide (S4.o.set b 10 (iv FL) (.inl (by omega)))
  have p5:=(A4.o.other b 10 (iv FL) (by omega)).all
  have j5:=(J4.o.other b 10 (iv FL) (by omega)).all
  go_wp2_with (first|(go_at_call 175;have z9:=C5;rw [←HW.o];refine (uJ _ lo b g' E h z m k e a V2 C5.o GE.o FE.o HB.o.z HM.o HB.o.k0 HB.o.k1 ab0 ab1 OV2.o).mono ?_;rintro e9 W6 ⟨g6,rfl,hc,hs⟩;rw [←HN.o] at hc ⊢;rw [←HF2.o];try rw [HW.o];unfold ftC;have C6:=hide hc;have R6:=hide (hs.blk R5.o (by omega) (by omega));have n6:=hs.ne (b:=w.heap.size+1) R5.o.lt (by omega);have S6:=hide (S5.o.trans hs);have r6:=R6.o.all;have rf6:=R6.o.fz;clear hc hs)|(go_at_call 176;refine st (II _ _ _ (by omega) (by omega)) ?_;rw [e1,e2]))
  have KR:=(((((ak W6 (w.heap.size+1) 0 (iv F2.v)).one 1 (iv F2.pc)).one 2 (iv F2.ad)).one 3 (iv F2.wo)).one 4 (.bool F2.wr))
  refine bodyPost_ret (v:=.agg (ftA F2)) ?_ rfl ⟨g6,?_,?_,(S6.o).mine KR (by omega)⟩
  ·rw [aj rfl];go_simp
  ·rw [E1.o,E2.o,←HF2.o];rfl
  ·rw [E1.o,E2.o];exact ((C6.o).kept KR (by omega) (by omega))
 ·have E1:Hid (c.ch ⟨op,z,r,m,k,e,1⟩=D):=hide (by rw [ET.o,hv];rfl)
  go_wp2_with fail
  have KR:=(((((ak W4 (w.heap.size+1) 0 (iv F.v)).one 1 (iv F.pc)).one 2 (iv F.ad)).one 3 (iv F.wo)).one 4 (.bool F.wr))
  refine bodyPost_ret (v:=.agg (ftA F)) ?_ rfl ⟨g',?_,?_,(S4.o).mine KR (by omega)⟩
  ·rw [aj rfl];go_simp
  ·rw [E1.o,←HF.o];rfl
  ·rw [E1.o];exact ((C4.o).kept KR (by omega) (by omega))
theorem LC (w:World) (lo b g:Nat) (c:Pl.Mc) (h:Bool) (op z r m k e:Int) (hC:CAt w lo b g c h) (G:Pl.GM c) (hf:c.f=Pl.aH) (B:Pl.InB ⟨op,z,r,m,k,e,2⟩) (hm:m=0∨(2≤m∧m≤6)) :
  Calls prog 143 #[.pointer (some ⟨b,0,none⟩),.agg (inA op z r m k e 2)] w fun e' w'=>∃g',e'=.returned (.agg (ftC (c.ch ⟨op,z,r,m,k,e,2⟩).f))∧CAt w' lo b g' (c.ch ⟨op,z,r,m,k,e,2⟩) h∧Since w b (b+1) g w' g':=by
 have HB:=hide B
 clear B
 obtain ⟨l0,l1,l2,l3,l4⟩:=hC.lt
 have HG:=hide G
 obtain ⟨X,hX,K0,C0,A0,R0,sX⟩:=hC.jh op z r m k e 2
 have p:=A0.o.all
 clear hC G
 have ab:=Pl.mP HG.o (z:=z) (m:=m) (k:=k) (e:=e) HB.o.k0 HB.o.k1 HB.o.e0 HB.o.e1
 obtain ⟨a,ha⟩:∃a,a=c.readA z m k e:=⟨_,rfl⟩
 rw [←ha] at ab
 obtain ⟨ab0,ab1⟩:=ab
 have HA:=hide ha
 obtain ⟨T,U,hW⟩:=lh m k e
 have HW:=hide hW
 have HM:=hide hm
 clear ha hW hm
 obtain ⟨D,hD⟩:∃D,D=c.read z m k e:=⟨_,rfl⟩
 obtain ⟨V,hV⟩:∃V,V=c.aY z m k e:=⟨_,rfl⟩
 obtain ⟨F,hF⟩:∃F,F=D.f:=⟨_,rfl⟩
 have GD:Hid (Pl.GM D):=hide (by rw [hD];exact HG.o.read HB.o.z HB.o.k0 HB.o.k1 HB.o.e0 HB.o.e1)
 have OV:Hid (Pl.okv z V=true):=hide (by rw [hV];exact Pl.di HG.o HB.o.z HB.o.k0 HB.o.k1 HB.o.e0 HB.o.e1 (fun q=>by have:=HM.o;omega) HB.o.n7)
 have ET:Hid (c.ch ⟨op,z,r,m,k,e,2⟩=bif !(F.v != 0) then D.ch' z m k a 2 V else D):=hide (by
  show (bif (c.read z m k e).fine then (c.read z m k e).ch' z m k (c.readA z m k e) 2 (c.aY z m k e) else c.read z m k e)=_
  rw [←hD,←hV,hF,←HA.o];unfold Pl.Mc.fine;simp [bne])
 have HD:=hide hD
 have HV:=hide hV
 have HF:=hide hF
 clear hD hV hF
 go_enter func143,ntmps143
 go_wp2_with (first|(go_at_call 170;have z9:=C1;have hr:=yI _ lo b g c h z m k e C1.o HG.o hf HB.o.z HB.o.m0 HB.o.m1 HB.o.k0 HB.o.k1 HB.o.e0 HB.o.e1;rw [HW.o,←HA.o] at hr;refine hr.mono ?_;clear hr;rintro e9 W2 ⟨g',rfl,hc,hs⟩;rw [←HD.o] at hc ⊢;rw [←HV.o,←HF.o];unfold ftC;have C2:=hide (hc.alloc (.cells (ftA F) 38));have A2:=hide ((hs.blk A1.o (by omega) (by omega)).alloc (.cells (ftA F) 38));have R2:=hide ((hs.blk R1.o (by omega) (by omega)).alloc (.cells (ftA F) 38));have J2:=hide ((hs.blk J1.o (by omega) (by have:=J1.o.lt;omega)).alloc (.cells (ftA F) 38));have S2:=hide ((S1.o.trans hs).alloc (.cells (ftA F) 38));have L2:=hide (Blk.new W2 (ftA F) 38);have z2:=hs.size;have n2:=hs.ne (b:=w.heap.size+1) R1.o.lt (by omega);have m2:=hs.ne (b:=w.heap.size) A1.o.lt (by omega);have o2:=hs.ne (b:=W1.heap.size) J1.o.lt (by omega);clear hc hs)|(go_at_call 144;refine (rU _ lo b g c h ⟨op,z,r,m,k,e,2⟩ C0.o HG.o HB.o).mono ?_;rintro e9 W1 ⟨rfl,hc,hk⟩;rw [←HA.o];rw [HW.o];have C1:=hide (hc.alloc (.cells #[.iface T U,iv z,iv a] 162));have A1:=hide ((A0.o.kept hk (by omega)).alloc (.cells #[.iface T U,iv z,iv a] 162));have R1:=hide ((R0.o.kept hk (by omega)).alloc (.cells #[.iface T U,iv z,iv a] 162));have S1:=hide ((((Since.refl w b (b+1) g).any K0.o).ai hk (Nat.le_refl _) (Nat.le_refl _)).alloc (.cells #[.iface T U,iv z,iv a] 162));have J1:=hide (Blk.new W1 #[.iface T U,iv z,iv a] 162);have s1:=hk.size;have p1:=A1.o.all;have j1:=J1.o.all;clear hc hk))
 refine (gu F _).mono ?_
 rintro e9 W4 ⟨rfl,kf⟩
 have C4:=hide (C2.o.any kf)
 have A4:=hide (A2.o.af kf)
 have R4:=hide (R2.o.af kf)
 have L4:=hide (L2.o.af kf)
 have S4:=hide (S2.o.any kf)
 have p4:=A4.o.all
 have q4:=L4.o.all
 have r4:=R4.o.all
 have rf4:=R4.o.fz
 have J4:=hide (J2.o.af kf)
 have j4:=J4.o.all
 clear kf
 clear hX p p1 j1
 have b4:=C4.o.cF
 have bz4:=C4.o.fz
 have tv:=Pl.aP OV.o
 obtain ⟨tv0,tv1⟩:0≤V∧V≤65535:=by omega
 cases hv:(F.v != 0)
 ·have E1:Hid (c.ch ⟨op,z,r,m,k,e,2⟩=D.ch' z m k a 2 V):=hide (by rw [ET.o,hv];rfl)
  have DF:Hid (D.f=Pl.aH):=hide (Pl.qY hf HD.o (by rw [←HF.o];exact hv))
  obtain ⟨V2,hV2⟩:∃v,v=Pl.chV 2 z V:=⟨_,rfl⟩
  have OV2:Hid (Pl.okv z V2=true):=hide (by rw [hV2];exact Pl.DX HB.o.z OV.o)
  have tw:=Pl.aP OV2.o
  obtain ⟨tw0,tw1⟩:0≤V2∧V2≤65535:=by omega
  obtain ⟨FL,hFL⟩:∃v,v=Pl.chF 2 z D.r.f V:=⟨_,rfl⟩
  have fl:0≤FL∧FL≤31:=by rw [hFL];exact Pl.Cf HB.o.z OV.o (Pl.bG GD.o)
  obtain ⟨E,hE⟩:∃E,E=D.aB FL:=⟨_,rfl⟩
  have GE:Hid (Pl.GM E):=hide (by rw [hE];exact GD.o.aB fl.1 fl.2)
  have FE:Hid (E.f=Pl.aH):=hide (by rw [hE];exact DF.o)
  obtain ⟨N,hN⟩:∃N,N=E.write z m k a V2:=⟨_,rfl⟩
  have E2:Hid (D.ch' z m k a 2 V=N):=hide (by rw [hN,hE,hFL,hV2];rfl)
  obtain ⟨F2,hF2⟩:∃F,F=N.f:=⟨_,rfl⟩
  have HN:=hide hN
  have HF2:=hide hF2
  have HE:Hid (E=D.aB (Pl.aQ z D.r.f V2)):=hide (by rw [hE,hFL,hV2];rfl)
  have ex:bits .xor .i64 V (Pl.top z-1)=V2:=by rw [hV2];exact Pl.MM HB.o.z OV.o
  clear hE hFL hV2 hN hF2 fl tw tv
  go_wp2_with (first|(go_at_call 175;have z9:=C5;rw [←HW.o];refine (uJ _ lo b g' E h z m k e a V2 C5.o GE.o FE.o HB.o.z HM.o HB.o.k0 HB.o.k1 ab0 ab1 OV2.o).mono ?_;rintro e9 W6 ⟨g6,rfl,hc,hs⟩;rw [←HN.o] at hc ⊢;rw [←HF2.o];try rw [HW.o];unfold ftC;have C6:=hide hc;have R6:=hide (hs.blk R5.o (by omega) (by omega));have n6:=hs.ne (b:=w.heap.size+1) R5.o.lt (by omega);have S6:=hide (S5.o.trans hs);have r6:=R6.o.all;have rf6:=R6.o.fz;clear hc hs)|(go_at_call 174;refine (tJ _ lo b g' D h z V2 C4.o tw0 tw1).mono ?_;rintro e9 W5 ⟨rfl,hc,hk⟩;rw [←HE.o] at hc;have C5:=hide hc;have A5:=hide (A4.o.kept hk (by omega));have R5:=hide (R4.o.kept hk (by omega));have J5:=hide (J4.o.kept hk (by omega));have S5:=hide (S4.o.ai hk (Nat.le_refl _) (Nat.le_refl _));have p5:=A5.o.all;have j5:=J5.o.all;have r5:=R5.o.all;have rf5:=R5.o.fz;clear hc hk)|(go_at_call 177;refine st (IB _ _ HB.o.z) ?_))
  have KR:=(((((ak W6 (w.heap.size+1) 0 (iv F2.v)).one 1 (iv F2.pc)).one 2 (iv F2.ad)).one 3 (iv F2.wo)).one 4 (.bool F2.wr))
  refine bodyPost_ret (v:=.agg (ftA F2)) ?_ rfl ⟨g6,?_,?_,(S6.o).mine KR (by omega)⟩
  ·rw [aj rfl];go_simp
  ·rw [E1.o,E2.o,←HF2.o];rfl
  ·rw [E1.o,E2.o];exact ((C6.o).kept KR (by omega) (by omega))
 ·have E1:Hid (c.ch ⟨op,z,r,m,k,e,2⟩=D):=hide (by rw [ET.o,hv];rfl)
  go_wp2_with fail
  have KR:=(((((ak W4 (w.heap.size+1) 0 (iv F.v)).one 1 (iv F.pc)).one 2 (iv F.ad)).one 3 (iv F.wo)).one 4 (.bool F.wr))
  refine bodyPost_ret (v:=.agg (ftA F)) ?_ rfl ⟨g',?_,?_,(S4.o).mine KR (by omega)⟩
  ·rw [aj rfl];go_simp
  ·rw [E1.o,←HF.o];rfl
  ·rw [E1.o];exact ((C4.o).kept KR (by omega) (by omega))
theorem Lu (w:World) (lo b g:Nat) (c:Pl.Mc) (h:Bool) (op z r m k e:Int) (hC:CAt w lo b g c h) (G:Pl.GM c) (hf:c.f=Pl.aH) (B:Pl.InB ⟨op,z,r,m,k,e,3⟩) (hm:m=0∨(2≤m∧m≤6)) :
  Calls prog 143 #[.pointer (some ⟨b,0,none⟩),.agg (inA op z r m k e 3)] w fun e' w'=>∃g',e'=.returned (.agg (ftC (c.ch ⟨op,z,r,m,k,e,3⟩).f))∧CAt w' lo b g' (c.ch ⟨op,z,r,m,k,e,3⟩) h∧Since w b (b+1) g w' g':=by
 have HB:=hide B
 clear B
 obtain ⟨l0,l1,l2,l3,l4⟩:=hC.lt
 have HG:=hide G
 obtain ⟨X,hX,K0,C0,A0,R0,sX⟩:=hC.jh op z r m k e 3
 have p:=A0.o.all
 clear hC G
 have ab:=Pl.mP HG.o (z:=z) (m:=m) (k:=k) (e:=e) HB.o.k0 HB.o.k1 HB.o.e0 HB.o.e1
 obtain ⟨a,ha⟩:∃a,a=c.readA z m k e:=⟨_,rfl⟩
 rw [←ha] at ab
 obtain ⟨ab0,ab1⟩:=ab
 have HA:=hide ha
 obtain ⟨T,U,hW⟩:=lh m k e
 have HW:=hide hW
 have HM:=hide hm
 clear ha hW hm
 obtain ⟨D,hD⟩:∃D,D=c.read z m k e:=⟨_,rfl⟩
 obtain ⟨V,hV⟩:∃V,V=c.aY z m k e:=⟨_,rfl⟩
 obtain ⟨F,hF⟩:∃F,F=D.f:=⟨_,rfl⟩
 have GD:Hid (Pl.GM D):=hide (by rw [hD];exact HG.o.read HB.o.z HB.o.k0 HB.o.k1 HB.o.e0 HB.o.e1)
 have OV:Hid (Pl.okv z V=true):=hide (by rw [hV];exact Pl.di HG.o HB.o.z HB.o.k0 HB.o.k1 HB.o.e0 HB.o.e1 (fun q=>by have:=HM.o;omega) HB.o.n7)
 have ET:Hid (c.ch ⟨op,z,r,m,k,e,3⟩=bif !(F.v != 0) then D.ch' z m k a 3 V else D):=hide (by
  show (bif (c.read z m k e).fine then (c.read z m k e).ch' z m k (c.readA z m k e) 3 (c.aY z m k e) else c.read z m k e)=_
  rw [←hD,←hV,hF,←HA.o];unfold Pl.Mc.fine;simp [bne])
 have HD:=hide hD
 have HV:=hide hV
 have HF:=hide hF
 clear hD hV hF
 go_enter func143,ntmps143
 go_wp2_with (first|(go_at_call 170;have z9:=C1;have hr:=yI _ lo b g c h z m k e C1.o HG.o hf HB.o.z HB.o.m0 HB.o.m1 HB.o.k0 HB.o.k1 HB.o.e0 HB.o.e1;rw [HW.o,←HA.o] at hr;refine hr.mono ?_;clear hr;rintro e9 W2 ⟨g',rfl,hc,hs⟩;rw [←HD.o] at hc ⊢;rw [←HV.o,←HF.o];unfold ftC;have C2:=hide (hc.alloc (.cells (ftA F) 38));have A2:=hide ((hs.blk A1.o (by omega) (by omega)).alloc (.cells (ftA F) 38));have R2:=hide ((hs.blk R1.o (by omega) (by omega)).alloc (.cells (ftA F) 38));have J2:=hide ((hs.blk J1.o (by omega) (by have:=J1.o.lt;omega)).alloc (.cells (ftA F) 38));have S2:=hide ((S1.o.trans hs).alloc (.cells (ftA F) 38));have L2:=hide (Blk.new W2 (ftA F) 38);have z2:=hs.size;have n2:=hs.ne (b:=w.heap.size+1) R1.o.lt (by omega);have m2:=hs.ne (b:=w.heap.size) A1.o.lt (by omega);have o2:=hs.ne (b:=W1.heap.size) J1.o.lt (by omega);clear hc hs)|(go_at_call 144;refine (rU _ lo b g c h ⟨op,z,r,m,k,e,3⟩ C0.o HG.o HB.o).mono ?_;rintro e9 W1 ⟨rfl,hc,hk⟩;rw [←HA.o];rw [HW.o];have C1:=hide (hc.alloc (.cells #[.iface T U,iv z,iv a] 162));have A1:=hide ((A0.o.kept hk (by omega)).alloc (.cells #[.iface T U,iv z,iv a] 162));have R1:=hide ((R0.o.kept hk (by omega)).alloc (.cells #[.iface T U,iv z,iv a] 162));have S1:=hide ((((Since.refl w b (b+1) g).any K0.o).ai hk (Nat.le_refl _) (Nat.le_refl _)).alloc (.cells #[.iface T U,iv z,iv a] 162));have J1:=hide (Blk.new W1 #[.iface T U,iv z,iv a] 162);have s1:=hk.size;have p1:=A1.o.all;have j1:=J1.o.all;clear hc hk))
 refine (gu F _).mono ?_
 rintro e9 W4 ⟨rfl,kf⟩
 have C4:=hide (C2.o.any kf)
 have A4:=hide (A2.o.af kf)
 have R4:=hide (R2.o.af kf)
 have L4:=hide (L2.o.af kf)
 have S4:=hide (S2.o.any kf)
 have p4:=A4.o.all
 have q4:=L4.o.all
 have r4:=R4.o.all
 have rf4:=R4.o.fz
 have J4:=hide (J2.o.af kf)
 have j4:=J4.o.all
 clear kf
 clear hX p p1 j1
 have b4:=C4.o.cF
 have bz4:=C4.o.fz
 have tv:=Pl.aP OV.o
 obtain ⟨tv0,tv1⟩:0≤V∧V≤65535:=by omega
 cases hv:(F.v != 0)
 ·have E1:Hid (c.ch ⟨op,z,r,m,k,e,3⟩=D.ch' z m k a 3 V):=hide (by rw [ET.o,hv];rfl)
  have DF:Hid (D.f=Pl.aH):=hide (Pl.qY hf HD.o (by rw [←HF.o];exact hv))
  obtain ⟨V2,hV2⟩:∃v,v=Pl.chV 3 z V:=⟨_,rfl⟩
  have OV2:Hid (Pl.okv z V2=true):=hide (by rw [hV2];exact Pl.DX HB.o.z OV.o)
  have tw:=Pl.aP OV2.o
  obtain ⟨tw0,tw1⟩:0≤V2∧V2≤65535:=by omega
  obtain ⟨FL,hFL⟩:∃v,v=Pl.chF 3 z D.r.f V:=⟨_,rfl⟩
  have fl:0≤FL∧FL≤31:=by rw [hFL];exact Pl.Cf HB.o.z OV.o (Pl.bG GD.o)
  obtain ⟨E,hE⟩:∃E,E=D.aB FL:=⟨_,rfl⟩
  have GE:Hid (Pl.GM E):=hide (by rw [hE];exact GD.o.aB fl.1 fl.2)
  have FE:Hid (E.f=Pl.aH):=hide (by rw [hE];exact DF.o)
  have E2:Hid (D.ch' z m k a 3 V=E):=hide (by rw [hE,hFL];rfl)
  have HE:Hid (E=D.aB (Pl.aQ z D.r.f V)):=hide (by rw [hE,hFL];rfl)
  clear hE hFL hV2 fl tw tv
  go_wp2_with (first|(go_at_call 174;refine (tJ _ lo b g' D h z V C4.o tv0 tv1).mono ?_;rintro e9 W5 ⟨rfl,hc,hk⟩;rw [←HE.o] at hc;have C5:=hide hc;have A5:=hide (A4.o.kept hk (by omega));have R5:=hide (R4.o.kept hk (by omega));have J5:=hide (J4.o.kept hk (by omega));have S5:=hide (S4.o.ai hk (Nat.le_refl _) (Nat.le_refl _));have p5:=A5.o.all;have j5:=J5.o.all;have r5:=R5.o.all;have rf5:=R5.o.fz;clear hc hk))
  have KR:=(((((ak W5 (w.heap.size+1) 0 (iv 0)).one 1 (iv 0)).one 2 (iv 0)).one 3 (iv 0)).one 4 (.bool false))
  refine bodyPost_ret (v:=.agg ftZ) ?_ rfl ⟨g',?_,?_,(S5.o).mine KR (by omega)⟩
  ·rw [aj rfl];go_simp
  ·rw [E1.o,E2.o,FE.o];rfl
  ·rw [E1.o,E2.o];exact ((C5.o).kept KR (by omega) (by omega))
 ·have E1:Hid (c.ch ⟨op,z,r,m,k,e,3⟩=D):=hide (by rw [ET.o,hv];rfl)
  go_wp2_with fail
  have KR:=(((((ak W4 (w.heap.size+1) 0 (iv F.v)).one 1 (iv F.pc)).one 2 (iv F.ad)).one 3 (iv F.wo)).one 4 (.bool F.wr))
  refine bodyPost_ret (v:=.agg (ftA F)) ?_ rfl ⟨g',?_,?_,(S4.o).mine KR (by omega)⟩
  ·rw [aj rfl];go_simp
  ·rw [E1.o,←HF.o];rfl
  ·rw [E1.o];exact ((C4.o).kept KR (by omega) (by omega))
set_option linter.unusedSimpArgs false
theorem wO (v x f:Int) (t:Bool) (w:World) (h0:0≤v) (h1:v<256) (x0:0≤x) (x1:x≤1) :
  Calls prog 229 #[.agg #[iv v,iv 8,iv x,iv f,.bool t]] w fun e w'=>e=.returned (.agg #[iv (Pl.nv 0 1 x v),iv 8,iv (Pl.nx 0 1 x v),iv (Pl.fell 0 1 v),.bool (Pl.vfl 0 1 x v)])∧Below w.heap.size w w':=by
 obtain ⟨b0,b1⟩:=Pl.dS 1 v
 have E1:Hid ((v*2%256)=Pl.nv 0 1 x v):=hide (by simp only [Pl.nv,Pl.inn,Pl.fell,Pl.top,Int.reduceMod,Int.reduceEq,Int.reduceLE,Int.reduceDiv,if_true,if_false,or_self,or_true,true_or,or_false,false_or]<;>omega)
 have E2:Hid ((Pl.hi 1 v)=Pl.nx 0 1 x v):=hide (by simp only [Pl.nx,Pl.fell,Int.reduceMod,Int.reduceEq,if_true,if_false,or_self,or_true,true_or,or_false,false_or])
 have E3:Hid ((Pl.hi 1 v)=Pl.fell 0 1 v):=hide (by simp only [Pl.fell,Int.reduceMod,Int.reduceEq,if_true,if_false])
 have E4:Hid ((Pl.hi 1 (v*2%256) != Pl.hi 1 v)=Pl.vfl 0 1 x v):=hide (by rw [Pl.vfl,←E1.o,Pl.ny];rfl)
 go_enter func229,ntmps229
 go_wp2_with (first|(go_at_call 237;refine (fP _ _ _ _ _ ?h0 ?h1).mono ?_;(case h0=>omega);(case h1=>omega);rintro e w' ⟨rfl,o6,rfl⟩)|(go_at_call 249;refine (lowest _ _ _ _ _ _).mono ?_;rintro e w' ⟨rfl,o6,rfl⟩)|(go_at_call 246;refine (qx _ _ _ _ _ _ ?h0 ?h1 ?h2 ?h3).mono ?_;(case h0=>omega);(case h1=>omega);(case h2=>omega);(case h3=>omega);rintro e w' ⟨rfl,o1,o2,o3,rfl⟩)|(go_at_call 247;refine (bf _ _ _ _ _ _).mono ?_;rintro e w' ⟨rfl,o4,o5,rfl⟩))
 go_region_with (first|(go_at_call 237;refine (fP _ _ _ _ _ ?h0 ?h1).mono ?_;(case h0=>omega);(case h1=>omega);rintro e w' ⟨rfl,o6,rfl⟩)|(go_at_call 249;refine (lowest _ _ _ _ _ _).mono ?_;rintro e w' ⟨rfl,o6,rfl⟩)|(go_at_call 246;refine (qx _ _ _ _ _ _ ?h0 ?h1 ?h2 ?h3).mono ?_;(case h0=>omega);(case h1=>omega);(case h2=>omega);(case h3=>omega);rintro e w' ⟨rfl,o1,o2,o3,rfl⟩)|(go_at_call 247;refine (bf _ _ _ _ _ _).mono ?_;rintro e w' ⟨rfl,o4,o5,rfl⟩))
 all_goals go_wp2_with fail
 all_goals
  refine bodyPost_ret (v:=.agg #[iv (v*2%256),iv 8,iv (Pl.hi 1 v),iv (Pl.hi 1 v),.bool (Pl.hi 1 (v*2%256) != Pl.hi 1 v)]) ?_ rfl ⟨?_,?_⟩
  ·rw [aU rfl];go_simp
  ·exact rA E1.o rfl E2.o E3.o E4.o
  ·(repeat' (first|with_reducible exact Below.refl _ _|with_reducible refine Below.drew ?_|with_reducible refine Below.alloc ?_ ?_ _|(simp;done)|(simp;omega)))
theorem uo (v x f:Int) (t:Bool) (w:World) (h0:0≤v) (h1:v<256) (x0:0≤x) (x1:x≤1) :
  Calls prog 230 #[.agg #[iv v,iv 8,iv x,iv f,.bool t]] w fun e w'=>e=.returned (.agg #[iv (Pl.nv 1 1 x v),iv 8,iv (Pl.nx 1 1 x v),iv (Pl.fell 1 1 v),.bool t])∧Below w.heap.size w w':=by
 obtain ⟨b0,b1⟩:=Pl.dS 1 v
 have E1:Hid ((v/2+Pl.hi 1 v*128)=Pl.nv 1 1 x v):=hide (by simp only [Pl.nv,Pl.inn,Pl.fell,Pl.top,Int.reduceMod,Int.reduceEq,Int.reduceLE,Int.reduceDiv,if_true,if_false,or_self,or_true,true_or,or_false,false_or]<;>omega)
 have E2:Hid ((v%2)=Pl.nx 1 1 x v):=hide (by simp only [Pl.nx,Pl.fell,Int.reduceMod,Int.reduceEq,if_true,if_false,or_self,or_true,true_or,or_false,false_or])
 have E3:Hid ((v%2)=Pl.fell 1 1 v):=hide (by simp only [Pl.fell,Int.reduceMod,Int.reduceEq,if_true,if_false])
 go_enter func230,ntmps230
 go_wp2_with (first|(go_at_call 237;refine (fP _ _ _ _ _ ?h0 ?h1).mono ?_;(case h0=>omega);(case h1=>omega);rintro e w' ⟨rfl,o6,rfl⟩)|(go_at_call 249;refine (lowest _ _ _ _ _ _).mono ?_;rintro e w' ⟨rfl,o6,rfl⟩)|(go_at_call 248;refine (kQ _ _ _ _ _ _ ?h0 ?h1 ?h2 ?h3).mono ?_;(case h0=>omega);(case h1=>omega);(case h2=>omega);(case h3=>omega);rintro e w' ⟨rfl,o1,o2,o3,rfl⟩)|(go_at_call 247;refine (bf _ _ _ _ _ _).mono ?_;rintro e w' ⟨rfl,o4,o5,rfl⟩))
 go_region_with (first|(go_at_call 237;refine (fP _ _ _ _ _ ?h0 ?h1).mono ?_;(case h0=>omega);(case h1=>omega);rintro e w' ⟨rfl,o6,rfl⟩)|(go_at_call 249;refine (lowest _ _ _ _ _ _).mono ?_;rintro e w' ⟨rfl,o6,rfl⟩)|(go_at_call 248;refine (kQ _ _ _ _ _ _ ?h0 ?h1 ?h2 ?h3).mono ?_;(case h0=>omega);(case h1=>omega);(case h2=>omega);(case h3=>omega);rintro e w' ⟨rfl,o1,o2,o3,rfl⟩)|(go_at_call 247;refine (bf _ _ _ _ _ _).mono ?_;rintro e w' ⟨rfl,o4,o5,rfl⟩))
 all_goals go_wp2_with fail
 all_goals
  refine bodyPost_ret (v:=.agg #[iv (v/2+Pl.hi 1 v*128),iv 8,iv (v%2),iv (v%2),.bool t]) ?_ rfl ⟨?_,?_⟩
  ·rw [aU rfl];go_simp
  ·exact rA E1.o rfl E2.o E3.o rfl
  ·(repeat' (first|with_reducible exact Below.refl _ _|with_reducible refine Below.drew ?_|with_reducible refine Below.alloc ?_ ?_ _|(simp;done)|(simp;omega)))
theorem Ih (v x f:Int) (t:Bool) (w:World) (h0:0≤v) (h1:v<256) (x0:0≤x) (x1:x≤1) :
  Calls prog 231 #[.agg #[iv v,iv 8,iv x,iv f,.bool t]] w fun e w'=>e=.returned (.agg #[iv (Pl.nv 2 1 x v),iv 8,iv (Pl.nx 2 1 x v),iv (Pl.fell 2 1 v),.bool t])∧Below w.heap.size w w':=by
 obtain ⟨b0,b1⟩:=Pl.dS 1 v
 have E1:Hid ((v*2%256)=Pl.nv 2 1 x v):=hide (by simp only [Pl.nv,Pl.inn,Pl.fell,Pl.top,Int.reduceMod,Int.reduceEq,Int.reduceLE,Int.reduceDiv,if_true,if_false,or_self,or_true,true_or,or_false,false_or]<;>omega)
 have E2:Hid ((Pl.hi 1 v)=Pl.nx 2 1 x v):=hide (by simp only [Pl.nx,Pl.fell,Int.reduceMod,Int.reduceEq,if_true,if_false,or_self,or_true,true_or,or_false,false_or])
 have E3:Hid ((Pl.hi 1 v)=Pl.fell 2 1 v):=hide (by simp only [Pl.fell,Int.reduceMod,Int.reduceEq,if_true,if_false])
 go_enter func231,ntmps231
 go_wp2_with (first|(go_at_call 237;refine (fP _ _ _ _ _ ?h0 ?h1).mono ?_;(case h0=>omega);(case h1=>omega);rintro e w' ⟨rfl,o6,rfl⟩)|(go_at_call 249;refine (lowest _ _ _ _ _ _).mono ?_;rintro e w' ⟨rfl,o6,rfl⟩)|(go_at_call 246;refine (qx _ _ _ _ _ _ ?h0 ?h1 ?h2 ?h3).mono ?_;(case h0=>omega);(case h1=>omega);(case h2=>omega);(case h3=>omega);rintro e w' ⟨rfl,o1,o2,o3,rfl⟩)|(go_at_call 247;refine (bf _ _ _ _ _ _).mono ?_;rintro e w' ⟨rfl,o4,o5,rfl⟩))
 all_goals
  refine bodyPost_ret (v:=.agg #[iv (v*2%256),iv 8,iv (Pl.hi 1 v),iv (Pl.hi 1 v),.bool t]) ?_ rfl ⟨?_,?_⟩
  ·rw [aU rfl];go_simp
  ·exact rA E1.o rfl E2.o E3.o rfl
  ·(repeat' (first|with_reducible exact Below.refl _ _|with_reducible refine Below.drew ?_|with_reducible refine Below.alloc ?_ ?_ _|(simp;done)|(simp;omega)))
theorem AZ (v x f:Int) (t:Bool) (w:World) (h0:0≤v) (h1:v<256) (x0:0≤x) (x1:x≤1) :
  Calls prog 232 #[.agg #[iv v,iv 8,iv x,iv f,.bool t]] w fun e w'=>e=.returned (.agg #[iv (Pl.nv 3 1 x v),iv 8,iv (Pl.nx 3 1 x v),iv (Pl.fell 3 1 v),.bool t])∧Below w.heap.size w w':=by
 obtain ⟨b0,b1⟩:=Pl.dS 1 v
 have E1:Hid ((v/2)=Pl.nv 3 1 x v):=hide (by simp only [Pl.nv,Pl.inn,Pl.fell,Pl.top,Int.reduceMod,Int.reduceEq,Int.reduceLE,Int.reduceDiv,if_true,if_false,or_self,or_true,true_or,or_false,false_or]<;>omega)
 have E2:Hid ((v%2)=Pl.nx 3 1 x v):=hide (by simp only [Pl.nx,Pl.fell,Int.reduceMod,Int.reduceEq,if_true,if_false,or_self,or_true,true_or,or_false,false_or])
 have E3:Hid ((v%2)=Pl.fell 3 1 v):=hide (by simp only [Pl.fell,Int.reduceMod,Int.reduceEq,if_true,if_false])
 go_enter func232,ntmps232
 go_wp2_with (first|(go_at_call 237;refine (fP _ _ _ _ _ ?h0 ?h1).mono ?_;(case h0=>omega);(case h1=>omega);rintro e w' ⟨rfl,o6,rfl⟩)|(go_at_call 249;refine (lowest _ _ _ _ _ _).mono ?_;rintro e w' ⟨rfl,o6,rfl⟩)|(go_at_call 248;refine (kQ _ _ _ _ _ _ ?h0 ?h1 ?h2 ?h3).mono ?_;(case h0=>omega);(case h1=>omega);(case h2=>omega);(case h3=>omega);rintro e w' ⟨rfl,o1,o2,o3,rfl⟩)|(go_at_call 247;refine (bf _ _ _ _ _ _).mono ?_;rintro e w' ⟨rfl,o4,o5,rfl⟩))
 all_goals
  refine bodyPost_ret (v:=.agg #[iv (v/2),iv 8,iv (v%2),iv (v%2),.bool t]) ?_ rfl ⟨?_,?_⟩
  ·rw [aU rfl];go_simp
  ·exact rA E1.o rfl E2.o E3.o rfl
  ·(repeat' (first|with_reducible exact Below.refl _ _|with_reducible refine Below.drew ?_|with_reducible refine Below.alloc ?_ ?_ _|(simp;done)|(simp;omega)))
theorem Nb (v x f:Int) (t:Bool) (w:World) (h0:0≤v) (h1:v<256) (x0:0≤x) (x1:x≤1) :
  Calls prog 233 #[.agg #[iv v,iv 8,iv x,iv f,.bool t]] w fun e w'=>e=.returned (.agg #[iv (Pl.nv 4 1 x v),iv 8,iv (Pl.nx 4 1 x v),iv (Pl.fell 4 1 v),.bool t])∧Below w.heap.size w w':=by
 obtain ⟨b0,b1⟩:=Pl.dS 1 v
 have E1:Hid ((v*2%256+Pl.hi 1 v)=Pl.nv 4 1 x v):=hide (by simp only [Pl.nv,Pl.inn,Pl.fell,Pl.top,Int.reduceMod,Int.reduceEq,Int.reduceLE,Int.reduceDiv,if_true,if_false,or_self,or_true,true_or,or_false,false_or]<;>omega)
 have E2:Hid (x=Pl.nx 4 1 x v):=hide (by simp only [Pl.nx,Pl.fell,Int.reduceMod,Int.reduceEq,if_true,if_false,or_self,or_true,true_or,or_false,false_or])
 have E3:Hid ((Pl.hi 1 v)=Pl.fell 4 1 v):=hide (by simp only [Pl.fell,Int.reduceMod,Int.reduceEq,if_true,if_false])
 go_enter func233,ntmps233
 go_wp2_with (first|(go_at_call 237;refine (fP _ _ _ _ _ ?h0 ?h1).mono ?_;(case h0=>omega);(case h1=>omega);rintro e w' ⟨rfl,o6,rfl⟩)|(go_at_call 249;refine (lowest _ _ _ _ _ _).mono ?_;rintro e w' ⟨rfl,o6,rfl⟩)|(go_at_call 246;refine (qx _ _ _ _ _ _ ?h0 ?h1 ?h2 ?h3).mono ?_;(case h0=>omega);(case h1=>omega);(case h2=>omega);(case h3=>omega);rintro e w' ⟨rfl,o1,o2,o3,rfl⟩)|(go_at_call 247;refine (bf _ _ _ _ _ _).mono ?_;rintro e w' ⟨rfl,o4,o5,rfl⟩))
 go_region_with (first|(go_at_call 237;refine (fP _ _ _ _ _ ?h0 ?h1).mono ?_;(case h0=>omega);(case h1=>omega);rintro e w' ⟨rfl,o6,rfl⟩)|(go_at_call 249;refine (lowest _ _ _ _ _ _).mono ?_;rintro e w' ⟨rfl,o6,rfl⟩)|(go_at_call 246;refine (qx _ _ _ _ _ _ ?h0 ?h1 ?h2 ?h3).mono ?_;(case h0=>omega);(case h1=>omega);(case h2=>omega);(case h3=>omega);rintro e w' ⟨rfl,o1,o2,o3,rfl⟩)|(go_at_call 247;refine (bf _ _ _ _ _ _).mono ?_;rintro e w' ⟨rfl,o4,o5,rfl⟩))
 all_goals go_wp2_with fail
 all_goals
  refine bodyPost_ret (v:=.agg #[iv (v*2%256+Pl.hi 1 v),iv 8,iv x,iv (Pl.hi 1 v),.bool t]) ?_ rfl ⟨?_,?_⟩
  ·rw [aU rfl];go_simp
  ·exact rA E1.o rfl E2.o E3.o rfl
  ·(repeat' (first|with_reducible exact Below.refl _ _|with_reducible refine Below.drew ?_|with_reducible refine Below.alloc ?_ ?_ _|(simp;done)|(simp;omega)))
theorem Ep (v x f:Int) (t:Bool) (w:World) (h0:0≤v) (h1:v<256) (x0:0≤x) (x1:x≤1) :
  Calls prog 234 #[.agg #[iv v,iv 8,iv x,iv f,.bool t]] w fun e w'=>e=.returned (.agg #[iv (Pl.nv 5 1 x v),iv 8,iv (Pl.nx 5 1 x v),iv (Pl.fell 5 1 v),.bool t])∧Below w.heap.size w w':=by
 obtain ⟨b0,b1⟩:=Pl.dS 1 v
 have E1:Hid ((v/2+v%2*128)=Pl.nv 5 1 x v):=hide (by simp only [Pl.nv,Pl.inn,Pl.fell,Pl.top,Int.reduceMod,Int.reduceEq,Int.reduceLE,Int.reduceDiv,if_true,if_false,or_self,or_true,true_or,or_false,false_or]<;>omega)
 have E2:Hid (x=Pl.nx 5 1 x v):=hide (by simp only [Pl.nx,Pl.fell,Int.reduceMod,Int.reduceEq,if_true,if_false,or_self,or_true,true_or,or_false,false_or])
 have E3:Hid ((v%2)=Pl.fell 5 1 v):=hide (by simp only [Pl.fell,Int.reduceMod,Int.reduceEq,if_true,if_false])
 go_enter func234,ntmps234
 go_wp2_with (first|(go_at_call 237;refine (fP _ _ _ _ _ ?h0 ?h1).mono ?_;(case h0=>omega);(case h1=>omega);rintro e w' ⟨rfl,o6,rfl⟩)|(go_at_call 249;refine (lowest _ _ _ _ _ _).mono ?_;rintro e w' ⟨rfl,o6,rfl⟩)|(go_at_call 248;refine (kQ _ _ _ _ _ _ ?h0 ?h1 ?h2 ?h3).mono ?_;(case h0=>omega);(case h1=>omega);(case h2=>omega);(case h3=>omega);rintro e w' ⟨rfl,o1,o2,o3,rfl⟩)|(go_at_call 247;refine (bf _ _ _ _ _ _).mono ?_;rintro e w' ⟨rfl,o4,o5,rfl⟩))
 go_region_with (first|(go_at_call 237;refine (fP _ _ _ _ _ ?h0 ?h1).mono ?_;(case h0=>omega);(case h1=>omega);rintro e w' ⟨rfl,o6,rfl⟩)|(go_at_call 249;refine (lowest _ _ _ _ _ _).mono ?_;rintro e w' ⟨rfl,o6,rfl⟩)|(go_at_call 248;refine (kQ _ _ _ _ _ _ ?h0 ?h1 ?h2 ?h3).mono ?_;(case h0=>omega);(case h1=>omega);(case h2=>omega);(case h3=>omega);rintro e w' ⟨rfl,o1,o2,o3,rfl⟩)|(go_at_call 247;refine (bf _ _ _ _ _ _).mono ?_;rintro e w' ⟨rfl,o4,o5,rfl⟩))
 all_goals go_wp2_with fail
 all_goals
  refine bodyPost_ret (v:=.agg #[iv (v/2+v%2*128),iv 8,iv x,iv (v%2),.bool t]) ?_ rfl ⟨?_,?_⟩
  ·rw [aU rfl];go_simp
  ·exact rA E1.o rfl E2.o E3.o rfl
  ·(repeat' (first|with_reducible exact Below.refl _ _|with_reducible refine Below.drew ?_|with_reducible refine Below.alloc ?_ ?_ _|(simp;done)|(simp;omega)))
theorem oP (v x f:Int) (t:Bool) (w:World) (h0:0≤v) (h1:v<256) (x0:0≤x) (x1:x≤1) :
  Calls prog 235 #[.agg #[iv v,iv 8,iv x,iv f,.bool t]] w fun e w'=>e=.returned (.agg #[iv (Pl.nv 6 1 x v),iv 8,iv (Pl.nx 6 1 x v),iv (Pl.fell 6 1 v),.bool t])∧Below w.heap.size w w':=by
 obtain ⟨b0,b1⟩:=Pl.dS 1 v
 have E1:Hid ((v*2%256+x)=Pl.nv 6 1 x v):=hide (by simp only [Pl.nv,Pl.inn,Pl.fell,Pl.top,Int.reduceMod,Int.reduceEq,Int.reduceLE,Int.reduceDiv,if_true,if_false,or_self,or_true,true_or,or_false,false_or]<;>omega)
 have E2:Hid ((Pl.hi 1 v)=Pl.nx 6 1 x v):=hide (by simp only [Pl.nx,Pl.fell,Int.reduceMod,Int.reduceEq,if_true,if_false,or_self,or_true,true_or,or_false,false_or])
 have E3:Hid ((Pl.hi 1 v)=Pl.fell 6 1 v):=hide (by simp only [Pl.fell,Int.reduceMod,Int.reduceEq,if_true,if_false])
 go_enter func235,ntmps235
 go_wp2_with (first|(go_at_call 237;refine (fP _ _ _ _ _ ?h0 ?h1).mono ?_;(case h0=>omega);(case h1=>omega);rintro e w' ⟨rfl,o6,rfl⟩)|(go_at_call 249;refine (lowest _ _ _ _ _ _).mono ?_;rintro e w' ⟨rfl,o6,rfl⟩)|(go_at_call 246;refine (qx _ _ _ _ _ _ ?h0 ?h1 ?h2 ?h3).mono ?_;(case h0=>omega);(case h1=>omega);(case h2=>omega);(case h3=>omega);rintro e w' ⟨rfl,o1,o2,o3,rfl⟩)|(go_at_call 247;refine (bf _ _ _ _ _ _).mono ?_;rintro e w' ⟨rfl,o4,o5,rfl⟩))
 all_goals
  refine bodyPost_ret (v:=.agg #[iv (v*2%256+x),iv 8,iv (Pl.hi 1 v),iv (Pl.hi 1 v),.bool t]) ?_ rfl ⟨?_,?_⟩
  ·rw [aU rfl];go_simp
  ·exact rA E1.o rfl E2.o E3.o rfl
  ·(repeat' (first|with_reducible exact Below.refl _ _|with_reducible refine Below.drew ?_|with_reducible refine Below.alloc ?_ ?_ _|(simp;done)|(simp;omega)))
theorem nJ (v x f:Int) (t:Bool) (w:World) (h0:0≤v) (h1:v<256) (x0:0≤x) (x1:x≤1) :
  Calls prog 236 #[.agg #[iv v,iv 8,iv x,iv f,.bool t]] w fun e w'=>e=.returned (.agg #[iv (Pl.nv 7 1 x v),iv 8,iv (Pl.nx 7 1 x v),iv (Pl.fell 7 1 v),.bool t])∧Below w.heap.size w w':=by
 obtain ⟨b0,b1⟩:=Pl.dS 1 v
 have E1:Hid ((v/2+x*128)=Pl.nv 7 1 x v):=hide (by simp only [Pl.nv,Pl.inn,Pl.fell,Pl.top,Int.reduceMod,Int.reduceEq,Int.reduceLE,Int.reduceDiv,if_true,if_false,or_self,or_true,true_or,or_false,false_or]<;>omega)
 have E2:Hid ((v%2)=Pl.nx 7 1 x v):=hide (by simp only [Pl.nx,Pl.fell,Int.reduceMod,Int.reduceEq,if_true,if_false,or_self,or_true,true_or,or_false,false_or])
 have E3:Hid ((v%2)=Pl.fell 7 1 v):=hide (by simp only [Pl.fell,Int.reduceMod,Int.reduceEq,if_true,if_false])
 go_enter func236,ntmps236
 go_wp2_with (first|(go_at_call 237;refine (fP _ _ _ _ _ ?h0 ?h1).mono ?_;(case h0=>omega);(case h1=>omega);rintro e w' ⟨rfl,o6,rfl⟩)|(go_at_call 249;refine (lowest _ _ _ _ _ _).mono ?_;rintro e w' ⟨rfl,o6,rfl⟩)|(go_at_call 248;refine (kQ _ _ _ _ _ _ ?h0 ?h1 ?h2 ?h3).mono ?_;(case h0=>omega);(case h1=>omega);(case h2=>omega);(case h3=>omega);rintro e w' ⟨rfl,o1,o2,o3,rfl⟩)|(go_at_call 247;refine (bf _ _ _ _ _ _).mono ?_;rintro e w' ⟨rfl,o4,o5,rfl⟩))
 all_goals
  refine bodyPost_ret (v:=.agg #[iv (v/2+x*128),iv 8,iv (v%2),iv (v%2),.bool t]) ?_ rfl ⟨?_,?_⟩
  ·rw [aU rfl];go_simp
  ·exact rA E1.o rfl E2.o E3.o rfl
  ·(repeat' (first|with_reducible exact Below.refl _ _|with_reducible refine Below.drew ?_|with_reducible refine Below.alloc ?_ ?_ _|(simp;done)|(simp;omega)))
set_option linter.unusedSimpArgs false
theorem wM (v x f:Int) (t:Bool) (w:World) (h0:0≤v) (h1:v<65536) (x0:0≤x) (x1:x≤1) :
  Calls prog 229 #[.agg #[iv v,iv 16,iv x,iv f,.bool t]] w fun e w'=>e=.returned (.agg #[iv (Pl.nv 0 2 x v),iv 16,iv (Pl.nx 0 2 x v),iv (Pl.fell 0 2 v),.bool (Pl.vfl 0 2 x v)])∧Below w.heap.size w w':=by
 obtain ⟨b0,b1⟩:=Pl.dS 2 v
 have E1:Hid ((v*2%65536)=Pl.nv 0 2 x v):=hide (by simp only [Pl.nv,Pl.inn,Pl.fell,Pl.top,Int.reduceMod,Int.reduceEq,Int.reduceLE,Int.reduceDiv,if_true,if_false,or_self,or_true,true_or,or_false,false_or]<;>omega)
 have E2:Hid ((Pl.hi 2 v)=Pl.nx 0 2 x v):=hide (by simp only [Pl.nx,Pl.fell,Int.reduceMod,Int.reduceEq,if_true,if_false,or_self,or_true,true_or,or_false,false_or])
 have E3:Hid ((Pl.hi 2 v)=Pl.fell 0 2 v):=hide (by simp only [Pl.fell,Int.reduceMod,Int.reduceEq,if_true,if_false])
 have E4:Hid ((Pl.hi 2 (v*2%65536) != Pl.hi 2 v)=Pl.vfl 0 2 x v):=hide (by rw [Pl.vfl,←E1.o,Pl.ny];rfl)
 go_enter func229,ntmps229
 go_wp2_with (first|(go_at_call 237;refine (fO _ _ _ _ _ ?h0 ?h1).mono ?_;(case h0=>omega);(case h1=>omega);rintro e w' ⟨rfl,o6,rfl⟩)|(go_at_call 249;refine (lowest _ _ _ _ _ _).mono ?_;rintro e w' ⟨rfl,o6,rfl⟩)|(go_at_call 246;refine (qw _ _ _ _ _ _ ?h0 ?h1 ?h2 ?h3).mono ?_;(case h0=>omega);(case h1=>omega);(case h2=>omega);(case h3=>omega);rintro e w' ⟨rfl,o1,o2,o3,rfl⟩)|(go_at_call 247;refine (bf _ _ _ _ _ _).mono ?_;rintro e w' ⟨rfl,o4,o5,rfl⟩))
 go_region_with (first|(go_at_call 237;refine (fO _ _ _ _ _ ?h0 ?h1).mono ?_;(case h0=>omega);(case h1=>omega);rintro e w' ⟨rfl,o6,rfl⟩)|(go_at_call 249;refine (lowest _ _ _ _ _ _).mono ?_;rintro e w' ⟨rfl,o6,rfl⟩)|(go_at_call 246;refine (qw _ _ _ _ _ _ ?h0 ?h1 ?h2 ?h3).mono ?_;(case h0=>omega);(case h1=>omega);(case h2=>omega);(case h3=>omega);rintro e w' ⟨rfl,o1,o2,o3,rfl⟩)|(go_at_call 247;refine (bf _ _ _ _ _ _).mono ?_;rintro e w' ⟨rfl,o4,o5,rfl⟩))
 all_goals go_wp2_with fail
 all_goals
  refine bodyPost_ret (v:=.agg #[iv (v*2%65536),iv 16,iv (Pl.hi 2 v),iv (Pl.hi 2 v),.bool (Pl.hi 2 (v*2%65536) != Pl.hi 2 v)]) ?_ rfl ⟨?_,?_⟩
  ·rw [aU rfl];go_simp
  ·exact rA E1.o rfl E2.o E3.o E4.o
  ·(repeat' (first|with_reducible exact Below.refl _ _|with_reducible refine Below.drew ?_|with_reducible refine Below.alloc ?_ ?_ _|(simp;done)|(simp;omega)))
theorem um (v x f:Int) (t:Bool) (w:World) (h0:0≤v) (h1:v<65536) (x0:0≤x) (x1:x≤1) :
  Calls prog 230 #[.agg #[iv v,iv 16,iv x,iv f,.bool t]] w fun e w'=>e=.returned (.agg #[iv (Pl.nv 1 2 x v),iv 16,iv (Pl.nx 1 2 x v),iv (Pl.fell 1 2 v),.bool t])∧Below w.heap.size w w':=by
 obtain ⟨b0,b1⟩:=Pl.dS 2 v
 have E1:Hid ((v/2+Pl.hi 2 v*32768)=Pl.nv 1 2 x v):=hide (by simp only [Pl.nv,Pl.inn,Pl.fell,Pl.top,Int.reduceMod,Int.reduceEq,Int.reduceLE,Int.reduceDiv,if_true,if_false,or_self,or_true,true_or,or_false,false_or]<;>omega)
 have E2:Hid ((v%2)=Pl.nx 1 2 x v):=hide (by simp only [Pl.nx,Pl.fell,Int.reduceMod,Int.reduceEq,if_true,if_false,or_self,or_true,true_or,or_false,false_or])
 have E3:Hid ((v%2)=Pl.fell 1 2 v):=hide (by simp only [Pl.fell,Int.reduceMod,Int.reduceEq,if_true,if_false])
 go_enter func230,ntmps230
 go_wp2_with (first|(go_at_call 237;refine (fO _ _ _ _ _ ?h0 ?h1).mono ?_;(case h0=>omega);(case h1=>omega);rintro e w' ⟨rfl,o6,rfl⟩)|(go_at_call 249;refine (lowest _ _ _ _ _ _).mono ?_;rintro e w' ⟨rfl,o6,rfl⟩)|(go_at_call 248;refine (kP _ _ _ _ _ _ ?h0 ?h1 ?h2 ?h3).mono ?_;(case h0=>omega);(case h1=>omega);(case h2=>omega);(case h3=>omega);rintro e w' ⟨rfl,o1,o2,o3,rfl⟩)|(go_at_call 247;refine (bf _ _ _ _ _ _).mono ?_;rintro e w' ⟨rfl,o4,o5,rfl⟩))
 go_region_with (first|(go_at_call 237;refine (fO _ _ _ _ _ ?h0 ?h1).mono ?_;(case h0=>omega);(case h1=>omega);rintro e w' ⟨rfl,o6,rfl⟩)|(go_at_call 249;refine (lowest _ _ _ _ _ _).mono ?_;rintro e w' ⟨rfl,o6,rfl⟩)|(go_at_call 248;refine (kP _ _ _ _ _ _ ?h0 ?h1 ?h2 ?h3).mono ?_;(case h0=>omega);(case h1=>omega);(case h2=>omega);(case h3=>omega);rintro e w' ⟨rfl,o1,o2,o3,rfl⟩)|(go_at_call 247;refine (bf _ _ _ _ _ _).mono ?_;rintro e w' ⟨rfl,o4,o5,rfl⟩))
 all_goals go_wp2_with fail
 all_goals
  refine bodyPost_ret (v:=.agg #[iv (v/2+Pl.hi 2 v*32768),iv 16,iv (v%2),iv (v%2),.bool t]) ?_ rfl ⟨?_,?_⟩
  ·rw [aU rfl];go_simp
  ·exact rA E1.o rfl E2.o E3.o rfl
  ·(repeat' (first|with_reducible exact Below.refl _ _|with_reducible refine Below.drew ?_|with_reducible refine Below.alloc ?_ ?_ _|(simp;done)|(simp;omega)))
theorem Ig (v x f:Int) (t:Bool) (w:World) (h0:0≤v) (h1:v<65536) (x0:0≤x) (x1:x≤1) :
  Calls prog 231 #[.agg #[iv v,iv 16,iv x,iv f,.bool t]] w fun e w'=>e=.returned (.agg #[iv (Pl.nv 2 2 x v),iv 16,iv (Pl.nx 2 2 x v),iv (Pl.fell 2 2 v),.bool t])∧Below w.heap.size w w':=by
 obtain ⟨b0,b1⟩:=Pl.dS 2 v
 have E1:Hid ((v*2%65536)=Pl.nv 2 2 x v):=hide (by simp only [Pl.nv,Pl.inn,Pl.fell,Pl.top,Int.reduceMod,Int.reduceEq,Int.reduceLE,Int.reduceDiv,if_true,if_false,or_self,or_true,true_or,or_false,false_or]<;>omega)
 have E2:Hid ((Pl.hi 2 v)=Pl.nx 2 2 x v):=hide (by simp only [Pl.nx,Pl.fell,Int.reduceMod,Int.reduceEq,if_true,if_false,or_self,or_true,true_or,or_false,false_or])
 have E3:Hid ((Pl.hi 2 v)=Pl.fell 2 2 v):=hide (by simp only [Pl.fell,Int.reduceMod,Int.reduceEq,if_true,if_false])
 go_enter func231,ntmps231
 go_wp2_with (first|(go_at_call 237;refine (fO _ _ _ _ _ ?h0 ?h1).mono ?_;(case h0=>omega);(case h1=>omega);rintro e w' ⟨rfl,o6,rfl⟩)|(go_at_call 249;refine (lowest _ _ _ _ _ _).mono ?_;rintro e w' ⟨rfl,o6,rfl⟩)|(go_at_call 246;refine (qw _ _ _ _ _ _ ?h0 ?h1 ?h2 ?h3).mono ?_;(case h0=>omega);(case h1=>omega);(case h2=>omega);(case h3=>omega);rintro e w' ⟨rfl,o1,o2,o3,rfl⟩)|(go_at_call 247;refine (bf _ _ _ _ _ _).mono ?_;rintro e w' ⟨rfl,o4,o5,rfl⟩))
 all_goals
  refine bodyPost_ret (v:=.agg #[iv (v*2%65536),iv 16,iv (Pl.hi 2 v),iv (Pl.hi 2 v),.bool t]) ?_ rfl ⟨?_,?_⟩
  ·rw [aU rfl];go_simp
  ·exact rA E1.o rfl E2.o E3.o rfl
  ·(repeat' (first|with_reducible exact Below.refl _ _|with_reducible refine Below.drew ?_|with_reducible refine Below.alloc ?_ ?_ _|(simp;done)|(simp;omega)))
theorem AY (v x f:Int) (t:Bool) (w:World) (h0:0≤v) (h1:v<65536) (x0:0≤x) (x1:x≤1) :
  Calls prog 232 #[.agg #[iv v,iv 16,iv x,iv f,.bool t]] w fun e w'=>e=.returned (.agg #[iv (Pl.nv 3 2 x v),iv 16,iv (Pl.nx 3 2 x v),iv (Pl.fell 3 2 v),.bool t])∧Below w.heap.size w w':=by
 obtain ⟨b0,b1⟩:=Pl.dS 2 v
 have E1:Hid ((v/2)=Pl.nv 3 2 x v):=hide (by simp only [Pl.nv,Pl.inn,Pl.fell,Pl.top,Int.reduceMod,Int.reduceEq,Int.reduceLE,Int.reduceDiv,if_true,if_false,or_self,or_true,true_or,or_false,false_or]<;>omega)
 have E2:Hid ((v%2)=Pl.nx 3 2 x v):=hide (by simp only [Pl.nx,Pl.fell,Int.reduceMod,Int.reduceEq,if_true,if_false,or_self,or_true,true_or,or_false,false_or])
 have E3:Hid ((v%2)=Pl.fell 3 2 v):=hide (by simp only [Pl.fell,Int.reduceMod,Int.reduceEq,if_true,if_false])
 go_enter func232,ntmps232
 go_wp2_with (first|(go_at_call 237;refine (fO _ _ _ _ _ ?h0 ?h1).mono ?_;(case h0=>omega);(case h1=>omega);rintro e w' ⟨rfl,o6,rfl⟩)|(go_at_call 249;refine (lowest _ _ _ _ _ _).mono ?_;rintro e w' ⟨rfl,o6,rfl⟩)|(go_at_call 248;refine (kP _ _ _ _ _ _ ?h0 ?h1 ?h2 ?h3).mono ?_;(case h0=>omega);(case h1=>omega);(case h2=>omega);(case h3=>omega);rintro e w' ⟨rfl,o1,o2,o3,rfl⟩)|(go_at_call 247;refine (bf _ _ _ _ _ _).mono ?_;rintro e w' ⟨rfl,o4,o5,rfl⟩))
 all_goals
  refine bodyPost_ret (v:=.agg #[iv (v/2),iv 16,iv (v%2),iv (v%2),.bool t]) ?_ rfl ⟨?_,?_⟩
  ·rw [aU rfl];go_simp
  ·exact rA E1.o rfl E2.o E3.o rfl
  ·(repeat' (first|with_reducible exact Below.refl _ _|with_reducible refine Below.drew ?_|with_reducible refine Below.alloc ?_ ?_ _|(simp;done)|(simp;omega)))
theorem Na (v x f:Int) (t:Bool) (w:World) (h0:0≤v) (h1:v<65536) (x0:0≤x) (x1:x≤1) :
  Calls prog 233 #[.agg #[iv v,iv 16,iv x,iv f,.bool t]] w fun e w'=>e=.returned (.agg #[iv (Pl.nv 4 2 x v),iv 16,iv (Pl.nx 4 2 x v),iv (Pl.fell 4 2 v),.bool t])∧Below w.heap.size w w':=by
 obtain ⟨b0,b1⟩:=Pl.dS 2 v
 have E1:Hid ((v*2%65536+Pl.hi 2 v)=Pl.nv 4 2 x v):=hide (by simp only [Pl.nv,Pl.inn,Pl.fell,Pl.top,Int.reduceMod,Int.reduceEq,Int.reduceLE,Int.reduceDiv,if_true,if_false,or_self,or_true,true_or,or_false,false_or]<;>omega)
 have E2:Hid (x=Pl.nx 4 2 x v):=hide (by simp only [Pl.nx,Pl.fell,Int.reduceMod,Int.reduceEq,if_true,if_false,or_self,or_true,true_or,or_false,false_or])
 have E3:Hid ((Pl.hi 2 v)=Pl.fell 4 2 v):=hide (by simp only [Pl.fell,Int.reduceMod,Int.reduceEq,if_true,if_false])
 go_enter func233,ntmps233
 go_wp2_with (first|(go_at_call 237;refine (fO _ _ _ _ _ ?h0 ?h1).mono ?_;(case h0=>omega);(case h1=>omega);rintro e w' ⟨rfl,o6,rfl⟩)|(go_at_call 249;refine (lowest _ _ _ _ _ _).mono ?_;rintro e w' ⟨rfl,o6,rfl⟩)|(go_at_call 246;refine (qw _ _ _ _ _ _ ?h0 ?h1 ?h2 ?h3).mono ?_;(case h0=>omega);(case h1=>omega);(case h2=>omega);(case h3=>omega);rintro e w' ⟨rfl,o1,o2,o3,rfl⟩)|(go_at_call 247;refine (bf _ _ _ _ _ _).mono ?_;rintro e w' ⟨rfl,o4,o5,rfl⟩))
 go_region_with (first|(go_at_call 237;refine (fO _ _ _ _ _ ?h0 ?h1).mono ?_;(case h0=>omega);(case h1=>omega);rintro e w' ⟨rfl,o6,rfl⟩)|(go_at_call 249;refine (lowest _ _ _ _ _ _).mono ?_;rintro e w' ⟨rfl,o6,rfl⟩)|(go_at_call 246;refine (qw _ _ _ _ _ _ ?h0 ?h1 ?h2 ?h3).mono ?_;(case h0=>omega);(case h1=>omega);(case h2=>omega);(case h3=>omega);rintro e w' ⟨rfl,o1,o2,o3,rfl⟩)|(go_at_call 247;refine (bf _ _ _ _ _ _).mono ?_;rintro e w' ⟨rfl,o4,o5,rfl⟩))
 all_goals go_wp2_with fail
 all_goals
  refine bodyPost_ret (v:=.agg #[iv (v*2%65536+Pl.hi 2 v),iv 16,iv x,iv (Pl.hi 2 v),.bool t]) ?_ rfl ⟨?_,?_⟩
  ·rw [aU rfl];go_simp
  ·exact rA E1.o rfl E2.o E3.o rfl
  ·(repeat' (first|with_reducible exact Below.refl _ _|with_reducible refine Below.drew ?_|with_reducible refine Below.alloc ?_ ?_ _|(simp;done)|(simp;omega)))
theorem Eo (v x f:Int) (t:Bool) (w:World) (h0:0≤v) (h1:v<65536) (x0:0≤x) (x1:x≤1) :
  Calls prog 234 #[.agg #[iv v,iv 16,iv x,iv f,.bool t]] w fun e w'=>e=.returned (.agg #[iv (Pl.nv 5 2 x v),iv 16,iv (Pl.nx 5 2 x v),iv (Pl.fell 5 2 v),.bool t])∧Below w.heap.size w w':=by
 obtain ⟨b0,b1⟩:=Pl.dS 2 v
 have E1:Hid ((v/2+v%2*32768)=Pl.nv 5 2 x v):=hide (by simp only [Pl.nv,Pl.inn,Pl.fell,Pl.top,Int.reduceMod,Int.reduceEq,Int.reduceLE,Int.reduceDiv,if_true,if_false,or_self,or_true,true_or,or_false,false_or]<;>omega)
 have E2:Hid (x=Pl.nx 5 2 x v):=hide (by simp only [Pl.nx,Pl.fell,Int.reduceMod,Int.reduceEq,if_true,if_false,or_self,or_true,true_or,or_false,false_or])
 have E3:Hid ((v%2)=Pl.fell 5 2 v):=hide (by simp only [Pl.fell,Int.reduceMod,Int.reduceEq,if_true,if_false])
 go_enter func234,ntmps234
 go_wp2_with (first|(go_at_call 237;refine (fO _ _ _ _ _ ?h0 ?h1).mono ?_;(case h0=>omega);(case h1=>omega);rintro e w' ⟨rfl,o6,rfl⟩)|(go_at_call 249;refine (lowest _ _ _ _ _ _).mono ?_;rintro e w' ⟨rfl,o6,rfl⟩)|(go_at_call 248;refine (kP _ _ _ _ _ _ ?h0 ?h1 ?h2 ?h3).mono ?_;(case h0=>omega);(case h1=>omega);(case h2=>omega);(case h3=>omega);rintro e w' ⟨rfl,o1,o2,o3,rfl⟩)|(go_at_call 247;refine (bf _ _ _ _ _ _).mono ?_;rintro e w' ⟨rfl,o4,o5,rfl⟩))
 go_region_with (first|(go_at_call 237;refine (fO _ _ _ _ _ ?h0 ?h1).mono ?_;(case h0=>omega);(case h1=>omega);rintro e w' ⟨rfl,o6,rfl⟩)|(go_at_call 249;refine (lowest _ _ _ _ _ _).mono ?_;rintro e w' ⟨rfl,o6,rfl⟩)|(go_at_call 248;refine (kP _ _ _ _ _ _ ?h0 ?h1 ?h2 ?h3).mono ?_;(case h0=>omega);(case h1=>omega);(case h2=>omega);(case h3=>omega);rintro e w' ⟨rfl,o1,o2,o3,rfl⟩)|(go_at_call 247;refine (bf _ _ _ _ _ _).mono ?_;rintro e w' ⟨rfl,o4,o5,rfl⟩))
 all_goals go_wp2_with fail
 all_goals
  refine bodyPost_ret (v:=.agg #[iv (v/2+v%2*32768),iv 16,iv x,iv (v%2),.bool t]) ?_ rfl ⟨?_,?_⟩
  ·rw [aU rfl];go_simp
  ·exact rA E1.o rfl E2.o E3.o rfl
  ·(repeat' (first|with_reducible exact Below.refl _ _|with_reducible refine Below.drew ?_|with_reducible refine Below.alloc ?_ ?_ _|(simp;done)|(simp;omega)))
theorem oO (v x f:Int) (t:Bool) (w:World) (h0:0≤v) (h1:v<65536) (x0:0≤x) (x1:x≤1) :
  Calls prog 235 #[.agg #[iv v,iv 16,iv x,iv f,.bool t]] w fun e w'=>e=.returned (.agg #[iv (Pl.nv 6 2 x v),iv 16,iv (Pl.nx 6 2 x v),iv (Pl.fell 6 2 v),.bool t])∧Below w.heap.size w w':=by
 obtain ⟨b0,b1⟩:=Pl.dS 2 v
 have E1:Hid ((v*2%65536+x)=Pl.nv 6 2 x v):=hide (by simp only [Pl.nv,Pl.inn,Pl.fell,Pl.top,Int.reduceMod,Int.reduceEq,Int.reduceLE,Int.reduceDiv,if_true,if_false,or_self,or_true,true_or,or_false,false_or]<;>omega)
 have E2:Hid ((Pl.hi 2 v)=Pl.nx 6 2 x v):=hide (by simp only [Pl.nx,Pl.fell,Int.reduceMod,Int.reduceEq,if_true,if_false,or_self,or_true,true_or,or_false,false_or])
 have E3:Hid ((Pl.hi 2 v)=Pl.fell 6 2 v):=hide (by simp only [Pl.fell,Int.reduceMod,Int.reduceEq,if_true,if_false])
 go_enter func235,ntmps235
 go_wp2_with (first|(go_at_call 237;refine (fO _ _ _ _ _ ?h0 ?h1).mono ?_;(case h0=>omega);(case h1=>omega);rintro e w' ⟨rfl,o6,rfl⟩)|(go_at_call 249;refine (lowest _ _ _ _ _ _).mono ?_;rintro e w' ⟨rfl,o6,rfl⟩)|(go_at_call 246;refine (qw _ _ _ _ _ _ ?h0 ?h1 ?h2 ?h3).mono ?_;(case h0=>omega);(case h1=>omega);(case h2=>omega);(case h3=>omega);rintro e w' ⟨rfl,o1,o2,o3,rfl⟩)|(go_at_call 247;refine (bf _ _ _ _ _ _).mono ?_;rintro e w' ⟨rfl,o4,o5,rfl⟩))
 all_goals
  refine bodyPost_ret (v:=.agg #[iv (v*2%65536+x),iv 16,iv (Pl.hi 2 v),iv (Pl.hi 2 v),.bool t]) ?_ rfl ⟨?_,?_⟩
  ·rw [aU rfl];go_simp
  ·exact rA E1.o rfl E2.o E3.o rfl
  ·(repeat' (first|with_reducible exact Below.refl _ _|with_reducible refine Below.drew ?_|with_reducible refine Below.alloc ?_ ?_ _|(simp;done)|(simp;omega)))
theorem nI (v x f:Int) (t:Bool) (w:World) (h0:0≤v) (h1:v<65536) (x0:0≤x) (x1:x≤1) :
  Calls prog 236 #[.agg #[iv v,iv 16,iv x,iv f,.bool t]] w fun e w'=>e=.returned (.agg #[iv (Pl.nv 7 2 x v),iv 16,iv (Pl.nx 7 2 x v),iv (Pl.fell 7 2 v),.bool t])∧Below w.heap.size w w':=by
 obtain ⟨b0,b1⟩:=Pl.dS 2 v
 have E1:Hid ((v/2+x*32768)=Pl.nv 7 2 x v):=hide (by simp only [Pl.nv,Pl.inn,Pl.fell,Pl.top,Int.reduceMod,Int.reduceEq,Int.reduceLE,Int.reduceDiv,if_true,if_false,or_self,or_true,true_or,or_false,false_or]<;>omega)
 have E2:Hid ((v%2)=Pl.nx 7 2 x v):=hide (by simp only [Pl.nx,Pl.fell,Int.reduceMod,Int.reduceEq,if_true,if_false,or_self,or_true,true_or,or_false,false_or])
 have E3:Hid ((v%2)=Pl.fell 7 2 v):=hide (by simp only [Pl.fell,Int.reduceMod,Int.reduceEq,if_true,if_false])
 go_enter func236,ntmps236
 go_wp2_with (first|(go_at_call 237;refine (fO _ _ _ _ _ ?h0 ?h1).mono ?_;(case h0=>omega);(case h1=>omega);rintro e w' ⟨rfl,o6,rfl⟩)|(go_at_call 249;refine (lowest _ _ _ _ _ _).mono ?_;rintro e w' ⟨rfl,o6,rfl⟩)|(go_at_call 248;refine (kP _ _ _ _ _ _ ?h0 ?h1 ?h2 ?h3).mono ?_;(case h0=>omega);(case h1=>omega);(case h2=>omega);(case h3=>omega);rintro e w' ⟨rfl,o1,o2,o3,rfl⟩)|(go_at_call 247;refine (bf _ _ _ _ _ _).mono ?_;rintro e w' ⟨rfl,o4,o5,rfl⟩))
 all_goals
  refine bodyPost_ret (v:=.agg #[iv (v/2+x*32768),iv 16,iv (v%2),iv (v%2),.bool t]) ?_ rfl ⟨?_,?_⟩
  ·rw [aU rfl];go_simp
  ·exact rA E1.o rfl E2.o E3.o rfl
  ·(repeat' (first|with_reducible exact Below.refl _ _|with_reducible refine Below.drew ?_|with_reducible refine Below.alloc ?_ ?_ _|(simp;done)|(simp;omega)))
set_option linter.unusedSimpArgs false
theorem yN (s v x f W:Int) (t:Bool) (w:World) (h:Pl.Fit s (v,x)) (hW:W=8*s) :
  Calls prog 229 #[.agg #[iv v,iv W,iv x,iv f,.bool t]] w fun e w'=>e=.returned (.agg #[iv (Pl.nv 0 s x v),iv W,iv (Pl.nx 0 s x v),iv (Pl.fell 0 s v),.bool (Pl.vfl 0 s x v)])∧Below w.heap.size w w':=by
 obtain ⟨hs,v0,v1,x0,x1⟩:=h
 simp only at v0 v1 x0 x1
 subst hW
 rcases Pl.nX hs with ⟨rfl,e⟩|⟨rfl,e⟩<;>rw [e] at v1
 ·exact wO v x f t w v0 v1 x0 x1
 ·exact wM v x f t w v0 v1 x0 x1
theorem wz (s v x f W:Int) (t:Bool) (w:World) (h:Pl.Fit s (v,x)) (hW:W=8*s) :
  Calls prog 230 #[.agg #[iv v,iv W,iv x,iv f,.bool t]] w fun e w'=>e=.returned (.agg #[iv (Pl.nv 1 s x v),iv W,iv (Pl.nx 1 s x v),iv (Pl.fell 1 s v),.bool t])∧Below w.heap.size w w':=by
 obtain ⟨hs,v0,v1,x0,x1⟩:=h
 simp only at v0 v1 x0 x1
 subst hW
 rcases Pl.nX hs with ⟨rfl,e⟩|⟨rfl,e⟩<;>rw [e] at v1
 ·exact uo v x f t w v0 v1 x0 x1
 ·exact um v x f t w v0 v1 x0 x1
theorem NR (s v x f W:Int) (t:Bool) (w:World) (h:Pl.Fit s (v,x)) (hW:W=8*s) :
  Calls prog 231 #[.agg #[iv v,iv W,iv x,iv f,.bool t]] w fun e w'=>e=.returned (.agg #[iv (Pl.nv 2 s x v),iv W,iv (Pl.nx 2 s x v),iv (Pl.fell 2 s v),.bool t])∧Below w.heap.size w w':=by
 obtain ⟨hs,v0,v1,x0,x1⟩:=h
 simp only at v0 v1 x0 x1
 subst hW
 rcases Pl.nX hs with ⟨rfl,e⟩|⟨rfl,e⟩<;>rw [e] at v1
 ·exact Ih v x f t w v0 v1 x0 x1
 ·exact Ig v x f t w v0 v1 x0 x1
theorem EG (s v x f W:Int) (t:Bool) (w:World) (h:Pl.Fit s (v,x)) (hW:W=8*s) :
  Calls prog 232 #[.agg #[iv v,iv W,iv x,iv f,.bool t]] w fun e w'=>e=.returned (.agg #[iv (Pl.nv 3 s x v),iv W,iv (Pl.nx 3 s x v),iv (Pl.fell 3 s v),.bool t])∧Below w.heap.size w w':=by
 obtain ⟨hs,v0,v1,x0,x1⟩:=h
 simp only at v0 v1 x0 x1
 subst hW
 rcases Pl.nX hs with ⟨rfl,e⟩|⟨rfl,e⟩<;>rw [e] at v1
 ·exact AZ v x f t w v0 v1 x0 x1
 ·exact AY v x f t w v0 v1 x0 x1
theorem Q9 (s v x f W:Int) (t:Bool) (w:World) (h:Pl.Fit s (v,x)) (hW:W=8*s) :
  Calls prog 233 #[.agg #[iv v,iv W,iv x,iv f,.bool t]] w fun e w'=>e=.returned (.agg #[iv (Pl.nv 4 s x v),iv W,iv (Pl.nx 4 s x v),iv (Pl.fell 4 s v),.bool t])∧Below w.heap.size w w':=by
 obtain ⟨hs,v0,v1,x0,x1⟩:=h
 simp only at v0 v1 x0 x1
 subst hW
 rcases Pl.nX hs with ⟨rfl,e⟩|⟨rfl,e⟩<;>rw [e] at v1
 ·exact Nb v x f t w v0 v1 x0 x1
 ·exact Na v x f t w v0 v1 x0 x1
theorem GY (s v x f W:Int) (t:Bool) (w:World) (h:Pl.Fit s (v,x)) (hW:W=8*s) :
  Calls prog 234 #[.agg #[iv v,iv W,iv x,iv f,.bool t]] w fun e w'=>e=.returned (.agg #[iv (Pl.nv 5 s x v),iv W,iv (Pl.nx 5 s x v),iv (Pl.fell 5 s v),.bool t])∧Below w.heap.size w w':=by
 obtain ⟨hs,v0,v1,x0,x1⟩:=h
 simp only at v0 v1 x0 x1
 subst hW
 rcases Pl.nX hs with ⟨rfl,e⟩|⟨rfl,e⟩<;>rw [e] at v1
 ·exact Ep v x f t w v0 v1 x0 x1
 ·exact Eo v x f t w v0 v1 x0 x1
theorem qG (s v x f W:Int) (t:Bool) (w:World) (h:Pl.Fit s (v,x)) (hW:W=8*s) :
  Calls prog 235 #[.agg #[iv v,iv W,iv x,iv f,.bool t]] w fun e w'=>e=.returned (.agg #[iv (Pl.nv 6 s x v),iv W,iv (Pl.nx 6 s x v),iv (Pl.fell 6 s v),.bool t])∧Below w.heap.size w w':=by
 obtain ⟨hs,v0,v1,x0,x1⟩:=h
 simp only at v0 v1 x0 x1
 subst hW
 rcases Pl.nX hs with ⟨rfl,e⟩|⟨rfl,e⟩<;>rw [e] at v1
 ·exact oP v x f t w v0 v1 x0 x1
 ·exact oO v x f t w v0 v1 x0 x1
theorem og (s v x f W:Int) (t:Bool) (w:World) (h:Pl.Fit s (v,x)) (hW:W=8*s) :
  Calls prog 236 #[.agg #[iv v,iv W,iv x,iv f,.bool t]] w fun e w'=>e=.returned (.agg #[iv (Pl.nv 7 s x v),iv W,iv (Pl.nx 7 s x v),iv (Pl.fell 7 s v),.bool t])∧Below w.heap.size w w':=by
 obtain ⟨hs,v0,v1,x0,x1⟩:=h
 simp only at v0 v1 x0 x1
 subst hW
 rcases Pl.nX hs with ⟨rfl,e⟩|⟨rfl,e⟩<;>rw [e] at v1
 ·exact nJ v x f t w v0 v1 x0 x1
 ·exact nI v x f t w v0 v1 x0 x1
theorem Sj (s v x f W:Int) (t:Bool) (w:World) (h:Pl.Fit s (v,x)) (hW:W=8*s) :
  Calls prog 211 #[.agg #[iv v,iv W,iv x,iv f,.bool t],iv 0] w fun e w'=>e=.returned (.agg #[iv (Pl.nv 0 s x v),iv W,iv (Pl.nx 0 s x v),iv (Pl.fell 0 s v),.bool (Pl.vfl 0 s x v)])∧Below w.heap.size w w':=by
 have hst:=iF
 have E4:Hid (Pl.vfl 0 s x v=Pl.vfl 0 s x v):=hide (by rfl)
 have HF:=hide h
 have HWW:=hide hW
 clear h hW
 go_enter func211,ntmps211
 go_wp2_with fail
 clear hst
 obtain ⟨X,hX⟩:∃X:World,X=(((w.alloc (.cells #[iv v,iv W,iv x,iv f,.bool t] 207)).alloc (.cells ftZ 207)).alloc (.cells #[.func (.func 229) #[] #[],.func (.func 230) #[] #[],.func (.func 231) #[] #[],.func (.func 232) #[] #[],.func (.func 233) #[] #[],.func (.func 234) #[] #[],.func (.func 235) #[] #[],.func (.func 236) #[] #[]] 226)):=⟨_,rfl⟩
 rw [←hX]
 have B1:Box X w.heap.size v W x f t:=by rw [hX];exact Box.zt _ _ _ _ _ _ _ _
 have B2:Box X (w.heap.size+1) 0 0 0 0 false:=by rw [hX];exact Box.zq _ _ _ _ _ _ _ _
 have hF:X.cell? ⟨w.heap.size+1+1,0,none⟩=some (.func (.func 229) #[] #[]):=by rw [hX];go_simp
 have HX:Hid (Below w.heap.size w X):=hide (by rw [hX];exact (((Below.refl _ _).alloc (by simp) _).alloc (by simp) _).alloc (by simp<;>omega) _)
 clear hX
 obtain ⟨a0,a1,a2,a3,a4,_,_,_,_,_⟩:=B1.cells
 have HB2:=hide B2
 clear B1 B2
 go_region_with (go_at_call 229;refine (yN s v x f W t _ HF.o HWW.o).mono ?_;rintro e wt ⟨rfl,hb0⟩;have hb:=oN hb0;clear hb0;have HBt:=hide (HB2.o.later hb);obtain ⟨c0,c1,c2,c3,c4,g0,g1,g2,g3,g4⟩:=HBt.o.cells;have HB:=hide hb;clear hb a0 a1 a2 a3 a4 hF)
 all_goals
  go_wp2_with fail
  refine bodyPost_ret (v:=.agg #[iv (Pl.nv 0 s x v),iv W,iv (Pl.nx 0 s x v),iv (Pl.fell 0 s v),.bool (Pl.vfl 0 s x v)]) ?_ rfl ⟨?_,?_⟩
  ·exact gK rfl _ rfl (HBt.o.set)
  ·exact rA rfl rfl rfl rfl rfl
  ·exact (((((HX.o.trans (HB.o.mono HX.o.size)).setCell (by simp) _).setCell (by simp) _).setCell (by simp) _).setCell (by simp) _).setCell (by simp) _
theorem Si (s v x f W:Int) (w:World) (h:Pl.Fit s (v,x)) (hW:W=8*s) :
  Calls prog 211 #[.agg #[iv v,iv W,iv x,iv f,.bool false],iv 1] w fun e w'=>e=.returned (.agg #[iv (Pl.nv 1 s x v),iv W,iv (Pl.nx 1 s x v),iv (Pl.fell 1 s v),.bool (Pl.vfl 1 s x v)])∧Below w.heap.size w w':=by
 have hst:=iF
 have E4:Hid (false=Pl.vfl 1 s x v):=hide (by simp [Pl.vfl])
 have HF:=hide h
 have HWW:=hide hW
 clear h hW
 go_enter func211,ntmps211
 go_wp2_with fail
 clear hst
 obtain ⟨X,hX⟩:∃X:World,X=(((w.alloc (.cells #[iv v,iv W,iv x,iv f,.bool false] 207)).alloc (.cells ftZ 207)).alloc (.cells #[.func (.func 229) #[] #[],.func (.func 230) #[] #[],.func (.func 231) #[] #[],.func (.func 232) #[] #[],.func (.func 233) #[] #[],.func (.func 234) #[] #[],.func (.func 235) #[] #[],.func (.func 236) #[] #[]] 226)):=⟨_,rfl⟩
 rw [←hX]
 have B1:Box X w.heap.size v W x f false:=by rw [hX];exact Box.zt _ _ _ _ _ _ _ _
 have B2:Box X (w.heap.size+1) 0 0 0 0 false:=by rw [hX];exact Box.zq _ _ _ _ _ _ _ _
 have hF:X.cell? ⟨w.heap.size+1+1,1,none⟩=some (.func (.func 230) #[] #[]):=by rw [hX];go_simp
 have HX:Hid (Below w.heap.size w X):=hide (by rw [hX];exact (((Below.refl _ _).alloc (by simp) _).alloc (by simp) _).alloc (by simp<;>omega) _)
 clear hX
 obtain ⟨a0,a1,a2,a3,a4,_,_,_,_,_⟩:=B1.cells
 have HB2:=hide B2
 clear B1 B2
 go_region_with (go_at_call 230;refine (wz s v x f W false _ HF.o HWW.o).mono ?_;rintro e wt ⟨rfl,hb0⟩;have hb:=oN hb0;clear hb0;have HBt:=hide (HB2.o.later hb);obtain ⟨c0,c1,c2,c3,c4,g0,g1,g2,g3,g4⟩:=HBt.o.cells;have HB:=hide hb;clear hb a0 a1 a2 a3 a4 hF)
 all_goals
  go_wp2_with fail
  refine bodyPost_ret (v:=.agg #[iv (Pl.nv 1 s x v),iv W,iv (Pl.nx 1 s x v),iv (Pl.fell 1 s v),.bool false]) ?_ rfl ⟨?_,?_⟩
  ·exact gK rfl _ rfl (HBt.o.set)
  ·exact rA rfl rfl rfl rfl E4.o
  ·exact (((((HX.o.trans (HB.o.mono HX.o.size)).setCell (by simp) _).setCell (by simp) _).setCell (by simp) _).setCell (by simp) _).setCell (by simp) _
theorem RZ (s v x f W:Int) (w:World) (h:Pl.Fit s (v,x)) (hW:W=8*s) :
  Calls prog 211 #[.agg #[iv v,iv W,iv x,iv f,.bool false],iv 2] w fun e w'=>e=.returned (.agg #[iv (Pl.nv 2 s x v),iv W,iv (Pl.nx 2 s x v),iv (Pl.fell 2 s v),.bool (Pl.vfl 2 s x v)])∧Below w.heap.size w w':=by
 have hst:=iF
 have E4:Hid (false=Pl.vfl 2 s x v):=hide (by simp [Pl.vfl])
 have HF:=hide h
 have HWW:=hide hW
 clear h hW
 go_enter func211,ntmps211
 go_wp2_with fail
 clear hst
 obtain ⟨X,hX⟩:∃X:World,X=(((w.alloc (.cells #[iv v,iv W,iv x,iv f,.bool false] 207)).alloc (.cells ftZ 207)).alloc (.cells #[.func (.func 229) #[] #[],.func (.func 230) #[] #[],.func (.func 231) #[] #[],.func (.func 232) #[] #[],.func (.func 233) #[] #[],.func (.func 234) #[] #[],.func (.func 235) #[] #[],.func (.func 236) #[] #[]] 226)):=⟨_,rfl⟩
 rw [←hX]
 have B1:Box X w.heap.size v W x f false:=by rw [hX];exact Box.zt _ _ _ _ _ _ _ _
 have B2:Box X (w.heap.size+1) 0 0 0 0 false:=by rw [hX];exact Box.zq _ _ _ _ _ _ _ _
 have hF:X.cell? ⟨w.heap.size+1+1,2,none⟩=some (.func (.func 231) #[] #[]):=by rw [hX];go_simp
 have HX:Hid (Below w.heap.size w X):=hide (by rw [hX];exact (((Below.refl _ _).alloc (by simp) _).alloc (by simp) _).alloc (by simp<;>omega) _)
 clear hX
 obtain ⟨a0,a1,a2,a3,a4,_,_,_,_,_⟩:=B1.cells
 have HB2:=hide B2
 clear B1 B2
 go_region_with (go_at_call 231;refine (NR s v x f W false _ HF.o HWW.o).mono ?_;rintro e wt ⟨rfl,hb0⟩;have hb:=oN hb0;clear hb0;have HBt:=hide (HB2.o.later hb);obtain ⟨c0,c1,c2,c3,c4,g0,g1,g2,g3,g4⟩:=HBt.o.cells;have HB:=hide hb;clear hb a0 a1 a2 a3 a4 hF)
 all_goals
  go_wp2_with fail
  refine bodyPost_ret (v:=.agg #[iv (Pl.nv 2 s x v),iv W,iv (Pl.nx 2 s x v),iv (Pl.fell 2 s v),.bool false]) ?_ rfl ⟨?_,?_⟩
  ·exact gK rfl _ rfl (HBt.o.set)
  ·exact rA rfl rfl rfl rfl E4.o
  ·exact (((((HX.o.trans (HB.o.mono HX.o.size)).setCell (by simp) _).setCell (by simp) _).setCell (by simp) _).setCell (by simp) _).setCell (by simp) _
theorem RY (s v x f W:Int) (w:World) (h:Pl.Fit s (v,x)) (hW:W=8*s) :
  Calls prog 211 #[.agg #[iv v,iv W,iv x,iv f,.bool false],iv 3] w fun e w'=>e=.returned (.agg #[iv (Pl.nv 3 s x v),iv W,iv (Pl.nx 3 s x v),iv (Pl.fell 3 s v),.bool (Pl.vfl 3 s x v)])∧Below w.heap.size w w':=by
 have hst:=iF
 have E4:Hid (false=Pl.vfl 3 s x v):=hide (by simp [Pl.vfl])
 have HF:=hide h
 have HWW:=hide hW
 clear h hW
 go_enter func211,ntmps211
 go_wp2_with fail
 clear hst
 obtain ⟨X,hX⟩:∃X:World,X=(((w.alloc (.cells #[iv v,iv W,iv x,iv f,.bool false] 207)).alloc (.cells ftZ 207)).alloc (.cells #[.func (.func 229) #[] #[],.func (.func 230) #[] #[],.func (.func 231) #[] #[],.func (.func 232) #[] #[],.func (.func 233) #[] #[],.func (.func 234) #[] #[],.func (.func 235) #[] #[],.func (.func 236) #[] #[]] 226)):=⟨_,rfl⟩
 rw [←hX]
 have B1:Box X w.heap.size v W x f false:=by rw [hX];exact Box.zt _ _ _ _ _ _ _ _
 have B2:Box X (w.heap.size+1) 0 0 0 0 false:=by rw [hX];exact Box.zq _ _ _ _ _ _ _ _
 have hF:X.cell? ⟨w.heap.size+1+1,3,none⟩=some (.func (.func 232) #[] #[]):=by rw [hX];go_simp
 have HX:Hid (Below w.heap.size w X):=hide (by rw [hX];exact (((Below.refl _ _).alloc (by simp) _).alloc (by simp) _).alloc (by simp<;>omega) _)
 clear hX
 obtain ⟨a0,a1,a2,a3,a4,_,_,_,_,_⟩:=B1.cells
 have HB2:=hide B2
 clear B1 B2
 go_region_with (go_at_call 232;refine (EG s v x f W false _ HF.o HWW.o).mono ?_;rintro e wt ⟨rfl,hb0⟩;have hb:=oN hb0;clear hb0;have HBt:=hide (HB2.o.later hb);obtain ⟨c0,c1,c2,c3,c4,g0,g1,g2,g3,g4⟩:=HBt.o.cells;have HB:=hide hb;clear hb a0 a1 a2 a3 a4 hF)
 all_goals
  go_wp2_with fail
  refine bodyPost_ret (v:=.agg #[iv (Pl.nv 3 s x v),iv W,iv (Pl.nx 3 s x v),iv (Pl.fell 3 s v),.bool false]) ?_ rfl ⟨?_,?_⟩
  ·exact gK rfl _ rfl (HBt.o.set)
  ·exact rA rfl rfl rfl rfl E4.o
  ·exact (((((HX.o.trans (HB.o.mono HX.o.size)).setCell (by simp) _).setCell (by simp) _).setCell (by simp) _).setCell (by simp) _).setCell (by simp) _
theorem RX (s v x f W:Int) (w:World) (h:Pl.Fit s (v,x)) (hW:W=8*s) :
  Calls prog 211 #[.agg #[iv v,iv W,iv x,iv f,.bool false],iv 4] w fun e w'=>e=.returned (.agg #[iv (Pl.nv 4 s x v),iv W,iv (Pl.nx 4 s x v),iv (Pl.fell 4 s v),.bool (Pl.vfl 4 s x v)])∧Below w.heap.size w w':=by
 have hst:=iF
 have E4:Hid (false=Pl.vfl 4 s x v):=hide (by simp [Pl.vfl])
 have HF:=hide h
 have HWW:=hide hW
 clear h hW
 go_enter func211,ntmps211
 go_wp2_with fail
 clear hst
 obtain ⟨X,hX⟩:∃X:World,X=(((w.alloc (.cells #[iv v,iv W,iv x,iv f,.bool false] 207)).alloc (.cells ftZ 207)).alloc (.cells #[.func (.func 229) #[] #[],.func (.func 230) #[] #[],.func (.func 231) #[] #[],.func (.func 232) #[] #[],.func (.func 233) #[] #[],.func (.func 234) #[] #[],.func (.func 235) #[] #[],.func (.func 236) #[] #[]] 226)):=⟨_,rfl⟩
 rw [←hX]
 have B1:Box X w.heap.size v W x f false:=by rw [hX];exact Box.zt _ _ _ _ _ _ _ _
 have B2:Box X (w.heap.size+1) 0 0 0 0 false:=by rw [hX];exact Box.zq _ _ _ _ _ _ _ _
 have hF:X.cell? ⟨w.heap.size+1+1,4,none⟩=some (.func (.func 233) #[] #[]):=by rw [hX];go_simp
 have HX:Hid (Below w.heap.size w X):=hide (by rw [hX];exact (((Below.refl _ _).alloc (by simp) _).alloc (by simp) _).alloc (by simp<;>omega) _)
 clear hX
 obtain ⟨a0,a1,a2,a3,a4,_,_,_,_,_⟩:=B1.cells
 have HB2:=hide B2
 clear B1 B2
 go_region_with (go_at_call 233;refine (Q9 s v x f W false _ HF.o HWW.o).mono ?_;rintro e wt ⟨rfl,hb0⟩;have hb:=oN hb0;clear hb0;have HBt:=hide (HB2.o.later hb);obtain ⟨c0,c1,c2,c3,c4,g0,g1,g2,g3,g4⟩:=HBt.o.cells;have HB:=hide hb;clear hb a0 a1 a2 a3 a4 hF)
 all_goals
  go_wp2_with fail
  refine bodyPost_ret (v:=.agg #[iv (Pl.nv 4 s x v),iv W,iv (Pl.nx 4 s x v),iv (Pl.fell 4 s v),.bool false]) ?_ rfl ⟨?_,?_⟩
  ·exact gK rfl _ rfl (HBt.o.set)
  ·exact rA rfl rfl rfl rfl E4.o
  ·exact (((((HX.o.trans (HB.o.mono HX.o.size)).setCell (by simp) _).setCell (by simp) _).setCell (by simp) _).setCell (by simp) _).setCell (by simp) _
theorem RV (s v x f W:Int) (w:World) (h:Pl.Fit s (v,x)) (hW:W=8*s) :
  Calls prog 211 #[.agg #[iv v,iv W,iv x,iv f,.bool false],iv 5] w fun e w'=>e=.returned (.agg #[iv (Pl.nv 5 s x v),iv W,iv (Pl.nx 5 s x v),iv (Pl.fell 5 s v),.bool (Pl.vfl 5 s x v)])∧Below w.heap.size w w':=by
 have hst:=iF
 have E4:Hid (false=Pl.vfl 5 s x v):=hide (by simp [Pl.vfl])
 have HF:=hide h
 have HWW:=hide hW
 clear h hW
 go_enter func211,ntmps211
 go_wp2_with fail
 clear hst
 obtain ⟨X,hX⟩:∃X:World,X=(((w.alloc (.cells #[iv v,iv W,iv x,iv f,.bool false] 207)).alloc (.cells ftZ 207)).alloc (.cells #[.func (.func 229) #[] #[],.func (.func 230) #[] #[],.func (.func 231) #[] #[],.func (.func 232) #[] #[],.func (.func 233) #[] #[],.func (.func 234) #[] #[],.func (.func 235) #[] #[],.func (.func 236) #[] #[]] 226)):=⟨_,rfl⟩
 rw [←hX]
 have B1:Box X w.heap.size v W x f false:=by rw [hX];exact Box.zt _ _ _ _ _ _ _ _
 have B2:Box X (w.heap.size+1) 0 0 0 0 false:=by rw [hX];exact Box.zq _ _ _ _ _ _ _ _
 have hF:X.cell? ⟨w.heap.size+1+1,5,none⟩=some (.func (.func 234) #[] #[]):=by rw [hX];go_simp
 have HX:Hid (Below w.heap.size w X):=hide (by rw [hX];exact (((Below.refl _ _).alloc (by simp) _).alloc (by simp) _).alloc (by simp<;>omega) _)
 clear hX
 obtain ⟨a0,a1,a2,a3,a4,_,_,_,_,_⟩:=B1.cells
 have HB2:=hide B2
 clear B1 B2
 go_region_with (go_at_call 234;refine (GY s v x f W false _ HF.o HWW.o).mono ?_;rintro e wt ⟨rfl,hb0⟩;have hb:=oN hb0;clear hb0;have HBt:=hide (HB2.o.later hb);obtain ⟨c0,c1,c2,c3,c4,g0,g1,g2,g3,g4⟩:=HBt.o.cells;have HB:=hide hb;clear hb a0 a1 a2 a3 a4 hF)
 all_goals
  go_wp2_with fail
  refine bodyPost_ret (v:=.agg #[iv (Pl.nv 5 s x v),iv W,iv (Pl.nx 5 s x v),iv (Pl.fell 5 s v),.bool false]) ?_ rfl ⟨?_,?_⟩
  ·exact gK rfl _ rfl (HBt.o.set)
  ·exact rA rfl rfl rfl rfl E4.o
  ·exact (((((HX.o.trans (HB.o.mono HX.o.size)).setCell (by simp) _).setCell (by simp) _).setCell (by simp) _).setCell (by simp) _).setCell (by simp) _
theorem RU (s v x f W:Int) (w:World) (h:Pl.Fit s (v,x)) (hW:W=8*s) :
  Calls prog 211 #[.agg #[iv v,iv W,iv x,iv f,.bool false],iv 6] w fun e w'=>e=.returned (.agg #[iv (Pl.nv 6 s x v),iv W,iv (Pl.nx 6 s x v),iv (Pl.fell 6 s v),.bool (Pl.vfl 6 s x v)])∧Below w.heap.size w w':=by
 have hst:=iF
 have E4:Hid (false=Pl.vfl 6 s x v):=hide (by simp [Pl.vfl])
 have HF:=hide h
 have HWW:=hide hW
 clear h hW
 go_enter func211,ntmps211
 go_wp2_with fail
 clear hst
 obtain ⟨X,hX⟩:∃X:World,X=(((w.alloc (.cells #[iv v,iv W,iv x,iv f,.bool false] 207)).alloc (.cells ftZ 207)).alloc (.cells #[.func (.func 229) #[] #[],.func (.func 230) #[] #[],.func (.func 231) #[] #[],.func (.func 232) #[] #[],.func (.func 233) #[] #[],.func (.func 234) #[] #[],.func (.func 235) #[] #[],.func (.func 236) #[] #[]] 226)):=⟨_,rfl⟩
 rw [←hX]
 have B1:Box X w.heap.size v W x f false:=by rw [hX];exact Box.zt _ _ _ _ _ _ _ _
 have B2:Box X (w.heap.size+1) 0 0 0 0 false:=by rw [hX];exact Box.zq _ _ _ _ _ _ _ _
 have hF:X.cell? ⟨w.heap.size+1+1,6,none⟩=some (.func (.func 235) #[] #[]):=by rw [hX];go_simp
 have HX:Hid (Below w.heap.size w X):=hide (by rw [hX];exact (((Below.refl _ _).alloc (by simp) _).alloc (by simp) _).alloc (by simp<;>omega) _)
 clear hX
 obtain ⟨a0,a1,a2,a3,a4,_,_,_,_,_⟩:=B1.cells
 have HB2:=hide B2
 clear B1 B2
 go_region_with (go_at_call 235;refine (qG s v x f W false _ HF.o HWW.o).mono ?_;rintro e wt ⟨rfl,hb0⟩;have hb:=oN hb0;clear hb0;have HBt:=hide (HB2.o.later hb);obtain ⟨c0,c1,c2,c3,c4,g0,g1,g2,g3,g4⟩:=HBt.o.cells;have HB:=hide hb;clear hb a0 a1 a2 a3 a4 hF)
 all_goals
  go_wp2_with fail
  refine bodyPost_ret (v:=.agg #[iv (Pl.nv 6 s x v),iv W,iv (Pl.nx 6 s x v),iv (Pl.fell 6 s v),.bool false]) ?_ rfl ⟨?_,?_⟩
  ·exact gK rfl _ rfl (HBt.o.set)
  ·exact rA rfl rfl rfl rfl E4.o
  ·exact (((((HX.o.trans (HB.o.mono HX.o.size)).setCell (by simp) _).setCell (by simp) _).setCell (by simp) _).setCell (by simp) _).setCell (by simp) _
theorem RS (s v x f W:Int) (w:World) (h:Pl.Fit s (v,x)) (hW:W=8*s) :
  Calls prog 211 #[.agg #[iv v,iv W,iv x,iv f,.bool false],iv 7] w fun e w'=>e=.returned (.agg #[iv (Pl.nv 7 s x v),iv W,iv (Pl.nx 7 s x v),iv (Pl.fell 7 s v),.bool (Pl.vfl 7 s x v)])∧Below w.heap.size w w':=by
 have hst:=iF
 have E4:Hid (false=Pl.vfl 7 s x v):=hide (by simp [Pl.vfl])
 have HF:=hide h
 have HWW:=hide hW
 clear h hW
 go_enter func211,ntmps211
 go_wp2_with fail
 clear hst
 obtain ⟨X,hX⟩:∃X:World,X=(((w.alloc (.cells #[iv v,iv W,iv x,iv f,.bool false] 207)).alloc (.cells ftZ 207)).alloc (.cells #[.func (.func 229) #[] #[],.func (.func 230) #[] #[],.func (.func 231) #[] #[],.func (.func 232) #[] #[],.func (.func 233) #[] #[],.func (.func 234) #[] #[],.func (.func 235) #[] #[],.func (.func 236) #[] #[]] 226)):=⟨_,rfl⟩
 rw [←hX]
 have B1:Box X w.heap.size v W x f false:=by rw [hX];exact Box.zt _ _ _ _ _ _ _ _
 have B2:Box X (w.heap.size+1) 0 0 0 0 false:=by rw [hX];exact Box.zq _ _ _ _ _ _ _ _
 have hF:X.cell? ⟨w.heap.size+1+1,7,none⟩=some (.func (.func 236) #[] #[]):=by rw [hX];go_simp
 have HX:Hid (Below w.heap.size w X):=hide (by rw [hX];exact (((Below.refl _ _).alloc (by simp) _).alloc (by simp) _).alloc (by simp<;>omega) _)
 clear hX
 obtain ⟨a0,a1,a2,a3,a4,_,_,_,_,_⟩:=B1.cells
 have HB2:=hide B2
 clear B1 B2
 go_region_with (go_at_call 236;refine (og s v x f W false _ HF.o HWW.o).mono ?_;rintro e wt ⟨rfl,hb0⟩;have hb:=oN hb0;clear hb0;have HBt:=hide (HB2.o.later hb);obtain ⟨c0,c1,c2,c3,c4,g0,g1,g2,g3,g4⟩:=HBt.o.cells;have HB:=hide hb;clear hb a0 a1 a2 a3 a4 hF)
 all_goals
  go_wp2_with fail
  refine bodyPost_ret (v:=.agg #[iv (Pl.nv 7 s x v),iv W,iv (Pl.nx 7 s x v),iv (Pl.fell 7 s v),.bool false]) ?_ rfl ⟨?_,?_⟩
  ·exact gK rfl _ rfl (HBt.o.set)
  ·exact rA rfl rfl rfl rfl E4.o
  ·exact (((((HX.o.trans (HB.o.mono HX.o.size)).setCell (by simp) _).setCell (by simp) _).setCell (by simp) _).setCell (by simp) _).setCell (by simp) _
theorem moved (k s v x f W:Int) (t:Bool) (w:World) (k0:0≤k) (k1:k≤7) (h:Pl.Fit s (v,x)) (hW:W=8*s) (ht:k=0∨t=false) :
  Calls prog 211 #[.agg #[iv v,iv W,iv x,iv f,.bool t],iv k] w fun e w'=>e=.returned (.agg #[iv (Pl.nv k s x v),iv W,iv (Pl.nx k s x v),iv (Pl.fell k s v),.bool (Pl.vfl k s x v)])∧Below w.heap.size w w':=by
 have hk:k=0∨k=1∨k=2∨k=3∨k=4∨k=5∨k=6∨k=7:=by omega
 rcases hk with rfl|rfl|rfl|rfl|rfl|rfl|rfl|rfl
 ·exact Sj s v x f W t w h hW
 ·obtain rfl:t=false:=ht.resolve_left (by decide)
  exact Si s v x f W w h hW
 ·obtain rfl:t=false:=ht.resolve_left (by decide)
  exact RZ s v x f W w h hW
 ·obtain rfl:t=false:=ht.resolve_left (by decide)
  exact RY s v x f W w h hW
 ·obtain rfl:t=false:=ht.resolve_left (by decide)
  exact RX s v x f W w h hW
 ·obtain rfl:t=false:=ht.resolve_left (by decide)
  exact RV s v x f W w h hW
 ·obtain rfl:t=false:=ht.resolve_left (by decide)
  exact RU s v x f W w h hW
 ·obtain rfl:t=false:=ht.resolve_left (by decide)
  exact RS s v x f W w h hW
end Go.Proofs.YtblddehlkaolbaaGreatDoor
namespace Go.Proofs.YtblddehlkaolbaaGreatDoor.Pl
set_option linter.unusedVariables false
def pop:Nat→Int→Int
 | 0,_=>0
 | n+1,v=>v%2+pop n (v/2)
end Go.Proofs.YtblddehlkaolbaaGreatDoor.Pl
namespace Go.Proofs.YtblddehlkaolbaaGreatDoor
open Go.RowKit Go.Proofs.Tryz
set_option linter.unusedVariables false
def Pl.FZ (k s f v:Int):Nat→Int
 | 0=>Pl.wJ k f
 | m+1=>Pl.fell k s (Pl.st k s (v,f/16) m).1
def Pl.Js (k s f v:Int):Nat→Bool
 | 0=>false
 | m+1=>Pl.vfl k s (Pl.st k s (v,f/16) m).2 (Pl.st k s (v,f/16) m).1
theorem Pl.FN (k s f v:Int) (m:Nat):k=0∨Pl.Js k s f v m=false:=by
 cases m with
 | zero=>exact .inr rfl
 | succ m=>
  by_cases h:k=0
  ·exact .inl h
  ·exact .inr (by simp [Pl.Js,Pl.vfl,h])
theorem Pl.Pg {k s f v:Int} (h:Pl.Fit s (v,f/16)) (m:Nat):0≤Pl.FZ k s f v m∧Pl.FZ k s f v m≤1:=by
 cases m with
 | zero=>
  obtain ⟨_,_,_,x0,x1⟩:=h
  simp only at x0 x1
  unfold Pl.FZ Pl.wJ
  split<;>omega
 | succ m=>exact Pl.nT _ _ _
theorem Pl.P8 {k s f v:Int} (h:Pl.Fit s (v,f/16)) (m:Nat):Pl.FZ k s f v m+Pl.fl (Pl.ov k s (v,f/16) m) 2+Pl.zn s (Pl.st k s (v,f/16) m).1+16*(Pl.st k s (v,f/16) m).2=Pl.byF k s (v,f/16) m:=by
 cases m with
 | zero=>
  obtain ⟨_,_,_,x0,x1⟩:=h
  simp only at x0 x1
  have hx:f/16=0∨f/16=1:=by omega
  unfold Pl.FZ Pl.wJ Pl.byF Pl.ov Pl.st
  simp only
  by_cases h6:6≤k
  ·rcases hx with hx|hx<;>simp [hx,h6,Pl.fl]
  ·simp [h6,Pl.fl]
 | succ m=>rfl
theorem xC (k s f v n:Int) (w:World) (h:Pl.pY k s f v=true) (n0:0≤n) (n1:n≤63) :
  Calls prog 180 #[iv k,iv s,iv f,iv v,iv n] w fun e w'=>e=.returned (.tuple #[iv (Pl.st k s (v,f/16) n.toNat).1,iv (Pl.byF k s (v,f/16) n.toNat),.bool true])∧Below w.heap.size w w':=by
 have HG:=hide h
 obtain ⟨k0,k1,_,f0,f1,hf⟩:=Pl.pX h
 have HF:=hide hf
 have d0:decide (n<0)=false:=by simp;omega
 have d1:decide (63<n)=false:=by simp;omega
 clear h hf
 go_enter func180,ntmps180
 go_wp2_with fail
 refine (rowOf k s f v _ HG.o).mono ?_
 rintro e w1 ⟨rfl,hb⟩
 have HB:=hide hb
 clear hb
 go_wp2_with fail
 go_loopw [15,35] (fun T I wr=>∃m:Nat,(m:Int)≤n∧T=.bool (Pl.ov k s (v,f/16) m)∧I=iv m∧Box wr w1.heap.size (Pl.st k s (v,f/16) m).1 (8*s) (Pl.st k s (v,f/16) m).2 (Pl.FZ k s f v m) (Pl.Js k s f v m)∧Below w.heap.size w wr) (fun _ I _=>n.toNat-(intOf I).toNat)
 case atStart=>exact ⟨0,n0,rfl,rfl,Box.XQ _ _ _ _ _ _,HB.o.alloc HB.o.size _⟩
 case round=>
  obtain ⟨m,hm,rfl,rfl,hB,hW⟩:=hrel
  have HBm:=hide hB
  have HW:=hide hW
  have hst:=hide (Pl.oV (k:=k) HF.o m)
  obtain ⟨c0,c1,c2,c3,c4,g0,g1,g2,g3,g4⟩:=hB.cells
  clear hB hW
  by_cases hlt:(m:Int)<n
  ·clear g0 g1 g2 g3 g4
   cases ho:Pl.ov k s (v,f/16) m
   all_goals
    go_wp2_with fail
    refine (moved k s _ _ _ _ _ _ k0 k1 hst.o rfl (Pl.FN k s f v m)).mono ?_
    rintro e wt ⟨rfl,hb2⟩
    have Bt:=hide (HBm.o.later hb2)
    have HX:Hid (Below w.heap.size w wt):=hide (HW.o.trans (hb2.mono HW.o.size))
    clear hb2 c0 c1 c2 c3 c4
    obtain ⟨c0,c1,c2,c3,c4,g0,g1,g2,g3,g4⟩:=Bt.o.cells
    go_wp2_with fail
    go_roundw
    case rel=>exact ⟨m+1,by omega,by simp [Pl.ov,ho],by go_num,Bt.o.set,Below.oG HX.o HB.o.size _ _ _ _ _⟩
    case measure=>simp [intOf];omega
  ·obtain rfl:n=(m:Int):=by omega
   have hfa:=Pl.Pg (k:=k) HF.o m
   have HE:=hide (Pl.P8 (k:=k) HF.o m)
   have d2:decide ((m:Int)<(m:Int))=false:=by simp
   go_wp2_with fail
   obtain ⟨X,hX⟩:∃X:World,X=wr.setCell ⟨w1.heap.size,4,none⟩ (.bool (Pl.ov k s (v,f/16) m)):=⟨_,rfl⟩
   rw [←hX]
   have B2:=hide (HBm.o.XH (t':=Pl.ov k s (v,f/16) m))
   rw [←hX] at B2
   have HY:Hid (Below w.heap.size w X):=hide (by rw [hX];exact HW.o.setCell HB.o.size _)
   clear hX c0 c1 c2 c3 c4 g0 g1 g2 g3 g4
   obtain ⟨c0,c1,c2,c3,c4,_,_,_,_,_⟩:=B2.o.cells
   go_region_with (go_at_call 212;refine (Tf s _ _ _ _ _ _ hst.o rfl hfa.1 hfa.2).mono ?_;rintro e wx ⟨rfl,o1,o2,rfl⟩;obtain ⟨z0,z1,z2,z3,z4,_,_,_,_,_⟩:=(B2.o.two o1 o2).cells)
   all_goals
    go_wp2_with fail
    go_ret3
    exact ⟨lV rfl HE.o rfl,((HY.o.alloc HY.o.size _).alloc (by simpa using Nat.le_succ_of_le HY.o.size) _).drew⟩
theorem Nw (k s f v n:Int) (w:World) (hv:W64 v) :
  Calls prog 180 #[iv k,iv s,iv f,iv v,iv n] w fun e w'=>e=.returned (.tuple #[iv (Pl.jc k s f v n),iv (Pl.oI k s f v n),.bool (Pl.qJ k s f v n)])∧Below w.heap.size w w':=by
 cases h:Pl.pY k s f v
 ·have K:Hid (Pl.qJ k s f v n=false∧Pl.jc k s f v n=0∧Pl.oI k s f v n=0):=hide (by simp [Pl.jc,Pl.oI,Pl.qJ,h])
  go_enter func180,ntmps180
  go_wp2_with fail
  refine (ED k s f v _ hv.1 hv.2 h).mono ?_
  rintro e w1 ⟨rfl,hb⟩
  go_wp2_with fail
  go_ret3
  exact ⟨lV K.o.2.1.symm K.o.2.2.symm K.o.1.symm,hb.alloc hb.size _⟩
 ·by_cases hn:0≤n∧n≤63
  ·have hk:Pl.qJ k s f v n=true:=Pl.P7 h hn.1 hn.2
   refine (xC k s f v n w h hn.1 hn.2).mono ?_
   rintro e w' ⟨rfl,hb⟩
   exact ⟨lV (by simp [Pl.jc,hk]) (by simp [Pl.oI,hk]) hk.symm,hb⟩
  ·have K:Hid (Pl.qJ k s f v n=false∧Pl.jc k s f v n=0∧Pl.oI k s f v n=0):=by
    have:Pl.cnt n=false:=by simp [Pl.cnt];omega
    exact hide (by simp [Pl.jc,Pl.oI,Pl.qJ,this])
   obtain d0|⟨d0,d1⟩:decide (n<0)=true∨(decide (n<0)=false∧decide (63<n)=true):=by simp;omega
   all_goals
    clear hn
    go_enter func180,ntmps180
    go_wp2_with fail
    refine (rowOf k s f v _ h).mono ?_
    rintro e w1 ⟨rfl,hb⟩
    go_wp2_with fail
    go_ret3
    exact ⟨lV K.o.2.1.symm K.o.2.2.symm K.o.1.symm,hb.alloc hb.size _⟩
namespace Pl
def both (k:Int):Bool:=k-k%2==12||k-k%2==14
def said (b:Bool) (s:Int):Bool:=s==0||(b&&s==10)
theorem H8:∀k:Nat,k<16→∀f:Nat,f<32→(said (both (k:Int)) (bits .and .i64 (f:Int) (need (k:Int)))==((k:Int)==bits .andNot .i64 (k:Int) 1))=tst k f:=by decide +kernel
theorem Ph:∀k:Nat,k<16→(bits .andNot .i64 (k:Int) 1=0∧need k=0∧both k=false)∨(bits .andNot .i64 (k:Int) 1=2∧need k=5∧both k=false)∨(bits .andNot .i64 (k:Int) 1=4∧need k=1∧both k=false)∨(bits .andNot .i64 (k:Int) 1=6∧need k=4∧both k=false)∨(bits .andNot .i64 (k:Int) 1=8∧need k=2∧both k=false)∨(bits .andNot .i64 (k:Int) 1=10∧need k=8∧both k=false)∨(bits .andNot .i64 (k:Int) 1=12∧need k=10∧both k=true)∨(bits .andNot .i64 (k:Int) 1=14∧need k=14∧both k=true):=by decide +kernel
end Pl
theorem yU (a:Addr) (fn:Fn) (m:Mode) (w:World):(store a (.func fn #[] #[]) m).run prog w=stored prog w a (.func fn #[] #[]) m:=run_store prog w a _ m rfl
theorem BV (c:Int) (w:World):Calls prog 214 #[iv c] w fun e w'=>e=.returned (iv (bits .andNot .i64 c 1))∧w'=w:=by
 go_enter func214,ntmps214
 go_wp2
 go_ret
 exact ⟨rfl,rfl⟩
theorem isNone (s:Int) (w:World):Calls prog 238 #[iv s] w fun e w'=>e=.returned (.bool (Pl.said false s))∧w'=w:=by
 go_enter func238,ntmps238
 go_wp2
 go_ret
 exact ⟨rB (by unfold Pl.said;simp),rfl⟩
theorem Qd (s:Int) (w:World):Calls prog 239 #[iv s] w fun e w'=>e=.returned (.bool (Pl.said true s))∧w'=w:=by
 by_cases h:s=0
 ·go_enter func239,ntmps239
  go_wp2
  go_ret
  exact ⟨rB (by unfold Pl.said;simp [h]),rfl⟩
 ·go_enter func239,ntmps239
  go_wp2
  go_ret
  exact ⟨rB (by unfold Pl.said;simp),rfl⟩
def qV (k:Int):Value:=.agg #[iv (Pl.need k),.func (.func (bif Pl.both k then 239 else 238)) #[] #[]]
theorem uZ (k:Nat) (hk:k<16) (w:World):Calls prog 213 #[iv (k:Int)] w fun e w'=>e=.returned (qV k)∧Kept 0 0 w w':=by
 have hst:=yU
 rcases Pl.Ph k hk with ⟨hE,hn,hb⟩|⟨hE,hn,hb⟩|⟨hE,hn,hb⟩|⟨hE,hn,hb⟩|⟨hE,hn,hb⟩|⟨hE,hn,hb⟩|⟨hE,hn,hb⟩|⟨hE,hn,hb⟩
 all_goals
  unfold qV
  rw [hn,hb]
  clear hn hb
  simp only [cond_true,cond_false]
  go_enter func213,ntmps213
  go_wp2_with (go_at_call 214;refine st (BV _ _) ?_;rw [hE])
  refine bodyPost_ret (v:=_) ?_ rfl ⟨rfl,?_⟩
  ·rw [aj rfl];go_simp
  ·exact kept_alloc _ _
theorem Gf (k j:Nat) (hk:k<16) (hj:j<32) (w:World):Calls prog 181 #[iv (k:Int),iv (j:Int)] w fun e w'=>e=.returned (.bool (Pl.tst k j))∧Kept 0 0 w w':=by
 have hst:=yU
 rw [←Pl.H8 k hk j hj]
 cases hb:Pl.both (k:Int)
 ·have hQ:qV k=.agg #[iv (Pl.need k),.func (.func 238) #[] #[]]:=by unfold qV;rw [hb];rfl
  go_enter func181,ntmps181
  go_wp2_with fail
  refine (uZ k hk _).mono ?_
  rintro e9 W ⟨rfl,hk9⟩
  rw [hQ]
  have HK:=hide hk9
  clear hk9
  go_wp2_with (first|(go_at_call 238;refine st (isNone _ _) ?_)|(go_at_call 214;refine st (BV _ _) ?_))
  go_ret
  exact ⟨rfl,ah HK.o _⟩
 ·have hQ:qV k=.agg #[iv (Pl.need k),.func (.func 239) #[] #[]]:=by unfold qV;rw [hb];rfl
  go_enter func181,ntmps181
  go_wp2_with fail
  refine (uZ k hk _).mono ?_
  rintro e9 W ⟨rfl,hk9⟩
  rw [hQ]
  have HK:=hide hk9
  clear hk9
  go_wp2_with (first|(go_at_call 239;refine st (Qd _ _) ?_)|(go_at_call 214;refine st (BV _ _) ?_))
  go_ret
  exact ⟨rfl,ah HK.o _⟩
end Go.Proofs.YtblddehlkaolbaaGreatDoor
