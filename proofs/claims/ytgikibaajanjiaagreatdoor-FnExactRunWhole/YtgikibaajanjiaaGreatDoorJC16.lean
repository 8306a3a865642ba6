/- Part 16 of what the last text leans on. -/
import Derived.Test.YtgikibaajanjiaaGreatDoorJC15
import Derived.Test.YtgikibaajanjiaaGreatDoorJC11
import Derived.Test.YtgikibaajanjiaaGreatDoorJC13
set_option maxRecDepth 100000
set_option maxHeartbeats 16000000
namespace Go.Proofs.YtgikibaajanjiaaGreatDoor
open Pl
open Go.RowKit Go.Proofs.Tryz
set_option linter.unusedVariables false
namespace Pl
theorem Xn {op z q v:Int} (hz:z=1∨z=2) (hq:okv z q=true) (hv:okv z v=true) (h2:op=16∨op=17->z=2) (h0:op=17->v≠0):okv z (cbM op q v)=true∧okv z (cbV op z q v)=true:=by
 obtain ⟨o1,o2,o3⟩:=qR hq hv;have tq:=aQ hq;have tv:=aQ hv
 have hM:okv z (cbM op q v)=true:=by
  unfold cbM;cases e5:op==5
  ·cases e6:op==6
   ·cases e7:op==7
    ·cases e16:op==16
     ·cases e17:op==17
      ·exact hv
      ·have ho:op=17:=by simpa using e17
       have ez:=h2 (.inr ho);subst ez;have hv0:=h0 ho;show okv 2 (dvQ 0 q v)=true
       have e:dvQ 0 q v=q/v:=by
        have hk:dOk 0 q v=true:=by simp [dOk,wOk];omega
        unfold dvQ;rw [if_pos hk];exact (yQ (by omega) (by omega) (by omega)).1
       rw [e];have h1:0<=q/v:=Int.ediv_nonneg (by omega) (by omega);have h3:q/v<=q:=Int.ediv_le_self _ (by omega);simp [okv,top];omega
     ·have ho:op=16:=by simpa using e16
      have ez:=h2 (.inl ho);subst ez;show okv 2 (xP q v)=true;unfold xP;simp only [okv,top];split
      ·simp;omega
      ·rfl
    ·exact o3
   ·exact o2
  ·exact o1
 refine ⟨hM,?_⟩;unfold cbV;cases op==3
 ·cases op==4
  ·cases op==8
   ·exact hM
   ·exact hq
  ·exact lT hz
 ·exact vC hq
theorem xG {c D:Mc} {z m k e:Int} (hf:c.f=aG) (hD:D=c.read z m k e) (h:(D.f.v != 0)=false):D.f=aG:=by
 subst hD;unfold Mc.read at *;cases hi:Mc.gG m
 ·rw [hi] at h;have ee:((c.plc z m k e).acc 1 z (bg c.r z m k e) 0).f=Mc.dm aG 1 z (bg c.r z m k e):=by show Mc.dm c.f _ _ _=_;rw [hf]
  show ((c.plc z m k e).acc 1 z (bg c.r z m k e) 0).f=aG
  rw [ee];exact (ni (by rw [<-ee];exact h)).2
 ·exact hf
def Mc.tk' (d:Mc) (op z r v:Int):Mc:=bif op==9 then d.fB r.toNat v else bif (op==17)&&(v==0) then {d with f:=⟨5,0,0,0,false⟩} else ((d.put z r (cbV op z (d.low z r) v)).aI (cbF op z d.r.f (d.low z r) v))
def Mc.tk (c:Mc) (x:In):Mc:=bif (c.read x.z x.m x.k x.e).fine then (c.read x.z x.m x.k x.e).tk' x.op x.z x.r (c.bC x.z x.m x.k x.e) else c.read x.z x.m x.k x.e
end Pl
theorem and7 {a b c d e f g h:Prop} (x:a∧b∧c∧d∧e∧f∧g) (y:h):a∧b∧c∧d∧e∧f∧g∧h:=⟨x.1,x.2.1,x.2.2.1,x.2.2.2.1,x.2.2.2.2.1,x.2.2.2.2.2.1,x.2.2.2.2.2.2,y⟩
variable (w:World) (lo b g:Nat) (c:Mc) (h:Hl)
theorem L9 (op z r m k e s:Int) (hC:CAt w lo b g c h) (G:GM c) (hf:c.f=aG) (B:InB ⟨op,z,r,m,k,e,s⟩) (hop:op=9∨op=1∨op=3∨op=4∨op=5∨op=6∨op=7∨op=8∨op=16∨op=17) (h1:m=1->z=2) (h2:op=16∨op=17->z=2) :
  Calls prog 224 #[.pointer (some (aac b 0)),.agg (inA op z r m k e s)] w fun e' w'=>∃g',e'=.returned (.agg (ftC (c.tk ⟨op,z,r,m,k,e,s⟩).f))∧CAt w' lo b g' (c.tk ⟨op,z,r,m,k,e,s⟩) h∧Since w b (b+1) g w' g':=by
 have HB:=aab B;clear B;obtain ⟨l0,l1,l2,l3,l4⟩:=hC.lt;have HG:=aab G;obtain ⟨X,hX,K0,C0,A0,R0,sX⟩:=hC.kS op z r m k e s;have p:=A0.o.all;clear hC G;obtain ⟨D,hD⟩:∃D,D=c.read z m k e:=⟨_,rfl⟩
 obtain ⟨V,hV⟩:∃V,V=c.bC z m k e:=⟨_,rfl⟩
 obtain ⟨F,hF⟩:∃F,F=D.f:=⟨_,rfl⟩
 have GD:Hid (GM D):=aab (by rw [hD];exact HG.o.read HB.o.z HB.o.k0 HB.o.k1 HB.o.e0 HB.o.e1);have OV:Hid (okv z V=true):=aab (by rw [hV];exact fF HG.o HB.o.z HB.o.k0 HB.o.k1 HB.o.e0 HB.o.e1 h1 HB.o.n7)
 have ET:Hid (c.tk ⟨op,z,r,m,k,e,s⟩=bif !(F.v != 0) then D.tk' op z r V else D):=aab (by
  show (bif (c.read z m k e).fine then (c.read z m k e).tk' op z r (c.bC z m k e) else c.read z m k e)=_
  rw [<-hD,<-hV,hF];unfold Mc.fine;simp [bne])
 have HD:=aab hD;have HV:=aab hV;have HF:=aab hF;have H2:=aab h2;have HO:=aab hop;clear hD hV hF h1 h2 hop;go_enter func224,ntmps224;go_wp2_with (first|(go_at_call 249;have z9:=C1;refine (Md _ lo b g c h z m k e C1.o HG.o hf HB.o.z HB.o.m0 HB.o.m1 HB.o.k0 HB.o.k1 HB.o.e0 HB.o.e1).mono ?_;rintro e9 W2 ⟨g',rfl,hc,hs⟩;rw [<-HD.o] at hc ⊢;rw [<-HV.o,<-HF.o];unfold ftC;have C2:=aab (hc.alloc (.cells (ftA F) 42));have A2:=aab ((hs.blk A1.o (by omega) (by omega)).alloc (.cells (ftA F) 42));have R2:=aab ((hs.blk R1.o (by omega) (by omega)).alloc (.cells (ftA F) 42));have S2:=aab ((S1.o.trans hs).alloc (.cells (ftA F) 42));have L2:=aab (Blk.new W2 (ftA F) 42);have z2:=hs.size;have n2:=hs.ne (b:=w.heap.size+1) R1.o.lt (by omega);have m2:=hs.ne (b:=w.heap.size) A1.o.lt (by omega);clear hc hs)|(go_at_call 227;refine (wu _ lo b g c h ⟨op,z,r,m,k,e,s⟩ C0.o HG.o HB.o).mono ?_;rintro e9 W1 ⟨rfl,hc,hk⟩;have C1:=aab hc;have A1:=aab (A0.o.kept hk (by omega));have R1:=aab (R0.o.kept hk (by omega));have S1:=aab (((Since.refl w b (b+1) g).any K0.o).ai hk (Nat.le_refl _) (Nat.le_refl _));have p1:=A1.o.all;clear hc hk));refine (bQ F _).mono ?_;rintro e9 W4 ⟨rfl,kf⟩;have C4:=aab (C2.o.any kf);have A4:=aab (A2.o.ae kf);have R4:=aab (R2.o.ae kf);have L4:=aab (L2.o.ae kf);have S4:=aab (S2.o.any kf);have p4:=A4.o.all;have q4:=L4.o.all;have r4:=R4.o.all;have rf4:=R4.o.fz;clear kf;clear hX p p1;cases hv:(F.v != 0)
 ·have E1:Hid (c.tk ⟨op,z,r,m,k,e,s⟩=D.tk' op z r V):=aab (by rw [ET.o,hv];rfl);have DF:Hid (D.f=aG):=aab (xG hf HD.o (by rw [<-HF.o];exact hv));cases h9:(op==9)
  ·cases h17:(op==17)<;>cases hV0:(V==0)
   case true.true=>
    have E2:Hid (D.tk' op z r V={D with f:=⟨5,0,0,0,false⟩}):=aab (by unfold Mc.tk';rw [h9,h17,hV0];rfl);go_wp2_with fail;have KR:=(((((ak W4 (w.heap.size+1) 0 (iv 5)).one 1 (iv 0)).one 2 (iv 0)).one 3 (iv 0)).one 4 (.bool false))
    refine bodyPost_ret (v:=.agg #[iv 5,iv 0,iv 0,iv 0,.bool false]) ?_ rfl ⟨g',?_,?_,(S4.o).mine KR (by omega)⟩
    ·rw [aj rfl];go_simp
    ·rw [E1.o,E2.o];rfl
    ·rw [E1.o,E2.o];exact ((C4.o).kept KR (by omega) (by omega)).fx rfl rfl rfl rfl rfl
   all_goals
    have E2:Hid (D.tk' op z r V=(D.put z r (cbV op z (D.low z r) V)).aI (cbF op z D.r.f (D.low z r) V)):=aab (by unfold Mc.tk';rw [h9,h17,hV0];rfl);have hop2:op=1∨op=3∨op=4∨op=5∨op=6∨op=7∨op=8∨op=16∨op=17:=by rcases HO.o with h|h;exact absurd h (by simpa using h9);exact h
    have CB:Hid (okv z (cbM op (D.low z r) V)=true∧okv z (cbV op z (D.low z r) V)=true):=aab (Xn HB.o.z (iE GD.o HB.o.z HB.o.r0 HB.o.r1) OV.o H2.o (by intro ho hv;first|(simp [ho] at h17;done)|(simp [hv] at hV0)));have OQ:=aab (iE GD.o HB.o.z HB.o.r0 HB.o.r1);obtain ⟨Q,hQ⟩:∃Q,Q=D.low z r:=⟨_,rfl⟩
    rw [<-hQ] at E2 CB OQ;have HQ:=aab hQ;have HP:=aab hop2;clear hQ hop2;go_wp2_with fail;clear p4 q4 r4 rf4;obtain ⟨u0,u1,u2,u3,u4,u5,u6⟩:=A4.o.c7;have u10:=C4.o.cF
    go_region_held3 (fun w'=>w'.cell? (aac w.heap.size 0)=some (iv op)∧w'.cell? (aac w.heap.size 1)=some (iv z)∧w'.cell? (aac w.heap.size 2)=some (iv r)∧w'.cell? (aac w.heap.size 3)=some (iv m)∧w'.cell? (aac w.heap.size 4)=some (iv k)∧w'.cell? (aac w.heap.size 5)=some (iv e)∧w'.cell? (aac w.heap.size 6)=some (iv s)∧w'.cell? (aac b 10)=some (iv D.r.f)) (first|with_reducible exact and7 A6.o.c7 C6.o.cF|with_reducible exact and7 A5.o.c7 C5.o.cF|exact and7 (show Blk _ _ _ _ from A4.o).c7 C4.o.drew.cF)
     (first|(go_at_call 250;have z9:=A5;refine (Qe _ op z r m k e s D.r.f Q V HP.o (by have:=aQ OQ.o;omega) (by have:=aQ OQ.o;omega) (by have:=aQ OV.o;omega) (by have:=aQ OV.o;omega) (by have:=aQ CB.o.1;omega) (by have:=aQ CB.o.1;omega)).mono ?_;rintro e9 W6 ⟨rfl,k6⟩;have C6:=aab (C5.o.any k6);have A6:=aab (A5.o.ae k6);have R6:=aab (R5.o.ae k6);have S6:=aab (S5.o.any k6);clear k6)|(go_at_call 251;refine (ng _ lo b g' D h z r C4.o.drew HB.o.z HB.o.r0 HB.o.r1).mono ?_;rintro e9 W5 ⟨rfl,kd⟩;rw [<-HQ.o];have k5:=aK kd;have C5:=aab (C4.o.any k5);have A5:=aab (A4.o.ae k5);have R5:=aab (R4.o.ae k5);have S5:=aab (S4.o.any k5);clear kd k5))
    clear u0 u1 u2 u3 u4 u5 u6 u10;obtain ⟨MV,hMV⟩:∃M,M=cbV op z Q V:=⟨_,rfl⟩
    obtain ⟨MF,hMF⟩:∃M,M=cbF op z D.r.f Q V:=⟨_,rfl⟩
    rw [<-hMV,<-hMF] at E2 ⊢;rw [<-hMV] at CB;clear hMV hMF;go_wp2_with fail;have u1:=A6.o.cell (i:=1) rfl;have u2:=A6.o.cell (i:=2) rfl
    go_region_held3 (fun w'=>w'.cell? (aac w.heap.size 1)=some (iv z)∧w'.cell? (aac w.heap.size 2)=some (iv r)) (first|with_reducible exact ⟨A7.o.cell (i:=1) rfl,A7.o.cell (i:=2) rfl⟩|exact ⟨(show Blk _ _ _ _ from A6.o).cell (i:=1) rfl,(show Blk _ _ _ _ from A6.o).cell (i:=2) rfl⟩)
     (first|(go_at_call 252;refine (Me _ lo b g' D h z r MV C6.o.drew GD.o.g HB.o.r0 HB.o.r1 HB.o.z CB.o.2).mono ?_;rintro e9 W7 ⟨rfl,hc7,kd⟩;have k7:=aK kd;have C7:=aab hc7;have A7:=aab (A6.o.kept k7 (by omega));have R7:=aab (R6.o.kept k7 (by omega));have S7:=aab (S6.o.ai k7 (Nat.le_refl _) (Nat.le_refl _));clear hc7 kd k7))
    have cf:=C7.o.cF;have cz:=C7.o.fz;have rr:=(R7.o.other b 10 (iv MF) (by omega)).all;have rz:=(R7.o.other b 10 (iv MF) (by omega)).fz;go_wp2_with fail;have KR:=(((((ak (W7.setCell (aac b 10) (iv MF)) (w.heap.size+1) 0 (iv 0)).one 1 (iv 0)).one 2 (iv 0)).one 3 (iv 0)).one 4 (.bool false))
    refine bodyPost_ret (v:=.agg ftZ) ?_ rfl ⟨g',?_,?_,(S7.o.set b 10 (iv MF) (.inl (by omega))).mine KR (by omega)⟩
    ·rw [aj rfl];go_simp
    ·rw [E1.o,E2.o,show ((D.put z r MV).aI MF).f=aG from DF.o];rfl
    ·rw [E1.o,E2.o];exact ((C7.o.aI MF).kept KR (by omega) (by omega))
  ·have E2:Hid (D.tk' op z r V=D.fB r.toNat V):=aab (by unfold Mc.tk';rw [h9];rfl);obtain ⟨n,rfl⟩:∃n:Nat,r=(n:Int):=⟨r.toNat,by have:0<=r:=HB.o.r0;omega⟩
   have hn:n<4:=by have:(n:Int)<=3:=HB.o.r1;omega
   have i0:(0:Int)<=(n:Int):=by omega
   have i1:(n:Int)<4:=by omega
   go_wp2_with fail;have cy:=C4.o.cY hn;have cz:=C4.o.fz;go_region;have rr:=(R4.o.other b (4+n) (iv V) (by omega)).all;have rz:=(R4.o.other b (4+n) (iv V) (by omega)).fz;go_wp2_with fail;have KR:=(ah (((((ak (W4.setCell ⟨b,4+n,none⟩ (iv V)) (w.heap.size+1) 0 (iv 0)).one 1 (iv 0)).one 2 (iv 0)).one 3 (iv 0)).one 4 (.bool false)))
   refine bodyPost_ret (v:=.agg ftZ) ?_ rfl ⟨g',?_,?_,(S4.o.set b (4+n) (iv V) (.inl (by omega))).mine KR (by omega)⟩
   ·rw [aj rfl];go_simp
   ·rw [E1.o,E2.o,show (D.fB (n:Int).toNat V).f=aG from DF.o];rfl
   ·rw [E1.o,E2.o];exact ((C4.o.uZ GD.o.g.a4 hn V).kept KR (by omega) (by omega))
 ·have E1:Hid (c.tk ⟨op,z,r,m,k,e,s⟩=D):=aab (by rw [ET.o,hv];rfl);go_wp2_with fail;have KR:=(((((ak W4 (w.heap.size+1) 0 (iv F.v)).one 1 (iv F.pc)).one 2 (iv F.ad)).one 3 (iv F.wo)).one 4 (.bool F.wr))
  refine bodyPost_ret (v:=.agg (ftA F)) ?_ rfl ⟨g',?_,?_,(S4.o).mine KR (by omega)⟩
  ·rw [aj rfl];go_simp
  ·rw [E1.o,<-HF.o];rfl
  ·rw [E1.o];exact ((C4.o).kept KR (by omega) (by omega))
namespace Pl
def Mc.gv (c:Mc) (x:In):Mc:=((c.aI (dA x.z c.r.f (c.low x.z x.r))).slot x.z x.m x.k x.e).write x.z x.m x.k (c.readA x.z x.m x.k x.e) (c.low x.z x.r)
def chV (s z v:Int):Int:=bif s==1 then lH z 0 0 v else bif s==2 then top z-1-v else v
def chF (s z f v:Int):Int:=bif s==1 then kC z 0 0 v else dA z f (chV s z v)
def Mc.ch' (d:Mc) (z m k a s v:Int):Mc:=bif s==3 then d.aI (chF s z d.r.f v) else (d.aI (chF s z d.r.f v)).write z m k a (chV s z v)
def Mc.ch (c:Mc) (x:In):Mc:=bif x.s==0 then (c.slot x.z x.m x.k x.e).ch' x.z x.m x.k (c.readA x.z x.m x.k x.e) 0 0 else bif (c.read x.z x.m x.k x.e).fine then (c.read x.z x.m x.k x.e).ch' x.z x.m x.k (c.readA x.z x.m x.k x.e) x.s (c.bC x.z x.m x.k x.e) else c.read x.z x.m x.k x.e
theorem tK (n x:Nat) (h:x<2^n):x ^^^ (2^n-1)=2^n-(x+1):=by
 apply Nat.eq_of_testBit_eq;intro i;rw [Nat.testBit_xor,Nat.testBit_two_pow_sub_one,Nat.testBit_two_pow_sub_succ h];by_cases hi:i<n
 ·simp [hi]
 ·have:x.testBit i=false:=Nat.testBit_lt_two_pow (Nat.lt_of_lt_of_le h (Nat.pow_le_pow_right (by decide) (by omega)))
  simp [hi,this]
theorem Nu {z v:Int} (hz:z=1∨z=2) (hv:okv z v=true):bits .xor .i64 v (top z-1)=top z-1-v:=by
 have tv:=aQ hv;rcases hz with rfl|rfl
 ·obtain ⟨n,rfl⟩:∃n:Nat,v=(n:Int):=⟨v.toNat,by omega⟩
  have e:=(bits_nat n 255 (by omega) (by decide)).2.2;show bits .xor .i64 (n:Int) ((255:Nat):Int)=_;rw [e,tK 8 n (by omega)];show ((256-(n+1):Nat):Int)=256-1-(n:Int);omega
 ·obtain ⟨n,rfl⟩:∃n:Nat,v=(n:Int):=⟨v.toNat,by omega⟩
  have e:=(bits_nat n 65535 (by omega) (by decide)).2.2;show bits .xor .i64 (n:Int) ((65535:Nat):Int)=_;rw [e,tK 16 n (by omega)];show ((65536-(n+1):Nat):Int)=65536-1-(n:Int);omega
theorem OC {z v:Int} (hz:z=1∨z=2) (hv:okv z v=true):okv z (top z-1-v)=true:=by
 have tv:=aQ hv;rcases hz with rfl|rfl
 ·simp [okv,top] at *;omega
 ·simp [okv,top] at *;omega
theorem RI {s z v:Int} (hz:z=1∨z=2) (hv:okv z v=true):okv z (chV s z v)=true:=by
 unfold chV;cases s==1
 ·cases s==2
  ·exact hv
  ·exact OC hz hv
 ·exact lT hz
theorem UC {s z f v:Int} (hz:z=1∨z=2) (hv:okv z v=true) (hf:flags f=true):0<=chF s z f v∧chF s z f v<=31:=by
 unfold chF;cases s==1
 ·exact fU z f _ (RI hz hv) hf
 ·have h0:okv z 0=true:=by rcases hz with rfl|rfl<;>rfl
  exact mM z 0 0 v
theorem GM.slot {c:Mc} (h:GM c) {z m k e:Int} (k0:0<=k) (k1:k<=3):GM (c.slot z m k e):=by
 unfold Mc.slot;cases Mc.gG m
 ·exact h.plc k0 k1
 ·exact h
end Pl
theorem Xr (op z r m k e s:Int) (hC:CAt w lo b g c h) (G:GM c) (hf:c.f=aG) (B:InB ⟨op,z,r,m,k,e,s⟩) (hm:m=0∨(2<=m∧m<=6)) :
  Calls prog 225 #[.pointer (some (aac b 0)),.agg (inA op z r m k e s)] w fun e' w'=>∃g',e'=.returned (.agg (ftC (c.gv ⟨op,z,r,m,k,e,s⟩).f))∧CAt w' lo b g' (c.gv ⟨op,z,r,m,k,e,s⟩) h∧Since w b (b+1) g w' g':=by
 have HB:=aab B;clear B;obtain ⟨l0,l1,l2,l3,l4⟩:=hC.lt;have HG:=aab G;obtain ⟨X,hX,K0,C0,A0,R0,sX⟩:=hC.kS op z r m k e s;have p:=A0.o.all;clear hC G;have OQ:Hid (okv z (c.low z r)=true):=aab (iE HG.o HB.o.z HB.o.r0 HB.o.r1);obtain ⟨Q,hQ⟩:∃Q,Q=c.low z r:=⟨_,rfl⟩
 obtain ⟨d,hd⟩:∃d,d=c.aI (dA z c.r.f Q):=⟨_,rfl⟩
 have GD:Hid (GM d):=aab (by rw [hd,hQ];have q:=fU z c.r.f _ OQ.o (di HG.o);exact HG.o.aI q.1 q.2);have qb:0<=Q∧Q<=65535:=by rw [hQ];have:=aQ OQ.o;omega
 obtain ⟨qb0,qb1⟩:=qb;have ab:=oH GD.o (z:=z) (m:=m) (k:=k) (e:=e) HB.o.k0 HB.o.k1 HB.o.e0 HB.o.e1;obtain ⟨a,ha⟩:∃a,a=d.readA z m k e:=⟨_,rfl⟩
 rw [<-ha] at ab;obtain ⟨ab0,ab1⟩:=ab;obtain ⟨N,hN⟩:∃N,N=(d.slot z m k e).write z m k a Q:=⟨_,rfl⟩
 have ET:Hid (c.gv ⟨op,z,r,m,k,e,s⟩=N):=aab (by rw [hN,ha,hd,hQ];rfl);have GS:Hid (GM (d.slot z m k e)):=aab (GD.o.slot HB.o.k0 HB.o.k1);have FS:Hid ((d.slot z m k e).f=aG):=aab (by rw [hd];unfold Mc.slot;cases Mc.gG m<;>exact hf);rw [ET.o];rw [<-hQ] at OQ;obtain ⟨F,hF⟩:∃F,F=N.f:=⟨_,rfl⟩
 rw [<-hF];have HN:=aab hN;have HQ:=aab hQ;have HD:=aab hd;have HA:=aab ha;have HF:=aab hF;have HM:=aab hm;clear hQ hd ha hN hF hm;go_enter func225,ntmps225;go_wp2_with (first|(go_at_call 254;have z9:=C3;refine (uJ _ lo b g (d.slot z m k e) h z m k e a Q C3.o GS.o FS.o HB.o.z HM.o HB.o.k0 HB.o.k1 ab0 ab1 OQ.o).mono ?_;rintro e9 W4 ⟨g',rfl,hc,hs⟩;rw [<-HN.o] at hc ⊢;rw [<-HF.o];unfold ftC;have C4:=aab hc;have R4:=aab (hs.blk R3.o (by omega) (by omega));have n4:=hs.ne (b:=w.heap.size+1) R3.o.lt (by omega);have S4:=aab (S3.o.trans hs);have r4:=R4.o.all;have rf4:=R4.o.fz;clear hc hs)|(go_at_call 227;have z9:=C2;refine (wu _ lo b g d h ⟨op,z,r,m,k,e,s⟩ C2.o GD.o HB.o).mono ?_;rintro e9 W3 ⟨rfl,hc,hk⟩;rw [<-HA.o];have C3:=aab hc;have R3:=aab (R2.o.kept hk (by omega));have S3:=aab (S2.o.ai hk (Nat.le_refl _) (Nat.le_refl _));clear hc hk)|(go_at_call 253;have z9:=C1;refine (sN _ lo b g c h z Q C1.o qb0 qb1).mono ?_;rintro e9 W2 ⟨rfl,hc,hk⟩;rw [<-HD.o] at hc;have C2:=aab hc;have A2:=aab (A1.o.kept hk (by omega));have R2:=aab (R1.o.kept hk (by omega));have S2:=aab (((Since.refl w b (b+1) g).any K1.o).ai hk (Nat.le_refl _) (Nat.le_refl _));have p2:=A2.o.all;clear hc hk)|(go_at_call 251;refine (ng _ lo b g c h z r C0.o HB.o.z HB.o.r0 HB.o.r1).mono ?_;rintro e9 W1 ⟨rfl,k1⟩;rw [<-HQ.o];have C1:=aab (C0.o.any k1);have A1:=aab (A0.o.ae k1);have R1:=aab (R0.o.ae k1);have K1:=aab (K0.o.trans k1);have p1:=A1.o.all;clear k1));have KR:=(((((ak W4 (w.heap.size+1) 0 (iv F.v)).one 1 (iv F.pc)).one 2 (iv F.ad)).one 3 (iv F.wo)).one 4 (.bool F.wr))
 refine bodyPost_ret (v:=.agg (ftA F)) ?_ rfl ⟨g',?_,?_,(S4.o).mine KR (by omega)⟩
 ·rw [aj rfl];go_simp
 ·rfl
 ·exact ((C4.o).kept KR (by omega) (by omega))
theorem MI (op z r m k e:Int) (hC:CAt w lo b g c h) (G:GM c) (hf:c.f=aG) (B:InB ⟨op,z,r,m,k,e,0⟩) (hm:m=0∨(2<=m∧m<=6)) :
  Calls prog 226 #[.pointer (some (aac b 0)),.agg (inA op z r m k e 0)] w fun e' w'=>∃g',e'=.returned (.agg (ftC (c.ch ⟨op,z,r,m,k,e,0⟩).f))∧CAt w' lo b g' (c.ch ⟨op,z,r,m,k,e,0⟩) h∧Since w b (b+1) g w' g':=by
 have HB:=aab B;clear B;obtain ⟨l0,l1,l2,l3,l4⟩:=hC.lt;have HG:=aab G;obtain ⟨X,hX,K0,C0,A0,R0,sX⟩:=hC.kS op z r m k e 0;have p:=A0.o.all;clear hC G;have ab:=oH HG.o (z:=z) (m:=m) (k:=k) (e:=e) HB.o.k0 HB.o.k1 HB.o.e0 HB.o.e1;obtain ⟨a,ha⟩:∃a,a=c.readA z m k e:=⟨_,rfl⟩
 rw [<-ha] at ab;obtain ⟨ab0,ab1⟩:=ab;have HA:=aab ha;obtain ⟨T,U,hW⟩:=pF m k e;have HW:=aab hW;have HM:=aab hm;clear ha hW hm;obtain ⟨D,hD⟩:∃D,D=c.slot z m k e:=⟨_,rfl⟩
 obtain ⟨E,hE⟩:∃E,E=D.aI (dA z D.r.f 0):=⟨_,rfl⟩
 have O0:okv z 0=true:=by rcases HB.o.z with h|h<;>(have h':z=_:=h;subst h';rfl)
 have OV2:=aab O0;have GD:GM D:=by rw [hD];exact HG.o.slot HB.o.k0 HB.o.k1
 have GE:Hid (GM E):=aab (by rw [hE];have q:=fU z D.r.f 0 O0 (di GD);exact GD.aI q.1 q.2);have FE:Hid (E.f=aG):=aab (by rw [hE,hD];unfold Mc.slot;cases Mc.gG m<;>exact hf);obtain ⟨N,hN⟩:∃N,N=E.write z m k a 0:=⟨_,rfl⟩
 have ET:Hid (c.ch ⟨op,z,r,m,k,e,0⟩=N):=aab (by rw [hN,hE,hD,HA.o];rfl);rw [ET.o];obtain ⟨F,hF⟩:∃F,F=N.f:=⟨_,rfl⟩
 rw [<-hF];have HD:=aab hD;have HE:=aab hE;have HN:=aab hN;have HF2:=aab hF;clear hD hE hN hF GD O0;go_enter func226,ntmps226;go_wp2_with (first|(go_at_call 254;have z9:=C2;rw [<-HW.o];refine (uJ _ lo b g E h z m k e a 0 C2.o GE.o FE.o HB.o.z HM.o HB.o.k0 HB.o.k1 ab0 ab1 OV2.o).mono ?_;rintro e9 W3 ⟨g',rfl,hc,hs⟩;rw [<-HN.o] at hc ⊢;rw [<-HF2.o];try rw [HW.o];unfold ftC;have C3:=aab hc;have R3:=aab (hs.blk R2.o (by omega) (by omega));have n3:=hs.ne (b:=w.heap.size+1) R2.o.lt (by omega);have S3:=aab (S2.o.trans hs);have r3:=R3.o.all;have rf3:=R3.o.fz;clear hc hs)|(go_at_call 253;have z9:=C1;refine (sN _ lo b g D h z 0 C1.o (by decide) (by decide)).mono ?_;rintro e9 W2 ⟨rfl,hc,hk⟩;rw [<-HE.o] at hc;have C2:=aab hc;have A2:=aab (A1.o.kept hk (by omega));have R2:=aab (R1.o.kept hk (by omega));have J2:=aab (J1.o.kept hk (by omega));have S2:=aab (S1.o.ai hk (Nat.le_refl _) (Nat.le_refl _));have p2:=A2.o.all;have j2:=J2.o.all;have r2:=R2.o.all;have rf2:=R2.o.fz;clear hc hk)|(go_at_call 227;refine (wu _ lo b g c h ⟨op,z,r,m,k,e,0⟩ C0.o HG.o HB.o).mono ?_;rintro e9 W1 ⟨rfl,hc,hk⟩;rw [<-HA.o,HW.o];rw [<-HD.o] at hc;have C1:=aab (hc.alloc (.cells #[.iface T U,iv z,iv a] 239));have A1:=aab ((A0.o.kept hk (by omega)).alloc (.cells #[.iface T U,iv z,iv a] 239));have R1:=aab ((R0.o.kept hk (by omega)).alloc (.cells #[.iface T U,iv z,iv a] 239));have S1:=aab ((((Since.refl w b (b+1) g).any K0.o).ai hk (Nat.le_refl _) (Nat.le_refl _)).alloc (.cells #[.iface T U,iv z,iv a] 239));have J1:=aab (Blk.new W1 #[.iface T U,iv z,iv a] 239);have s1:=hk.size;have p1:=A1.o.all;have j1:=J1.o.all;clear hc hk));have KR:=(((((ak W3 (w.heap.size+1) 0 (iv F.v)).one 1 (iv F.pc)).one 2 (iv F.ad)).one 3 (iv F.wo)).one 4 (.bool F.wr))
 refine bodyPost_ret (v:=.agg (ftA F)) ?_ rfl ⟨g',?_,?_,(S3.o).mine KR (by omega)⟩
 ·rw [aj rfl];go_simp
 ·rfl
 ·exact ((C3.o).kept KR (by omega) (by omega))
theorem MH (op z r m k e s:Int) (hC:CAt w lo b g c h) (G:GM c) (hf:c.f=aG) (B:InB ⟨op,z,r,m,k,e,s⟩) (hs:s=1∨s=2∨s=3) (hm:m=0∨(2<=m∧m<=6)) :
  Calls prog 226 #[.pointer (some (aac b 0)),.agg (inA op z r m k e s)] w fun e' w'=>∃g',e'=.returned (.agg (ftC (c.ch ⟨op,z,r,m,k,e,s⟩).f))∧CAt w' lo b g' (c.ch ⟨op,z,r,m,k,e,s⟩) h∧Since w b (b+1) g w' g':=by
 have q0:(s==0)=false:=by rcases hs with q|q|q<;>rw [q]<;>rfl
 have HS0:=aab hs;clear hs;have HB:=aab B;clear B;obtain ⟨l0,l1,l2,l3,l4⟩:=hC.lt;have HG:=aab G;obtain ⟨X,hX,K0,C0,A0,R0,sX⟩:=hC.kS op z r m k e s;have p:=A0.o.all;clear hC G;have ab:=oH HG.o (z:=z) (m:=m) (k:=k) (e:=e) HB.o.k0 HB.o.k1 HB.o.e0 HB.o.e1;obtain ⟨a,ha⟩:∃a,a=c.readA z m k e:=⟨_,rfl⟩
 rw [<-ha] at ab;obtain ⟨ab0,ab1⟩:=ab;have HA:=aab ha;obtain ⟨T,U,hW⟩:=pF m k e;have HW:=aab hW;have HM:=aab hm;clear ha hW hm;obtain ⟨D,hD⟩:∃D,D=c.read z m k e:=⟨_,rfl⟩
 obtain ⟨V,hV⟩:∃V,V=c.bC z m k e:=⟨_,rfl⟩
 obtain ⟨F,hF⟩:∃F,F=D.f:=⟨_,rfl⟩
 have GD:Hid (GM D):=aab (by rw [hD];exact HG.o.read HB.o.z HB.o.k0 HB.o.k1 HB.o.e0 HB.o.e1);have OV:Hid (okv z V=true):=aab (by rw [hV];exact fF HG.o HB.o.z HB.o.k0 HB.o.k1 HB.o.e0 HB.o.e1 (fun q=>by have:=HM.o;omega) HB.o.n7)
 have ET:Hid (c.ch ⟨op,z,r,m,k,e,s⟩=bif !(F.v != 0) then D.ch' z m k a s V else D):=aab (by
  unfold Mc.ch;simp only [q0,cond_false]
  rw [<-hD,<-hV,hF,<-HA.o];unfold Mc.fine;simp [bne])
 have HD:=aab hD;have HV:=aab hV;have HF:=aab hF;clear hD hV hF;go_enter func226,ntmps226;go_wp2_with (first|(go_at_call 249;have z9:=C1;have hr:=Md _ lo b g c h z m k e C1.o HG.o hf HB.o.z HB.o.m0 HB.o.m1 HB.o.k0 HB.o.k1 HB.o.e0 HB.o.e1;rw [HW.o,<-HA.o] at hr;refine hr.mono ?_;clear hr;rintro e9 W2 ⟨g',rfl,hc,hs⟩;rw [<-HD.o] at hc ⊢;rw [<-HV.o,<-HF.o];unfold ftC;have C2:=aab (hc.alloc (.cells (ftA F) 42));have A2:=aab ((hs.blk A1.o (by omega) (by omega)).alloc (.cells (ftA F) 42));have R2:=aab ((hs.blk R1.o (by omega) (by omega)).alloc (.cells (ftA F) 42));have J2:=aab ((hs.blk J1.o (by omega) (by have:=J1.o.lt;omega)).alloc (.cells (ftA F) 42));have S2:=aab ((S1.o.trans hs).alloc (.cells (ftA F) 42));have L2:=aab (Blk.new W2 (ftA F) 42);have z2:=hs.size;have n2:=hs.ne (b:=w.heap.size+1) R1.o.lt (by omega);have m2:=hs.ne (b:=w.heap.size) A1.o.lt (by omega);have o2:=hs.ne (b:=W1.heap.size) J1.o.lt (by omega);clear hc hs)|(go_at_call 227;refine (wu _ lo b g c h ⟨op,z,r,m,k,e,s⟩ C0.o HG.o HB.o).mono ?_;rintro e9 W1 ⟨rfl,hc,hk⟩;rw [<-HA.o];rw [HW.o];have C1:=aab (hc.alloc (.cells #[.iface T U,iv z,iv a] 239));have A1:=aab ((A0.o.kept hk (by omega)).alloc (.cells #[.iface T U,iv z,iv a] 239));have R1:=aab ((R0.o.kept hk (by omega)).alloc (.cells #[.iface T U,iv z,iv a] 239));have S1:=aab ((((Since.refl w b (b+1) g).any K0.o).ai hk (Nat.le_refl _) (Nat.le_refl _)).alloc (.cells #[.iface T U,iv z,iv a] 239));have J1:=aab (Blk.new W1 #[.iface T U,iv z,iv a] 239);have s1:=hk.size;have p1:=A1.o.all;have j1:=J1.o.all;clear hc hk));refine (bQ F _).mono ?_;rintro e9 W4 ⟨rfl,kf⟩;have C4:=aab (C2.o.any kf);have A4:=aab (A2.o.ae kf);have R4:=aab (R2.o.ae kf);have L4:=aab (L2.o.ae kf);have S4:=aab (S2.o.any kf);have p4:=A4.o.all;have q4:=L4.o.all;have r4:=R4.o.all;have rf4:=R4.o.fz;have J4:=aab (J2.o.ae kf);have j4:=J4.o.all;clear kf;clear hX p p1 j1;have b4:=C4.o.cF;have bz4:=C4.o.fz;have tv:=aQ OV.o;obtain ⟨tv0,tv1⟩:0<=V∧V<=65535:=by omega
 cases hv:(F.v != 0)
 ·have E1:Hid (c.ch ⟨op,z,r,m,k,e,s⟩=D.ch' z m k a s V):=aab (by rw [ET.o,hv];rfl);have DF:Hid (D.f=aG):=aab (xG hf HD.o (by rw [<-HF.o];exact hv));obtain ⟨V2,hV2⟩:∃v,v=chV s z V:=⟨_,rfl⟩
  have OV2:Hid (okv z V2=true):=aab (by rw [hV2];exact RI HB.o.z OV.o);have tw:=aQ OV2.o;obtain ⟨tw0,tw1⟩:0<=V2∧V2<=65535:=by omega
  obtain ⟨FL,hFL⟩:∃v,v=chF s z D.r.f V:=⟨_,rfl⟩
  have fl:0<=FL∧FL<=31:=by rw [hFL];exact UC HB.o.z OV.o (di GD.o)
  obtain ⟨E,hE⟩:∃E,E=D.aI FL:=⟨_,rfl⟩
  have GE:Hid (GM E):=aab (by rw [hE];exact GD.o.aI fl.1 fl.2);have FE:Hid (E.f=aG):=aab (by rw [hE];exact DF.o);rcases HS0.o with q|q|q
  ·have q1:(s==1)=true:=by rw [q];rfl
   obtain ⟨N,hN⟩:∃N,N=E.write z m k a V2:=⟨_,rfl⟩
   have E2:Hid (D.ch' z m k a s V=N):=aab (by rw [hN,hE,hFL,hV2,q];rfl);obtain ⟨F2,hF2⟩:∃F,F=N.f:=⟨_,rfl⟩
   have HN:=aab hN;have HF2:=aab hF2;have HE:=aab hE;have e1:lH z 0 0 V=V2:=by rw [hV2,q];rfl
   have e2:kC z 0 0 V=FL:=by rw [hFL,q];rfl
   clear hE hFL hV2 hN hF2 fl tw tv q;have C5:Hid (CAt (W4.setCell (aac b 10) (iv FL)) lo b g' E h):=aab (by rw [HE.o];exact C4.o.aI FL);have R5:=aab (R4.o.other b 10 (iv FL) (by omega));have S5:=aab (S4.o.set b 10 (iv FL) (.inl (by omega)));have p5:=(A4.o.other b 10 (iv FL) (by omega)).all;have j5:=(J4.o.other b 10 (iv FL) (by omega)).all;go_wp2_with (first|(go_at_call 254;have z9:=C5;rw [<-HW.o];refine (uJ _ lo b g' E h z m k e a V2 C5.o GE.o FE.o HB.o.z HM.o HB.o.k0 HB.o.k1 ab0 ab1 OV2.o).mono ?_;rintro e9 W6 ⟨g6,rfl,hc,hs⟩;rw [<-HN.o] at hc ⊢;rw [<-HF2.o];try rw [HW.o];unfold ftC;have C6:=aab hc;have R6:=aab (hs.blk R5.o (by omega) (by omega));have n6:=hs.ne (b:=w.heap.size+1) R5.o.lt (by omega);have S6:=aab (S5.o.trans hs);have r6:=R6.o.all;have rf6:=R6.o.fz;clear hc hs)|(go_at_call 255;refine st (Jk _ _ _ (by omega) (by omega)) ?_;rw [e1,e2]));have KR:=(((((ak W6 (w.heap.size+1) 0 (iv F2.v)).one 1 (iv F2.pc)).one 2 (iv F2.ad)).one 3 (iv F2.wo)).one 4 (.bool F2.wr))
   refine bodyPost_ret (v:=.agg (ftA F2)) ?_ rfl ⟨g6,?_,?_,(S6.o).mine KR (by omega)⟩
   ·rw [aj rfl];go_simp
   ·rw [E1.o,E2.o,<-HF2.o];rfl
   ·rw [E1.o,E2.o];exact ((C6.o).kept KR (by omega) (by omega))
  ·have q1:(s==1)=false:=by rw [q];rfl
   have q2:(s==2)=true:=by rw [q];rfl
   obtain ⟨N,hN⟩:∃N,N=E.write z m k a V2:=⟨_,rfl⟩
   have E2:Hid (D.ch' z m k a s V=N):=aab (by rw [hN,hE,hFL,hV2,q];rfl);obtain ⟨F2,hF2⟩:∃F,F=N.f:=⟨_,rfl⟩
   have HN:=aab hN;have HF2:=aab hF2;have HE:Hid (E=D.aI (dA z D.r.f V2)):=aab (by rw [hE,hFL,hV2,q];rfl);have ex:bits .xor .i64 V (Pl.top z-1)=V2:=by rw [hV2,q];exact Nu HB.o.z OV.o
   clear hE hFL hV2 hN hF2 fl tw tv q;go_wp2_with (first|(go_at_call 254;have z9:=C5;rw [<-HW.o];refine (uJ _ lo b g' E h z m k e a V2 C5.o GE.o FE.o HB.o.z HM.o HB.o.k0 HB.o.k1 ab0 ab1 OV2.o).mono ?_;rintro e9 W6 ⟨g6,rfl,hc,hs⟩;rw [<-HN.o] at hc ⊢;rw [<-HF2.o];try rw [HW.o];unfold ftC;have C6:=aab hc;have R6:=aab (hs.blk R5.o (by omega) (by omega));have n6:=hs.ne (b:=w.heap.size+1) R5.o.lt (by omega);have S6:=aab (S5.o.trans hs);have r6:=R6.o.all;have rf6:=R6.o.fz;clear hc hs)|(go_at_call 253;refine (sN _ lo b g' D h z V2 C4.o tw0 tw1).mono ?_;rintro e9 W5 ⟨rfl,hc,hk⟩;rw [<-HE.o] at hc;have C5:=aab hc;have A5:=aab (A4.o.kept hk (by omega));have R5:=aab (R4.o.kept hk (by omega));have J5:=aab (J4.o.kept hk (by omega));have S5:=aab (S4.o.ai hk (Nat.le_refl _) (Nat.le_refl _));have p5:=A5.o.all;have j5:=J5.o.all;have r5:=R5.o.all;have rf5:=R5.o.fz;clear hc hk)|(go_at_call 256;refine st (Jg _ _ HB.o.z) ?_));have KR:=(((((ak W6 (w.heap.size+1) 0 (iv F2.v)).one 1 (iv F2.pc)).one 2 (iv F2.ad)).one 3 (iv F2.wo)).one 4 (.bool F2.wr))
   refine bodyPost_ret (v:=.agg (ftA F2)) ?_ rfl ⟨g6,?_,?_,(S6.o).mine KR (by omega)⟩
   ·rw [aj rfl];go_simp
   ·rw [E1.o,E2.o,<-HF2.o];rfl
   ·rw [E1.o,E2.o];exact ((C6.o).kept KR (by omega) (by omega))
  ·have q1:(s==1)=false:=by rw [q];rfl
   have q2:(s==2)=false:=by rw [q];rfl
   have q3:(s==3)=true:=by rw [q];rfl
   have E2:Hid (D.ch' z m k a s V=E):=aab (by rw [hE,hFL,q];rfl);have HE:Hid (E=D.aI (dA z D.r.f V)):=aab (by rw [hE,hFL,q];rfl);clear hE hFL hV2 fl tw tv q;go_wp2_with (first|(go_at_call 253;refine (sN _ lo b g' D h z V C4.o tv0 tv1).mono ?_;rintro e9 W5 ⟨rfl,hc,hk⟩;rw [<-HE.o] at hc;have C5:=aab hc;have A5:=aab (A4.o.kept hk (by omega));have R5:=aab (R4.o.kept hk (by omega));have J5:=aab (J4.o.kept hk (by omega));have S5:=aab (S4.o.ai hk (Nat.le_refl _) (Nat.le_refl _));have p5:=A5.o.all;have j5:=J5.o.all;have r5:=R5.o.all;have rf5:=R5.o.fz;clear hc hk));have KR:=(((((ak W5 (w.heap.size+1) 0 (iv 0)).one 1 (iv 0)).one 2 (iv 0)).one 3 (iv 0)).one 4 (.bool false))
   refine bodyPost_ret (v:=.agg ftZ) ?_ rfl ⟨g',?_,?_,(S5.o).mine KR (by omega)⟩
   ·rw [aj rfl];go_simp
   ·rw [E1.o,E2.o,FE.o];rfl
   ·rw [E1.o,E2.o];exact ((C5.o).kept KR (by omega) (by omega))
 ·have E1:Hid (c.ch ⟨op,z,r,m,k,e,s⟩=D):=aab (by rw [ET.o,hv];rfl);go_wp2_with fail;have KR:=(((((ak W4 (w.heap.size+1) 0 (iv F.v)).one 1 (iv F.pc)).one 2 (iv F.ad)).one 3 (iv F.wo)).one 4 (.bool F.wr))
  refine bodyPost_ret (v:=.agg (ftA F)) ?_ rfl ⟨g',?_,?_,(S4.o).mine KR (by omega)⟩
  ·rw [aj rfl];go_simp
  ·rw [E1.o,<-HF.o];rfl
  ·rw [E1.o];exact ((C4.o).kept KR (by omega) (by omega))
set_option linter.unusedSimpArgs false
theorem wM (v x f:Int) (t:Bool) (w:World) (h0:0<=v) (h1:v<256) (x0:0<=x) (x1:x<=1) :
  Calls prog 303 #[.agg #[iv v,iv 8,iv x,iv f,.bool t]] w fun e w'=>e=.returned (.agg #[iv (nv 0 1 x v),iv 8,iv (nx 0 1 x v),iv (fell 0 1 v),.bool (vfl 0 1 x v)])∧Below w.heap.size w w':=by
 obtain ⟨b0,b1⟩:=dF 1 v;have E1:Hid ((v*2%256)=nv 0 1 x v):=aab (by simp only [nv,inn,fell,Pl.top,Int.reduceMod,Int.reduceEq,Int.reduceLE,Int.reduceDiv,if_true,if_false,or_self,or_true,true_or,or_false,false_or]<;>omega);have E2:Hid ((Pl.hi 1 v)=nx 0 1 x v):=aab (by simp only [nx,fell,Int.reduceMod,Int.reduceEq,if_true,if_false,or_self,or_true,true_or,or_false,false_or]);have E3:Hid ((Pl.hi 1 v)=fell 0 1 v):=aab (by simp only [fell,Int.reduceMod,Int.reduceEq,if_true,if_false]);have E4:Hid ((Pl.hi 1 (v*2%256) != Pl.hi 1 v)=vfl 0 1 x v):=aab (by rw [vfl,<-E1.o,lZ];rfl);go_enter func303,ntmps303;go_wp2_with (first|(go_at_call 311;refine (fH _ _ _ _ _ ?h0 ?h1).mono ?_;(case h0=>omega);(case h1=>omega);rintro e w' ⟨rfl,o6,rfl⟩)|(go_at_call 323;refine (lowest _ _ _ _ _ _).mono ?_;rintro e w' ⟨rfl,o6,rfl⟩)|(go_at_call 320;refine (pK _ _ _ _ _ _ ?h0 ?h1 ?h2 ?h3).mono ?_;(case h0=>omega);(case h1=>omega);(case h2=>omega);(case h3=>omega);rintro e w' ⟨rfl,o1,o2,o3,rfl⟩)|(go_at_call 321;refine (aU _ _ _ _ _ _).mono ?_;rintro e w' ⟨rfl,o4,o5,rfl⟩));go_region_with (first|(go_at_call 311;refine (fH _ _ _ _ _ ?h0 ?h1).mono ?_;(case h0=>omega);(case h1=>omega);rintro e w' ⟨rfl,o6,rfl⟩)|(go_at_call 323;refine (lowest _ _ _ _ _ _).mono ?_;rintro e w' ⟨rfl,o6,rfl⟩)|(go_at_call 320;refine (pK _ _ _ _ _ _ ?h0 ?h1 ?h2 ?h3).mono ?_;(case h0=>omega);(case h1=>omega);(case h2=>omega);(case h3=>omega);rintro e w' ⟨rfl,o1,o2,o3,rfl⟩)|(go_at_call 321;refine (aU _ _ _ _ _ _).mono ?_;rintro e w' ⟨rfl,o4,o5,rfl⟩))
 all_goals go_wp2_with fail
 all_goals
  refine bodyPost_ret (v:=.agg #[iv (v*2%256),iv 8,iv (Pl.hi 1 v),iv (Pl.hi 1 v),.bool (Pl.hi 1 (v*2%256) != Pl.hi 1 v)]) ?_ rfl ⟨?_,?_⟩
  ·rw [aN rfl];go_simp
  ·exact rA E1.o rfl E2.o E3.o E4.o
  ·(repeat' (first|with_reducible exact Below.refl _ _|with_reducible refine Below.drew ?_|with_reducible refine Below.alloc ?_ ?_ _|(simp;done)|(simp;omega)))
theorem uo (v x f:Int) (t:Bool) (w:World) (h0:0<=v) (h1:v<256) (x0:0<=x) (x1:x<=1) :
  Calls prog 304 #[.agg #[iv v,iv 8,iv x,iv f,.bool t]] w fun e w'=>e=.returned (.agg #[iv (nv 1 1 x v),iv 8,iv (nx 1 1 x v),iv (fell 1 1 v),.bool t])∧Below w.heap.size w w':=by
 obtain ⟨b0,b1⟩:=dF 1 v;have E1:Hid ((v/2+Pl.hi 1 v*128)=nv 1 1 x v):=aab (by simp only [nv,inn,fell,Pl.top,Int.reduceMod,Int.reduceEq,Int.reduceLE,Int.reduceDiv,if_true,if_false,or_self,or_true,true_or,or_false,false_or]<;>omega);have E2:Hid ((v%2)=nx 1 1 x v):=aab (by simp only [nx,fell,Int.reduceMod,Int.reduceEq,if_true,if_false,or_self,or_true,true_or,or_false,false_or]);have E3:Hid ((v%2)=fell 1 1 v):=aab (by simp only [fell,Int.reduceMod,Int.reduceEq,if_true,if_false]);go_enter func304,ntmps304;go_wp2_with (first|(go_at_call 311;refine (fH _ _ _ _ _ ?h0 ?h1).mono ?_;(case h0=>omega);(case h1=>omega);rintro e w' ⟨rfl,o6,rfl⟩)|(go_at_call 323;refine (lowest _ _ _ _ _ _).mono ?_;rintro e w' ⟨rfl,o6,rfl⟩)|(go_at_call 322;refine (kL _ _ _ _ _ _ ?h0 ?h1 ?h2 ?h3).mono ?_;(case h0=>omega);(case h1=>omega);(case h2=>omega);(case h3=>omega);rintro e w' ⟨rfl,o1,o2,o3,rfl⟩)|(go_at_call 321;refine (aU _ _ _ _ _ _).mono ?_;rintro e w' ⟨rfl,o4,o5,rfl⟩));go_region_with (first|(go_at_call 311;refine (fH _ _ _ _ _ ?h0 ?h1).mono ?_;(case h0=>omega);(case h1=>omega);rintro e w' ⟨rfl,o6,rfl⟩)|(go_at_call 323;refine (lowest _ _ _ _ _ _).mono ?_;rintro e w' ⟨rfl,o6,rfl⟩)|(go_at_call 322;refine (kL _ _ _ _ _ _ ?h0 ?h1 ?h2 ?h3).mono ?_;(case h0=>omega);(case h1=>omega);(case h2=>omega);(case h3=>omega);rintro e w' ⟨rfl,o1,o2,o3,rfl⟩)|(go_at_call 321;refine (aU _ _ _ _ _ _).mono ?_;rintro e w' ⟨rfl,o4,o5,rfl⟩))
 all_goals go_wp2_with fail
 all_goals
  refine bodyPost_ret (v:=.agg #[iv (v/2+Pl.hi 1 v*128),iv 8,iv (v%2),iv (v%2),.bool t]) ?_ rfl ⟨?_,?_⟩
  ·rw [aN rfl];go_simp
  ·exact rA E1.o rfl E2.o E3.o rfl
  ·(repeat' (first|with_reducible exact Below.refl _ _|with_reducible refine Below.drew ?_|with_reducible refine Below.alloc ?_ ?_ _|(simp;done)|(simp;omega)))
theorem IQ (v x f:Int) (t:Bool) (w:World) (h0:0<=v) (h1:v<256) (x0:0<=x) (x1:x<=1) :
  Calls prog 305 #[.agg #[iv v,iv 8,iv x,iv f,.bool t]] w fun e w'=>e=.returned (.agg #[iv (nv 2 1 x v),iv 8,iv (nx 2 1 x v),iv (fell 2 1 v),.bool t])∧Below w.heap.size w w':=by
 obtain ⟨b0,b1⟩:=dF 1 v;have E1:Hid ((v*2%256)=nv 2 1 x v):=aab (by simp only [nv,inn,fell,Pl.top,Int.reduceMod,Int.reduceEq,Int.reduceLE,Int.reduceDiv,if_true,if_false,or_self,or_true,true_or,or_false,false_or]<;>omega);have E2:Hid ((Pl.hi 1 v)=nx 2 1 x v):=aab (by simp only [nx,fell,Int.reduceMod,Int.reduceEq,if_true,if_false,or_self,or_true,true_or,or_false,false_or]);have E3:Hid ((Pl.hi 1 v)=fell 2 1 v):=aab (by simp only [fell,Int.reduceMod,Int.reduceEq,if_true,if_false]);go_enter func305,ntmps305;go_wp2_with (first|(go_at_call 311;refine (fH _ _ _ _ _ ?h0 ?h1).mono ?_;(case h0=>omega);(case h1=>omega);rintro e w' ⟨rfl,o6,rfl⟩)|(go_at_call 323;refine (lowest _ _ _ _ _ _).mono ?_;rintro e w' ⟨rfl,o6,rfl⟩)|(go_at_call 320;refine (pK _ _ _ _ _ _ ?h0 ?h1 ?h2 ?h3).mono ?_;(case h0=>omega);(case h1=>omega);(case h2=>omega);(case h3=>omega);rintro e w' ⟨rfl,o1,o2,o3,rfl⟩)|(go_at_call 321;refine (aU _ _ _ _ _ _).mono ?_;rintro e w' ⟨rfl,o4,o5,rfl⟩))
 all_goals
  refine bodyPost_ret (v:=.agg #[iv (v*2%256),iv 8,iv (Pl.hi 1 v),iv (Pl.hi 1 v),.bool t]) ?_ rfl ⟨?_,?_⟩
  ·rw [aN rfl];go_simp
  ·exact rA E1.o rfl E2.o E3.o rfl
  ·(repeat' (first|with_reducible exact Below.refl _ _|with_reducible refine Below.drew ?_|with_reducible refine Below.alloc ?_ ?_ _|(simp;done)|(simp;omega)))
theorem BG (v x f:Int) (t:Bool) (w:World) (h0:0<=v) (h1:v<256) (x0:0<=x) (x1:x<=1) :
  Calls prog 306 #[.agg #[iv v,iv 8,iv x,iv f,.bool t]] w fun e w'=>e=.returned (.agg #[iv (nv 3 1 x v),iv 8,iv (nx 3 1 x v),iv (fell 3 1 v),.bool t])∧Below w.heap.size w w':=by
 obtain ⟨b0,b1⟩:=dF 1 v;have E1:Hid ((v/2)=nv 3 1 x v):=aab (by simp only [nv,inn,fell,Pl.top,Int.reduceMod,Int.reduceEq,Int.reduceLE,Int.reduceDiv,if_true,if_false,or_self,or_true,true_or,or_false,false_or]<;>omega);have E2:Hid ((v%2)=nx 3 1 x v):=aab (by simp only [nx,fell,Int.reduceMod,Int.reduceEq,if_true,if_false,or_self,or_true,true_or,or_false,false_or]);have E3:Hid ((v%2)=fell 3 1 v):=aab (by simp only [fell,Int.reduceMod,Int.reduceEq,if_true,if_false]);go_enter func306,ntmps306;go_wp2_with (first|(go_at_call 311;refine (fH _ _ _ _ _ ?h0 ?h1).mono ?_;(case h0=>omega);(case h1=>omega);rintro e w' ⟨rfl,o6,rfl⟩)|(go_at_call 323;refine (lowest _ _ _ _ _ _).mono ?_;rintro e w' ⟨rfl,o6,rfl⟩)|(go_at_call 322;refine (kL _ _ _ _ _ _ ?h0 ?h1 ?h2 ?h3).mono ?_;(case h0=>omega);(case h1=>omega);(case h2=>omega);(case h3=>omega);rintro e w' ⟨rfl,o1,o2,o3,rfl⟩)|(go_at_call 321;refine (aU _ _ _ _ _ _).mono ?_;rintro e w' ⟨rfl,o4,o5,rfl⟩))
 all_goals
  refine bodyPost_ret (v:=.agg #[iv (v/2),iv 8,iv (v%2),iv (v%2),.bool t]) ?_ rfl ⟨?_,?_⟩
  ·rw [aN rfl];go_simp
  ·exact rA E1.o rfl E2.o E3.o rfl
  ·(repeat' (first|with_reducible exact Below.refl _ _|with_reducible refine Below.drew ?_|with_reducible refine Below.alloc ?_ ?_ _|(simp;done)|(simp;omega)))
theorem NG (v x f:Int) (t:Bool) (w:World) (h0:0<=v) (h1:v<256) (x0:0<=x) (x1:x<=1) :
  Calls prog 307 #[.agg #[iv v,iv 8,iv x,iv f,.bool t]] w fun e w'=>e=.returned (.agg #[iv (nv 4 1 x v),iv 8,iv (nx 4 1 x v),iv (fell 4 1 v),.bool t])∧Below w.heap.size w w':=by
 obtain ⟨b0,b1⟩:=dF 1 v;have E1:Hid ((v*2%256+Pl.hi 1 v)=nv 4 1 x v):=aab (by simp only [nv,inn,fell,Pl.top,Int.reduceMod,Int.reduceEq,Int.reduceLE,Int.reduceDiv,if_true,if_false,or_self,or_true,true_or,or_false,false_or]<;>omega);have E2:Hid (x=nx 4 1 x v):=aab (by simp only [nx,fell,Int.reduceMod,Int.reduceEq,if_true,if_false,or_self,or_true,true_or,or_false,false_or]);have E3:Hid ((Pl.hi 1 v)=fell 4 1 v):=aab (by simp only [fell,Int.reduceMod,Int.reduceEq,if_true,if_false]);go_enter func307,ntmps307;go_wp2_with (first|(go_at_call 311;refine (fH _ _ _ _ _ ?h0 ?h1).mono ?_;(case h0=>omega);(case h1=>omega);rintro e w' ⟨rfl,o6,rfl⟩)|(go_at_call 323;refine (lowest _ _ _ _ _ _).mono ?_;rintro e w' ⟨rfl,o6,rfl⟩)|(go_at_call 320;refine (pK _ _ _ _ _ _ ?h0 ?h1 ?h2 ?h3).mono ?_;(case h0=>omega);(case h1=>omega);(case h2=>omega);(case h3=>omega);rintro e w' ⟨rfl,o1,o2,o3,rfl⟩)|(go_at_call 321;refine (aU _ _ _ _ _ _).mono ?_;rintro e w' ⟨rfl,o4,o5,rfl⟩));go_region_with (first|(go_at_call 311;refine (fH _ _ _ _ _ ?h0 ?h1).mono ?_;(case h0=>omega);(case h1=>omega);rintro e w' ⟨rfl,o6,rfl⟩)|(go_at_call 323;refine (lowest _ _ _ _ _ _).mono ?_;rintro e w' ⟨rfl,o6,rfl⟩)|(go_at_call 320;refine (pK _ _ _ _ _ _ ?h0 ?h1 ?h2 ?h3).mono ?_;(case h0=>omega);(case h1=>omega);(case h2=>omega);(case h3=>omega);rintro e w' ⟨rfl,o1,o2,o3,rfl⟩)|(go_at_call 321;refine (aU _ _ _ _ _ _).mono ?_;rintro e w' ⟨rfl,o4,o5,rfl⟩))
 all_goals go_wp2_with fail
 all_goals
  refine bodyPost_ret (v:=.agg #[iv (v*2%256+Pl.hi 1 v),iv 8,iv x,iv (Pl.hi 1 v),.bool t]) ?_ rfl ⟨?_,?_⟩
  ·rw [aN rfl];go_simp
  ·exact rA E1.o rfl E2.o E3.o rfl
  ·(repeat' (first|with_reducible exact Below.refl _ _|with_reducible refine Below.drew ?_|with_reducible refine Below.alloc ?_ ?_ _|(simp;done)|(simp;omega)))
theorem EG (v x f:Int) (t:Bool) (w:World) (h0:0<=v) (h1:v<256) (x0:0<=x) (x1:x<=1) :
  Calls prog 308 #[.agg #[iv v,iv 8,iv x,iv f,.bool t]] w fun e w'=>e=.returned (.agg #[iv (nv 5 1 x v),iv 8,iv (nx 5 1 x v),iv (fell 5 1 v),.bool t])∧Below w.heap.size w w':=by
 obtain ⟨b0,b1⟩:=dF 1 v;have E1:Hid ((v/2+v%2*128)=nv 5 1 x v):=aab (by simp only [nv,inn,fell,Pl.top,Int.reduceMod,Int.reduceEq,Int.reduceLE,Int.reduceDiv,if_true,if_false,or_self,or_true,true_or,or_false,false_or]<;>omega);have E2:Hid (x=nx 5 1 x v):=aab (by simp only [nx,fell,Int.reduceMod,Int.reduceEq,if_true,if_false,or_self,or_true,true_or,or_false,false_or]);have E3:Hid ((v%2)=fell 5 1 v):=aab (by simp only [fell,Int.reduceMod,Int.reduceEq,if_true,if_false]);go_enter func308,ntmps308;go_wp2_with (first|(go_at_call 311;refine (fH _ _ _ _ _ ?h0 ?h1).mono ?_;(case h0=>omega);(case h1=>omega);rintro e w' ⟨rfl,o6,rfl⟩)|(go_at_call 323;refine (lowest _ _ _ _ _ _).mono ?_;rintro e w' ⟨rfl,o6,rfl⟩)|(go_at_call 322;refine (kL _ _ _ _ _ _ ?h0 ?h1 ?h2 ?h3).mono ?_;(case h0=>omega);(case h1=>omega);(case h2=>omega);(case h3=>omega);rintro e w' ⟨rfl,o1,o2,o3,rfl⟩)|(go_at_call 321;refine (aU _ _ _ _ _ _).mono ?_;rintro e w' ⟨rfl,o4,o5,rfl⟩));go_region_with (first|(go_at_call 311;refine (fH _ _ _ _ _ ?h0 ?h1).mono ?_;(case h0=>omega);(case h1=>omega);rintro e w' ⟨rfl,o6,rfl⟩)|(go_at_call 323;refine (lowest _ _ _ _ _ _).mono ?_;rintro e w' ⟨rfl,o6,rfl⟩)|(go_at_call 322;refine (kL _ _ _ _ _ _ ?h0 ?h1 ?h2 ?h3).mono ?_;(case h0=>omega);(case h1=>omega);(case h2=>omega);(case h3=>omega);rintro e w' ⟨rfl,o1,o2,o3,rfl⟩)|(go_at_call 321;refine (aU _ _ _ _ _ _).mono ?_;rintro e w' ⟨rfl,o4,o5,rfl⟩))
 all_goals go_wp2_with fail
 all_goals
  refine bodyPost_ret (v:=.agg #[iv (v/2+v%2*128),iv 8,iv x,iv (v%2),.bool t]) ?_ rfl ⟨?_,?_⟩
  ·rw [aN rfl];go_simp
  ·exact rA E1.o rfl E2.o E3.o rfl
  ·(repeat' (first|with_reducible exact Below.refl _ _|with_reducible refine Below.drew ?_|with_reducible refine Below.alloc ?_ ?_ _|(simp;done)|(simp;omega)))
theorem nU (v x f:Int) (t:Bool) (w:World) (h0:0<=v) (h1:v<256) (x0:0<=x) (x1:x<=1) :
  Calls prog 309 #[.agg #[iv v,iv 8,iv x,iv f,.bool t]] w fun e w'=>e=.returned (.agg #[iv (nv 6 1 x v),iv 8,iv (nx 6 1 x v),iv (fell 6 1 v),.bool t])∧Below w.heap.size w w':=by
 obtain ⟨b0,b1⟩:=dF 1 v;have E1:Hid ((v*2%256+x)=nv 6 1 x v):=aab (by simp only [nv,inn,fell,Pl.top,Int.reduceMod,Int.reduceEq,Int.reduceLE,Int.reduceDiv,if_true,if_false,or_self,or_true,true_or,or_false,false_or]<;>omega);have E2:Hid ((Pl.hi 1 v)=nx 6 1 x v):=aab (by simp only [nx,fell,Int.reduceMod,Int.reduceEq,if_true,if_false,or_self,or_true,true_or,or_false,false_or]);have E3:Hid ((Pl.hi 1 v)=fell 6 1 v):=aab (by simp only [fell,Int.reduceMod,Int.reduceEq,if_true,if_false]);go_enter func309,ntmps309;go_wp2_with (first|(go_at_call 311;refine (fH _ _ _ _ _ ?h0 ?h1).mono ?_;(case h0=>omega);(case h1=>omega);rintro e w' ⟨rfl,o6,rfl⟩)|(go_at_call 323;refine (lowest _ _ _ _ _ _).mono ?_;rintro e w' ⟨rfl,o6,rfl⟩)|(go_at_call 320;refine (pK _ _ _ _ _ _ ?h0 ?h1 ?h2 ?h3).mono ?_;(case h0=>omega);(case h1=>omega);(case h2=>omega);(case h3=>omega);rintro e w' ⟨rfl,o1,o2,o3,rfl⟩)|(go_at_call 321;refine (aU _ _ _ _ _ _).mono ?_;rintro e w' ⟨rfl,o4,o5,rfl⟩))
 all_goals
  refine bodyPost_ret (v:=.agg #[iv (v*2%256+x),iv 8,iv (Pl.hi 1 v),iv (Pl.hi 1 v),.bool t]) ?_ rfl ⟨?_,?_⟩
  ·rw [aN rfl];go_simp
  ·exact rA E1.o rfl E2.o E3.o rfl
  ·(repeat' (first|with_reducible exact Below.refl _ _|with_reducible refine Below.drew ?_|with_reducible refine Below.alloc ?_ ?_ _|(simp;done)|(simp;omega)))
theorem mJ (v x f:Int) (t:Bool) (w:World) (h0:0<=v) (h1:v<256) (x0:0<=x) (x1:x<=1) :
  Calls prog 310 #[.agg #[iv v,iv 8,iv x,iv f,.bool t]] w fun e w'=>e=.returned (.agg #[iv (nv 7 1 x v),iv 8,iv (nx 7 1 x v),iv (fell 7 1 v),.bool t])∧Below w.heap.size w w':=by
 obtain ⟨b0,b1⟩:=dF 1 v;have E1:Hid ((v/2+x*128)=nv 7 1 x v):=aab (by simp only [nv,inn,fell,Pl.top,Int.reduceMod,Int.reduceEq,Int.reduceLE,Int.reduceDiv,if_true,if_false,or_self,or_true,true_or,or_false,false_or]<;>omega);have E2:Hid ((v%2)=nx 7 1 x v):=aab (by simp only [nx,fell,Int.reduceMod,Int.reduceEq,if_true,if_false,or_self,or_true,true_or,or_false,false_or]);have E3:Hid ((v%2)=fell 7 1 v):=aab (by simp only [fell,Int.reduceMod,Int.reduceEq,if_true,if_false]);go_enter func310,ntmps310;go_wp2_with (first|(go_at_call 311;refine (fH _ _ _ _ _ ?h0 ?h1).mono ?_;(case h0=>omega);(case h1=>omega);rintro e w' ⟨rfl,o6,rfl⟩)|(go_at_call 323;refine (lowest _ _ _ _ _ _).mono ?_;rintro e w' ⟨rfl,o6,rfl⟩)|(go_at_call 322;refine (kL _ _ _ _ _ _ ?h0 ?h1 ?h2 ?h3).mono ?_;(case h0=>omega);(case h1=>omega);(case h2=>omega);(case h3=>omega);rintro e w' ⟨rfl,o1,o2,o3,rfl⟩)|(go_at_call 321;refine (aU _ _ _ _ _ _).mono ?_;rintro e w' ⟨rfl,o4,o5,rfl⟩))
 all_goals
  refine bodyPost_ret (v:=.agg #[iv (v/2+x*128),iv 8,iv (v%2),iv (v%2),.bool t]) ?_ rfl ⟨?_,?_⟩
  ·rw [aN rfl];go_simp
  ·exact rA E1.o rfl E2.o E3.o rfl
  ·(repeat' (first|with_reducible exact Below.refl _ _|with_reducible refine Below.drew ?_|with_reducible refine Below.alloc ?_ ?_ _|(simp;done)|(simp;omega)))
end Go.Proofs.YtgikibaajanjiaaGreatDoor
