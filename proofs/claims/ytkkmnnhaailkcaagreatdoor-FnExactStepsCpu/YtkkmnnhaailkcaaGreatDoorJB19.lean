/- Part 19 of what the last text leans on. -/
import Derived.Test.YtkkmnnhaailkcaaGreatDoorJB16
import Derived.Test.YtkkmnnhaailkcaaGreatDoorJB18
import Derived.Test.YtkkmnnhaailkcaaGreatDoorJB15
import Derived.Test.YtkkmnnhaailkcaaGreatDoorJB11
import Derived.Test.YtkkmnnhaailkcaaGreatDoorJB1
import Derived.Test.YtkkmnnhaailkcaaGreatDoorJB14
set_option maxRecDepth 100000
set_option maxHeartbeats 16000000
namespace Go.Proofs.YtkkmnnhaailkcaaGreatDoor
open Go.RowKit Go.Proofs.Tryz
set_option linter.unusedVariables false
structure jJ (w:World) (lo:Nat):Prop where
 s:nH w
 n:qN w
 s0:0<lo
 n0:1<lo
theorem jJ.since {w w':World} {lo b g g':Nat} (h:jJ w lo) (k:Since w b (b+1) g w' g') (hb:lo≤b) (hg:lo≤g):jJ w' lo:=by
 have e:∀i,i<lo→i<w.heap.size→w'.heap[i]? = w.heap[i]? := fun i h1 h2=>k.2.block i h2 (by unfold own;omega)
 have hs:=h.s0
 have hn:=h.n0
 refine ⟨fun i hi => ?_,fun i hi => ?_,hs,hn⟩
 ·have q:=h.s i hi
  rw [World.cell?_of_block (w:=w) (e _ hs (World.block_lt_of_cell? _ _ q))];exact q
 ·have q:=h.n i hi
  rw [World.cell?_of_block (w:=w) (e _ hn (World.block_lt_of_cell? _ _ q))];exact q
theorem jJ.any {w w':World} {lo:Nat} (h:jJ w lo) (k:Kept 0 0 w w'):jJ w' lo:=by
 have b:=k.below
 exact ⟨h.s.below b,h.n.below b,h.s0,h.n0⟩
namespace Pl
def dcV (s x a q:Int):Int:=bif s==1 then sV x a q else aV x a q
def dcC (s x a q:Int):Int:=bif s==1 then sC x a q else aC x a q
def dcF (s f x a q:Int):Int:=bits .or .i64 (fl (dcV s x a q==0) (bits .and .i64 f 4)) (fl (dcC s x a q==1) 17)
def Mc.bd (c:Mc) (x:In):Mc:=bif fF (c.r.f/16) (c.low 1 x.r) (c.low 1 x.k) then (c.put 1 x.r (dcV x.s (c.r.f/16) (c.low 1 x.r) (c.low 1 x.k))).aF (dcF x.s c.r.f (c.r.f/16) (c.low 1 x.r) (c.low 1 x.k)) else {c with f:=⟨4,0,0,0,false⟩}
theorem QY {s x a q:Int}:okv 1 (dcV s x a q)=true:=by
 have q':∀v,bcd v=true→okv 1 v=true:=by
  intro v h
  have:=qm h
  simp [okv,top];omega
 unfold dcV
 cases s==1
 ·cases h:fF x a q
  ·unfold aV;rw [h];rfl
  ·exact q' _ (yX h)
 ·cases h:fF x a q
  ·unfold sV;rw [h];rfl
  ·exact q' _ (xO h)
end Pl
theorem WQ (w:World) (lo b g:Nat) (c:Pl.Mc) (h:Bool) (op z r m k e:Int) (hC:CAt w lo b g c h) (G:Pl.GM c) (hf:c.f=Pl.aI) (B:Pl.InB ⟨op,z,r,m,k,e,0⟩) (ht:jJ w lo) :
  Calls prog 171 #[.pointer (some ⟨b,0,none⟩),.agg (inA op z r m k e 0)] w fun e' w'=>∃g',e'=.returned (.agg (ftC (c.bd ⟨op,z,r,m,k,e,0⟩).f))∧CAt w' lo b g' (c.bd ⟨op,z,r,m,k,e,0⟩) h∧Since w b (b+1) g w' g':=by
 have HB:=hide B
 clear B
 obtain ⟨l0,l1,l2,l3,l4⟩:=hC.lt
 have HG:=hide G
 obtain ⟨X,hX,K0,C0,A0,R0,sX⟩:=hC.jl op z r m k e 0
 have p:=A0.o.all
 clear hC G
 have T0:=hide (ht.any K0.o)
 have f0:=HG.o.g.f0
 have f1:=HG.o.g.f1
 have OA:Pl.okv 1 (c.low 1 r)=true:=Pl.fP HG.o (.inl rfl) HB.o.r0 HB.o.r1
 have OQ:Pl.okv 1 (c.low 1 k)=true:=Pl.fP HG.o (.inl rfl) HB.o.k0 HB.o.k1
 obtain ⟨A,hA⟩:∃A,A=c.low 1 r:=⟨_,rfl⟩
 obtain ⟨Q,hQ⟩:∃Q,Q=c.low 1 k:=⟨_,rfl⟩
 rw [←hA] at OA
 rw [←hQ] at OQ
 have ta:=Pl.aQ OA
 have tq:=Pl.aQ OQ
 obtain ⟨a0,a1⟩:0≤A∧A≤255:=by omega
 obtain ⟨q0,q1⟩:0≤Q∧Q≤255:=by omega
 obtain ⟨V,hV⟩:∃V,V=Pl.dcV 0 (c.r.f/16) A Q:=⟨_,rfl⟩
 obtain ⟨Y,hY⟩:∃Y,Y=Pl.dcC 0 (c.r.f/16) A Q:=⟨_,rfl⟩
 obtain ⟨P,hP⟩:∃P,P=Pl.fF (c.r.f/16) A Q:=⟨_,rfl⟩
 have OV:Hid (Pl.okv 1 V=true):=hide (by rw [hV];exact Pl.QY)
 have ET:Hid (c.bd ⟨op,z,r,m,k,e,0⟩=bif P then (c.put 1 r V).aF (bits .or .i64 (Pl.fl (V==0) (bits .and .i64 c.r.f 4)) (Pl.fl (Y==1) 17)) else {c with f:=⟨4,0,0,0,false⟩}):=hide (by rw [hP,hV,hY,hA,hQ];rfl)
 have HA:=hide hA
 have HQ:=hide hQ
 have HV:Hid (V=Pl.aV (c.r.f/16) A Q):=hide hV
 have HY:Hid (Y=Pl.aC (c.r.f/16) A Q):=hide hY
 have HP:=hide hP
 have ed:c.r.f.tdiv 16=c.r.f/16:=Int.tdiv_eq_ediv_of_nonneg f0
 have ew1:IntKind.i64.wrap (c.r.f/16)=c.r.f/16:=by rw [IntKind.wrap_i64];omega
 have ew2:IntKind.i64.wrap (c.r.f.tdiv 16)=c.r.f/16:=by rw [ed,ew1]
 clear hA hQ hV hY hP OA OQ ta tq ht
 go_enter func171,ntmps171
 go_wp2_with fail
 clear hX p
 have u2:=A0.o.cell (i:=2) rfl
 have u4:=A0.o.cell (i:=4) rfl
 have u10:=C0.o.cF
 go_region_held3 (fun w'=>w'.cell? ⟨w.heap.size,2,none⟩=some (iv r)∧w'.cell? ⟨w.heap.size,4,none⟩=some (iv k)∧w'.cell? ⟨b,10,none⟩=some (iv c.r.f)) (first|with_reducible exact ⟨A7.o.cell (i:=2) rfl,A7.o.cell (i:=4) rfl,C7.o.cF⟩|with_reducible exact ⟨A6.o.cell (i:=2) rfl,A6.o.cell (i:=4) rfl,C6.o.cF⟩|with_reducible exact ⟨A5.o.cell (i:=2) rfl,A5.o.cell (i:=4) rfl,C5.o.cF⟩|exact ⟨(show Blk _ _ _ _ from A0.o).cell (i:=2) rfl,(show Blk _ _ _ _ from A0.o).cell (i:=4) rfl,C0.o.drew.cF⟩)
  (first|(go_at_call 207;have z9:=C6;refine st (UO (c.r.f/16) A Q _ T6.o.s (by omega) (by omega) (by omega) (by omega) (by omega) (by omega)) ?_;rw [←HV.o,←HY.o,←HP.o];skip)|(go_at_call 194;have z9:=C5;refine (nY _ lo b g c h 1 k C5.o (.inl rfl) HB.o.k0 HB.o.k1).mono ?_;rintro e9 W6 ⟨rfl,k6⟩;rw [←HQ.o];have C6:=hide (C5.o.any k6);have A6:=hide (A5.o.af k6);have R6:=hide (R5.o.af k6);have K6:=hide (K5.o.trans k6);have T6:=hide (T5.o.any k6);clear k6)|(go_at_call 194;refine (nY _ lo b g c h 1 r C0.o.drew (.inl rfl) HB.o.r0 HB.o.r1).mono ?_;rintro e9 W5 ⟨rfl,kd⟩;rw [←HA.o];have k5:=cZ kd;have C5:=hide (C0.o.any k5);have A5:=hide (A0.o.af k5);have R5:=hide (R0.o.af k5);have K5:=hide (K0.o.trans k5);have T5:=hide (T0.o.any k5);clear kd k5))
 clear u2 u4 u10
 have r6:=R6.o.all
 have rf6:=R6.o.fz
 cases hp:P
 ·have E1:Hid (c.bd ⟨op,z,r,m,k,e,0⟩={c with f:=⟨4,0,0,0,false⟩}):=hide (by rw [ET.o,hp];rfl)
  go_wp2_with fail
  have KR:=(((((ak W6 (w.heap.size+1) 0 (iv 4)).one 1 (iv 0)).one 2 (iv 0)).one 3 (iv 0)).one 4 (.bool false))
  refine bodyPost_ret (v:=.agg #[iv 4,iv 0,iv 0,iv 0,.bool false]) ?_ rfl ⟨g,?_,?_,((Since.refl w b (b+1) g).any K6.o).mine KR (by omega)⟩
  ·rw [aj rfl];go_simp
  ·rw [E1.o];rfl
  ·rw [E1.o];exact ((C6.o).kept KR (by omega) (by omega)).fx rfl rfl rfl rfl rfl
 ·obtain ⟨FL,hFL⟩:∃x,x=bits .or .i64 (Pl.fl (V==0) (bits .and .i64 c.r.f 4)) (Pl.fl (Y==1) 17):=⟨_,rfl⟩
  have E1:Hid (c.bd ⟨op,z,r,m,k,e,0⟩=(c.put 1 r V).aF FL):=hide (by rw [ET.o,hp,hFL];rfl)
  have eFL:=hFL.symm
  clear hFL
  go_wp2_with fail
  have u2:=A6.o.cell (i:=2) rfl
  go_region_held3 (fun w'=>w'.cell? ⟨w.heap.size,2,none⟩=some (iv r)) (first|with_reducible exact A8.o.cell (i:=2) rfl|exact (show Blk _ _ _ _ from A6.o).cell (i:=2) rfl)
   (first|(go_at_call 195;refine (LQ _ lo b g c h 1 r V C6.o.drew HG.o.g HB.o.r0 HB.o.r1 (.inl rfl) OV.o).mono ?_;rintro e9 W8 ⟨rfl,hc,kd⟩;have k8:=cZ kd;have C8:=hide hc;have A8:=hide (A6.o.kept k8 (by omega));have R8:=hide (R6.o.kept k8 (by omega));have S8:=hide (((Since.refl w b (b+1) g).any K6.o).ai k8 (Nat.le_refl _) (Nat.le_refl _));clear hc kd k8))
  have c8:W8.cell? ⟨b,10,none⟩=some (iv c.r.f):=C8.o.cF
  have cz:=C8.o.fz
  have r9:=(R8.o.other b 10 (iv FL) (by omega)).all
  have rf9:=(R8.o.other b 10 (iv FL) (by omega)).fz
  go_wp2_with (first|(go_at_call 133;refine st (gI _ _ _) ?_))
  have KR:=(((((ak (W8.setCell ⟨b,10,none⟩ (iv FL)) (w.heap.size+1) 0 (iv 0)).one 1 (iv 0)).one 2 (iv 0)).one 3 (iv 0)).one 4 (.bool false))
  refine bodyPost_ret (v:=.agg ftZ) ?_ rfl ⟨g,?_,?_,(S8.o.set b 10 (iv FL) (.inl (by omega))).mine KR (by omega)⟩
  ·rw [aj rfl];go_simp
  ·rw [E1.o,show ((c.put 1 r V).aF FL).f=Pl.aI from hf];rfl
  ·rw [E1.o];exact ((C8.o.aF FL).kept KR (by omega) (by omega))
theorem WP (w:World) (lo b g:Nat) (c:Pl.Mc) (h:Bool) (op z r m k e:Int) (hC:CAt w lo b g c h) (G:Pl.GM c) (hf:c.f=Pl.aI) (B:Pl.InB ⟨op,z,r,m,k,e,1⟩) (ht:jJ w lo) :
  Calls prog 171 #[.pointer (some ⟨b,0,none⟩),.agg (inA op z r m k e 1)] w fun e' w'=>∃g',e'=.returned (.agg (ftC (c.bd ⟨op,z,r,m,k,e,1⟩).f))∧CAt w' lo b g' (c.bd ⟨op,z,r,m,k,e,1⟩) h∧Since w b (b+1) g w' g':=by
 have HB:=hide B
 clear B
 obtain ⟨l0,l1,l2,l3,l4⟩:=hC.lt
 have HG:=hide G
 obtain ⟨X,hX,K0,C0,A0,R0,sX⟩:=hC.jl op z r m k e 1
 have p:=A0.o.all
 clear hC G
 have T0:=hide (ht.any K0.o)
 have f0:=HG.o.g.f0
 have f1:=HG.o.g.f1
 have OA:Pl.okv 1 (c.low 1 r)=true:=Pl.fP HG.o (.inl rfl) HB.o.r0 HB.o.r1
 have OQ:Pl.okv 1 (c.low 1 k)=true:=Pl.fP HG.o (.inl rfl) HB.o.k0 HB.o.k1
 obtain ⟨A,hA⟩:∃A,A=c.low 1 r:=⟨_,rfl⟩
 obtain ⟨Q,hQ⟩:∃Q,Q=c.low 1 k:=⟨_,rfl⟩
 rw [←hA] at OA
 rw [←hQ] at OQ
 have ta:=Pl.aQ OA
 have tq:=Pl.aQ OQ
 obtain ⟨a0,a1⟩:0≤A∧A≤255:=by omega
 obtain ⟨q0,q1⟩:0≤Q∧Q≤255:=by omega
 obtain ⟨V,hV⟩:∃V,V=Pl.dcV 1 (c.r.f/16) A Q:=⟨_,rfl⟩
 obtain ⟨Y,hY⟩:∃Y,Y=Pl.dcC 1 (c.r.f/16) A Q:=⟨_,rfl⟩
 obtain ⟨P,hP⟩:∃P,P=Pl.fF (c.r.f/16) A Q:=⟨_,rfl⟩
 have OV:Hid (Pl.okv 1 V=true):=hide (by rw [hV];exact Pl.QY)
 have ET:Hid (c.bd ⟨op,z,r,m,k,e,1⟩=bif P then (c.put 1 r V).aF (bits .or .i64 (Pl.fl (V==0) (bits .and .i64 c.r.f 4)) (Pl.fl (Y==1) 17)) else {c with f:=⟨4,0,0,0,false⟩}):=hide (by rw [hP,hV,hY,hA,hQ];rfl)
 have HA:=hide hA
 have HQ:=hide hQ
 have HV:Hid (V=Pl.sV (c.r.f/16) A Q):=hide hV
 have HY:Hid (Y=Pl.sC (c.r.f/16) A Q):=hide hY
 have HP:=hide hP
 have ed:c.r.f.tdiv 16=c.r.f/16:=Int.tdiv_eq_ediv_of_nonneg f0
 have ew1:IntKind.i64.wrap (c.r.f/16)=c.r.f/16:=by rw [IntKind.wrap_i64];omega
 have ew2:IntKind.i64.wrap (c.r.f.tdiv 16)=c.r.f/16:=by rw [ed,ew1]
 clear hA hQ hV hY hP OA OQ ta tq ht
 go_enter func171,ntmps171
 go_wp2_with fail
 clear hX p
 have u2:=A0.o.cell (i:=2) rfl
 have u4:=A0.o.cell (i:=4) rfl
 have u10:=C0.o.cF
 go_region_held3 (fun w'=>w'.cell? ⟨w.heap.size,2,none⟩=some (iv r)∧w'.cell? ⟨w.heap.size,4,none⟩=some (iv k)∧w'.cell? ⟨b,10,none⟩=some (iv c.r.f)) (first|with_reducible exact ⟨A7.o.cell (i:=2) rfl,A7.o.cell (i:=4) rfl,C7.o.cF⟩|with_reducible exact ⟨A6.o.cell (i:=2) rfl,A6.o.cell (i:=4) rfl,C6.o.cF⟩|with_reducible exact ⟨A5.o.cell (i:=2) rfl,A5.o.cell (i:=4) rfl,C5.o.cF⟩|exact ⟨(show Blk _ _ _ _ from A0.o).cell (i:=2) rfl,(show Blk _ _ _ _ from A0.o).cell (i:=4) rfl,C0.o.drew.cF⟩)
  (first|(go_at_call 208;have z9:=C6;refine (RU (c.r.f/16) A Q _ T6.o.s T6.o.n (by omega) (by omega) (by omega) (by omega) (by omega) (by omega)).mono ?_;rintro e9 W7 ⟨rfl,nn,hw⟩;have k7:Kept 0 0 W6 W7:=(by rw [hw];exact ax (Kept.refl _ _ _) _);rw [←HV.o,←HY.o,←HP.o];have C7:=hide (C6.o.any k7);have A7:=hide (A6.o.af k7);have R7:=hide (R6.o.af k7);have K7:=hide (K6.o.trans k7);clear k7 hw)|(go_at_call 194;have z9:=C5;refine (nY _ lo b g c h 1 k C5.o (.inl rfl) HB.o.k0 HB.o.k1).mono ?_;rintro e9 W6 ⟨rfl,k6⟩;rw [←HQ.o];have C6:=hide (C5.o.any k6);have A6:=hide (A5.o.af k6);have R6:=hide (R5.o.af k6);have K6:=hide (K5.o.trans k6);have T6:=hide (T5.o.any k6);clear k6)|(go_at_call 194;refine (nY _ lo b g c h 1 r C0.o.drew (.inl rfl) HB.o.r0 HB.o.r1).mono ?_;rintro e9 W5 ⟨rfl,kd⟩;rw [←HA.o];have k5:=cZ kd;have C5:=hide (C0.o.any k5);have A5:=hide (A0.o.af k5);have R5:=hide (R0.o.af k5);have K5:=hide (K0.o.trans k5);have T5:=hide (T0.o.any k5);clear kd k5))
 clear u2 u4 u10
 have r7:=R7.o.all
 have rf7:=R7.o.fz
 cases hp:P
 ·have E1:Hid (c.bd ⟨op,z,r,m,k,e,1⟩={c with f:=⟨4,0,0,0,false⟩}):=hide (by rw [ET.o,hp];rfl)
  go_wp2_with fail
  have KR:=(((((ak W7 (w.heap.size+1) 0 (iv 4)).one 1 (iv 0)).one 2 (iv 0)).one 3 (iv 0)).one 4 (.bool false))
  refine bodyPost_ret (v:=.agg #[iv 4,iv 0,iv 0,iv 0,.bool false]) ?_ rfl ⟨g,?_,?_,((Since.refl w b (b+1) g).any K7.o).mine KR (by omega)⟩
  ·rw [aj rfl];go_simp
  ·rw [E1.o];rfl
  ·rw [E1.o];exact ((C7.o).kept KR (by omega) (by omega)).fx rfl rfl rfl rfl rfl
 ·obtain ⟨FL,hFL⟩:∃x,x=bits .or .i64 (Pl.fl (V==0) (bits .and .i64 c.r.f 4)) (Pl.fl (Y==1) 17):=⟨_,rfl⟩
  have E1:Hid (c.bd ⟨op,z,r,m,k,e,1⟩=(c.put 1 r V).aF FL):=hide (by rw [ET.o,hp,hFL];rfl)
  have eFL:=hFL.symm
  clear hFL
  go_wp2_with fail
  have u2:=A7.o.cell (i:=2) rfl
  go_region_held3 (fun w'=>w'.cell? ⟨w.heap.size,2,none⟩=some (iv r)) (first|with_reducible exact A8.o.cell (i:=2) rfl|exact (show Blk _ _ _ _ from A7.o).cell (i:=2) rfl)
   (first|(go_at_call 195;refine (LQ _ lo b g c h 1 r V C7.o.drew HG.o.g HB.o.r0 HB.o.r1 (.inl rfl) OV.o).mono ?_;rintro e9 W8 ⟨rfl,hc,kd⟩;have k8:=cZ kd;have C8:=hide hc;have A8:=hide (A7.o.kept k8 (by omega));have R8:=hide (R7.o.kept k8 (by omega));have S8:=hide (((Since.refl w b (b+1) g).any K7.o).ai k8 (Nat.le_refl _) (Nat.le_refl _));clear hc kd k8))
  have c8:W8.cell? ⟨b,10,none⟩=some (iv c.r.f):=C8.o.cF
  have cz:=C8.o.fz
  have r9:=(R8.o.other b 10 (iv FL) (by omega)).all
  have rf9:=(R8.o.other b 10 (iv FL) (by omega)).fz
  go_wp2_with (first|(go_at_call 133;refine st (gI _ _ _) ?_))
  have KR:=(((((ak (W8.setCell ⟨b,10,none⟩ (iv FL)) (w.heap.size+1) 0 (iv 0)).one 1 (iv 0)).one 2 (iv 0)).one 3 (iv 0)).one 4 (.bool false))
  refine bodyPost_ret (v:=.agg ftZ) ?_ rfl ⟨g,?_,?_,(S8.o.set b 10 (iv FL) (.inl (by omega))).mine KR (by omega)⟩
  ·rw [aj rfl];go_simp
  ·rw [E1.o,show ((c.put 1 r V).aF FL).f=Pl.aI from hf];rfl
  ·rw [E1.o];exact ((C8.o.aF FL).kept KR (by omega) (by omega))
namespace Pl
def Mc.lea (c:Mc) (x:In):Mc:=(c.slot x.z x.m x.k x.e).fU x.r.toNat (c.readA x.z x.m x.k x.e)
def Mc.shf (c:Mc) (x:In):Mc:=(c.put x.z x.r (jg x.s x.z c.r.f (c.low x.z x.r) (x.k+1))).aF (oL x.s x.z c.r.f (c.low x.z x.r) (x.k+1))
def Mc.brn (c:Mc) (x:In):Mc:=bif tst (x.s+8*x.r) c.r.f then c.aK ((c.r.p-2+x.e)%65536) else c
def Mc.mvs (c:Mc) (x:In):Mc:=bif x.s==0 then c.dB (bQ c.r x.e) else c.dB {c.r with xs:=c.r.xs.set x.r.toNat (status c.r)}
def Mc.cr' (c:Mc) (x:In):Mc:=bif x.op==2 then c.gv x else bif x.op==10 then c.lea x else bif x.op==11 then c.ch x else bif x.op==12 then c.shf x else bif x.op==13 then c.brn x else bif x.op==14 then c.jp x else bif x.op==15 then c.fw x else bif x.op==18 then c.bd x else bif x.op==19 then c.mvs x else c.tk x
def Mc.cr (c:Mc) (x:In):Mc:=bif iW x && !c.r.s then {c with f:=⟨8,0,0,0,false⟩} else c.cr' x
end Pl
theorem LU (w:World) (lo b g:Nat) (c:Pl.Mc) (h:Bool) (op z r m k e s:Int) (hC:CAt w lo b g c h) (G:Pl.GM c) (hf:c.f=Pl.aI) (B:Pl.InB ⟨op,z,r,m,k,e,s⟩) (hs:s≤3) (hm:m=0∨(2≤m∧m≤6)) :
  Calls prog 165 #[.pointer (some ⟨b,0,none⟩),.agg (inA op z r m k e s)] w fun e' w'=>∃g',e'=.returned (.agg (ftC (c.ch ⟨op,z,r,m,k,e,s⟩).f))∧CAt w' lo b g' (c.ch ⟨op,z,r,m,k,e,s⟩) h∧Since w b (b+1) g w' g':=by
 have hs0:0≤s:=B.s0
 have hq:s=0∨s=1∨s=2∨s=3:=by omega
 rcases hq with rfl|rfl|rfl|rfl
 ·exact L9 w lo b g c h op z r m k e hC G hf B hm
 ·exact LZ w lo b g c h op z r m k e hC G hf B hm
 ·exact LW w lo b g c h op z r m k e hC G hf B hm
 ·exact LV w lo b g c h op z r m k e hC G hf B hm
theorem Um (w:World) (lo b g:Nat) (c:Pl.Mc) (h:Bool) (op z r m k e s:Int) (hC:CAt w lo b g c h) (G:Pl.GM c) (hf:c.f=Pl.aI) (B:Pl.InB ⟨op,z,r,m,k,e,s⟩) (hs:s≤1) :
  Calls prog 169 #[.pointer (some ⟨b,0,none⟩),.agg (inA op z r m k e s)] w fun e' w'=>∃g',e'=.returned (.agg (ftC (c.jp ⟨op,z,r,m,k,e,s⟩).f))∧CAt w' lo b g' (c.jp ⟨op,z,r,m,k,e,s⟩) h∧Since w b (b+1) g w' g':=by
 have hs0:0≤s:=B.s0
 have hq:s=0∨s=1:=by omega
 rcases hq with rfl|rfl
 ·exact Uo w lo b g c h op z r m k e hC G hf B
 ·exact Un w lo b g c h op z r m k e hC G hf B
theorem Ur (w:World) (lo b g:Nat) (c:Pl.Mc) (h:Bool) (op z r m k e s:Int) (hC:CAt w lo b g c h) (G:Pl.GM c) (hf:c.f=Pl.aI) (B:Pl.InB ⟨op,z,r,m,k,e,s⟩) (hs:s≤6) (he:s=3→e≤1023) :
  Calls prog 170 #[.pointer (some ⟨b,0,none⟩),.agg (inA op z r m k e s)] w fun e' w'=>∃g',e'=.returned (.agg (ftC (c.fw ⟨op,z,r,m,k,e,s⟩).f))∧CAt w' lo b g' (c.fw ⟨op,z,r,m,k,e,s⟩) h∧Since w b (b+1) g w' g':=by
 have hs0:0≤s:=B.s0
 have hq:s=0∨s=1∨s=2∨s=3∨s=4∨s=5∨s=6:=by omega
 rcases hq with rfl|rfl|rfl|rfl|rfl|rfl|rfl
 ·exact Uz w lo b g c h op z r m k e hC G hf B
 ·exact Uy w lo b g c h op z r m k e hC G hf B
 ·exact Ux w lo b g c h op z r m k e hC G hf B
 ·exact Uw w lo b g c h op z r m k e hC G hf B (he rfl)
 ·exact Uu w lo b g c h op z r m k e hC G hf B
 ·exact Ut w lo b g c h op z r m k e hC G hf B
 ·exact Us w lo b g c h op z r m k e hC G hf B
theorem WO (w:World) (lo b g:Nat) (c:Pl.Mc) (h:Bool) (op z r m k e s:Int) (hC:CAt w lo b g c h) (G:Pl.GM c) (hf:c.f=Pl.aI) (B:Pl.InB ⟨op,z,r,m,k,e,s⟩) (hs:s≤1) (ht:jJ w lo) :
  Calls prog 171 #[.pointer (some ⟨b,0,none⟩),.agg (inA op z r m k e s)] w fun e' w'=>∃g',e'=.returned (.agg (ftC (c.bd ⟨op,z,r,m,k,e,s⟩).f))∧CAt w' lo b g' (c.bd ⟨op,z,r,m,k,e,s⟩) h∧Since w b (b+1) g w' g':=by
 have hs0:0≤s:=B.s0
 have hq:s=0∨s=1:=by omega
 rcases hq with rfl|rfl
 ·exact WQ w lo b g c h op z r m k e hC G hf B ht
 ·exact WP w lo b g c h op z r m k e hC G hf B ht
theorem Uj (w:World) (lo b g:Nat) (c:Pl.Mc) (h:Bool) (op z r m k e s:Int) (hC:CAt w lo b g c h) (G:Pl.GM c) (hf:c.f=Pl.aI) (B:Pl.InB ⟨op,z,r,m,k,e,s⟩) (hs:s≤1) (he:s=0→e≤1023) :
  Calls prog 172 #[.pointer (some ⟨b,0,none⟩),.agg (inA op z r m k e s)] w fun e' w'=>e'=.returned (.tuple #[])∧CAt w' lo b g (c.mvs ⟨op,z,r,m,k,e,s⟩) h∧Kept b (b+1) w w':=by
 have hs0:0≤s:=B.s0
 have hq:s=0∨s=1:=by omega
 rcases hq with rfl|rfl
 ·exact Ul w lo b g c h op z r m k e hC G B (he rfl)
 ·exact Uk w lo b g c h op z r m k e hC G B
theorem En (w:World) (lo b g:Nat) (c:Pl.Mc) (h:Bool) (op z r m k e s:Int) (hC:CAt w lo b g c h) (G:Pl.GM c) (hf:c.f=Pl.aI) (B:Pl.InB ⟨op,z,r,m,k,e,s⟩) (hop:op=9∨op=1∨op=3∨op=4∨op=5∨op=6∨op=7∨op=8) (h1:m=1→z=2) :
  Calls prog 121 #[.pointer (some ⟨b,0,none⟩),.agg (inA op z r m k e s)] w fun e' w'=>∃g',e'=.returned (.agg (ftC (c.cr ⟨op,z,r,m,k,e,s⟩).f))∧CAt w' lo b g' (c.cr ⟨op,z,r,m,k,e,s⟩) h∧Since w b (b+1) g w' g':=by
 have HB:=hide B
 clear B
 obtain ⟨l0,l1,l2,l3,l4⟩:=hC.lt
 have HG:=hide G
 obtain ⟨X,hX,K0,C0,A0,R0,sX⟩:=hC.jl op z r m k e s
 have p:=A0.o.all
 clear hC G
 obtain ⟨E,hE⟩:∃E,E=c.tk ⟨op,z,r,m,k,e,s⟩:=⟨_,rfl⟩
 obtain ⟨F,hF⟩:∃F,F=E.f:=⟨_,rfl⟩
 have hp:Pl.iW ⟨op,z,r,m,k,e,s⟩=false:=by rcases hop with rfl|rfl|rfl|rfl|rfl|rfl|rfl|rfl<;>rfl
 have E1:Hid (c.cr ⟨op,z,r,m,k,e,s⟩=E):=hide (by unfold Pl.Mc.cr;rw [hp,hE];rcases hop with rfl|rfl|rfl|rfl|rfl|rfl|rfl|rfl<;>rfl)
 have H1:=hide h1
 clear h1
 have HE:=hide hE
 have HF:=hide hF
 have hsup:=dV
 clear hE hF
 rcases hop with rfl|rfl|rfl|rfl|rfl|rfl|rfl|rfl
 all_goals
  go_enter func121,ntmps121
  go_wp2_with (first|(go_at_call 163;refine (QZ _ lo b g c h _ z r m k e s C1.o HG.o hf HB.o (by decide) H1.o (fun h9=>absurd h9 (by decide))).mono ?_;rintro e9 W2 ⟨g',rfl,hc,hs⟩;rw [←HE.o] at hc ⊢;rw [←HF.o];unfold ftC;have C2:=hide hc;have R2:=hide (hs.blk R1.o (by omega) (by omega));have n2:=hs.ne (b:=w.heap.size+1) R1.o.lt (by omega);have S2:=hide (((Since.refl w b (b+1) g).any K1.o).trans hs);have r2:=R2.o.all;have rf2:=R2.o.fz;clear hc hs)|(go_at_call 162;refine (hsup _ _ z r m k e s).mono ?_;rintro e9 W1 ⟨rfl,k1⟩;rw [hp];have C1:=hide (C0.o.any k1);have A1:=hide (A0.o.af k1);have R1:=hide (R0.o.af k1);have K1:=hide (K0.o.trans k1);have p1:=A1.o.all;have r1:=R1.o.all;have rf1:=R1.o.fz;have q12:=C1.o.cS;clear k1))
  have KR:=(((((ak W2 (w.heap.size+1) 0 (iv F.v)).one 1 (iv F.pc)).one 2 (iv F.ad)).one 3 (iv F.wo)).one 4 (.bool F.wr))
  refine bodyPost_ret (v:=.agg (ftA F)) ?_ rfl ⟨g',?_,?_,(S2.o).mine KR (by omega)⟩
  ·rw [aj rfl];go_simp
  ·rw [E1.o,←HF.o];rfl
  ·rw [E1.o];exact ((C2.o).kept KR (by omega) (by omega))
theorem Md (w:World) (lo b g:Nat) (c:Pl.Mc) (h:Bool) (op z r m k e s:Int) (hC:CAt w lo b g c h) (G:Pl.GM c) (hf:c.f=Pl.aI) (B:Pl.InB ⟨op,z,r,m,k,e,s⟩) (hop:op=16∨op=17) (h1:m=1→z=2) (h2:z=2) :
  Calls prog 121 #[.pointer (some ⟨b,0,none⟩),.agg (inA op z r m k e s)] w fun e' w'=>∃g',e'=.returned (.agg (ftC (c.cr ⟨op,z,r,m,k,e,s⟩).f))∧CAt w' lo b g' (c.cr ⟨op,z,r,m,k,e,s⟩) h∧Since w b (b+1) g w' g':=by
 have HB:=hide B
 clear B
 obtain ⟨l0,l1,l2,l3,l4⟩:=hC.lt
 have HG:=hide G
 obtain ⟨X,hX,K0,C0,A0,R0,sX⟩:=hC.jl op z r m k e s
 have p:=A0.o.all
 clear hC G
 obtain ⟨E,hE⟩:∃E,E=c.tk ⟨op,z,r,m,k,e,s⟩:=⟨_,rfl⟩
 obtain ⟨F,hF⟩:∃F,F=E.f:=⟨_,rfl⟩
 have hp:Pl.iW ⟨op,z,r,m,k,e,s⟩=false:=by rcases hop with rfl|rfl<;>rfl
 have E1:Hid (c.cr ⟨op,z,r,m,k,e,s⟩=E):=hide (by unfold Pl.Mc.cr;rw [hp,hE];rcases hop with rfl|rfl<;>rfl)
 have H1:=hide h1
 have HZ:=hide h2
 clear h1 h2
 have HE:=hide hE
 have HF:=hide hF
 have hsup:=dV
 clear hE hF
 rcases hop with rfl|rfl
 all_goals
  go_enter func121,ntmps121
  go_wp2_with (first|(go_at_call 163;refine (QZ _ lo b g c h _ z r m k e s C1.o HG.o hf HB.o (by decide) H1.o (fun _=>HZ.o)).mono ?_;rintro e9 W2 ⟨g',rfl,hc,hs⟩;rw [←HE.o] at hc ⊢;rw [←HF.o];unfold ftC;have C2:=hide hc;have R2:=hide (hs.blk R1.o (by omega) (by omega));have n2:=hs.ne (b:=w.heap.size+1) R1.o.lt (by omega);have S2:=hide (((Since.refl w b (b+1) g).any K1.o).trans hs);have r2:=R2.o.all;have rf2:=R2.o.fz;clear hc hs)|(go_at_call 162;refine (hsup _ _ z r m k e s).mono ?_;rintro e9 W1 ⟨rfl,k1⟩;rw [hp];have C1:=hide (C0.o.any k1);have A1:=hide (A0.o.af k1);have R1:=hide (R0.o.af k1);have K1:=hide (K0.o.trans k1);have p1:=A1.o.all;have r1:=R1.o.all;have rf1:=R1.o.fz;have q12:=C1.o.cS;clear k1))
  have KR:=(((((ak W2 (w.heap.size+1) 0 (iv F.v)).one 1 (iv F.pc)).one 2 (iv F.ad)).one 3 (iv F.wo)).one 4 (.bool F.wr))
  refine bodyPost_ret (v:=.agg (ftA F)) ?_ rfl ⟨g',?_,?_,(S2.o).mine KR (by omega)⟩
  ·rw [aj rfl];go_simp
  ·rw [E1.o,←HF.o];rfl
  ·rw [E1.o];exact ((C2.o).kept KR (by omega) (by omega))
theorem P8 (w:World) (lo b g:Nat) (c:Pl.Mc) (h:Bool) (op z r m k e s:Int) (hC:CAt w lo b g c h) (G:Pl.GM c) (hf:c.f=Pl.aI) (B:Pl.InB ⟨op,z,r,m,k,e,s⟩) (hop:op=2) (hm:m=0∨(2≤m∧m≤6)) :
  Calls prog 121 #[.pointer (some ⟨b,0,none⟩),.agg (inA op z r m k e s)] w fun e' w'=>∃g',e'=.returned (.agg (ftC (c.cr ⟨op,z,r,m,k,e,s⟩).f))∧CAt w' lo b g' (c.cr ⟨op,z,r,m,k,e,s⟩) h∧Since w b (b+1) g w' g':=by
 have HB:=hide B
 clear B
 obtain ⟨l0,l1,l2,l3,l4⟩:=hC.lt
 have HG:=hide G
 obtain ⟨X,hX,K0,C0,A0,R0,sX⟩:=hC.jl op z r m k e s
 have p:=A0.o.all
 clear hC G
 obtain ⟨E,hE⟩:∃E,E=c.gv ⟨op,z,r,m,k,e,s⟩:=⟨_,rfl⟩
 obtain ⟨F,hF⟩:∃F,F=E.f:=⟨_,rfl⟩
 have hp:Pl.iW ⟨op,z,r,m,k,e,s⟩=false:=by rw [hop];rfl
 have E1:Hid (c.cr ⟨op,z,r,m,k,e,s⟩=E):=hide (by unfold Pl.Mc.cr;rw [hp,hE];rw [hop];rfl)
 have HE:=hide hE
 have HF:=hide hF
 have hsup:=dV
 clear hE hF
 obtain rfl:=hop
 all_goals
  go_enter func121,ntmps121
  go_wp2_with (first|(go_at_call 164;refine (WM _ lo b g c h _ z r m k e s C1.o HG.o hf HB.o hm).mono ?_;rintro e9 W2 ⟨g',rfl,hc,hs⟩;rw [←HE.o] at hc ⊢;rw [←HF.o];unfold ftC;have C2:=hide hc;have R2:=hide (hs.blk R1.o (by omega) (by omega));have n2:=hs.ne (b:=w.heap.size+1) R1.o.lt (by omega);have S2:=hide (((Since.refl w b (b+1) g).any K1.o).trans hs);have r2:=R2.o.all;have rf2:=R2.o.fz;clear hc hs)|(go_at_call 162;refine (hsup _ _ z r m k e s).mono ?_;rintro e9 W1 ⟨rfl,k1⟩;rw [hp];have C1:=hide (C0.o.any k1);have A1:=hide (A0.o.af k1);have R1:=hide (R0.o.af k1);have K1:=hide (K0.o.trans k1);have p1:=A1.o.all;have r1:=R1.o.all;have rf1:=R1.o.fz;have q12:=C1.o.cS;clear k1))
  have KR:=(((((ak W2 (w.heap.size+1) 0 (iv F.v)).one 1 (iv F.pc)).one 2 (iv F.ad)).one 3 (iv F.wo)).one 4 (.bool F.wr))
  refine bodyPost_ret (v:=.agg (ftA F)) ?_ rfl ⟨g',?_,?_,(S2.o).mine KR (by omega)⟩
  ·rw [aj rfl];go_simp
  ·rw [E1.o,←HF.o];rfl
  ·rw [E1.o];exact ((C2.o).kept KR (by omega) (by omega))
theorem Qb (w:World) (lo b g:Nat) (c:Pl.Mc) (h:Bool) (op z r m k e s:Int) (hC:CAt w lo b g c h) (G:Pl.GM c) (hf:c.f=Pl.aI) (B:Pl.InB ⟨op,z,r,m,k,e,s⟩) (hop:op=11) (hm:m=0∨(2≤m∧m≤6)) (hs:s≤3) :
  Calls prog 121 #[.pointer (some ⟨b,0,none⟩),.agg (inA op z r m k e s)] w fun e' w'=>∃g',e'=.returned (.agg (ftC (c.cr ⟨op,z,r,m,k,e,s⟩).f))∧CAt w' lo b g' (c.cr ⟨op,z,r,m,k,e,s⟩) h∧Since w b (b+1) g w' g':=by
 have HB:=hide B
 clear B
 obtain ⟨l0,l1,l2,l3,l4⟩:=hC.lt
 have HG:=hide G
 obtain ⟨X,hX,K0,C0,A0,R0,sX⟩:=hC.jl op z r m k e s
 have p:=A0.o.all
 clear hC G
 obtain ⟨E,hE⟩:∃E,E=c.ch ⟨op,z,r,m,k,e,s⟩:=⟨_,rfl⟩
 obtain ⟨F,hF⟩:∃F,F=E.f:=⟨_,rfl⟩
 have hp:Pl.iW ⟨op,z,r,m,k,e,s⟩=false:=by rw [hop];rfl
 have E1:Hid (c.cr ⟨op,z,r,m,k,e,s⟩=E):=hide (by unfold Pl.Mc.cr;rw [hp,hE];rw [hop];rfl)
 have HE:=hide hE
 have HF:=hide hF
 have hsup:=dV
 clear hE hF
 obtain rfl:=hop
 all_goals
  go_enter func121,ntmps121
  go_wp2_with (first|(go_at_call 165;refine (LU _ lo b g c h _ z r m k e s C1.o HG.o hf HB.o hs hm).mono ?_;rintro e9 W2 ⟨g',rfl,hc,hs⟩;rw [←HE.o] at hc ⊢;rw [←HF.o];unfold ftC;have C2:=hide hc;have R2:=hide (hs.blk R1.o (by omega) (by omega));have n2:=hs.ne (b:=w.heap.size+1) R1.o.lt (by omega);have S2:=hide (((Since.refl w b (b+1) g).any K1.o).trans hs);have r2:=R2.o.all;have rf2:=R2.o.fz;clear hc hs)|(go_at_call 162;refine (hsup _ _ z r m k e s).mono ?_;rintro e9 W1 ⟨rfl,k1⟩;rw [hp];have C1:=hide (C0.o.any k1);have A1:=hide (A0.o.af k1);have R1:=hide (R0.o.af k1);have K1:=hide (K0.o.trans k1);have p1:=A1.o.all;have r1:=R1.o.all;have rf1:=R1.o.fz;have q12:=C1.o.cS;clear k1))
  have KR:=(((((ak W2 (w.heap.size+1) 0 (iv F.v)).one 1 (iv F.pc)).one 2 (iv F.ad)).one 3 (iv F.wo)).one 4 (.bool F.wr))
  refine bodyPost_ret (v:=.agg (ftA F)) ?_ rfl ⟨g',?_,?_,(S2.o).mine KR (by omega)⟩
  ·rw [aj rfl];go_simp
  ·rw [E1.o,←HF.o];rfl
  ·rw [E1.o];exact ((C2.o).kept KR (by omega) (by omega))
theorem PW (w:World) (lo b g:Nat) (c:Pl.Mc) (h:Bool) (op z r m k e s:Int) (hC:CAt w lo b g c h) (G:Pl.GM c) (hf:c.f=Pl.aI) (B:Pl.InB ⟨op,z,r,m,k,e,s⟩) (hop:op=12) :
  Calls prog 121 #[.pointer (some ⟨b,0,none⟩),.agg (inA op z r m k e s)] w fun e' w'=>∃g',e'=.returned (.agg (ftC (c.cr ⟨op,z,r,m,k,e,s⟩).f))∧CAt w' lo b g' (c.cr ⟨op,z,r,m,k,e,s⟩) h∧Since w b (b+1) g w' g':=by
 have HB:=hide B
 clear B
 obtain ⟨l0,l1,l2,l3,l4⟩:=hC.lt
 have HG:=hide G
 obtain ⟨X,hX,K0,C0,A0,R0,sX⟩:=hC.jl op z r m k e s
 have p:=A0.o.all
 clear hC G
 obtain ⟨E,hE⟩:∃E,E=(c.put z r (Pl.jg s z c.r.f (c.low z r) (k+1))).aF (Pl.oL s z c.r.f (c.low z r) (k+1)):=⟨_,rfl⟩
 obtain ⟨F,hF⟩:∃F,F=E.f:=⟨_,rfl⟩
 have hp:Pl.iW ⟨op,z,r,m,k,e,s⟩=false:=by rw [hop];rfl
 have E1:Hid (c.cr ⟨op,z,r,m,k,e,s⟩=E):=hide (by unfold Pl.Mc.cr;rw [hp,hE];rw [hop];rfl)
 have EF:Hid (E.f=Pl.aI):=hide (by rw [hE];exact hf)
 have HE:=hide hE
 have HF:=hide hF
 have hsup:=dV
 clear hE hF
 obtain rfl:=hop
 all_goals
  go_enter func121,ntmps121
  go_wp2_with (first|(go_at_call 167;refine (Ud _ lo b g c h _ z r m k e s C1.o HG.o HB.o).mono ?_;rintro e9 W2 ⟨rfl,hc,hk⟩;rw [←HE.o] at hc;have C2:=hide hc;have R2:=hide (R1.o.kept hk (by omega));have S2:=hide (((Since.refl w b (b+1) g).any K1.o).ai hk (Nat.le_refl _) (Nat.le_refl _));have r2:=R2.o.all;have rf2:=R2.o.fz;clear hc hk)|(go_at_call 162;refine (hsup _ _ z r m k e s).mono ?_;rintro e9 W1 ⟨rfl,k1⟩;rw [hp];have C1:=hide (C0.o.any k1);have A1:=hide (A0.o.af k1);have R1:=hide (R0.o.af k1);have K1:=hide (K0.o.trans k1);have p1:=A1.o.all;have r1:=R1.o.all;have rf1:=R1.o.fz;have q12:=C1.o.cS;clear k1))
  have KR:=(((((ak W2 (w.heap.size+1) 0 (iv 0)).one 1 (iv 0)).one 2 (iv 0)).one 3 (iv 0)).one 4 (.bool false))
  refine bodyPost_ret (v:=.agg ftZ) ?_ rfl ⟨g,?_,?_,(S2.o).mine KR (by omega)⟩
  ·rw [aj rfl];go_simp
  ·rw [E1.o,EF.o];rfl
  ·rw [E1.o];exact ((C2.o).kept KR (by omega) (by omega))
theorem Qc (w:World) (lo b g:Nat) (c:Pl.Mc) (h:Bool) (op z r m k e s:Int) (hC:CAt w lo b g c h) (G:Pl.GM c) (hf:c.f=Pl.aI) (B:Pl.InB ⟨op,z,r,m,k,e,s⟩) (hop:op=13) (hr:r≤1) :
  Calls prog 121 #[.pointer (some ⟨b,0,none⟩),.agg (inA op z r m k e s)] w fun e' w'=>∃g',e'=.returned (.agg (ftC (c.cr ⟨op,z,r,m,k,e,s⟩).f))∧CAt w' lo b g' (c.cr ⟨op,z,r,m,k,e,s⟩) h∧Since w b (b+1) g w' g':=by
 have HB:=hide B
 clear B
 obtain ⟨l0,l1,l2,l3,l4⟩:=hC.lt
 have HG:=hide G
 obtain ⟨X,hX,K0,C0,A0,R0,sX⟩:=hC.jl op z r m k e s
 have p:=A0.o.all
 clear hC G
 obtain ⟨E,hE⟩:∃E,E=bif Pl.tst (s+8*r) c.r.f then c.aK ((c.r.p-2+e)%65536) else c:=⟨_,rfl⟩
 obtain ⟨F,hF⟩:∃F,F=E.f:=⟨_,rfl⟩
 have hp:Pl.iW ⟨op,z,r,m,k,e,s⟩=false:=by rw [hop];rfl
 have E1:Hid (c.cr ⟨op,z,r,m,k,e,s⟩=E):=hide (by unfold Pl.Mc.cr;rw [hp,hE];rw [hop];rfl)
 have EF:Hid (E.f=Pl.aI):=hide (by rw [hE];cases Pl.tst (s+8*r) c.r.f<;>exact hf)
 have HE:=hide hE
 have HF:=hide hF
 have hsup:=dV
 clear hE hF
 obtain rfl:=hop
 all_goals
  go_enter func121,ntmps121
  go_wp2_with (first|(go_at_call 168;refine (Qd _ lo b g c h _ z r m k e s C1.o HG.o HB.o hr).mono ?_;rintro e9 W2 ⟨rfl,hc,hk⟩;rw [←HE.o] at hc;have C2:=hide hc;have R2:=hide (R1.o.kept hk (by omega));have S2:=hide (((Since.refl w b (b+1) g).any K1.o).ai hk (Nat.le_refl _) (Nat.le_refl _));have r2:=R2.o.all;have rf2:=R2.o.fz;clear hc hk)|(go_at_call 162;refine (hsup _ _ z r m k e s).mono ?_;rintro e9 W1 ⟨rfl,k1⟩;rw [hp];have C1:=hide (C0.o.any k1);have A1:=hide (A0.o.af k1);have R1:=hide (R0.o.af k1);have K1:=hide (K0.o.trans k1);have p1:=A1.o.all;have r1:=R1.o.all;have rf1:=R1.o.fz;have q12:=C1.o.cS;clear k1))
  have KR:=(((((ak W2 (w.heap.size+1) 0 (iv 0)).one 1 (iv 0)).one 2 (iv 0)).one 3 (iv 0)).one 4 (.bool false))
  refine bodyPost_ret (v:=.agg ftZ) ?_ rfl ⟨g,?_,?_,(S2.o).mine KR (by omega)⟩
  ·rw [aj rfl];go_simp
  ·rw [E1.o,EF.o];rfl
  ·rw [E1.o];exact ((C2.o).kept KR (by omega) (by omega))
theorem P7 (w:World) (lo b g:Nat) (c:Pl.Mc) (h:Bool) (op z r m k e s:Int) (hC:CAt w lo b g c h) (G:Pl.GM c) (hf:c.f=Pl.aI) (B:Pl.InB ⟨op,z,r,m,k,e,s⟩) (hop:op=14) (hs:s≤1) :
  Calls prog 121 #[.pointer (some ⟨b,0,none⟩),.agg (inA op z r m k e s)] w fun e' w'=>∃g',e'=.returned (.agg (ftC (c.cr ⟨op,z,r,m,k,e,s⟩).f))∧CAt w' lo b g' (c.cr ⟨op,z,r,m,k,e,s⟩) h∧Since w b (b+1) g w' g':=by
 have HB:=hide B
 clear B
 obtain ⟨l0,l1,l2,l3,l4⟩:=hC.lt
 have HG:=hide G
 obtain ⟨X,hX,K0,C0,A0,R0,sX⟩:=hC.jl op z r m k e s
 have p:=A0.o.all
 clear hC G
 obtain ⟨E,hE⟩:∃E,E=c.jp ⟨op,z,r,m,k,e,s⟩:=⟨_,rfl⟩
 obtain ⟨F,hF⟩:∃F,F=E.f:=⟨_,rfl⟩
 have hp:Pl.iW ⟨op,z,r,m,k,e,s⟩=false:=by rw [hop];rfl
 have E1:Hid (c.cr ⟨op,z,r,m,k,e,s⟩=E):=hide (by unfold Pl.Mc.cr;rw [hp,hE];rw [hop];rfl)
 have HE:=hide hE
 have HF:=hide hF
 have hsup:=dV
 clear hE hF
 obtain rfl:=hop
 all_goals
  go_enter func121,ntmps121
  go_wp2_with (first|(go_at_call 169;refine (Um _ lo b g c h _ z r m k e s C1.o HG.o hf HB.o hs).mono ?_;rintro e9 W2 ⟨g',rfl,hc,hs⟩;rw [←HE.o] at hc ⊢;rw [←HF.o];unfold ftC;have C2:=hide hc;have R2:=hide (hs.blk R1.o (by omega) (by omega));have n2:=hs.ne (b:=w.heap.size+1) R1.o.lt (by omega);have S2:=hide (((Since.refl w b (b+1) g).any K1.o).trans hs);have r2:=R2.o.all;have rf2:=R2.o.fz;clear hc hs)|(go_at_call 162;refine (hsup _ _ z r m k e s).mono ?_;rintro e9 W1 ⟨rfl,k1⟩;rw [hp];have C1:=hide (C0.o.any k1);have A1:=hide (A0.o.af k1);have R1:=hide (R0.o.af k1);have K1:=hide (K0.o.trans k1);have p1:=A1.o.all;have r1:=R1.o.all;have rf1:=R1.o.fz;have q12:=C1.o.cS;clear k1))
  have KR:=(((((ak W2 (w.heap.size+1) 0 (iv F.v)).one 1 (iv F.pc)).one 2 (iv F.ad)).one 3 (iv F.wo)).one 4 (.bool F.wr))
  refine bodyPost_ret (v:=.agg (ftA F)) ?_ rfl ⟨g',?_,?_,(S2.o).mine KR (by omega)⟩
  ·rw [aj rfl];go_simp
  ·rw [E1.o,←HF.o];rfl
  ·rw [E1.o];exact ((C2.o).kept KR (by omega) (by omega))
theorem Qa (w:World) (lo b g:Nat) (c:Pl.Mc) (h:Bool) (op z r m k e s:Int) (hC:CAt w lo b g c h) (G:Pl.GM c) (hf:c.f=Pl.aI) (B:Pl.InB ⟨op,z,r,m,k,e,s⟩) (hop:op=18) (hs:s≤1) (ht:jJ w lo) :
  Calls prog 121 #[.pointer (some ⟨b,0,none⟩),.agg (inA op z r m k e s)] w fun e' w'=>∃g',e'=.returned (.agg (ftC (c.cr ⟨op,z,r,m,k,e,s⟩).f))∧CAt w' lo b g' (c.cr ⟨op,z,r,m,k,e,s⟩) h∧Since w b (b+1) g w' g':=by
 have HB:=hide B
 clear B
 obtain ⟨l0,l1,l2,l3,l4⟩:=hC.lt
 have HG:=hide G
 obtain ⟨X,hX,K0,C0,A0,R0,sX⟩:=hC.jl op z r m k e s
 have p:=A0.o.all
 clear hC G
 obtain ⟨E,hE⟩:∃E,E=c.bd ⟨op,z,r,m,k,e,s⟩:=⟨_,rfl⟩
 obtain ⟨F,hF⟩:∃F,F=E.f:=⟨_,rfl⟩
 have hp:Pl.iW ⟨op,z,r,m,k,e,s⟩=false:=by rw [hop];rfl
 have E1:Hid (c.cr ⟨op,z,r,m,k,e,s⟩=E):=hide (by unfold Pl.Mc.cr;rw [hp,hE];rw [hop];rfl)
 have TB:=hide ht
 have HE:=hide hE
 have HF:=hide hF
 have hsup:=dV
 clear hE hF
 obtain rfl:=hop
 all_goals
  go_enter func121,ntmps121
  go_wp2_with (first|(go_at_call 171;refine (WO _ lo b g c h _ z r m k e s C1.o HG.o hf HB.o hs (TB.o.any K1.o)).mono ?_;rintro e9 W2 ⟨g',rfl,hc,hs⟩;rw [←HE.o] at hc ⊢;rw [←HF.o];unfold ftC;have C2:=hide hc;have R2:=hide (hs.blk R1.o (by omega) (by omega));have n2:=hs.ne (b:=w.heap.size+1) R1.o.lt (by omega);have S2:=hide (((Since.refl w b (b+1) g).any K1.o).trans hs);have r2:=R2.o.all;have rf2:=R2.o.fz;clear hc hs)|(go_at_call 162;refine (hsup _ _ z r m k e s).mono ?_;rintro e9 W1 ⟨rfl,k1⟩;rw [hp];have C1:=hide (C0.o.any k1);have A1:=hide (A0.o.af k1);have R1:=hide (R0.o.af k1);have K1:=hide (K0.o.trans k1);have p1:=A1.o.all;have r1:=R1.o.all;have rf1:=R1.o.fz;have q12:=C1.o.cS;clear k1))
  have KR:=(((((ak W2 (w.heap.size+1) 0 (iv F.v)).one 1 (iv F.pc)).one 2 (iv F.ad)).one 3 (iv F.wo)).one 4 (.bool F.wr))
  refine bodyPost_ret (v:=.agg (ftA F)) ?_ rfl ⟨g',?_,?_,(S2.o).mine KR (by omega)⟩
  ·rw [aj rfl];go_simp
  ·rw [E1.o,←HF.o];rfl
  ·rw [E1.o];exact ((C2.o).kept KR (by omega) (by omega))
theorem P9 (w:World) (lo b g:Nat) (c:Pl.Mc) (h:Bool) (op z r m k e s:Int) (hC:CAt w lo b g c h) (G:Pl.GM c) (hf:c.f=Pl.aI) (B:Pl.InB ⟨op,z,r,m,k,e,s⟩) (hop:op=15) (hs:s≤6) (he:s=3→e≤1023) :
  Calls prog 121 #[.pointer (some ⟨b,0,none⟩),.agg (inA op z r m k e s)] w fun e' w'=>∃g',e'=.returned (.agg (ftC (c.cr ⟨op,z,r,m,k,e,s⟩).f))∧CAt w' lo b g' (c.cr ⟨op,z,r,m,k,e,s⟩) h∧Since w b (b+1) g w' g':=by
 have HB:=hide B
 clear B
 obtain ⟨l0,l1,l2,l3,l4⟩:=hC.lt
 have HG:=hide G
 obtain ⟨X,hX,K0,C0,A0,R0,sX⟩:=hC.jl op z r m k e s
 have p:=A0.o.all
 clear hC G
 obtain rfl:=hop
 obtain ⟨E,hE⟩:∃E,E=c.fw ⟨15,z,r,m,k,e,s⟩:=⟨_,rfl⟩
 obtain ⟨F,hF⟩:∃F,F=E.f:=⟨_,rfl⟩
 have ET:Hid (c.cr' ⟨15,z,r,m,k,e,s⟩=E):=hide (by rw [hE];rfl)
 have HE:=hide hE
 have HF:=hide hF
 clear hE hF
 rcases Bool.eq_false_or_eq_true c.r.s with hss|hss<;>cases hp:Pl.iW ⟨15,z,r,m,k,e,s⟩
 case inr.true=>
  have E1:Hid (c.cr ⟨15,z,r,m,k,e,s⟩={c with f:=⟨8,0,0,0,false⟩}):=hide (by unfold Pl.Mc.cr;rw [hp,hss];rfl)
  have HSS:=hide hss
  clear hss
  go_enter func121,ntmps121
  go_wp2_with (first|(go_at_call 162;refine (dV _ _ z _ m k e s).mono ?_;rintro e9 W1 ⟨rfl,k1⟩;rw [hp];have C1:=hide (C0.o.any k1);have A1:=hide (A0.o.af k1);have R1:=hide (R0.o.af k1);have K1:=hide (K0.o.trans k1);have p1:=A1.o.all;have r1:=R1.o.all;have rf1:=R1.o.fz;have q12:=C1.o.cS;rw [HSS.o] at q12;clear k1))
  have KR:=(((((ak W1 (w.heap.size+1) 0 (iv 8)).one 1 (iv 0)).one 2 (iv 0)).one 3 (iv 0)).one 4 (.bool false))
  refine bodyPost_ret (v:=.agg #[iv 8,iv 0,iv 0,iv 0,.bool false]) ?_ rfl ⟨g,?_,?_,((Since.refl w b (b+1) g).any K1.o).mine KR (by omega)⟩
  ·rw [aj rfl];go_simp
  ·rw [E1.o];rfl
  ·rw [E1.o];exact ((C1.o).kept KR (by omega) (by omega)).fx rfl rfl rfl rfl rfl
 all_goals
  have E1:Hid (c.cr ⟨15,z,r,m,k,e,s⟩=E):=hide (by unfold Pl.Mc.cr;rw [hp,hss];exact ET.o)
  have HSS:=hide hss
  clear hss
  go_enter func121,ntmps121
  go_wp2_with (first|(go_at_call 170;refine (Ur _ lo b g c h _ z r m k e s C1.o HG.o hf HB.o hs he).mono ?_;rintro e9 W2 ⟨g',rfl,hc,hs⟩;rw [←HE.o] at hc ⊢;rw [←HF.o];unfold ftC;have C2:=hide hc;have R2:=hide (hs.blk R1.o (by omega) (by omega));have n2:=hs.ne (b:=w.heap.size+1) R1.o.lt (by omega);have S2:=hide (((Since.refl w b (b+1) g).any K1.o).trans hs);have r2:=R2.o.all;have rf2:=R2.o.fz;clear hc hs)|(go_at_call 162;refine (dV _ _ z _ m k e s).mono ?_;rintro e9 W1 ⟨rfl,k1⟩;rw [hp];have C1:=hide (C0.o.any k1);have A1:=hide (A0.o.af k1);have R1:=hide (R0.o.af k1);have K1:=hide (K0.o.trans k1);have p1:=A1.o.all;have r1:=R1.o.all;have rf1:=R1.o.fz;have q12:=C1.o.cS;rw [HSS.o] at q12;clear k1))
  have KR:=(((((ak W2 (w.heap.size+1) 0 (iv F.v)).one 1 (iv F.pc)).one 2 (iv F.ad)).one 3 (iv F.wo)).one 4 (.bool F.wr))
  refine bodyPost_ret (v:=.agg (ftA F)) ?_ rfl ⟨g',?_,?_,(S2.o).mine KR (by omega)⟩
  ·rw [aj rfl];go_simp
  ·rw [E1.o,←HF.o];rfl
  ·rw [E1.o];exact ((C2.o).kept KR (by omega) (by omega))
theorem PY (w:World) (lo b g:Nat) (c:Pl.Mc) (h:Bool) (op z r m k e s:Int) (hC:CAt w lo b g c h) (G:Pl.GM c) (hf:c.f=Pl.aI) (B:Pl.InB ⟨op,z,r,m,k,e,s⟩) (hop:op=19) (hs:s≤1) (he:s=0→e≤1023) :
  Calls prog 121 #[.pointer (some ⟨b,0,none⟩),.agg (inA op z r m k e s)] w fun e' w'=>∃g',e'=.returned (.agg (ftC (c.cr ⟨op,z,r,m,k,e,s⟩).f))∧CAt w' lo b g' (c.cr ⟨op,z,r,m,k,e,s⟩) h∧Since w b (b+1) g w' g':=by
 have HB:=hide B
 clear B
 obtain ⟨l0,l1,l2,l3,l4⟩:=hC.lt
 have HG:=hide G
 obtain ⟨X,hX,K0,C0,A0,R0,sX⟩:=hC.jl op z r m k e s
 have p:=A0.o.all
 clear hC G
 obtain rfl:=hop
 obtain ⟨E,hE⟩:∃E,E=c.mvs ⟨19,z,r,m,k,e,s⟩:=⟨_,rfl⟩
 obtain ⟨F,hF⟩:∃F,F=E.f:=⟨_,rfl⟩
 have ET:Hid (c.cr' ⟨19,z,r,m,k,e,s⟩=E):=hide (by rw [hE];rfl)
 have EF:Hid (E.f=Pl.aI):=hide (by rw [hE];unfold Pl.Mc.mvs;cases s==0<;>exact hf)
 have HE:=hide hE
 have HF:=hide hF
 clear hE hF
 rcases Bool.eq_false_or_eq_true c.r.s with hss|hss<;>cases hp:Pl.iW ⟨19,z,r,m,k,e,s⟩
 case inr.true=>
  have E1:Hid (c.cr ⟨19,z,r,m,k,e,s⟩={c with f:=⟨8,0,0,0,false⟩}):=hide (by unfold Pl.Mc.cr;rw [hp,hss];rfl)
  have HSS:=hide hss
  clear hss
  go_enter func121,ntmps121
  go_wp2_with (first|(go_at_call 162;refine (dV _ _ z _ m k e s).mono ?_;rintro e9 W1 ⟨rfl,k1⟩;rw [hp];have C1:=hide (C0.o.any k1);have A1:=hide (A0.o.af k1);have R1:=hide (R0.o.af k1);have K1:=hide (K0.o.trans k1);have p1:=A1.o.all;have r1:=R1.o.all;have rf1:=R1.o.fz;have q12:=C1.o.cS;rw [HSS.o] at q12;clear k1))
  have KR:=(((((ak W1 (w.heap.size+1) 0 (iv 8)).one 1 (iv 0)).one 2 (iv 0)).one 3 (iv 0)).one 4 (.bool false))
  refine bodyPost_ret (v:=.agg #[iv 8,iv 0,iv 0,iv 0,.bool false]) ?_ rfl ⟨g,?_,?_,((Since.refl w b (b+1) g).any K1.o).mine KR (by omega)⟩
  ·rw [aj rfl];go_simp
  ·rw [E1.o];rfl
  ·rw [E1.o];exact ((C1.o).kept KR (by omega) (by omega)).fx rfl rfl rfl rfl rfl
 all_goals
  have E1:Hid (c.cr ⟨19,z,r,m,k,e,s⟩=E):=hide (by unfold Pl.Mc.cr;rw [hp,hss];exact ET.o)
  have HSS:=hide hss
  clear hss
  go_enter func121,ntmps121
  go_wp2_with (first|(go_at_call 172;refine (Uj _ lo b g c h _ z r m k e s C1.o HG.o hf HB.o hs he).mono ?_;rintro e9 W2 ⟨rfl,hc,hk⟩;rw [←HE.o] at hc;have C2:=hide hc;have R2:=hide (R1.o.kept hk (by omega));have S2:=hide (((Since.refl w b (b+1) g).any K1.o).ai hk (Nat.le_refl _) (Nat.le_refl _));have r2:=R2.o.all;have rf2:=R2.o.fz;clear hc hk)|(go_at_call 162;refine (dV _ _ z _ m k e s).mono ?_;rintro e9 W1 ⟨rfl,k1⟩;rw [hp];have C1:=hide (C0.o.any k1);have A1:=hide (A0.o.af k1);have R1:=hide (R0.o.af k1);have K1:=hide (K0.o.trans k1);have p1:=A1.o.all;have r1:=R1.o.all;have rf1:=R1.o.fz;have q12:=C1.o.cS;rw [HSS.o] at q12;clear k1))
  have KR:=(((((ak W2 (w.heap.size+1) 0 (iv 0)).one 1 (iv 0)).one 2 (iv 0)).one 3 (iv 0)).one 4 (.bool false))
  refine bodyPost_ret (v:=.agg ftZ) ?_ rfl ⟨g,?_,?_,(S2.o).mine KR (by omega)⟩
  ·rw [aj rfl];go_simp
  ·rw [E1.o,EF.o];rfl
  ·rw [E1.o];exact ((C2.o).kept KR (by omega) (by omega))
theorem PZ (w:World) (lo b g:Nat) (c:Pl.Mc) (h:Bool) (op z r m k e s:Int) (hC:CAt w lo b g c h) (G:Pl.GM c) (hf:c.f=Pl.aI) (B:Pl.InB ⟨op,z,r,m,k,e,s⟩) (hop:op=10) :
  Calls prog 121 #[.pointer (some ⟨b,0,none⟩),.agg (inA op z r m k e s)] w fun e' w'=>∃g',e'=.returned (.agg (ftC (c.cr ⟨op,z,r,m,k,e,s⟩).f))∧CAt w' lo b g' (c.cr ⟨op,z,r,m,k,e,s⟩) h∧Since w b (b+1) g w' g':=by
 have HB:=hide B
 clear B
 obtain ⟨l0,l1,l2,l3,l4⟩:=hC.lt
 have HG:=hide G
 obtain ⟨X,hX,K0,C0,A0,R0,sX⟩:=hC.jl op z r m k e s
 have p:=A0.o.all
 clear hC G
 obtain rfl:=hop
 have hp:Pl.iW ⟨10,z,r,m,k,e,s⟩=false:=rfl
 obtain ⟨n,rfl⟩:∃n:Nat,r=(n:Int):=⟨r.toNat,by have:0≤r:=HB.o.r0;omega⟩
 have hn:n<4:=by have:(n:Int)≤3:=HB.o.r1;omega
 have i0:(0:Int)≤(n:Int):=by omega
 have i1:(n:Int)<4:=by omega
 obtain ⟨D,hD⟩:∃D,D=c.slot z m k e:=⟨_,rfl⟩
 obtain ⟨a,ha⟩:∃a,a=c.readA z m k e:=⟨_,rfl⟩
 have GD:Hid (Pl.GM D):=hide (by rw [hD];exact HG.o.slot HB.o.k0 HB.o.k1)
 have DF:Hid (D.f=Pl.aI):=hide (by rw [hD];unfold Pl.Mc.slot;cases Pl.Mc.gU m<;>exact hf)
 have E1:Hid (c.cr ⟨10,z,(n:Int),m,k,e,s⟩=D.fU n a):=hide (by unfold Pl.Mc.cr;rw [hp,hD,ha];rfl)
 have HA:=hide ha
 obtain ⟨T,U,hW⟩:=lG m k e
 have HW:=hide hW
 have HD:=hide hD
 have sa:=vg T U z a
 clear ha hW hD
 go_enter func121,ntmps121
 go_wp2_with (first|(go_at_call 162;refine (dV _ _ z _ m k e s).mono ?_;rintro e9 W1 ⟨rfl,k1⟩;rw [hp];have C1:=hide (C0.o.any k1);have A1:=hide (A0.o.af k1);have R1:=hide (R0.o.af k1);have K1:=hide (K0.o.trans k1);have p1:=A1.o.all;have r1:=R1.o.all;have rf1:=R1.o.fz;have q12:=C1.o.cS;clear k1))
 obtain ⟨u0,u1,u2,u3,u4,u5,u6⟩:=A1.o.c7
 go_region_held3 (fun w'=>w'.cell? ⟨w.heap.size,0,none⟩=some (iv 10)∧w'.cell? ⟨w.heap.size,1,none⟩=some (iv z)∧w'.cell? ⟨w.heap.size,2,none⟩=some (iv (n:Int))∧w'.cell? ⟨w.heap.size,3,none⟩=some (iv m)∧w'.cell? ⟨w.heap.size,4,none⟩=some (iv k)∧w'.cell? ⟨w.heap.size,5,none⟩=some (iv e)∧w'.cell? ⟨w.heap.size,6,none⟩=some (iv s)) (first|with_reducible exact A2.o.c7|with_reducible exact (A2.o.other b (4+n) (iv a) (by omega)).c7|exact (show Blk _ _ _ _ from A1.o).c7)
  (first|(go_at_call 166;refine (rZ _ lo b g c h ⟨10,z,(n:Int),m,k,e,s⟩ C1.o.drew HG.o HB.o).mono ?_;rintro e9 W2 ⟨rfl,hc,hkd⟩;have hk:=cZ hkd;rw [←HA.o,HW.o];rw [←HD.o] at hc;have C2:=hide hc;have A2:=hide (A1.o.kept hk (by omega));have R2:=hide (R1.o.kept hk (by omega));have S2:=hide (((Since.refl w b (b+1) g).any K1.o).ai hk (Nat.le_refl _) (Nat.le_refl _));have cy:=hc.cY hn;have cz:=hc.fz;clear hc hk hkd))
 have rr:=(R2.o.other b (4+n) (iv a) (by omega)).all
 have rz:=(R2.o.other b (4+n) (iv a) (by omega)).fz
 go_wp2_with fail
 have KR:=(((((ak (W2.setCell ⟨b,4+n,none⟩ (iv a)) (w.heap.size+1) 0 (iv 0)).one 1 (iv 0)).one 2 (iv 0)).one 3 (iv 0)).one 4 (.bool false))
 refine bodyPost_ret (v:=.agg ftZ) ?_ rfl ⟨g,?_,?_,(S2.o.set b (4+n) (iv a) (.inl (by omega))).mine KR (by omega)⟩
 ·rw [aj rfl];go_simp
 ·rw [E1.o,show (D.fU n a).f=Pl.aI from DF.o];rfl
 ·rw [E1.o];exact ((C2.o.vz GD.o.g.a4 hn a).kept KR (by omega) (by omega))
end Go.Proofs.YtkkmnnhaailkcaaGreatDoor
namespace Go.Proofs.YtkkmnnhaailkcaaGreatDoor.Pl
open Go.RowKit Go.Proofs.Tryz
set_option linter.unusedVariables false
def Mc.wf (c:Mc) (p q:Int):Mc:={c with f:={c.f with pc:=p,wo:=q}}
def jb (v:Int):Bool:=(v==5)||decide (18≤v)
structure Same (a b q:Int) (m d:Mc):Prop where
 bx:m.bx=d.bx
 bl:m.bl=d.bl
 bm:m.bm=d.bm
 st:m.st=d.st
 ok:d.f.v=0→m.f.v=0∧m.r=d.r∧d.f=aI
 no:d.f.v≠0→m.f=⟨d.f.v,bif jb d.f.v then b else a,d.f.ad,q,d.f.wr⟩
theorem Qv (f:Ft) (p q k s a:Int):Mc.fE {f with pc:=p,wo:=q} k s a={Mc.fE f k s a with pc:=p,wo:=q}:=by
 unfold Mc.fE
 cases h:(code k s a != 0)&&(f.v==0)<;>rfl
section
variable (c:Mc) (p q:Int)
theorem acc_wf (k s a v:Int):(c.wf p q).acc k s a v=(c.acc k s a v).wf p q:=by
 show Mc.mk _ _ _ _ _ (Mc.fE {c.f with pc:=p,wo:=q} k s a)=_
 rw [Qv];rfl
theorem uI (z m k e:Int):(c.wf p q).read z m k e=(c.read z m k e).wf p q:=by
 unfold Mc.read
 cases Mc.gU m
 ·exact acc_wf (c.plc z m k e) p q 1 z (dm c.r z m k e) 0
 ·rfl
theorem qZ (z m k a v:Int):(c.wf p q).write z m k a v=(c.write z m k a v).wf p q:=by
 unfold Mc.write
 cases m==0
 ·exact acc_wf c p q 2 z a v
 ·rfl
theorem rE (z m k e:Int):(c.wf p q).place z m k e=(c.place z m k e).wf p q:=by
 unfold Mc.place
 cases m==0<;>rfl
theorem N8 (v:Int):(c.wf p q).push v=(c.push v).wf p q:=by
 unfold Mc.push
 rw [show (c.wf p q).spA=c.spA from rfl,acc_wf]
 show (bif (c.acc 2 2 c.spA v).fine then _ else _)=_
 cases (c.acc 2 2 c.spA v).fine<;>rfl
theorem Bf:(c.wf p q).pop=c.pop.wf p q:=by
 unfold Mc.pop
 rw [show (c.wf p q).r=c.r from rfl,acc_wf]
 show (bif (c.acc 1 2 (el c.r.ys 3) 0).fine then _ else _)=_
 cases (c.acc 1 2 (el c.r.ys 3) 0).fine<;>rfl
end
def Mc.bus (c:Mc):Prop:=c.f=aI∨c.f.v=2∨c.f.v=3
theorem nG {f:Ft} (h:f=aI∨f.v=2∨f.v=3) (k s a:Int):Mc.fE f k s a=aI∨(Mc.fE f k s a).v=2∨(Mc.fE f k s a).v=3:=by
 unfold Mc.fE
 cases (code k s a != 0)&&(f.v==0)
 ·exact h
 ·cases code k s a==2
  ·exact .inr (.inl rfl)
  ·exact .inr (.inr rfl)
theorem Mc.bus.read {c:Mc} (h:c.bus) (z m k e:Int):(c.read z m k e).bus:=by
 unfold Mc.read
 cases Mc.gU m
 ·exact nG h _ _ _
 ·exact h
theorem Mc.bus.write {c:Mc} (h:c.bus) (z m k a v:Int):(c.write z m k a v).bus:=by
 unfold Mc.write
 cases m==0
 ·exact nG h _ _ _
 ·exact h
theorem Mc.bus.push {c:Mc} (h:c.bus) (v:Int):(c.push v).bus:=by
 unfold Mc.push
 cases (c.acc 2 2 c.spA v).fine
 ·exact nG h _ _ _
 ·exact nG h _ _ _
theorem Mc.bus.pop {c:Mc} (h:c.bus):c.pop.bus:=by
 unfold Mc.pop
 cases (c.acc 1 2 (el c.r.ys 3) 0).fine
 ·exact nG h _ _ _
 ·exact nG h _ _ _
theorem Same.wf {a b q:Int} {d:Mc} (h:d.bus):Same a b q (d.wf a q) d:=
 ⟨rfl,rfl,rfl,rfl,fun e=>⟨e,rfl,by rcases h with h|h|h<;>first|exact h|(rw [h] at e;cases e)⟩,fun e=>by
  have:jb d.f.v=false:=by rcases h with h|h|h<;>rw [h]<;>rfl
  rw [this];rfl⟩
theorem Same.wr {a b q:Int} {d e:Mc} (h:d.bus) (hv:d.fine=false) (bx:e.bx=d.bx) (bl:e.bl=d.bl) (bm:e.bm=d.bm) (st:e.st=d.st) (f:e.f=d.f):Same a b q (d.wf a q) e:=by
 have hv0:d.f.v≠0:=by intro k;unfold Mc.fine at hv;rw [k] at hv;cases hv
 refine ⟨bx.symm,bl.symm,bm.symm,st.symm,fun k => ?_,fun k => ?_⟩
 ·rw [f] at k;exact absurd k hv0
 ·have:jb d.f.v=false:=by rcases h with h|h|h<;>rw [h]<;>rfl
  rw [f,this];rfl
section
variable {c:Mc}
theorem kZ (z m k e:Int) (hm:m=0∨(2≤m∧m≤6)):c.slot z m k e=c.place z m k e∧c.readA z m k e=c.iR z m k e:=by
 have:m=0∨m=2∨m=3∨m=4∨m=5∨m=6:=by omega
 rcases this with rfl|rfl|rfl|rfl|rfl|rfl<;>exact ⟨rfl,rfl⟩
theorem nJ (z m k a v f:Int):(c.aF f).write z m k a v=(c.write z m k a v).aF f:=by
 unfold Mc.write
 cases m==0<;>rfl
theorem Bl (z m k e f:Int):(c.aF f).place z m k e=(c.place z m k e).aF f:=by
 unfold Mc.place
 cases m==0
 ·show ({c.aF f with r:=dA (c.aF f).r z m k e}:Mc)=_
  unfold dA
  by_cases h3:m=3
  ·simp only [h3,if_true];rfl
  ·by_cases h4:m=4
   ·simp only [h4,if_true];rfl
   ·simp only [h3,h4,if_false]
    show _=(c.dB (dA c.r z m k e)).aF f
    unfold dA
    simp only [h3,h4,if_false];rfl
 ·rfl
theorem H9 {xs:List Int} {k:Nat} {v:Int} (hk:k<xs.length) (h:v=el xs k):xs.set k v=xs:=by
 apply List.ext_getElem?
 intro j
 by_cases e:k=j
 ·subst e
  rw [List.getElem?_set_self hk,h]
  simp [el,hk]
 ·rw [List.getElem?_set_ne e]
theorem NZ (G:GM c) {z r:Int} (hz:z=1∨z=2) (r0:0≤r) (r1:r≤3):c.put z r (c.low z r)=c:=by
 have hl:r.toNat<c.r.xs.length:=by rw [G.g.d4];omega
 have hb:=G.g.dw r.toNat (by omega)
 have e:(if z=1 then el c.r.xs r.toNat/256*256+c.low z r else c.low z r)=el c.r.xs r.toNat:=by
  unfold Mc.low
  rcases hz with rfl|rfl
  ·simp [top];omega
  ·simp [top];omega
 show ({c with r:={c.r with xs:=c.r.xs.set r.toNat (if z=1 then el c.r.xs r.toNat/256*256+c.low z r else c.low z r)}}:Mc)=c
 rw [H9 hl e]
end
theorem VJ {a:Int} (h0:0≤a) (h1:a≤31):bits .or .i64 a 0=a:=by
 obtain ⟨n,rfl⟩:∃n:Nat,a=(n:Int):=⟨a.toNat,by omega⟩
 have:=(bits_nat n 0 (by omega) (by omega)).2.1
 rw [show ((0:Nat):Int)=0 from rfl] at this
 rw [this,Nat.or_zero]
variable {c:Mc} {a b q:Int}
theorem jG (hf:c.f=aI):c.bus:=.inl hf
theorem NS (hf:c.f=aI) (x:In) (hm:x.m=0∨(2≤x.m∧x.m≤6)):Same a b q ((c.wf a q).from' x) (c.gv x):=by
 obtain ⟨e1,e2⟩:=kZ (c:=c.aF (aS x.z c.r.f (c.low x.z x.r))) x.z x.m x.k x.e hm
 have e3:=(kZ (c:=c) x.z x.m x.k x.e hm).2
 have e:(c.wf a q).from' x=(c.gv x).wf a q:=by
  unfold Mc.from' Mc.gv
  rw [e1,e3,Bl,nJ,rE]
  show (((c.place x.z x.m x.k x.e).wf a q).write x.z x.m x.k (c.iR x.z x.m x.k x.e) (c.low x.z x.r)).aF (aS x.z c.r.f (c.low x.z x.r))=_
  rw [qZ];rfl
 rw [e]
 refine Same.wf ?_
 unfold Mc.gv
 refine Mc.bus.write ?_ _ _ _ _ _
 unfold Mc.slot
 cases Mc.gU x.m<;>exact jG hf
theorem NQ (hf:c.f=aI) (x:In) (ho:x.op=9) (hz:x.z=2):Same a b q (bif ((c.wf a q).read 2 x.m x.k x.e).fine then ((c.wf a q).read 2 x.m x.k x.e).fU x.r.toNat ((c.wf a q).bf 2 x.m x.k x.e) else (c.wf a q).read 2 x.m x.k x.e) (c.tk x):=by
 have hb:=(jG hf).read 2 x.m x.k x.e
 unfold Mc.tk Mc.tk'
 rw [ho,hz,uI]
 show Same a b q (bif (c.read 2 x.m x.k x.e).fine then ((c.read 2 x.m x.k x.e).wf a q).fU x.r.toNat (c.bf 2 x.m x.k x.e) else (c.read 2 x.m x.k x.e).wf a q) _
 cases (c.read 2 x.m x.k x.e).fine
 ·exact Same.wf hb
 ·exact Same.wf (d:=(c.read 2 x.m x.k x.e).fU x.r.toNat (c.bf 2 x.m x.k x.e)) hb
theorem Ii (hf:c.f=aI) (x:In) (hz:x.z=2) (hm:x.m=0∨(2≤x.m∧x.m≤6)):Same a b q (((c.wf a q).place 2 x.m x.k x.e).fU x.r.toNat ((c.wf a q).iR 2 x.m x.k x.e)) (c.lea x):=by
 obtain ⟨e1,e2⟩:=kZ (c:=c) 2 x.m x.k x.e hm
 unfold Mc.lea
 rw [hz,e1,e2,rE]
 refine Same.wf (d:=(c.place 2 x.m x.k x.e).fU x.r.toNat (c.iR 2 x.m x.k x.e)) ?_
 show (c.place 2 x.m x.k x.e).bus
 unfold Mc.place
 cases x.m==0<;>exact jG hf
theorem RJ (G:GM c) (x:In) (B:InB x) (ho:x.op=1∨x.op=3∨x.op=4∨x.op=5∨x.op=6∨x.op=7∨x.op=8) (v:Int) (hv:okv x.z v=true) :
  c.two' x (c.low x.z x.r) v=c.tk' x.op x.z x.r v:=by
 have hq:=fP G B.z B.r0 B.r1
 obtain ⟨b1,b2,b3⟩:=mX hq hv
 have dat:∀u,okv x.z u=true→c.data x.z x.r u=(c.put x.z x.r u).aF (bits .or .i64 (aS x.z c.r.f u) (fl (0 != (0:Int)) 2)):=by
  intro u hu
  have h:=eG x.z c.r.f u hu (bI G)
  rw [show fl (0 != (0:Int)) 2=0 from rfl,VJ h.1 h.2]
  rfl
 unfold Mc.two' Mc.tk' cbV cbF cbM cbU
 rcases ho with h|h|h|h|h|h|h<;>rw [h]
 ·exact dat v hv
 ·rfl
 ·rfl
 ·exact dat _ b1
 ·exact dat _ b2
 ·exact dat _ b3
 ·show c.aF (oK x.z c.r.f (c.low x.z x.r) v)=(c.put x.z x.r (c.low x.z x.r)).aF (oK x.z c.r.f (c.low x.z x.r) v)
  rw [NZ G B.z B.r0 B.r1]
theorem RI (x:In) (p v:Int):(c.wf a q).two' x p v=(c.two' x p v).wf a q:=by
 unfold Mc.two'
 cases x.op==8<;>cases x.op==3<;>cases x.op==4<;>cases x.op==5<;>cases x.op==6<;>cases x.op==7<;>rfl
theorem Ns (h:c.bus) (x:In) (p v:Int):(c.two' x p v).bus:=by
 unfold Mc.two'
 cases x.op==8<;>cases x.op==3<;>cases x.op==4<;>cases x.op==5<;>cases x.op==6<;>cases x.op==7<;>exact h
theorem Ib (G:GM c) (hf:c.f=aI) (x:In) (B:InB x) (h1:x.m=1→x.z=2) (ho:x.op=1∨x.op=3∨x.op=4∨x.op=5∨x.op=6∨x.op=7∨x.op=8):Same a b q ((c.wf a q).two x) (c.tk x):=by
 have hb:=(jG hf).read x.z x.m x.k x.e
 have hv:=dC G B.z B.k0 B.k1 B.e0 B.e1 h1 B.n7
 have GR:=G.read (m:=x.m) B.z B.k0 B.k1 B.e0 B.e1
 unfold Mc.two Mc.tk
 rw [uI]
 show Same a b q (bif (c.read x.z x.m x.k x.e).fine then ((c.read x.z x.m x.k x.e).wf a q).two' x ((c.read x.z x.m x.k x.e).low x.z x.r) (c.bf x.z x.m x.k x.e) else (c.read x.z x.m x.k x.e).wf a q) _
 cases (c.read x.z x.m x.k x.e).fine
 ·exact Same.wf hb
 ·show Same a b q (((c.read x.z x.m x.k x.e).wf a q).two' x ((c.read x.z x.m x.k x.e).low x.z x.r) (c.bf x.z x.m x.k x.e)) ((c.read x.z x.m x.k x.e).tk' x.op x.z x.r (c.bf x.z x.m x.k x.e))
  rw [RI,←RJ GR x B ho _ hv]
  exact Same.wf (Ns hb _ _ _)
theorem SH (x:In) (ho:x.s=1∨x.s=2∨x.s=3) (d:Mc) (hd:d.r.f=c.r.f) (u v:Int):c.one' d x u v=d.ch' x.z x.m x.k u x.s v:=by
 unfold Mc.one' Mc.ch' chF chV
 rw [hd]
 rcases ho with h|h|h<;>rw [h]
 ·exact (nJ x.z x.m x.k u _ _).symm
 ·exact (nJ x.z x.m x.k u _ _).symm
 ·rfl
theorem Ie (G:GM c) (hf:c.f=aI) (x:In) (B:InB x) (hm:x.m=0∨(2≤x.m∧x.m≤6)) (hs:x.s≤3):Same a b q ((c.wf a q).one x) (c.ch x):=by
 have hs0:=B.s0
 have hb:=(jG hf).read x.z x.m x.k x.e
 obtain ⟨e1,e2⟩:=kZ (c:=c) x.z x.m x.k x.e hm
 by_cases h0:x.s=0
 ·have e:(c.wf a q).one x=(c.ch x).wf a q:=by
   unfold Mc.one Mc.ch
   rw [h0]
   show (c.wf a q).IR x=((c.slot x.z x.m x.k x.e).ch' x.z x.m x.k (c.readA x.z x.m x.k x.e) 0 0).wf a q
   unfold Mc.IR
   rw [e1,e2,rE]
   show (((c.place x.z x.m x.k x.e).wf a q).write x.z x.m x.k (c.iR x.z x.m x.k x.e) 0).aF (aS x.z c.r.f 0)=_
   rw [qZ]
   show _=(((c.place x.z x.m x.k x.e).aF (aS x.z (c.place x.z x.m x.k x.e).r.f 0)).write x.z x.m x.k (c.iR x.z x.m x.k x.e) 0).wf a q
   rw [nJ,xU];rfl
  rw [e]
  refine Same.wf ?_
  unfold Mc.ch Mc.ch'
  rw [h0]
  refine Mc.bus.write ?_ _ _ _ _ _
  show (c.slot x.z x.m x.k x.e).bus
  unfold Mc.slot
  cases Mc.gU x.m<;>exact jG hf
 ·have h1:x.s=1∨x.s=2∨x.s=3:=by omega
  have hz:(x.s==0)=false:=by simpa using h0
  unfold Mc.one Mc.ch
  rw [hz,uI]
  show Same a b q (bif (c.read x.z x.m x.k x.e).fine then (c.wf a q).one' ((c.read x.z x.m x.k x.e).wf a q) x (c.readA x.z x.m x.k x.e) (c.bf x.z x.m x.k x.e) else (c.read x.z x.m x.k x.e).wf a q) (bif (c.read x.z x.m x.k x.e).fine then (c.read x.z x.m x.k x.e).ch' x.z x.m x.k (c.readA x.z x.m x.k x.e) x.s (c.bf x.z x.m x.k x.e) else c.read x.z x.m x.k x.e)
  cases (c.read x.z x.m x.k x.e).fine
  ·exact Same.wf hb
  ·have e:(c.wf a q).one' ((c.read x.z x.m x.k x.e).wf a q) x (c.readA x.z x.m x.k x.e) (c.bf x.z x.m x.k x.e)=((c.read x.z x.m x.k x.e).ch' x.z x.m x.k (c.readA x.z x.m x.k x.e) x.s (c.bf x.z x.m x.k x.e)).wf a q:=by
    rw [←SH x h1 _ (xP c _ _ _ _)]
    unfold Mc.one'
    rw [qZ,qZ]
    cases x.s==1<;>cases x.s==2<;>rfl
   show Same a b q ((c.wf a q).one' _ _ _ _) _
   rw [e]
   refine Same.wf ?_
   unfold Mc.ch'
   cases x.s==3
   ·have hb':((c.read x.z x.m x.k x.e).aF (chF x.s x.z (c.read x.z x.m x.k x.e).r.f (c.bf x.z x.m x.k x.e))).bus:=hb
    exact hb'.write _ _ _ _ _
   ·exact hb
theorem Ic (hf:c.f=aI) (x:In):Same a b q (((c.wf a q).aF (oL x.s x.z c.r.f (c.low x.z x.r) (x.k+1))).put x.z x.r (jg x.s x.z c.r.f (c.low x.z x.r) (x.k+1))) (c.shf x):=
 Same.wf (d:=c.shf x) (jG (c:=c) hf)
theorem Ij (hf:c.f=aI) (x:In) (ho:x.op=13) (hp:c.r.p=(a+2*2)%65536):Same a b q ((c.wf a q).jump x a) (c.brn x):=by
 unfold Mc.jump Mc.brn
 rw [ho]
 have e:(c.r.p-2+x.e)%65536=(a+2+x.e)%65536:=by omega
 rw [e]
 show Same a b q (bif tst (x.s+8*x.r) c.r.f then (c.wf a q).aK ((a+2+x.e)%65536) else c.wf a q) _
 cases tst (x.s+8*x.r) c.r.f
 ·exact Same.wf (jG hf)
 ·exact Same.wf (d:=c.aK ((a+2+x.e)%65536)) (jG (c:=c) hf)
theorem NR (hf:c.f=aI) (x:In) (ho:x.op=14) (hz:x.z=2) (hm:x.m=0∨(2≤x.m∧x.m≤6)):Same a b q ((c.wf a q).jump x a) (c.jp x):=by
 obtain ⟨e1,e2⟩:=kZ (c:=c) 2 x.m x.k x.e hm
 have hb:(c.place 2 x.m x.k x.e).bus:=by
  unfold Mc.place
  cases x.m==0<;>exact jG hf
 have hbp:=hb.push c.r.p
 unfold Mc.jump Mc.jp
 rw [ho,hz,e1,e2,rE,show (c.wf a q).r=c.r from rfl,N8]
 show Same a b q (bif x.s==1 then (bif ((c.place 2 x.m x.k x.e).push c.r.p).fine then (((c.place 2 x.m x.k x.e).push c.r.p).aK (c.iR 2 x.m x.k x.e)).wf a q else ((c.place 2 x.m x.k x.e).push c.r.p).wf a q) else ((c.place 2 x.m x.k x.e).aK (c.iR 2 x.m x.k x.e)).wf a q) _
 cases x.s==1
 ·exact Same.wf (d:=(c.place 2 x.m x.k x.e).aK (c.iR 2 x.m x.k x.e)) hb
 ·cases ((c.place 2 x.m x.k x.e).push c.r.p).fine
  ·exact Same.wf hbp
  ·exact Same.wf (d:=((c.place 2 x.m x.k x.e).push c.r.p).aK (c.iR 2 x.m x.k x.e)) hbp
theorem Ih (G:GM c) (hf:c.f=aI) (x:In) (B:InB x) (hz:x.z=2) (h1:x.m≠1) (ho:x.op=16∨x.op=17) (hp:c.r.p=b):Same a b q ((c.wf a q).product x) (c.tk x):=by
 have h7:x.m=7→okv 2 x.e=true:=by rw [←hz];exact B.n7
 have hb:=(jG hf).read 2 x.m x.k x.e
 have hv:=dC (c:=c) G (z:=2) (m:=x.m) (.inr rfl) B.k0 B.k1 B.e0 B.e1 (fun _=>rfl) h7
 have GR:=G.read (z:=2) (m:=x.m) (.inr rfl) B.k0 B.k1 B.e0 B.e1
 have hp2:(c.read 2 x.m x.k x.e).r.p=b:=by
  rw [←hp];unfold Mc.read;cases Mc.gU x.m
  ·exact rF c.r 2 x.m x.k x.e
  ·rfl
 unfold Mc.product Mc.tk
 rw [uI,hz]
 show Same a b q (bif (c.read 2 x.m x.k x.e).fine then ((c.read 2 x.m x.k x.e).wf a q).jr x (c.bf 2 x.m x.k x.e) else (c.read 2 x.m x.k x.e).wf a q) _
 cases hfi:(c.read 2 x.m x.k x.e).fine
 ·exact Same.wf hb
 ·show Same a b q (((c.read 2 x.m x.k x.e).wf a q).jr x (c.bf 2 x.m x.k x.e)) ((c.read 2 x.m x.k x.e).tk' x.op 2 x.r (c.bf 2 x.m x.k x.e))
  generalize hd:c.read 2 x.m x.k x.e=d at hb GR hp2 hfi ⊢
  generalize hu:c.bf 2 x.m x.k x.e=u at hv ⊢
  have hu2:=aQ hv
  have hr:=GR.g.dw x.r.toNat (by have:=B.r1;omega)
  have el2:d.low 2 x.r=el d.r.xs x.r.toNat:=by unfold Mc.low;simp [top];omega
  have hu0:0≤u∧u≤65535:=by simp [top] at hu2;omega
  have hN:d.f=aI:=by rw [←hd];refine rD hf rfl ?_;rw [hd];unfold Mc.fine at hfi;simpa using hfi
  obtain ⟨p,hE⟩:∃p,el d.r.xs x.r.toNat=p:=⟨_,rfl⟩
  rw [hE] at hr el2
  rcases ho with ho|ho
  ·have k2:ok2 p u=true:=by simp [ok2,wOk];omega
   have hpu:0≤p*u:=Int.mul_nonneg hr.1 hu0.1
   have eM:xZ p u=p*u%65536:=by unfold xZ;rw [if_pos k2]
   have eH:(Fa p u != 0)=decide (65535<p*u):=by
    unfold Fa;rw [if_pos k2]
    generalize p*u=w at hpu
    by_cases h:65535<w
    ·rw [decide_eq_true h];simp;omega
    ·rw [decide_eq_false h];simp;omega
   have e:(d.wf a q).jr x u=(d.tk' x.op 2 x.r u).wf a q:=by
    unfold Mc.jr Mc.tk' cbV cbF cbM cbU
    rw [ho,el2]
    show (d.wf a q).IY x (el d.r.xs x.r.toNat*u)=((d.put 2 x.r (xZ p u)).aF (bits .or .i64 (aS 2 d.r.f (xZ p u)) (fl (Fa p u != 0) 2))).wf a q
    rw [eM,eH,hE]
    rfl
   rw [e]
   refine Same.wf ?_
   unfold Mc.tk';rw [ho];exact hb
  ·cases h0:u==0
   ·have hn:u≠0:=by simpa using h0
    have eQ:dvQ 0 p u=p/u:=by
     have hk:dOk 0 p u=true:=by simp [dOk,wOk];omega
     unfold dvQ
     rw [if_pos hk]
     exact (zi (by omega) (by omega) (by omega)).1
    have hq2:okv 2 (p/u)=true:=by
     have h1:0≤p/u:=Int.ediv_nonneg (by omega) (by omega)
     have h3:p/u≤p:=Int.ediv_le_self _ (by omega)
     simp [okv,top];omega
    have hL:=eG 2 d.r.f (p/u) hq2 (bI GR)
    have e:(d.wf a q).jr x u=(d.tk' x.op 2 x.r u).wf a q:=by
     unfold Mc.jr Mc.tk' cbV cbF cbM cbU
     rw [ho,el2,h0]
     show (d.wf a q).data 2 x.r (el d.r.xs x.r.toNat/u)=((d.put 2 x.r (dvQ 0 p u)).aF (bits .or .i64 (aS 2 d.r.f (dvQ 0 p u)) (fl ((0:Int) != 0) 2))).wf a q
     rw [eQ,hE,show fl ((0:Int) != 0) 2=0 from rfl,VJ hL.1 hL.2]
     rfl
    rw [e]
    refine Same.wf ?_
    unfold Mc.tk';rw [ho,h0];exact hb
   ·have e1:(d.wf a q).jr x u=(d.wf a q).raise 5:=by unfold Mc.jr;rw [ho,h0];rfl
    have e2:d.tk' x.op 2 x.r u={d with f:=⟨5,0,0,0,false⟩}:=by unfold Mc.tk';rw [ho,h0];rfl
    rw [e1,e2]
    refine ⟨rfl,rfl,rfl,rfl,fun h=>absurd (show (5:Int)=0 from h) (by decide),fun _ => ?_⟩
    show ({d.f with pc:=d.r.p,wo:=q,v:=5}:Ft)=⟨5,b,0,q,false⟩
    rw [hN,hp2];rfl
theorem NT (G:GM c) (hf:c.f=aI) (x:In) (hp:c.r.p=b) (h4:0≤x.r):Same a b q ((c.wf a q).iH x) (c.fw x):=by
 have hb:=jG hf
 unfold Mc.iH Mc.fw
 cases h0:x.s==0
 ·cases h1:x.s==1
  ·cases h3:x.s==3
   ·cases h4:x.s==4
    ·cases h5:x.s==5
     ·cases h6:x.s==6
      ·exact Same.wf hb
      ·exact Same.wf (d:=(c.put 2 x.r (ni (c.low 1 x.r))).aF (aS 2 c.r.f (ni (c.low 1 x.r)))) hb
     ·exact Same.wf (d:=(c.put 2 x.r (lW (el c.r.xs x.r.toNat))).aF (aS 2 c.r.f (lW (el c.r.xs x.r.toNat)))) hb
    ·refine ⟨rfl,rfl,rfl,rfl,fun h => ?_,fun _ => ?_⟩
     ·exfalso
      have:18+x.r=0:=h
      omega
     ·show ({c.f with pc:=c.r.p,wo:=q,v:=18+x.r}:Ft)=⟨18+x.r,bif jb (18+x.r) then b else a,0,q,false⟩
      have:jb (18+x.r)=true:=by unfold jb;simp;omega
      rw [this,hf,hp];rfl
   ·exact Same.wf (d:={c.dB (bQ c.r x.e) with st:=true}) hb
  ·show Same a b q (bif !(c.wf a q).pop.fine then (c.wf a q).pop else bif !(c.wf a q).pop.pop.fine then (c.wf a q).pop.pop else ((c.wf a q).pop.pop.aK (c.wf a q).pop.eu).dB (bQ ((c.wf a q).pop.pop.aK (c.wf a q).pop.eu).r ((c.wf a q).eu%1024))) c.cb1
   rw [Bf,Bf]
   show Same a b q (bif !c.pop.fine then c.pop.wf a q else bif !c.pop.pop.fine then c.pop.pop.wf a q else ((c.pop.pop.aK c.pop.eu).dB (bQ (c.pop.pop.aK c.pop.eu).r (c.eu%1024))).wf a q) c.cb1
   unfold Mc.cb1
   cases k1:c.pop.fine
   ·exact Same.wf hb.pop
   ·cases k2:c.pop.pop.fine
    ·exact Same.wr hb.pop.pop k2 rfl rfl rfl rfl rfl
    ·exact Same.wf (d:=(c.pop.pop.aK c.pop.eu).dB (bQ (c.pop.pop.aK c.pop.eu).r (c.eu%1024))) hb.pop.pop
 ·show Same a b q ((c.wf a q).pop.aK c.eu) c.cb0
  rw [Bf]
  have e:c.cb0=c.pop.aK c.eu:=by
   unfold Mc.cb0
   cases c.pop.fine
   ·rfl
   ·have hs:(c.pop.aK c.eu).r.s=c.r.s∧(c.pop.aK c.eu).r.t=c.r.t∧(c.pop.aK c.eu).r.m=c.r.m∧(c.pop.aK c.eu).r.f=c.r.f:=by
     unfold Mc.pop
     cases (c.acc 1 2 (el c.r.ys 3) 0).fine<;>exact ⟨rfl,rfl,rfl,rfl⟩
    show (c.pop.aK c.eu).dB _=_
    rw [yZ G.g hs.1 hs.2.1 hs.2.2.1 hs.2.2.2]
    rfl
  rw [e]
  exact Same.wf (d:=c.pop.aK c.eu) hb.pop
theorem Le:∀n:Nat,n<32→∀v c:Bool,bits .or .i64 (fl v (bits .and .i64 (n:Int) 4)) (fl c 17)=fl (v&&((n:Int)/4%2==1)) 4+(if c then 1 else 0)*17:=by decide +kernel
theorem NV (G:GM c) (hf:c.f=aI) (x:In):Same a b q ((c.wf a q).jB x) (c.bd x):=by
 have hb:=jG hf
 have f0:=G.g.f0
 have f1:=G.g.f1
 have hx:c.xOf=c.r.f/16:=by unfold Mc.xOf;omega
 have hbit:bit (c.r.f/16)=true:=by simp [bit];omega
 have l1:c.low 1 x.r=el c.r.xs x.r.toNat%256:=rfl
 have l2:c.low 1 x.k=el c.r.xs x.k.toNat%256:=rfl
 unfold Mc.jB Mc.kR Mc.bd fF
 rw [l1,l2,hbit,Bool.true_and]
 show Same a b q (bif bcd (el c.r.xs x.r.toNat%256)&&bcd (el c.r.xs x.k.toNat%256) then ((c.wf a q).aF (c.nD x.s (el c.r.xs x.r.toNat%256) (el c.r.xs x.k.toNat%256))).put 1 x.r (c.kK x.s (el c.r.xs x.r.toNat%256) (el c.r.xs x.k.toNat%256)) else (c.wf a q).vec 4) _
 generalize el c.r.xs x.r.toNat%256=u
 generalize el c.r.xs x.k.toNat%256=v
 cases bcd u&&bcd v
 ·refine ⟨rfl,rfl,rfl,rfl,fun h=>absurd (show (4:Int)=0 from h) (by decide),fun _ => ?_⟩
  show ({c.f with pc:=a,wo:=q,v:=4}:Ft)=⟨4,a,0,q,false⟩
  rw [hf];rfl
 ·have eV:c.kK x.s u v=dcV x.s (c.r.f/16) u v:=by unfold Mc.kK dcV;rw [hx]
  have eC:c.lU x.s u v=dcC x.s (c.r.f/16) u v:=by unfold Mc.lU dcC;rw [hx]
  have hc:dcC x.s (c.r.f/16) u v=0∨dcC x.s (c.r.f/16) u v=1:=by
   unfold dcC
   have h1:=Ar (c.r.f/16) u v
   have h2:=Dp (c.r.f/16) u v
   cases x.s==1
   ·show aC (c.r.f/16) u v=0∨aC (c.r.f/16) u v=1
    omega
   ·show sC (c.r.f/16) u v=0∨sC (c.r.f/16) u v=1
    omega
  have eF:c.nD x.s u v=dcF x.s c.r.f (c.r.f/16) u v:=by
   unfold Mc.nD dcF
   rw [eV,eC]
   obtain ⟨n,hn⟩:∃n:Nat,c.r.f=(n:Int):=⟨c.r.f.toNat,by omega⟩
   have:=Le n (by omega) (dcV x.s (c.r.f/16) u v==0) (dcC x.s (c.r.f/16) u v==1)
   rw [←hn] at this
   rw [this]
   rcases hc with h|h<;>rw [h]<;>rfl
  show Same a b q (((c.wf a q).aF (c.nD x.s u v)).put 1 x.r (c.kK x.s u v)) _
  rw [eV,eF]
  exact Same.wf (d:=(c.put 1 x.r (dcV x.s (c.r.f/16) u v)).aF (dcF x.s c.r.f (c.r.f/16) u v)) hb
theorem Ig (hf:c.f=aI) (x:In):Same a b q ((c.wf a q).stat x) (c.mvs x):=by
 have hb:=jG hf
 unfold Mc.stat Mc.mvs
 cases x.s==0
 ·exact Same.wf (d:=c.dB {c.r with xs:=c.r.xs.set x.r.toNat (status c.r)}) hb
 ·exact Same.wf (d:=c.dB (bQ c.r x.e)) hb
variable {c:Mc}
theorem Du {m:Int} (h:fO m=true):m=0∨(2≤m∧m≤6):=by
 simp only [fO,Bool.or_eq_true,beq_iff_eq] at h;omega
theorem Hm {m:Int} (h:((m==0)||kG m)=true):m=0∨(2≤m∧m≤6):=by
 simp only [kG,within,Bool.or_eq_true,Bool.and_eq_true,beq_iff_eq,decide_eq_true_eq] at h;omega
def OD (x:In):Int:=if jV x.m=true then 2 else 1
theorem DU {x:In} (hx:dH x=true) :
  ((x.op=1∨x.op=3∨x.op=4∨x.op=5∨x.op=6∨x.op=7∨x.op=8)∧(x.m=1→x.z=2))∨
  (x.op=2∧(x.m=0∨(2≤x.m∧x.m≤6)))∨(x.op=9∧x.z=2)∨
  (x.op=10∧x.z=2∧(x.m=0∨(2≤x.m∧x.m≤6)))∨
  (x.op=11∧(x.m=0∨(2≤x.m∧x.m≤6))∧x.s≤3)∨(x.op=12)∨
  (x.op=13∧x.r≤1∧x.m=7)∨(x.op=14∧x.z=2∧(x.m=0∨(2≤x.m∧x.m≤6))∧x.s≤1)∨
  ((x.op=16∨x.op=17)∧x.z=2∧x.m≠1)∨(x.op=18∧x.s≤1)∨
  (x.op=19∧x.s≤1∧(x.s=0→x.e≤1023))∨(x.op=15∧x.s≤6∧(x.s=3→x.e≤1023)):=by
 obtain ⟨o1,o2,_⟩:=QK hx
 have hk:ay x=true:=by unfold dH at hx;rw [Bool.and_eq_true] at hx;exact hx.2
 have:x.op=1∨x.op=2∨x.op=3∨x.op=4∨x.op=5∨x.op=6∨x.op=7∨x.op=8∨x.op=9∨x.op=10∨x.op=11∨x.op=12∨x.op=13∨x.op=14∨x.op=15∨x.op=16∨x.op=17∨x.op=18∨x.op=19:=by omega
 have two:((x.s==0)&&((x.z==2) || !(x.m==1)))=true→(x.m=1→x.z=2):=by
  intro h k
  rw [k] at h
  simp at h
  exact h.2
 unfold ay at hk
 rcases this with h|h|h|h|h|h|h|h|h|h|h|h|h|h|h|h|h|h|h<;>rw [h] at hk ⊢
 ·exact .inl ⟨.inl rfl,two hk⟩
 ·refine .inr (.inl ⟨rfl,Hm ?_⟩)
  have q:((x.s==0)&&((x.m==0)||kG x.m))=true:=hk
  exact (Bool.and_eq_true_iff.1 q).2
 ·exact .inl ⟨.inr (.inl rfl),two hk⟩
 ·exact .inl ⟨.inr (.inr (.inl rfl)),two hk⟩
 ·exact .inl ⟨.inr (.inr (.inr (.inl rfl))),two hk⟩
 ·exact .inl ⟨.inr (.inr (.inr (.inr (.inl rfl)))),two hk⟩
 ·exact .inl ⟨.inr (.inr (.inr (.inr (.inr (.inl rfl))))),two hk⟩
 ·exact .inl ⟨.inr (.inr (.inr (.inr (.inr (.inr rfl))))),two hk⟩
 ·have q:((x.z==2)&&(x.s==0))=true:=hk
  simp only [Bool.and_eq_true,beq_iff_eq] at q
  exact .inr (.inr (.inl ⟨rfl,q.1⟩))
 ·have q:(((x.z==2)&&(x.s==0))&&fO x.m)=true:=hk
  simp only [Bool.and_eq_true,beq_iff_eq] at q
  exact .inr (.inr (.inr (.inl ⟨rfl,q.1.1,Du q.2⟩)))
 ·have q:(((x.r==0)&&decide (x.s≤3))&&((x.m==0)||kG x.m))=true:=hk
  rw [Bool.and_eq_true,Bool.and_eq_true,decide_eq_true_eq] at q
  exact .inr (.inr (.inr (.inr (.inl ⟨rfl,Hm q.2,q.1.2⟩))))
 ·exact .inr (.inr (.inr (.inr (.inr (.inl rfl)))))
 ·have q:(((x.z==2)&&decide (x.r≤1))&&(x.m==7))=true:=hk
  simp only [Bool.and_eq_true,beq_iff_eq,decide_eq_true_eq] at q
  exact .inr (.inr (.inr (.inr (.inr (.inr (.inl ⟨rfl,q.1.2,q.2⟩))))))
 ·have q:((((x.z==2)&&(x.r==0))&&decide (x.s≤1))&&fO x.m)=true:=hk
  simp only [Bool.and_eq_true,beq_iff_eq,decide_eq_true_eq] at q
  exact .inr (.inr (.inr (.inr (.inr (.inr (.inr (.inl ⟨rfl,q.1.1.1,Du q.2,q.1.2⟩)))))))
 ·refine .inr (.inr (.inr (.inr (.inr (.inr (.inr (.inr (.inr (.inr (.inr ⟨rfl,?_⟩))))))))))
  have q:(bif x.s==3 then ((x.z==2)&&(x.r==0))&&jA x.m x.e else (((x.z==2)&&decide (x.s≤6))&&iF x.m x.k x.e)&&(decide (3<x.s)||(x.r==0)))=true:=hk
  cases h3:x.s==3
  ·rw [h3] at q
   have n3:x.s≠3:=by simpa using h3
   have q2:((((x.z==2)&&decide (x.s≤6))&&iF x.m x.k x.e)&&(decide (3<x.s)||(x.r==0)))=true:=q
   simp only [Bool.and_eq_true,decide_eq_true_eq] at q2
   exact ⟨q2.1.1.2,fun k=>absurd k n3⟩
  ·rw [h3] at q
   have n3:x.s=3:=by simpa using h3
   have q2:(((x.z==2)&&(x.r==0))&&jA x.m x.e)=true:=q
   simp only [jA,Bool.and_eq_true,decide_eq_true_eq] at q2
   exact ⟨by omega,fun _=>q2.2.2⟩
 ·have q:(((x.z==2)&&(x.s==0)) && !(x.m==1))=true:=hk
  simp only [Bool.and_eq_true,beq_iff_eq,Bool.not_eq_true',beq_eq_false_iff_ne] at q
  exact .inr (.inr (.inr (.inr (.inr (.inr (.inr (.inr (.inl ⟨.inl rfl,q.1.1,q.2⟩))))))))
 ·have q:(((x.z==2)&&(x.s==0)) && !(x.m==1))=true:=hk
  simp only [Bool.and_eq_true,beq_iff_eq,Bool.not_eq_true',beq_eq_false_iff_ne] at q
  exact .inr (.inr (.inr (.inr (.inr (.inr (.inr (.inr (.inl ⟨.inr rfl,q.1.1,q.2⟩))))))))
 ·have q:(((!(x.z==2))&&decide (x.s≤1))&&(x.m==0))=true:=hk
  simp only [Bool.and_eq_true,decide_eq_true_eq] at q
  exact .inr (.inr (.inr (.inr (.inr (.inr (.inr (.inr (.inr (.inl ⟨rfl,q.1.2⟩)))))))))
 ·have q:((x.z==2)&&((((x.s==0)&&(x.r==0))&&jA x.m x.e)||((x.s==1)&&iF x.m x.k x.e)))=true:=hk
  simp only [jA,Bool.and_eq_true,Bool.or_eq_true,beq_iff_eq,decide_eq_true_eq] at q
  refine .inr (.inr (.inr (.inr (.inr (.inr (.inr (.inr (.inr (.inr (.inl ⟨rfl,?_,?_⟩))))))))))
  ·rcases q.2 with k|k
   ·have:=k.1.1;omega
   ·have:=k.1;omega
  ·intro k0
   rcases q.2 with k|k
   ·exact k.2.2
   ·have:=k.1;omega
theorem NU {a b q:Int} (G:GM c) (hf:c.f=aI) (x:In) (hx:dH x=true) (hp:c.r.p=b) (hb:b=(a+OD x*2)%65536):Same a b q ((c.wf a q).doI x a) (c.cr' x):=by
 have B:=vS hx
 have K:=DU hx
 unfold Mc.doI Mc.cr'
 rcases K with ⟨h,h1⟩|⟨h,hm⟩|⟨h,hz⟩|⟨h,hz,hm⟩|⟨h,hm,hs⟩|h|⟨h,hr,hm⟩|⟨h,hz,hm,hs⟩|⟨h,hz,hm⟩|⟨h,hs⟩|⟨h,hs,he⟩|⟨h,hs,he⟩
 ·have s:=Ib (a:=a) (b:=b) (q:=q) G hf x B h1 h
  rcases h with h|h|h|h|h|h|h<;>rw [h]<;>exact s
 ·rw [h];exact NS hf x hm
 ·rw [h];exact NQ hf x h hz
 ·rw [h];exact Ii hf x hz hm
 ·rw [h];exact Ie G hf x B hm hs
 ·rw [h];exact Ic hf x
 ·rw [h]
  refine Ij hf x h ?_
  rw [hp,hb]
  unfold OD
  rw [hm];rfl
 ·rw [h];exact NR hf x h hz hm
 ·have s:=Ih (a:=a) (b:=b) (q:=q) G hf x B hz hm h hp
  rcases h with h|h<;>rw [h]<;>exact s
 ·rw [h];exact NV G hf x
 ·rw [h];exact Ig hf x
 ·rw [h];exact NT G hf x hp B.r0
theorem Dt (z m k e:Int):(c.read z m k e).st=c.st:=by unfold Mc.read;cases Mc.gU m<;>rfl
theorem uH (z m k e:Int):(c.slot z m k e).st=c.st:=by unfold Mc.slot;cases Mc.gU m<;>rfl
theorem uT (z m k a v:Int):(c.write z m k a v).st=c.st:=by unfold Mc.write;cases m==0<;>rfl
theorem N9 (v:Int):(c.push v).st=c.st:=by unfold Mc.push;cases (c.acc 2 2 c.spA v).fine<;>rfl
theorem Ir:c.pop.st=c.st:=by unfold Mc.pop;cases (c.acc 1 2 (el c.r.ys 3) 0).fine<;>rfl
theorem gV (b:Bool) (x y:Mc) (s:Bool) (hx:x.st=s) (hy:y.st=s):(bif b then x else y).st=s:=by cases b<;>assumption
theorem U5 (x:In):(c.tk x).st=c.st:=by
 unfold Mc.tk Mc.tk'
 have h:=Dt (c:=c) x.z x.m x.k x.e
 exact gV _ _ _ _ (gV _ _ _ _ h (gV _ _ _ _ h h)) h
theorem WF (x:In):(c.ch x).st=c.st:=by
 unfold Mc.ch Mc.ch'
 have h:=Dt (c:=c) x.z x.m x.k x.e
 have h2:=uH (c:=c) x.z x.m x.k x.e
 refine gV _ _ _ _ (gV _ _ _ _ h2 ?_) (gV _ _ _ _ (gV _ _ _ _ h ?_) h)
 ·rw [uT];exact h2
 ·rw [uT];exact h
theorem Wl (x:In):(c.jp x).st=c.st:=by
 unfold Mc.jp
 have h2:=uH (c:=c) x.z x.m x.k x.e
 have h3:=(N9 (c:=c.slot x.z x.m x.k x.e) c.r.p).trans h2
 exact gV _ _ _ _ (gV _ _ _ _ h3 h3) h2
theorem Wq (hf:c.f=aI) (x:In):(c.fw x).f.v≠0→(c.fw x).st=c.st:=by
 unfold Mc.fw
 intro h
 have p1:=Ir (c:=c)
 have p2:=(Ir (c:=c.pop)).trans p1
 cases h0:x.s==0<;>rw [h0] at h
 ·cases h1:x.s==1<;>rw [h1] at h
  ·cases h3:x.s==3<;>rw [h3] at h
   ·show (bif x.s==4 then _ else bif x.s==5 then _ else bif x.s==6 then _ else c:Mc).st=c.st
    exact gV _ _ _ _ rfl (gV _ _ _ _ rfl (gV _ _ _ _ rfl rfl))
   ·exact absurd (show c.f.v=0 by rw [hf];rfl) h
  ·show c.cb1.st=c.st
   unfold Mc.cb1
   exact gV _ _ _ _ (gV _ _ _ _ p2 p2) p1
 ·show c.cb0.st=c.st
  unfold Mc.cb0
  exact gV _ _ _ _ p1 p1
theorem WE (hf:c.f=aI) (x:In):(c.cr' x).f.v≠0→(c.cr' x).st=c.st:=by
 unfold Mc.cr'
 intro h
 cases h2:x.op==2<;>rw [h2] at h
 ·cases h10:x.op==10<;>rw [h10] at h
  ·cases h11:x.op==11<;>rw [h11] at h
   ·cases h12:x.op==12<;>rw [h12] at h
    ·cases h13:x.op==13<;>rw [h13] at h
     ·cases h14:x.op==14<;>rw [h14] at h
      ·cases h15:x.op==15<;>rw [h15] at h
       ·show (bif x.op==18 then c.bd x else bif x.op==19 then c.mvs x else c.tk x).st=c.st
        refine gV _ _ _ _ ?_ (gV _ _ _ _ ?_ (U5 x))
        ·unfold Mc.bd;exact gV _ _ _ _ rfl rfl
        ·unfold Mc.mvs;exact gV _ _ _ _ rfl rfl
       ·exact Wq hf x h
      ·exact Wl x
     ·show (c.brn x).st=c.st
      unfold Mc.brn;exact gV _ _ _ _ rfl rfl
    ·rfl
   ·exact WF x
  ·show (c.slot x.z x.m x.k x.e).st=c.st
   exact uH _ _ _ _
 ·show (c.gv x).st=c.st
  unfold Mc.gv
  rw [uT];exact uH (c:=c.aF _) _ _ _ _
def beh (a:Int) (x:In):Int:=(a+OD x*2)%65536
def Mc.dn' (c d:Mc) (b a q:Int):Mc:=bif d.f.v==0 then d else {d with r:=c.r,f:=⟨d.f.v,bif jb d.f.v then b else a,d.f.ad,q,d.f.wr⟩}
def Mc.dn (c:Mc) (x:In) (a:Int):Mc:=c.dn' ((c.aK (beh a x)).cr x) (beh a x) a (oN x%65536)
def Mc.nf (c:Mc):Mc:={c with f:=aI}
def Mc.sp (c:Mc):Mc:=bif c.lF.v==0 then c.fetch.nf.dn c.az c.r.p else {c.fetch with f:=c.lF}
theorem Ea:c.fetch.r=c.r∧c.fetch.st=c.st:=by
 unfold Mc.fetch
 have h3:c.fe3.r=c.r∧c.fe3.st=c.st:=by
  unfold Mc.fe3
  cases fH c.feW==2<;>exact ⟨rfl,rfl⟩
 cases c.fe1.fine
 ·exact ⟨rfl,rfl⟩
 ·cases c.fe3.fine
  ·exact h3
  ·cases dH c.feX
   ·exact h3
   ·exact h3
theorem zZ (h:c.fetch.fine=true):c.fe1.fine=true∧c.fe3.fine=true∧dH c.feX=true:=by
 cases h1:c.fe1.fine
 ·rw [(Ec h1).1,h1] at h;cases h
 ·cases h3:c.fe3.fine
  ·rw [(Eb h1 h3).1,h3] at h;cases h
  ·cases hx:dH c.feX
   ·rw [(yB h1 h3 hx).1] at h;cases h
   ·exact ⟨rfl,rfl,rfl⟩
theorem Wu (hf:c.f=aI) (h3:c.fe3.fine=true) (h1:c.fe1.fine=true):c.fe3.f=⟨0,c.r.p,0,c.feW,false⟩:=by
 have e1:c.fe1.f=⟨0,c.r.p,0,0,false⟩:=by
  have e:c.fe1.f={Mc.fE aI 3 2 c.r.p with pc:=c.r.p,wo:=0}:=by
   show Mc.fE {c.f with pc:=c.r.p} 3 2 c.r.p=_
   rw [hf]
   exact qI c.r.p 0 3 2 c.r.p
  have:((Mc.fE aI 3 2 c.r.p).v != 0)=false:=by
   unfold Mc.fine at h1;rw [e] at h1;simpa using h1
  rw [e,(nZ this).2];rfl
 have e2:c.fe2.f={aI with pc:=c.r.p,wo:=c.feW}:=by
  show ({c.fe1.f with wo:=c.feW}:Ft)=_
  rw [e1];rfl
 unfold Mc.fe3 at h3 ⊢
 cases hl:fH c.feW==2
 ·exact e2
 ·rw [hl] at h3
  have e:(c.fe2.acc 3 2 c.feA 0).f={Mc.fE aI 3 2 c.feA with pc:=c.r.p,wo:=c.feW}:=by
   show Mc.fE c.fe2.f 3 2 c.feA=_
   rw [e2];exact qI _ _ _ _ _
  have:((Mc.fE aI 3 2 c.feA).v != 0)=false:=by
   have h3':(c.fe2.acc 3 2 c.feA 0).fine=true:=h3
   unfold Mc.fine at h3';rw [e] at h3';simpa using h3'
  show (c.fe2.acc 3 2 c.feA 0).f=_
  rw [e,(nZ this).2];rfl
theorem TV {c:Mc} (G:GM c):0≤c.feW∧c.feW≤65535:=by
 have h:=(G.ft {c.f with pc:=c.r.p}).jI (k:=3) (s:=2) (a:=c.r.p) (v:=0) (iO (.inr rfl) G.p0 G.p1)
 have t:=aQ h
 have e:c.feW=lv c.bx 3 2 c.r.p 0:=rfl
 have e2:({c with f:={c.f with pc:=c.r.p}}:Mc).jI 3 2 c.r.p 0=lv c.bx 3 2 c.r.p 0:=rfl
 rw [e2] at t
 rw [e]
 simp [top] at t
 omega
theorem GZ {w v:Int} (h0:0≤w) (h1:w≤65535):oN (decode w v)%65536=w:=by
 unfold oN decode
 simp only
 omega
theorem GM.like {m d:Mc} (h:GM m) (bx:m.bx=d.bx) (bl:m.bl=d.bl) (bm:m.bm=d.bm) (g:Good d.r) (p0:0≤d.r.p) (p1:d.r.p≤65535):GM d:=
 ⟨g,p0,p1,by rw [←bx];exact h.bx,by rw [←bx];exact h.ok,by rw [←bl,←bm];exact h.bl,by rw [←bm];exact h.bm,by rw [←bl,←bm];exact h.ac⟩
theorem NJ (k:Cp) (G:GM (Mc.ofC k)):(Mc.ofC k).sp.f=dh k∧(Mc.ofC k).sp.cpu false=au k∧GM (Mc.ofC k).sp:=by
 have er:stepM k=(Mc.ofC k).s2:=rfl
 have ek:(Mc.ofC k).r=k.r∧(Mc.ofC k).st=k.st:=⟨rfl,rfl⟩
 have hf:(Mc.ofC k).f=aI:=rfl
 unfold dh au
 rw [er,←ek.1,←ek.2]
 generalize Mc.ofC k=c at G hf
 have GF:=G.fetch
 obtain ⟨fr,fs⟩:=Ea (c:=c)
 cases hF:c.fetch.fine
 ·have e1:c.s1=c.fetch:=by unfold Mc.s1;rw [hF];rfl
  have e2:c.s2=c.fetch:=by unfold Mc.s2;rw [e1,hF];rfl
  have eF:c.lF=c.fetch.f:=by unfold Mc.lF;rw [hF];rfl
  have hv:(c.lF.v==0)=false:=by rw [eF];exact hF
  have es:c.sp=c.fetch:=by
   unfold Mc.sp
   rw [hv,eF];rfl
  rw [es,e2,hF]
  refine ⟨rfl,?_,GF⟩
  show Cp.mk c.fetch.r c.fetch.bx c.fetch.bl c.fetch.bm c.fetch.st false=Cp.mk c.r c.fetch.bx c.fetch.bl c.fetch.bm c.st false
  rw [fr,fs]
 ·obtain ⟨h1,h3,hx⟩:=zZ hF
  obtain ⟨eD,eI,eN,eF⟩:=yA h1 h3 hx
  have ff:c.fetch.f=⟨0,c.r.p,0,c.feW,false⟩:=by rw [eD];exact Wu hf h3 h1
  have hw:=TV G
  have ew:oN c.az%65536=c.feW:=by rw [eI];exact GZ hw.1 hw.2
  have eb:(c.r.p+2*c.bH)%65536=beh c.r.p c.az:=by
   unfold beh
   rw [eI,eN,Int.mul_comm 2];rfl
  have hx2:dH c.az=true:=by rw [eI];exact hx
  have hv:(c.lF.v==0)=true:=by rw [eF];rfl
  have es:c.sp=c.fetch.nf.dn c.az c.r.p:=by unfold Mc.sp;rw [hv];rfl
  rw [es]
  obtain ⟨x,hX⟩:∃x,c.az=x:=⟨_,rfl⟩
  rw [hX] at ew eb hx2 ⊢
  have hb:0≤beh c.r.p x∧beh c.r.p x≤65535:=by unfold beh;omega
  obtain ⟨d,hd⟩:∃d,c.fetch.nf=d:=⟨_,rfl⟩
  have gd:GM d:=by rw [←hd];exact GF.ft aI
  have df:d.f=aI:=by rw [←hd];rfl
  have dr:d.r=c.r:=by rw [←hd];exact fr
  have ds:d.st=c.st:=by rw [←hd];exact fs
  have dw:c.fetch=d.wf c.r.p c.feW:=by
   rw [←hd]
   show c.fetch=Mc.mk c.fetch.r c.fetch.bx c.fetch.bl c.fetch.bm c.fetch.st ⟨0,c.r.p,0,c.feW,false⟩
   rw [←ff]
  unfold Mc.dn
  rw [hd,ew]
  have gE:GM (d.aK (beh c.r.p x)):=gd.aK hb.1 hb.2
  cases hp:iW x && !c.r.s
  ·have e1:c.s1=c.fetch:=by unfold Mc.s1;rw [hF,fr,hX,hp];rfl
   have e2:c.s2=((d.aK (beh c.r.p x)).wf c.r.p c.feW).doI x c.r.p:=by unfold Mc.s2;rw [e1,hF,eb,hX,dw];rfl
   have ec:(d.aK (beh c.r.p x)).cr x=(d.aK (beh c.r.p x)).cr' x:=by
    unfold Mc.cr
    show (bif iW x && !d.r.s then _ else _)=_
    rw [dr,hp];rfl
   have S:=NU (q:=c.feW) gE df x hx2 (a:=c.r.p) rfl rfl
   have GD:=GM.doI (gE.ft {(d.aK (beh c.r.p x)).f with pc:=c.r.p,wo:=c.feW}) hx2 c.r.p
   have GS:=WE (c:=d.aK (beh c.r.p x)) df x
   rw [e2,ec]
   change Same c.r.p (beh c.r.p x) c.feW (((d.aK (beh c.r.p x)).wf c.r.p c.feW).doI x c.r.p) _ at S
   change GM (((d.aK (beh c.r.p x)).wf c.r.p c.feW).doI x c.r.p) at GD
   generalize ((d.aK (beh c.r.p x)).wf c.r.p c.feW).doI x c.r.p=m at S GD
   have GS2:((d.aK (beh c.r.p x)).cr' x).f.v≠0→((d.aK (beh c.r.p x)).cr' x).st=d.st:=GS
   generalize (d.aK (beh c.r.p x)).cr' x=u at S GS2
   clear GS
   unfold Mc.dn'
   cases hu:u.f.v==0
   ·have hn:u.f.v≠0:=by simpa using hu
    have mf:=S.no hn
    have mn:m.fine=false:=by unfold Mc.fine;rw [mf];exact hu
    rw [mn]
    refine ⟨mf.symm,?_,?_⟩
    ·show Cp.mk d.r u.bx u.bl u.bm u.st false=Cp.mk c.r m.bx m.bl m.bm c.st false
     rw [dr,S.bx,S.bl,S.bm,GS2 hn,ds]
    ·exact GM.like (d:={u with r:=d.r,f:=⟨u.f.v,bif jb u.f.v then beh c.r.p x else c.r.p,u.f.ad,c.feW,u.f.wr⟩}) GD S.bx S.bl S.bm gd.g gd.p0 gd.p1
   ·have hz:u.f.v=0:=by simpa using hu
    obtain ⟨m0,mr,uf⟩:=S.ok hz
    have mn:m.fine=true:=by unfold Mc.fine;rw [m0];rfl
    rw [mn]
    refine ⟨uf,?_,?_⟩
    ·show Cp.mk u.r u.bx u.bl u.bm u.st false=Cp.mk m.r m.bx m.bl m.bm m.st false
     rw [mr,S.bx,S.bl,S.bm,S.st]
    ·exact GM.like (d:=u) GD S.bx S.bl S.bm (by rw [←mr];exact GD.g) (by rw [←mr];exact GD.p0) (by rw [←mr];exact GD.p1)
  ·have e1:c.s1=c.fetch.vec 8:=by unfold Mc.s1;rw [hF,fr,hX,hp];rfl
   have e2:c.s2=c.fetch.vec 8:=by unfold Mc.s2;rw [e1];rfl
   have ec:(d.aK (beh c.r.p x)).cr x={d.aK (beh c.r.p x) with f:=⟨8,0,0,0,false⟩}:=by
    unfold Mc.cr
    show (bif iW x && !d.r.s then _ else _)=_
    rw [dr,hp];rfl
   rw [e2,ec,dw]
   refine ⟨?_,?_,?_⟩
   ·show Ft.mk 8 c.r.p 0 c.feW false={d.f with pc:=c.r.p,wo:=c.feW,v:=8}
    rw [df];rfl
   ·show Cp.mk d.r d.bx d.bl d.bm d.st false=Cp.mk c.r d.bx d.bl d.bm c.st false
    rw [dr,ds]
   ·exact gd.ft ⟨8,c.r.p,0,c.feW,false⟩
end Go.Proofs.YtkkmnnhaailkcaaGreatDoor.Pl
namespace Go.Proofs.YtkkmnnhaailkcaaGreatDoor
open Go.RowKit Go.Proofs.Tryz
set_option linter.unusedVariables false
theorem UC (w:World) (lo b g:Nat) (c:Pl.Mc) (h:Bool) (op z r m k e s:Int) (hC:CAt w lo b g c h) (G:Pl.GM c) (hf:c.f=Pl.aI) (hx:Pl.dH ⟨op,z,r,m,k,e,s⟩=true) (ht:jJ w lo) :
  Calls prog 121 #[.pointer (some ⟨b,0,none⟩),.agg (inA op z r m k e s)] w fun e' w'=>∃g',e'=.returned (.agg (ftC (c.cr ⟨op,z,r,m,k,e,s⟩).f))∧CAt w' lo b g' (c.cr ⟨op,z,r,m,k,e,s⟩) h∧Since w b (b+1) g w' g':=by
 have B:=Pl.vS hx
 rcases Pl.DU hx with ⟨ho,h1⟩|⟨ho,hm⟩|⟨ho,hz⟩|⟨ho,hz,hm⟩|⟨ho,hm,hs⟩|ho|⟨ho,hr,hm⟩|⟨ho,hz,hm,hs⟩|⟨ho,hz,hm⟩|⟨ho,hs⟩|⟨ho,hs,he⟩|⟨ho,hs,he⟩
 ·simp only at ho
  exact En w lo b g c h op z r m k e s hC G hf B (by omega) h1
 ·exact P8 w lo b g c h op z r m k e s hC G hf B ho hm
 ·exact En w lo b g c h op z r m k e s hC G hf B (.inl ho) (fun _=>hz)
 ·exact PZ w lo b g c h op z r m k e s hC G hf B ho
 ·exact Qb w lo b g c h op z r m k e s hC G hf B ho hm hs
 ·exact PW w lo b g c h op z r m k e s hC G hf B ho
 ·exact Qc w lo b g c h op z r m k e s hC G hf B ho hr
 ·exact P7 w lo b g c h op z r m k e s hC G hf B ho hs
 ·exact Md w lo b g c h op z r m k e s hC G hf B ho (fun q=>absurd q hm) hz
 ·exact Qa w lo b g c h op z r m k e s hC G hf B ho hs ht
 ·exact PY w lo b g c h op z r m k e s hC G hf B ho hs he
 ·exact P9 w lo b g c h op z r m k e s hC G hf B ho hs he
theorem jb (v:Int) (w:World):Calls prog 58 #[iv v] w fun e w'=>e=.returned (.bool (Pl.jb v))∧w'=w:=by
 cases h0:(v==5)
 ·go_enter func58,ntmps58
  go_wp2
  go_ret
  exact ⟨by unfold Pl.jb;rw [h0];rfl,rfl⟩
 ·go_enter func58,ntmps58
  go_wp2
  go_ret
  exact ⟨by unfold Pl.jb;rw [h0];rfl,rfl⟩
theorem Blk.Rf {w:World} {b:Nat} {u0 u1 u2 u3 u4 u5 u6 u7 u8 u9 u10 u11 u12 u13 v0 v1 v2 v3 v4 v5 v6 v7 v8 v9 v10 v11 v12 v13:Value} {B:Array Value} {ty:TypeId} (h:Blk w b (#[u0,u1,u2,u3,u4,u5,u6,u7,u8,u9,u10,u11,u12,u13]++B) ty):Blk ((((((((((((((w.setCell ⟨b,0,none⟩ (v0)).setCell ⟨b,1,none⟩ (v1)).setCell ⟨b,2,none⟩ (v2)).setCell ⟨b,3,none⟩ (v3)).setCell ⟨b,4,none⟩ (v4)).setCell ⟨b,5,none⟩ (v5)).setCell ⟨b,6,none⟩ (v6)).setCell ⟨b,7,none⟩ (v7)).setCell ⟨b,8,none⟩ (v8)).setCell ⟨b,9,none⟩ (v9)).setCell ⟨b,10,none⟩ (v10)).setCell ⟨b,11,none⟩ (v11)).setCell ⟨b,12,none⟩ (v12)).setCell ⟨b,13,none⟩ (v13)) b (#[v0,v1,v2,v3,v4,v5,v6,v7,v8,v9,v10,v11,v12,v13]++B) ty:=by
 have h0:Blk (w.setCell ⟨b,0,none⟩ v0) b (#[v0,u1,u2,u3,u4,u5,u6,u7,u8,u9,u10,u11,u12,u13]++B) ty:=by have q:=Blk.set h 0 v0;rw [set_left (by simp)] at q;exact q
 have h1:Blk ((w.setCell ⟨b,0,none⟩ v0).setCell ⟨b,1,none⟩ v1) b (#[v0,v1,u2,u3,u4,u5,u6,u7,u8,u9,u10,u11,u12,u13]++B) ty:=by have q:=Blk.set h0 1 v1;rw [set_left (by simp)] at q;exact q
 have h2:Blk (((w.setCell ⟨b,0,none⟩ v0).setCell ⟨b,1,none⟩ v1).setCell ⟨b,2,none⟩ v2) b (#[v0,v1,v2,u3,u4,u5,u6,u7,u8,u9,u10,u11,u12,u13]++B) ty:=by have q:=Blk.set h1 2 v2;rw [set_left (by simp)] at q;exact q
 have h3:Blk ((((w.setCell ⟨b,0,none⟩ v0).setCell ⟨b,1,none⟩ v1).setCell ⟨b,2,none⟩ v2).setCell ⟨b,3,none⟩ v3) b (#[v0,v1,v2,v3,u4,u5,u6,u7,u8,u9,u10,u11,u12,u13]++B) ty:=by have q:=Blk.set h2 3 v3;rw [set_left (by simp)] at q;exact q
 have h4:Blk (((((w.setCell ⟨b,0,none⟩ v0).setCell ⟨b,1,none⟩ v1).setCell ⟨b,2,none⟩ v2).setCell ⟨b,3,none⟩ v3).setCell ⟨b,4,none⟩ v4) b (#[v0,v1,v2,v3,v4,u5,u6,u7,u8,u9,u10,u11,u12,u13]++B) ty:=by have q:=Blk.set h3 4 v4;rw [set_left (by simp)] at q;exact q
 have h5:Blk ((((((w.setCell ⟨b,0,none⟩ v0).setCell ⟨b,1,none⟩ v1).setCell ⟨b,2,none⟩ v2).setCell ⟨b,3,none⟩ v3).setCell ⟨b,4,none⟩ v4).setCell ⟨b,5,none⟩ v5) b (#[v0,v1,v2,v3,v4,v5,u6,u7,u8,u9,u10,u11,u12,u13]++B) ty:=by have q:=Blk.set h4 5 v5;rw [set_left (by simp)] at q;exact q
 have h6:Blk (((((((w.setCell ⟨b,0,none⟩ v0).setCell ⟨b,1,none⟩ v1).setCell ⟨b,2,none⟩ v2).setCell ⟨b,3,none⟩ v3).setCell ⟨b,4,none⟩ v4).setCell ⟨b,5,none⟩ v5).setCell ⟨b,6,none⟩ v6) b (#[v0,v1,v2,v3,v4,v5,v6,u7,u8,u9,u10,u11,u12,u13]++B) ty:=by have q:=Blk.set h5 6 v6;rw [set_left (by simp)] at q;exact q
 have h7:Blk ((((((((w.setCell ⟨b,0,none⟩ v0).setCell ⟨b,1,none⟩ v1).setCell ⟨b,2,none⟩ v2).setCell ⟨b,3,none⟩ v3).setCell ⟨b,4,none⟩ v4).setCell ⟨b,5,none⟩ v5).setCell ⟨b,6,none⟩ v6).setCell ⟨b,7,none⟩ v7) b (#[v0,v1,v2,v3,v4,v5,v6,v7,u8,u9,u10,u11,u12,u13]++B) ty:=by have q:=Blk.set h6 7 v7;rw [set_left (by simp)] at q;exact q
 have h8:Blk (((((((((w.setCell ⟨b,0,none⟩ v0).setCell ⟨b,1,none⟩ v1).setCell ⟨b,2,none⟩ v2).setCell ⟨b,3,none⟩ v3).setCell ⟨b,4,none⟩ v4).setCell ⟨b,5,none⟩ v5).setCell ⟨b,6,none⟩ v6).setCell ⟨b,7,none⟩ v7).setCell ⟨b,8,none⟩ v8) b (#[v0,v1,v2,v3,v4,v5,v6,v7,v8,u9,u10,u11,u12,u13]++B) ty:=by have q:=Blk.set h7 8 v8;rw [set_left (by simp)] at q;exact q
 have h9:Blk ((((((((((w.setCell ⟨b,0,none⟩ v0).setCell ⟨b,1,none⟩ v1).setCell ⟨b,2,none⟩ v2).setCell ⟨b,3,none⟩ v3).setCell ⟨b,4,none⟩ v4).setCell ⟨b,5,none⟩ v5).setCell ⟨b,6,none⟩ v6).setCell ⟨b,7,none⟩ v7).setCell ⟨b,8,none⟩ v8).setCell ⟨b,9,none⟩ v9) b (#[v0,v1,v2,v3,v4,v5,v6,v7,v8,v9,u10,u11,u12,u13]++B) ty:=by have q:=Blk.set h8 9 v9;rw [set_left (by simp)] at q;exact q
 have h10:Blk (((((((((((w.setCell ⟨b,0,none⟩ v0).setCell ⟨b,1,none⟩ v1).setCell ⟨b,2,none⟩ v2).setCell ⟨b,3,none⟩ v3).setCell ⟨b,4,none⟩ v4).setCell ⟨b,5,none⟩ v5).setCell ⟨b,6,none⟩ v6).setCell ⟨b,7,none⟩ v7).setCell ⟨b,8,none⟩ v8).setCell ⟨b,9,none⟩ v9).setCell ⟨b,10,none⟩ v10) b (#[v0,v1,v2,v3,v4,v5,v6,v7,v8,v9,v10,u11,u12,u13]++B) ty:=by have q:=Blk.set h9 10 v10;rw [set_left (by simp)] at q;exact q
 have h11:Blk ((((((((((((w.setCell ⟨b,0,none⟩ v0).setCell ⟨b,1,none⟩ v1).setCell ⟨b,2,none⟩ v2).setCell ⟨b,3,none⟩ v3).setCell ⟨b,4,none⟩ v4).setCell ⟨b,5,none⟩ v5).setCell ⟨b,6,none⟩ v6).setCell ⟨b,7,none⟩ v7).setCell ⟨b,8,none⟩ v8).setCell ⟨b,9,none⟩ v9).setCell ⟨b,10,none⟩ v10).setCell ⟨b,11,none⟩ v11) b (#[v0,v1,v2,v3,v4,v5,v6,v7,v8,v9,v10,v11,u12,u13]++B) ty:=by have q:=Blk.set h10 11 v11;rw [set_left (by simp)] at q;exact q
 have h12:Blk (((((((((((((w.setCell ⟨b,0,none⟩ v0).setCell ⟨b,1,none⟩ v1).setCell ⟨b,2,none⟩ v2).setCell ⟨b,3,none⟩ v3).setCell ⟨b,4,none⟩ v4).setCell ⟨b,5,none⟩ v5).setCell ⟨b,6,none⟩ v6).setCell ⟨b,7,none⟩ v7).setCell ⟨b,8,none⟩ v8).setCell ⟨b,9,none⟩ v9).setCell ⟨b,10,none⟩ v10).setCell ⟨b,11,none⟩ v11).setCell ⟨b,12,none⟩ v12) b (#[v0,v1,v2,v3,v4,v5,v6,v7,v8,v9,v10,v11,v12,u13]++B) ty:=by have q:=Blk.set h11 12 v12;rw [set_left (by simp)] at q;exact q
 have h13:Blk ((((((((((((((w.setCell ⟨b,0,none⟩ v0).setCell ⟨b,1,none⟩ v1).setCell ⟨b,2,none⟩ v2).setCell ⟨b,3,none⟩ v3).setCell ⟨b,4,none⟩ v4).setCell ⟨b,5,none⟩ v5).setCell ⟨b,6,none⟩ v6).setCell ⟨b,7,none⟩ v7).setCell ⟨b,8,none⟩ v8).setCell ⟨b,9,none⟩ v9).setCell ⟨b,10,none⟩ v10).setCell ⟨b,11,none⟩ v11).setCell ⟨b,12,none⟩ v12).setCell ⟨b,13,none⟩ v13) b (#[v0,v1,v2,v3,v4,v5,v6,v7,v8,v9,v10,v11,v12,v13]++B) ty:=by have q:=Blk.set h12 13 v13;rw [set_left (by simp)] at q;exact q
 exact h13
theorem Blk.Nl {w:World} {b:Nat} {u0 u1 u2 u3 u4 u5 u6 u7 u8 u9 u10 u11 u12 u13 v0 v1 v2 v3 v4 v5 v6 v7 v8 v9 v10 v11 v12 v13:Value} {ty:TypeId} (h:Blk w b #[u0,u1,u2,u3,u4,u5,u6,u7,u8,u9,u10,u11,u12,u13] ty):Blk ((((((((((((((w.setCell ⟨b,0,none⟩ (v0)).setCell ⟨b,1,none⟩ (v1)).setCell ⟨b,2,none⟩ (v2)).setCell ⟨b,3,none⟩ (v3)).setCell ⟨b,4,none⟩ (v4)).setCell ⟨b,5,none⟩ (v5)).setCell ⟨b,6,none⟩ (v6)).setCell ⟨b,7,none⟩ (v7)).setCell ⟨b,8,none⟩ (v8)).setCell ⟨b,9,none⟩ (v9)).setCell ⟨b,10,none⟩ (v10)).setCell ⟨b,11,none⟩ (v11)).setCell ⟨b,12,none⟩ (v12)).setCell ⟨b,13,none⟩ (v13)) b #[v0,v1,v2,v3,v4,v5,v6,v7,v8,v9,v10,v11,v12,v13] ty:=by
 have q:=Blk.Rf (u0:=u0) (u1:=u1) (u2:=u2) (u3:=u3) (u4:=u4) (u5:=u5) (u6:=u6) (u7:=u7) (u8:=u8) (u9:=u9) (u10:=u10) (u11:=u11) (u12:=u12) (u13:=u13) (v0:=v0) (v1:=v1) (v2:=v2) (v3:=v3) (v4:=v4) (v5:=v5) (v6:=v6) (v7:=v7) (v8:=v8) (v9:=v9) (v10:=v10) (v11:=v11) (v12:=v12) (v13:=v13) (B:=#[]) (w:=w) (b:=b) (ty:=ty) (by rw [Array.append_empty];exact h)
 rw [Array.append_empty] at q
 exact q
theorem JY (w:World) (b:Nat) (v0 v1 v2 v3 v4 v5 v6 v7 v8 v9 v10 v11 v12 v13:Value):Kept b (b+1) w ((((((((((((((w.setCell ⟨b,0,none⟩ (v0)).setCell ⟨b,1,none⟩ (v1)).setCell ⟨b,2,none⟩ (v2)).setCell ⟨b,3,none⟩ (v3)).setCell ⟨b,4,none⟩ (v4)).setCell ⟨b,5,none⟩ (v5)).setCell ⟨b,6,none⟩ (v6)).setCell ⟨b,7,none⟩ (v7)).setCell ⟨b,8,none⟩ (v8)).setCell ⟨b,9,none⟩ (v9)).setCell ⟨b,10,none⟩ (v10)).setCell ⟨b,11,none⟩ (v11)).setCell ⟨b,12,none⟩ (v12)).setCell ⟨b,13,none⟩ (v13)):=((((((((((((((ak w b 0 (v0)).one 1 (v1)).one 2 (v2)).one 3 (v3)).one 4 (v4)).one 5 (v5)).one 6 (v6)).one 7 (v7)).one 8 (v8)).one 9 (v9)).one 10 (v10)).one 11 (v11)).one 12 (v12)).one 13 (v13))
theorem CAt.Yz {w:World} {lo b g:Nat} {c:Pl.Mc} {h:Bool} (a:CAt w lo b g c h) (r:Pl.Rg):CAt ((((((((((((((w.setCell ⟨b,0,none⟩ ((iv (el r.xs 0)))).setCell ⟨b,1,none⟩ ((iv (el r.xs 1)))).setCell ⟨b,2,none⟩ ((iv (el r.xs 2)))).setCell ⟨b,3,none⟩ ((iv (el r.xs 3)))).setCell ⟨b,4,none⟩ ((iv (el r.ys 0)))).setCell ⟨b,5,none⟩ ((iv (el r.ys 1)))).setCell ⟨b,6,none⟩ ((iv (el r.ys 2)))).setCell ⟨b,7,none⟩ ((iv (el r.ys 3)))).setCell ⟨b,8,none⟩ ((iv r.o))).setCell ⟨b,9,none⟩ ((iv r.p))).setCell ⟨b,10,none⟩ ((iv r.f))).setCell ⟨b,11,none⟩ ((iv r.m))).setCell ⟨b,12,none⟩ ((.bool r.s))).setCell ⟨b,13,none⟩ ((.bool r.t))) lo b g (c.dB r) h:=by
 obtain ⟨cu,hB,hO⟩:=a
 exact ⟨cu,Blk.Rf (show Blk w b (bkR c.r++_) _ from hB),hO.own (JY _ _ _ _ _ _ _ _ _ _ _ _ _ _ _ _)⟩
theorem Pl.OC {m:Int} (m0:0≤m) (m1:m≤7):(if Pl.lng m=true then (2:Int) else 1)=if Pl.jV m=true then 2 else 1:=by
 unfold Pl.lng
 rw [show Pl.dE m=true from by simp [Pl.dE,Pl.within];omega]
 rfl
theorem cDo (w:World) (lo b g:Nat) (c:Pl.Mc) (h:Bool) (op z r m k e s a:Int) (hC:CAt w lo b g c h) (G:Pl.GM c) (hf:c.f=Pl.aI) (hx:Pl.dH ⟨op,z,r,m,k,e,s⟩=true) (ht:jJ w lo) (a0:0≤a) (a1:a≤65535) :
  Calls prog 73 #[.pointer (some ⟨b,0,none⟩),.agg (inA op z r m k e s),iv a] w fun e' w'=>∃g',e'=.returned (.agg (ftC (c.dn ⟨op,z,r,m,k,e,s⟩ a).f))∧CAt w' lo b g' (c.dn ⟨op,z,r,m,k,e,s⟩ a) h∧Since w b (b+1) g w' g':=by
 have B:=Pl.vS hx
 have wfm:(Lit.int .i64 m).wf=true:=ry (by have:0≤m:=B.m0;omega) (by have:m≤7:=B.m1;omega)
 obtain ⟨L,hL⟩:∃L,(if Pl.lng m=true then (2:Int) else 1)=L:=⟨_,rfl⟩
 have hl2:L=1∨L=2:=by rw [←hL];split<;>simp
 obtain ⟨BH,hBH⟩:∃BH,(a+L*2)%65536=BH:=⟨_,rfl⟩
 have eb:Pl.beh a ⟨op,z,r,m,k,e,s⟩=BH:=by unfold Pl.beh Pl.OD;rw [←hBH,←hL,Pl.OC B.m0 B.m1]
 have b0:0≤BH∧BH≤65535:=by omega
 obtain ⟨N,hN⟩:∃N,Pl.oN ⟨op,z,r,m,k,e,s⟩%65536=N:=⟨_,rfl⟩
 obtain ⟨D,hD⟩:∃D,D=(c.aK BH).cr ⟨op,z,r,m,k,e,s⟩:=⟨_,rfl⟩
 obtain ⟨F,hF⟩:∃F,F=D.f:=⟨_,rfl⟩
 have ET:Hid (c.dn ⟨op,z,r,m,k,e,s⟩ a=bif F.v==0 then D else {D with r:=c.r,f:=⟨F.v,bif Pl.jb F.v then BH else a,F.ad,N,F.wr⟩}):=hide (by unfold Pl.Mc.dn Pl.Mc.dn';rw [eb,hN,←hD,hF])
 have GP:Hid (Pl.GM (c.aK BH)):=hide (G.aK b0.1 b0.2)
 have HL:=hide hL
 have HBH:=hide hBH
 have HN:=hide hN
 have HD:=hide hD
 have HF:=hide hF
 have HX:=hide hx
 have TB:=hide ht
 have gl:=G.bx
 have w2:IntKind.i64.wrap (L*2)=L*2:=by rw [IntKind.wrap_i64];omega
 have w3:IntKind.i64.wrap (a+L*2)=a+L*2:=by rw [IntKind.wrap_i64];omega
 clear hL hBH hN hD hF hx ht B eb
 obtain ⟨l0,l1,l2,l3,l4⟩:=hC.lt
 have HG:=hide G
 obtain ⟨X,hX,K0,C0,A0,R0,sX⟩:=hC.jl op z r m k e s
 have p:=A0.o.all
 clear hC G
 go_enter func73,ntmps73
 go_wp2_with fail
 refine iI (fun A0 l A W=>∃q:Nat,FR [10,11,12,13,14,15,16,17,18,19,7,8] A0 A∧Once l 0 (A.tmps[10]? = some (.pointer (some ⟨b,0,none⟩)))∧Once l 1 (A.tmps[11]? = some (.pointer (some ⟨b,0,none⟩)))∧Once l 2 (A.tmps[12]? = some (.pointer (some ⟨b,0,none⟩)))∧Once l 3 (A.tmps[13]? = some (.agg (bkR c.r)))∧Once l 4 (A.tmps[14]? = some (iv a))∧Once l 5 (A.tmps[15]? = some (.agg (inA op z r m k e s)))∧Once l 6 (A.tmps[16]? = some (iv L))∧Once l 7 (A.tmps[17]? = some (iv (L*2)))∧Once l 8 (A.tmps[18]? = some (iv (a+L*2)))∧Once l 9 (A.tmps[19]? = some (iv BH))∧Once l 10 (A.tmps[7]? = some (.pointer (some ⟨q,0,none⟩)))∧Once l 11 (True)∧Once l 12 (A.tmps[8]? = some (iv BH))∧Once l 10 (X.heap.size≤q∧Blk W q (bif l.getD 11 true then bkR c.r else #[iv 0,iv 0,iv 0,iv 0,iv 0,iv 0,iv 0,iv 0,iv 0,iv 0,iv 0,iv 0,.bool false,.bool false]) 85)∧(l.getD 11 true=true→l.getD 10 true=true)∧Kept 0 0 X W) (by kernel_rfl) (by kernel_rfl) ?start ?fin ?step
 case start=>exact ⟨0,FR.refl _ _,aA (by decide),aA (by decide),aA (by decide),aA (by decide),aA (by decide),aA (by decide),aA (by decide),aA (by decide),aA (by decide),aA (by decide),aA (by decide),aA (by decide),aA (by decide),aA (by decide),(fun e=>by rw [mQ (by decide)] at e;cases e),ae (Kept.refl _ _ _)⟩
 case fin=>
  intro l A W h hl
  obtain ⟨q,hFR,o0,o1,o2,o3,o4,o5,o6,o7,o8,o9,o10,o11,o12,ox,o11w,hK⟩:=h
  have g10:=o10 (hl 10 (by decide))
  have QX:=hide (ox (hl 10 (by decide)))
  rw [hl 11 (by decide)] at QX
  replace QX:Hid (X.heap.size≤q∧Blk W q (bkR c.r) 85):=QX
  have g12:=o12 (hl 12 (by decide))
  have QQ:=hide hK
  have hc9:=hFR.chain
  simp only [List.foldl] at hc9
  rw [nV g10,nV g12] at hc9
  clear ox o11w hl hK hFR g10 g12 o0 o1 o2 o3 o4 o5 o6 o7 o8 o9 o10 o11 o12
  generalize A.tmps.getD 10 undef=s10 at hc9
  generalize A.tmps.getD 11 undef=s11 at hc9
  generalize A.tmps.getD 12 undef=s12 at hc9
  generalize A.tmps.getD 13 undef=s13 at hc9
  generalize A.tmps.getD 14 undef=s14 at hc9
  generalize A.tmps.getD 15 undef=s15 at hc9
  generalize A.tmps.getD 16 undef=s16 at hc9
  generalize A.tmps.getD 17 undef=s17 at hc9
  generalize A.tmps.getD 18 undef=s18 at hc9
  generalize A.tmps.getD 19 undef=s19 at hc9
  subst hc9
  go_simp
  have C1:=hide (C0.o.any QQ.o)
  have A1:=hide (A0.o.af QQ.o)
  have R1:=hide (R0.o.af QQ.o)
  have K1:=hide (K0.o.trans QQ.o)
  have qX:=QX.o.1
  have B1:=hide QX.o.2
  clear p hX K0 C0 A0 R0 QX
  have q9:=C1.o.cP
  have qz:=C1.o.fz
  have p2:=(A1.o.other b 9 (iv BH) (by omega)).all
  go_wp2_with fail
  clear q9 qz p2
  have S2:=hide (((Since.refl w b (b+1) g).any K1.o).set b 9 (iv BH) (.inl (by omega)))
  have A2:=hide (A1.o.other b 9 (iv BH) (by omega))
  have R2:=hide (R1.o.other b 9 (iv BH) (by omega))
  have B2:=hide (B1.o.other b 9 (iv BH) (by omega))
  refine (UC _ lo b g (c.aK BH) h op z r m k e s (C1.o.aK BH) GP.o hf HX.o (TB.o.since S2.o (by omega) (by omega))).mono ?_
  rintro e9 W3 ⟨g',rfl,hc,hs⟩
  rw [←HD.o] at hc ⊢
  rw [←HF.o]
  unfold ftC
  have n3:=hs.ne (b:=w.heap.size+1) R2.o.lt (by omega)
  have m3:=hs.ne (b:=w.heap.size) A2.o.lt (by omega)
  have o3:=hs.ne (b:=q) B2.o.lt (by omega)
  have z3:=hs.size
  obtain ⟨y0,y1,y2,y3,y4⟩:=hc.lt
  have C3:=hide (hc.alloc (.cells (ftA F) 49))
  have A3:=hide ((hs.blk A2.o (by omega) (by omega)).alloc (.cells (ftA F) 49))
  have R3:=hide ((hs.blk R2.o (by omega) (by omega)).alloc (.cells (ftA F) 49))
  have B3:=hide ((hs.blk B2.o (by omega) (by omega)).alloc (.cells (ftA F) 49))
  have S3:=hide ((S2.o.trans hs).alloc (.cells (ftA F) 49))
  have L3:=hide (Blk.new W3 (ftA F) 49)
  have u3:=B3.o.lt
  have v3:w.heap.size+1<W3.heap.size:=by have:=(hs.blk R2.o (by omega) (by omega)).lt;exact this
  have x3:q<W3.heap.size:=(hs.blk B2.o (by omega) (by omega)).lt
  clear hc hs C1 A1 R1 K1 B1 S2 A2 R2 B2
  go_wp2_with fail
  refine (fV F _).mono ?_
  rintro e9 W4 ⟨rfl,kf⟩
  have C4:=hide (C3.o.any kf)
  have A4:=hide (A3.o.af kf)
  have R4:=hide (R3.o.af kf)
  have B4:=hide (B3.o.af kf)
  have L4:=hide (L3.o.af kf)
  have S4:=hide (S3.o.any kf)
  have q4:=L4.o.all
  have r4:=R4.o.all
  have rf4:=R4.o.fz
  clear kf C3 A3 R3 B3 L3 S3
  cases hv:(F.v != 0)
  ·have E1:Hid (c.dn ⟨op,z,r,m,k,e,s⟩ a=D):=hide (by rw [ET.o,show (F.v==0)=true from by simpa using hv];rfl)
   go_wp2_with fail
   have KR:=(((((ak W4 (w.heap.size+1) 0 (iv F.v)).one 1 (iv F.pc)).one 2 (iv F.ad)).one 3 (iv F.wo)).one 4 (.bool F.wr))
   refine bodyPost_ret (v:=.agg (ftA F)) ?_ rfl ⟨g',?_,?_,(S4.o).mine KR (by omega)⟩
   ·rw [aj rfl];go_simp
   ·rw [E1.o,←HF.o];rfl
   ·rw [E1.o];exact ((C4.o).kept KR (by omega) (by omega))
  ·clear r4 rf4
   have b4:=B4.o.all
   unfold bkR at b4
   obtain ⟨y_0,y_1,y_2,y_3,y_4,y_5,y_6,y_7,y_8,y_9,Xi,Xh,Xg,Xf⟩:=C4.o.Ap
   have yz:=C4.o.fz
   have KY:=hide (JY W4 b (iv (el c.r.xs 0)) (iv (el c.r.xs 1)) (iv (el c.r.xs 2)) (iv (el c.r.xs 3)) (iv (el c.r.ys 0)) (iv (el c.r.ys 1)) (iv (el c.r.ys 2)) (iv (el c.r.ys 3)) (iv c.r.o) (iv c.r.p) (iv c.r.f) (iv c.r.m) (.bool c.r.s) (.bool c.r.t))
   have C5:=hide (C4.o.Yz c.r)
   obtain ⟨Y,hY⟩:∃Y:World,((((((((((((((W4.setCell ⟨b,0,none⟩ (iv (el c.r.xs 0))).setCell ⟨b,1,none⟩ (iv (el c.r.xs 1))).setCell ⟨b,2,none⟩ (iv (el c.r.xs 2))).setCell ⟨b,3,none⟩ (iv (el c.r.xs 3))).setCell ⟨b,4,none⟩ (iv (el c.r.ys 0))).setCell ⟨b,5,none⟩ (iv (el c.r.ys 1))).setCell ⟨b,6,none⟩ (iv (el c.r.ys 2))).setCell ⟨b,7,none⟩ (iv (el c.r.ys 3))).setCell ⟨b,8,none⟩ (iv c.r.o)).setCell ⟨b,9,none⟩ (iv c.r.p)).setCell ⟨b,10,none⟩ (iv c.r.f)).setCell ⟨b,11,none⟩ (iv c.r.m)).setCell ⟨b,12,none⟩ (.bool c.r.s)).setCell ⟨b,13,none⟩ (.bool c.r.t))=Y:=⟨_,rfl⟩
   rw [hY] at KY C5
   have A5:=hide (A4.o.kept KY.o (by omega))
   have R5:=hide (R4.o.kept KY.o (by omega))
   have L5:=hide (L4.o.kept KY.o (by omega))
   have S5:=hide (S4.o.ai KY.o (Nat.le_refl _) (Nat.le_refl _))
   have p5:=A5.o.all
   go_wp2_with fail
   refine (firstWord _ op z r m k e s).mono ?_
   rw [HN.o]
   rintro e9 W6 ⟨rfl,kf⟩
   have C6:=hide (C5.o.any kf)
   have R6:=hide (R5.o.af kf)
   have L6:=hide (L5.o.af kf)
   have S6:=hide (S5.o.any kf)
   have l6:=L6.o.all
   have lf6:=L6.o.fz
   clear kf p5 C5 A5 R5 L5 S5 y_0 y_1 y_2 y_3 y_4 y_5 y_6 y_7 y_8 y_9 Xi Xh Xg Xf b4 yz q4 hY
   have KZ:=hide ((ak W6 W3.heap.size 1 (iv a)).one 3 (iv N))
   have L7:Hid (Blk ((W6.setCell ⟨W3.heap.size,1,none⟩ (iv a)).setCell ⟨W3.heap.size,3,none⟩ (iv N)) W3.heap.size #[iv F.v,iv a,iv F.ad,iv N,.bool F.wr] 49):=hide ((L6.o.set 1 (iv a)).set 3 (iv N))
   obtain ⟨Z,hZ⟩:∃Z:World,(W6.setCell ⟨W3.heap.size,1,none⟩ (iv a)).setCell ⟨W3.heap.size,3,none⟩ (iv N)=Z:=⟨_,rfl⟩
   rw [hZ] at KZ L7
   have C7:=hide (C6.o.kept KZ.o (by omega) (by omega))
   have R7:=hide (R6.o.kept KZ.o (by omega))
   have S7:=hide (S6.o.mine KZ.o (by omega))
   have l7:=L7.o.all
   cases ho:Pl.jb F.v
   ·have E1:Hid (c.dn ⟨op,z,r,m,k,e,s⟩ a={D with r:=c.r,f:=⟨F.v,a,F.ad,N,F.wr⟩}):=hide (by rw [ET.o,show (F.v==0)=false from by simpa using hv,ho];rfl)
    have r7:=R7.o.all
    have rf7:=R7.o.fz
    go_wp2_with (go_at_call 58;refine st (jb F.v _) ?_;rw [ho])
    have KR:=(((((ak Z (w.heap.size+1) 0 (iv F.v)).one 1 (iv a)).one 2 (iv F.ad)).one 3 (iv N)).one 4 (.bool F.wr))
    refine bodyPost_ret (v:=.agg #[iv F.v,iv a,iv F.ad,iv N,.bool F.wr]) ?_ rfl ⟨g',?_,?_,(S7.o).mine KR (by omega)⟩
    ·rw [aj rfl];go_simp
    ·rw [E1.o];rfl
    ·rw [E1.o];exact ((C7.o).kept KR (by omega) (by omega)).fx rfl rfl rfl rfl rfl
   ·have E1:Hid (c.dn ⟨op,z,r,m,k,e,s⟩ a={D with r:=c.r,f:=⟨F.v,BH,F.ad,N,F.wr⟩}):=hide (by rw [ET.o,show (F.v==0)=false from by simpa using hv,ho];rfl)
    have lf7:=L7.o.fz
    have KV:=hide (ak Z W3.heap.size 1 (iv BH))
    have L8:Hid (Blk (Z.setCell ⟨W3.heap.size,1,none⟩ (iv BH)) W3.heap.size #[iv F.v,iv BH,iv F.ad,iv N,.bool F.wr] 49):=hide (L7.o.set 1 (iv BH))
    obtain ⟨V,hV⟩:∃V:World,Z.setCell ⟨W3.heap.size,1,none⟩ (iv BH)=V:=⟨_,rfl⟩
    rw [hV] at KV L8
    have C8:=hide (C7.o.kept KV.o (by omega) (by omega))
    have R8:=hide (R7.o.kept KV.o (by omega))
    have S8:=hide (S7.o.mine KV.o (by omega))
    have l8:=L8.o.all
    have r8:=R8.o.all
    have rf8:=R8.o.fz
    go_wp2_with (go_at_call 58;refine st (jb F.v _) ?_;rw [ho])
    have KR:=(((((ak V (w.heap.size+1) 0 (iv F.v)).one 1 (iv BH)).one 2 (iv F.ad)).one 3 (iv N)).one 4 (.bool F.wr))
    refine bodyPost_ret (v:=.agg #[iv F.v,iv BH,iv F.ad,iv N,.bool F.wr]) ?_ rfl ⟨g',?_,?_,(S8.o).mine KR (by omega)⟩
    ·rw [aj rfl];go_simp
    ·rw [E1.o];rfl
    ·rw [E1.o];exact ((C8.o).kept KR (by omega) (by omega)).fx rfl rfl rfl rfl rfl
 case step=>
  intro l A W i hI hm
  obtain ⟨q,hFR,o0,o1,o2,o3,o4,o5,o6,o7,o8,o9,o10,o11,o12,ox,o11w,hK⟩:=hI
  obtain ⟨hi1,hi2⟩:=jP hm
  have hsz:Hid (19<A.tmps.size):=hide (by rw [hFR.size];simp)
  have m0:A.tmps[0]? = some (.pointer (some ⟨b,0,none⟩)):=(hFR.o 0 (by decide)).trans rfl
  have m2:A.tmps[2]? = some (iv a):=(hFR.o 2 (by decide)).trans rfl
  have m4:A.tmps[4]? = some (.pointer (some ⟨w.heap.size,0,none⟩)):=(hFR.o 4 (by decide)).trans rfl
  rcases i with _|_|_|_|_|_|_|_|_|_|_|_|_|i
  ·refine wpOp_step rfl (fun KK hK2 => ?_)
   go_simp
   exact hK2 (A.put (some 10) (.pointer (some ⟨b,0,none⟩))) _ ⟨q,hFR.put (by decide) _,.now (put_eq (by have hz:=hsz.o;omega)),o1.q,o2.q,o3.q,o4.q,o5.q,o6.q,o7.q,o8.q,o9.q,o10.q,o11.n,o12.q,ox.past (by decide) (fun h=>by rw [getD_set_ne (by decide)];exact h),(fun e=>by rw [getD_set_ne (by decide)] at e ⊢;exact o11w e),hK⟩
  ·have e0:=o0 (aB hm 0 (by kernel_rfl))
   refine wpOp_step rfl (fun KK hK2 => ?_)
   go_simp
   exact hK2 (A.put (some 11) (.pointer (some ⟨b,0,none⟩))) _ ⟨q,hFR.put (by decide) _,o0.q,.now (put_eq (by have hz:=hsz.o;omega)),o2.q,o3.q,o4.q,o5.q,o6.q,o7.q,o8.q,o9.q,o10.q,o11.n,o12.q,ox.past (by decide) (fun h=>by rw [getD_set_ne (by decide)];exact h),(fun e=>by rw [getD_set_ne (by decide)] at e ⊢;exact o11w e),hK⟩
  ·have e1:=o1 (aB hm 1 (by kernel_rfl))
   refine wpOp_step rfl (fun KK hK2 => ?_)
   go_simp
   exact hK2 (A.put (some 12) (.pointer (some ⟨b,0,none⟩))) _ ⟨q,hFR.put (by decide) _,o0.q,o1.q,.now (put_eq (by have hz:=hsz.o;omega)),o3.q,o4.q,o5.q,o6.q,o7.q,o8.q,o9.q,o10.q,o11.n,o12.q,ox.past (by decide) (fun h=>by rw [getD_set_ne (by decide)];exact h),(fun e=>by rw [getD_set_ne (by decide)] at e ⊢;exact o11w e),hK⟩
  ·have e2:=o2 (aB hm 2 (by kernel_rfl))
   have y:=(C0.o.any hK).Ap
   obtain ⟨y0,y1,y2,y3,y4,y5,y6,y7,y8,y9,y10,y11,y12,y13⟩:=y
   refine wpOp_step rfl (fun KK hK2 => ?_)
   go_simp
   exact hK2 (A.put (some 13) (.agg (bkR c.r))) _ ⟨q,hFR.put (by decide) _,o0.q,o1.q,o2.q,.now (put_eq (by have hz:=hsz.o;omega)),o4.q,o5.q,o6.q,o7.q,o8.q,o9.q,o10.q,o11.n,o12.q,ox.past (by decide) (fun h=>by rw [getD_set_ne (by decide)];exact h),(fun e=>by rw [getD_set_ne (by decide)] at e ⊢;exact o11w e),hK⟩
  ·refine wpOp_step rfl (fun KK hK2 => ?_)
   go_simp
   exact hK2 (A.put (some 14) (iv a)) _ ⟨q,hFR.put (by decide) _,o0.q,o1.q,o2.q,o3.q,.now (put_eq (by have hz:=hsz.o;omega)),o5.q,o6.q,o7.q,o8.q,o9.q,o10.q,o11.n,o12.q,ox.past (by decide) (fun h=>by rw [getD_set_ne (by decide)];exact h),(fun e=>by rw [getD_set_ne (by decide)] at e ⊢;exact o11w e),hK⟩
  ·have BL:=hide (A0.o.af hK)
   obtain ⟨x0,x1,x2,x3,x4,x5,x6⟩:=BL.o.c7
   refine wpOp_step rfl (fun KK hK2 => ?_)
   go_simp
   exact hK2 (A.put (some 15) (.agg (inA op z r m k e s))) _ ⟨q,hFR.put (by decide) _,o0.q,o1.q,o2.q,o3.q,o4.q,.now (put_eq (by have hz:=hsz.o;omega)),o6.q,o7.q,o8.q,o9.q,o10.q,o11.n,o12.q,ox.past (by decide) (fun h=>by rw [getD_set_ne (by decide)];exact h),(fun e=>by rw [getD_set_ne (by decide)] at e ⊢;exact o11w e),hK⟩
  ·have e5:=o5 (aB hm 5 (by kernel_rfl))
   refine wpOp_step rfl (fun KK hK2 => ?_)
   go_simp
   refine (lengthOf W op z r m k e s wfm).mono ?_
   rw [HL.o]
   rintro r9 y ⟨rfl,kd⟩
   go_simp
   exact hK2 (A.put (some 16) (iv L)) _ ⟨q,hFR.put (by decide) _,o0.q,o1.q,o2.q,o3.q,o4.q,o5.q,.now (put_eq (by have hz:=hsz.o;omega)),o7.q,o8.q,o9.q,o10.q,o11.n,o12.q,ox.past (by decide) (fun h=>by rw [getD_set_ne (by decide)];exact ⟨h.1,h.2.af kd⟩),(fun e=>by rw [getD_set_ne (by decide)] at e ⊢;exact o11w e),(hK.trans kd)⟩
  ·have e6:=o6 (aB hm 6 (by kernel_rfl))
   refine wpOp_step rfl (fun KK hK2 => ?_)
   go_simp
   exact hK2 (A.put (some 17) (iv (L*2))) _ ⟨q,hFR.put (by decide) _,o0.q,o1.q,o2.q,o3.q,o4.q,o5.q,o6.q,.now (put_eq (by have hz:=hsz.o;omega)),o8.q,o9.q,o10.q,o11.n,o12.q,ox.past (by decide) (fun h=>by rw [getD_set_ne (by decide)];exact h),(fun e=>by rw [getD_set_ne (by decide)] at e ⊢;exact o11w e),hK⟩
  ·have e4:=o4 (aB hm 4 (by kernel_rfl))
   have e7:=o7 (aB hm 7 (by kernel_rfl))
   refine wpOp_step rfl (fun KK hK2 => ?_)
   go_simp
   exact hK2 (A.put (some 18) (iv (a+L*2))) _ ⟨q,hFR.put (by decide) _,o0.q,o1.q,o2.q,o3.q,o4.q,o5.q,o6.q,o7.q,.now (put_eq (by have hz:=hsz.o;omega)),o9.q,o10.q,o11.n,o12.q,ox.past (by decide) (fun h=>by rw [getD_set_ne (by decide)];exact h),(fun e=>by rw [getD_set_ne (by decide)] at e ⊢;exact o11w e),hK⟩
  ·have e8:=o8 (aB hm 8 (by kernel_rfl))
   refine wpOp_step rfl (fun KK hK2 => ?_)
   go_simp
   refine (iw (a+L*2) W).mono ?_
   rw [HBH.o]
   rintro r9 y ⟨rfl,kd⟩
   rw [kd]
   go_simp
   exact hK2 (A.put (some 19) (iv BH)) _ ⟨q,hFR.put (by decide) _,o0.q,o1.q,o2.q,o3.q,o4.q,o5.q,o6.q,o7.q,o8.q,.now (put_eq (by have hz:=hsz.o;omega)),o10.q,o11.n,o12.q,ox.past (by decide) (fun h=>by rw [getD_set_ne (by decide)];exact h),(fun e=>by rw [getD_set_ne (by decide)] at e ⊢;exact o11w e),hK⟩
  ·have n11:l.getD 11 true=false:=by cases q11:l.getD 11 true;rfl;have:=o11w q11;rw [hi2] at this;cases this
   refine wpOp_step rfl (fun KK hK2 => ?_)
   go_simp
   exact hK2 (A.put (some 7) (.pointer (some ⟨W.heap.size,0,none⟩))) _ ⟨W.heap.size,hFR.put (by decide) _,o0.q,o1.q,o2.q,o3.q,o4.q,o5.q,o6.q,o7.q,o8.q,o9.q,.now (put_eq (by have hz:=hsz.o;omega)),o11.n,o12.q,.now ⟨hK.size,by rw [getD_set_ne (by decide),n11];exact Blk.new W _ _⟩,(fun e=>gY),(ah hK _)⟩
  ·have e10:=o10 (aB hm 10 (by kernel_rfl))
   have e3:=o3 (aB hm 3 (by kernel_rfl))
   have oq:=ox (aB hm 10 (by kernel_rfl))
   unfold bkR at e3
   have oR2:Blk W q #[iv 0,iv 0,iv 0,iv 0,iv 0,iv 0,iv 0,iv 0,iv 0,iv 0,iv 0,iv 0,.bool false,.bool false] 85:=by have:=oq.2;rw [hi2] at this;exact this
   have OR:=hide oR2
   have qa:=OR.o.all
   have qf:=OR.o.fz
   refine wpOp_step rfl (fun KK hK2 => ?_)
   go_simp
   exact hK2 A _ ⟨q,hFR,o0.n,o1.n,o2.n,o3.n,o4.n,o5.n,o6.n,o7.n,o8.n,o9.n,o10.n,.now trivial,o12.n,(fun _=>⟨oq.1,by rw [gY];exact Blk.Nl oR2⟩),(fun _=>by rw [getD_set_ne (by decide)];exact aB hm 10 (by kernel_rfl)),(ag (ag (ag (ag (ag (ag (ag (ag (ag (ag (ag (ag (ag (ag hK _ _ _ (.inr oq.1)) _ _ _ (.inr oq.1)) _ _ _ (.inr oq.1)) _ _ _ (.inr oq.1)) _ _ _ (.inr oq.1)) _ _ _ (.inr oq.1)) _ _ _ (.inr oq.1)) _ _ _ (.inr oq.1)) _ _ _ (.inr oq.1)) _ _ _ (.inr oq.1)) _ _ _ (.inr oq.1)) _ _ _ (.inr oq.1)) _ _ _ (.inr oq.1)) _ _ _ (.inr oq.1))⟩
  ·have e9:=o9 (aB hm 9 (by kernel_rfl))
   refine wpOp_step rfl (fun KK hK2 => ?_)
   go_simp
   exact hK2 (A.put (some 8) (iv BH)) _ ⟨q,hFR.put (by decide) _,o0.q,o1.q,o2.q,o3.q,o4.q,o5.q,o6.q,o7.q,o8.q,o9.q,o10.q,o11.n,.now (put_eq (by have hz:=hsz.o;omega)),ox.past (by decide) (fun h=>by rw [getD_set_ne (by decide)];exact h),(fun e=>by rw [getD_set_ne (by decide)] at e ⊢;exact o11w e),hK⟩
  ·simp at hi1
   omega
end Go.Proofs.YtkkmnnhaailkcaaGreatDoor
