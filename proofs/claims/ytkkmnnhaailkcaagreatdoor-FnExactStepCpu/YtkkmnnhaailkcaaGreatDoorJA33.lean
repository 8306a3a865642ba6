/- Part 33 of what the last text leans on. -/
import Derived.Test.YtkkmnnhaailkcaaGreatDoorJA27
import Derived.Test.YtkkmnnhaailkcaaGreatDoorJA32
import Derived.Test.YtkkmnnhaailkcaaGreatDoorJA31
import Derived.Test.YtkkmnnhaailkcaaGreatDoorJA25
import Derived.Test.YtkkmnnhaailkcaaGreatDoorJA26
import Derived.Test.YtkkmnnhaailkcaaGreatDoorJA19
import Derived.Test.YtkkmnnhaailkcaaGreatDoorJA1
set_option maxRecDepth 100000
set_option maxHeartbeats 16000000
namespace Go.Proofs.YtkkmnnhaailkcaaGreatDoor
open Go.RowKit Go.Proofs.Tryz
set_option linter.unusedVariables false
structure jF (w:World) (lo:Nat):Prop where
 s:oI w
 n:rV w
 s0:0<lo
 n0:1<lo
theorem jF.since {w w':World} {lo b g g':Nat} (h:jF w lo) (k:Since w b (b+1) g w' g') (hb:lo≤b) (hg:lo≤g):jF w' lo:=by
 have e:∀i,i<lo→i<w.heap.size→w'.heap[i]? = w.heap[i]? := fun i h1 h2=>k.2.block i h2 (by unfold own;omega)
 have hs:=h.s0
 have hn:=h.n0
 refine ⟨fun i hi => ?_,fun i hi => ?_,hs,hn⟩
 ·have q:=h.s i hi
  rw [World.cell?_of_block (w:=w) (e _ hs (World.block_lt_of_cell? _ _ q))];exact q
 ·have q:=h.n i hi
  rw [World.cell?_of_block (w:=w) (e _ hn (World.block_lt_of_cell? _ _ q))];exact q
theorem jF.any {w w':World} {lo:Nat} (h:jF w lo) (k:Kept 0 0 w w'):jF w' lo:=by
 have b:=k.below
 exact ⟨h.s.below b,h.n.below b,h.s0,h.n0⟩
namespace Pl
def dcV (s x a q:Int):Int:=bif s==1 then sV x a q else aV x a q
def dcC (s x a q:Int):Int:=bif s==1 then sC x a q else aC x a q
def dcF (s f x a q:Int):Int:=bits .or .i64 (fl (dcV s x a q==0) (bits .and .i64 f 4)) (fl (dcC s x a q==1) 17)
def Mc.bd (c:Mc) (x:In):Mc:=bif fB (c.r.f/16) (c.low 1 x.r) (c.low 1 x.k) then (c.put 1 x.r (dcV x.s (c.r.f/16) (c.low 1 x.r) (c.low 1 x.k))).aB (dcF x.s c.r.f (c.r.f/16) (c.low 1 x.r) (c.low 1 x.k)) else {c with f:=⟨4,0,0,0,false⟩}
theorem QJ {s x a q:Int}:okv 1 (dcV s x a q)=true:=by
 have q':∀v,bcd v=true→okv 1 v=true:=by
  intro v h
  have:=qh h
  simp [okv,top];omega
 unfold dcV
 cases s==1
 ·cases h:fB x a q
  ·unfold aV;rw [h];rfl
  ·exact q' _ (yN h)
 ·cases h:fB x a q
  ·unfold sV;rw [h];rfl
  ·exact q' _ (xB h)
end Pl
theorem Wh (w:World) (lo b g:Nat) (c:Pl.Mc) (h:Bool) (op z r m k e:Int) (hC:CAt w lo b g c h) (G:Pl.GM c) (hf:c.f=Pl.aH) (B:Pl.InB ⟨op,z,r,m,k,e,0⟩) (ht:jF w lo) :
  Calls prog 171 #[.pointer (some ⟨b,0,none⟩),.agg (inA op z r m k e 0)] w fun e' w'=>∃g',e'=.returned (.agg (ftC (c.bd ⟨op,z,r,m,k,e,0⟩).f))∧CAt w' lo b g' (c.bd ⟨op,z,r,m,k,e,0⟩) h∧Since w b (b+1) g w' g':=by
 have HB:=hide B
 clear B
 obtain ⟨l0,l1,l2,l3,l4⟩:=hC.lt
 have HG:=hide G
 obtain ⟨X,hX,K0,C0,A0,R0,sX⟩:=hC.jh op z r m k e 0
 have p:=A0.o.all
 clear hC G
 have T0:=hide (ht.any K0.o)
 have f0:=HG.o.g.f0
 have f1:=HG.o.g.f1
 have OA:Pl.okv 1 (c.low 1 r)=true:=Pl.fJ HG.o (.inl rfl) HB.o.r0 HB.o.r1
 have OQ:Pl.okv 1 (c.low 1 k)=true:=Pl.fJ HG.o (.inl rfl) HB.o.k0 HB.o.k1
 obtain ⟨A,hA⟩:∃A,A=c.low 1 r:=⟨_,rfl⟩
 obtain ⟨Q,hQ⟩:∃Q,Q=c.low 1 k:=⟨_,rfl⟩
 rw [←hA] at OA
 rw [←hQ] at OQ
 have ta:=Pl.aP OA
 have tq:=Pl.aP OQ
 obtain ⟨a0,a1⟩:0≤A∧A≤255:=by omega
 obtain ⟨q0,q1⟩:0≤Q∧Q≤255:=by omega
 obtain ⟨V,hV⟩:∃V,V=Pl.dcV 0 (c.r.f/16) A Q:=⟨_,rfl⟩
 obtain ⟨Y,hY⟩:∃Y,Y=Pl.dcC 0 (c.r.f/16) A Q:=⟨_,rfl⟩
 obtain ⟨P,hP⟩:∃P,P=Pl.fB (c.r.f/16) A Q:=⟨_,rfl⟩
 have OV:Hid (Pl.okv 1 V=true):=hide (by rw [hV];exact Pl.QJ)
 have ET:Hid (c.bd ⟨op,z,r,m,k,e,0⟩=bif P then (c.put 1 r V).aB (bits .or .i64 (Pl.fl (V==0) (bits .and .i64 c.r.f 4)) (Pl.fl (Y==1) 17)) else {c with f:=⟨4,0,0,0,false⟩}):=hide (by rw [hP,hV,hY,hA,hQ];rfl)
 have HA:=hide hA
 have HQ:=hide hQ
 have HV:Hid (V=Pl.aV (c.r.f/16) A Q):=hide hV
 have HY:Hid (Y=Pl.aC (c.r.f/16) A Q):=hide hY
 have HP:=hide hP
 have ed:c.r.f.tdiv 16=c.r.f/16:=Int.tdiv_eq_ediv_of_nonneg f0
 have ew1:IntKind.i64.wrap (c.r.f/16)=c.r.f/16:=by rw [IntKind.wrap_i64];omega
 have ew2:IntKind.i64.wrap (c.r.f.tdiv 16)=c.r.f/16:=by rw [ed,ew1]
 clear hA hQ hV hY hP OA OQ ta tq ht
 go_enter func171,ntmps171
 go_wp2_with fail
 clear hX p
 have u2:=A0.o.cell (i:=2) rfl
 have u4:=A0.o.cell (i:=4) rfl
 have u10:=C0.o.cF
 go_region_held3 (fun w'=>w'.cell? ⟨w.heap.size,2,none⟩=some (iv r)∧w'.cell? ⟨w.heap.size,4,none⟩=some (iv k)∧w'.cell? ⟨b,10,none⟩=some (iv c.r.f)) (first|with_reducible exact ⟨A7.o.cell (i:=2) rfl,A7.o.cell (i:=4) rfl,C7.o.cF⟩|with_reducible exact ⟨A6.o.cell (i:=2) rfl,A6.o.cell (i:=4) rfl,C6.o.cF⟩|with_reducible exact ⟨A5.o.cell (i:=2) rfl,A5.o.cell (i:=4) rfl,C5.o.cF⟩|exact ⟨(show Blk _ _ _ _ from A0.o).cell (i:=2) rfl,(show Blk _ _ _ _ from A0.o).cell (i:=4) rfl,C0.o.drew.cF⟩)
  (first|(go_at_call 207;have z9:=C6;refine st (Ul (c.r.f/16) A Q _ T6.o.s (by omega) (by omega) (by omega) (by omega) (by omega) (by omega)) ?_;rw [←HV.o,←HY.o,←HP.o];skip)|(go_at_call 194;have z9:=C5;refine (nT _ lo b g c h 1 k C5.o (.inl rfl) HB.o.k0 HB.o.k1).mono ?_;rintro e9 W6 ⟨rfl,k6⟩;rw [←HQ.o];have C6:=hide (C5.o.any k6);have A6:=hide (A5.o.af k6);have R6:=hide (R5.o.af k6);have K6:=hide (K5.o.trans k6);have T6:=hide (T5.o.any k6);clear k6)|(go_at_call 194;refine (nT _ lo b g c h 1 r C0.o.drew (.inl rfl) HB.o.r0 HB.o.r1).mono ?_;rintro e9 W5 ⟨rfl,kd⟩;rw [←HA.o];have k5:=bW kd;have C5:=hide (C0.o.any k5);have A5:=hide (A0.o.af k5);have R5:=hide (R0.o.af k5);have K5:=hide (K0.o.trans k5);have T5:=hide (T0.o.any k5);clear kd k5))
 clear u2 u4 u10
 have r6:=R6.o.all
 have rf6:=R6.o.fz
 cases hp:P
 ·have E1:Hid (c.bd ⟨op,z,r,m,k,e,0⟩={c with f:=⟨4,0,0,0,false⟩}):=hide (by rw [ET.o,hp];rfl)
  go_wp2_with fail
  have KR:=(((((ak W6 (w.heap.size+1) 0 (iv 4)).one 1 (iv 0)).one 2 (iv 0)).one 3 (iv 0)).one 4 (.bool false))
  refine bodyPost_ret (v:=.agg #[iv 4,iv 0,iv 0,iv 0,.bool false]) ?_ rfl ⟨g,?_,?_,((Since.refl w b (b+1) g).any K6.o).mine KR (by omega)⟩
  ·rw [aj rfl];go_simp
  ·rw [E1.o];rfl
  ·rw [E1.o];exact ((C6.o).kept KR (by omega) (by omega)).fx rfl rfl rfl rfl rfl
 ·obtain ⟨FL,hFL⟩:∃x,x=bits .or .i64 (Pl.fl (V==0) (bits .and .i64 c.r.f 4)) (Pl.fl (Y==1) 17):=⟨_,rfl⟩
  have E1:Hid (c.bd ⟨op,z,r,m,k,e,0⟩=(c.put 1 r V).aB FL):=hide (by rw [ET.o,hp,hFL];rfl)
  have eFL:=hFL.symm
  clear hFL
  go_wp2_with fail
  have u2:=A6.o.cell (i:=2) rfl
  go_region_held3 (fun w'=>w'.cell? ⟨w.heap.size,2,none⟩=some (iv r)) (first|with_reducible exact A8.o.cell (i:=2) rfl|exact (show Blk _ _ _ _ from A6.o).cell (i:=2) rfl)
   (first|(go_at_call 195;refine (Lp _ lo b g c h 1 r V C6.o.drew HG.o.g HB.o.r0 HB.o.r1 (.inl rfl) OV.o).mono ?_;rintro e9 W8 ⟨rfl,hc,kd⟩;have k8:=bW kd;have C8:=hide hc;have A8:=hide (A6.o.kept k8 (by omega));have R8:=hide (R6.o.kept k8 (by omega));have S8:=hide (((Since.refl w b (b+1) g).any K6.o).ai k8 (Nat.le_refl _) (Nat.le_refl _));clear hc kd k8))
  have c8:W8.cell? ⟨b,10,none⟩=some (iv c.r.f):=C8.o.cF
  have cz:=C8.o.fz
  have r9:=(R8.o.other b 10 (iv FL) (by omega)).all
  have rf9:=(R8.o.other b 10 (iv FL) (by omega)).fz
  go_wp2_with (first|(go_at_call 133;refine st (gy _ _ _) ?_))
  have KR:=(((((ak (W8.setCell ⟨b,10,none⟩ (iv FL)) (w.heap.size+1) 0 (iv 0)).one 1 (iv 0)).one 2 (iv 0)).one 3 (iv 0)).one 4 (.bool false))
  refine bodyPost_ret (v:=.agg ftZ) ?_ rfl ⟨g,?_,?_,(S8.o.set b 10 (iv FL) (.inl (by omega))).mine KR (by omega)⟩
  ·rw [aj rfl];go_simp
  ·rw [E1.o,show ((c.put 1 r V).aB FL).f=Pl.aH from hf];rfl
  ·rw [E1.o];exact ((C8.o.aB FL).kept KR (by omega) (by omega))
theorem We (w:World) (lo b g:Nat) (c:Pl.Mc) (h:Bool) (op z r m k e:Int) (hC:CAt w lo b g c h) (G:Pl.GM c) (hf:c.f=Pl.aH) (B:Pl.InB ⟨op,z,r,m,k,e,1⟩) (ht:jF w lo) :
  Calls prog 171 #[.pointer (some ⟨b,0,none⟩),.agg (inA op z r m k e 1)] w fun e' w'=>∃g',e'=.returned (.agg (ftC (c.bd ⟨op,z,r,m,k,e,1⟩).f))∧CAt w' lo b g' (c.bd ⟨op,z,r,m,k,e,1⟩) h∧Since w b (b+1) g w' g':=by
 have HB:=hide B
 clear B
 obtain ⟨l0,l1,l2,l3,l4⟩:=hC.lt
 have HG:=hide G
 obtain ⟨X,hX,K0,C0,A0,R0,sX⟩:=hC.jh op z r m k e 1
 have p:=A0.o.all
 clear hC G
 have T0:=hide (ht.any K0.o)
 have f0:=HG.o.g.f0
 have f1:=HG.o.g.f1
 have OA:Pl.okv 1 (c.low 1 r)=true:=Pl.fJ HG.o (.inl rfl) HB.o.r0 HB.o.r1
 have OQ:Pl.okv 1 (c.low 1 k)=true:=Pl.fJ HG.o (.inl rfl) HB.o.k0 HB.o.k1
 obtain ⟨A,hA⟩:∃A,A=c.low 1 r:=⟨_,rfl⟩
 obtain ⟨Q,hQ⟩:∃Q,Q=c.low 1 k:=⟨_,rfl⟩
 rw [←hA] at OA
 rw [←hQ] at OQ
 have ta:=Pl.aP OA
 have tq:=Pl.aP OQ
 obtain ⟨a0,a1⟩:0≤A∧A≤255:=by omega
 obtain ⟨q0,q1⟩:0≤Q∧Q≤255:=by omega
 obtain ⟨V,hV⟩:∃V,V=Pl.dcV 1 (c.r.f/16) A Q:=⟨_,rfl⟩
 obtain ⟨Y,hY⟩:∃Y,Y=Pl.dcC 1 (c.r.f/16) A Q:=⟨_,rfl⟩
 obtain ⟨P,hP⟩:∃P,P=Pl.fB (c.r.f/16) A Q:=⟨_,rfl⟩
 have OV:Hid (Pl.okv 1 V=true):=hide (by rw [hV];exact Pl.QJ)
 have ET:Hid (c.bd ⟨op,z,r,m,k,e,1⟩=bif P then (c.put 1 r V).aB (bits .or .i64 (Pl.fl (V==0) (bits .and .i64 c.r.f 4)) (Pl.fl (Y==1) 17)) else {c with f:=⟨4,0,0,0,false⟩}):=hide (by rw [hP,hV,hY,hA,hQ];rfl)
 have HA:=hide hA
 have HQ:=hide hQ
 have HV:Hid (V=Pl.sV (c.r.f/16) A Q):=hide hV
 have HY:Hid (Y=Pl.sC (c.r.f/16) A Q):=hide hY
 have HP:=hide hP
 have ed:c.r.f.tdiv 16=c.r.f/16:=Int.tdiv_eq_ediv_of_nonneg f0
 have ew1:IntKind.i64.wrap (c.r.f/16)=c.r.f/16:=by rw [IntKind.wrap_i64];omega
 have ew2:IntKind.i64.wrap (c.r.f.tdiv 16)=c.r.f/16:=by rw [ed,ew1]
 clear hA hQ hV hY hP OA OQ ta tq ht
 go_enter func171,ntmps171
 go_wp2_with fail
 clear hX p
 have u2:=A0.o.cell (i:=2) rfl
 have u4:=A0.o.cell (i:=4) rfl
 have u10:=C0.o.cF
 go_region_held3 (fun w'=>w'.cell? ⟨w.heap.size,2,none⟩=some (iv r)∧w'.cell? ⟨w.heap.size,4,none⟩=some (iv k)∧w'.cell? ⟨b,10,none⟩=some (iv c.r.f)) (first|with_reducible exact ⟨A7.o.cell (i:=2) rfl,A7.o.cell (i:=4) rfl,C7.o.cF⟩|with_reducible exact ⟨A6.o.cell (i:=2) rfl,A6.o.cell (i:=4) rfl,C6.o.cF⟩|with_reducible exact ⟨A5.o.cell (i:=2) rfl,A5.o.cell (i:=4) rfl,C5.o.cF⟩|exact ⟨(show Blk _ _ _ _ from A0.o).cell (i:=2) rfl,(show Blk _ _ _ _ from A0.o).cell (i:=4) rfl,C0.o.drew.cF⟩)
  (first|(go_at_call 208;have z9:=C6;refine (Rh (c.r.f/16) A Q _ T6.o.s T6.o.n (by omega) (by omega) (by omega) (by omega) (by omega) (by omega)).mono ?_;rintro e9 W7 ⟨rfl,nn,hw⟩;have k7:Kept 0 0 W6 W7:=(by rw [hw];exact au (Kept.refl _ _ _) _);rw [←HV.o,←HY.o,←HP.o];have C7:=hide (C6.o.any k7);have A7:=hide (A6.o.af k7);have R7:=hide (R6.o.af k7);have K7:=hide (K6.o.trans k7);clear k7 hw)|(go_at_call 194;have z9:=C5;refine (nT _ lo b g c h 1 k C5.o (.inl rfl) HB.o.k0 HB.o.k1).mono ?_;rintro e9 W6 ⟨rfl,k6⟩;rw [←HQ.o];have C6:=hide (C5.o.any k6);have A6:=hide (A5.o.af k6);have R6:=hide (R5.o.af k6);have K6:=hide (K5.o.trans k6);have T6:=hide (T5.o.any k6);clear k6)|(go_at_call 194;refine (nT _ lo b g c h 1 r C0.o.drew (.inl rfl) HB.o.r0 HB.o.r1).mono ?_;rintro e9 W5 ⟨rfl,kd⟩;rw [←HA.o];have k5:=bW kd;have C5:=hide (C0.o.any k5);have A5:=hide (A0.o.af k5);have R5:=hide (R0.o.af k5);have K5:=hide (K0.o.trans k5);have T5:=hide (T0.o.any k5);clear kd k5))
 clear u2 u4 u10
 have r7:=R7.o.all
 have rf7:=R7.o.fz
 cases hp:P
 ·have E1:Hid (c.bd ⟨op,z,r,m,k,e,1⟩={c with f:=⟨4,0,0,0,false⟩}):=hide (by rw [ET.o,hp];rfl)
  go_wp2_with fail
  have KR:=(((((ak W7 (w.heap.size+1) 0 (iv 4)).one 1 (iv 0)).one 2 (iv 0)).one 3 (iv 0)).one 4 (.bool false))
  refine bodyPost_ret (v:=.agg #[iv 4,iv 0,iv 0,iv 0,.bool false]) ?_ rfl ⟨g,?_,?_,((Since.refl w b (b+1) g).any K7.o).mine KR (by omega)⟩
  ·rw [aj rfl];go_simp
  ·rw [E1.o];rfl
  ·rw [E1.o];exact ((C7.o).kept KR (by omega) (by omega)).fx rfl rfl rfl rfl rfl
 ·obtain ⟨FL,hFL⟩:∃x,x=bits .or .i64 (Pl.fl (V==0) (bits .and .i64 c.r.f 4)) (Pl.fl (Y==1) 17):=⟨_,rfl⟩
  have E1:Hid (c.bd ⟨op,z,r,m,k,e,1⟩=(c.put 1 r V).aB FL):=hide (by rw [ET.o,hp,hFL];rfl)
  have eFL:=hFL.symm
  clear hFL
  go_wp2_with fail
  have u2:=A7.o.cell (i:=2) rfl
  go_region_held3 (fun w'=>w'.cell? ⟨w.heap.size,2,none⟩=some (iv r)) (first|with_reducible exact A8.o.cell (i:=2) rfl|exact (show Blk _ _ _ _ from A7.o).cell (i:=2) rfl)
   (first|(go_at_call 195;refine (Lp _ lo b g c h 1 r V C7.o.drew HG.o.g HB.o.r0 HB.o.r1 (.inl rfl) OV.o).mono ?_;rintro e9 W8 ⟨rfl,hc,kd⟩;have k8:=bW kd;have C8:=hide hc;have A8:=hide (A7.o.kept k8 (by omega));have R8:=hide (R7.o.kept k8 (by omega));have S8:=hide (((Since.refl w b (b+1) g).any K7.o).ai k8 (Nat.le_refl _) (Nat.le_refl _));clear hc kd k8))
  have c8:W8.cell? ⟨b,10,none⟩=some (iv c.r.f):=C8.o.cF
  have cz:=C8.o.fz
  have r9:=(R8.o.other b 10 (iv FL) (by omega)).all
  have rf9:=(R8.o.other b 10 (iv FL) (by omega)).fz
  go_wp2_with (first|(go_at_call 133;refine st (gy _ _ _) ?_))
  have KR:=(((((ak (W8.setCell ⟨b,10,none⟩ (iv FL)) (w.heap.size+1) 0 (iv 0)).one 1 (iv 0)).one 2 (iv 0)).one 3 (iv 0)).one 4 (.bool false))
  refine bodyPost_ret (v:=.agg ftZ) ?_ rfl ⟨g,?_,?_,(S8.o.set b 10 (iv FL) (.inl (by omega))).mine KR (by omega)⟩
  ·rw [aj rfl];go_simp
  ·rw [E1.o,show ((c.put 1 r V).aB FL).f=Pl.aH from hf];rfl
  ·rw [E1.o];exact ((C8.o.aB FL).kept KR (by omega) (by omega))
namespace Pl
def Mc.lea (c:Mc) (x:In):Mc:=(c.slot x.z x.m x.k x.e).fM x.r.toNat (c.readA x.z x.m x.k x.e)
def Mc.shf (c:Mc) (x:In):Mc:=(c.put x.z x.r (jc x.s x.z c.r.f (c.low x.z x.r) (x.k+1))).aB (oH x.s x.z c.r.f (c.low x.z x.r) (x.k+1))
def Mc.brn (c:Mc) (x:In):Mc:=bif tst (x.s+8*x.r) c.r.f then c.aJ ((c.r.p-2+x.e)%65536) else c
def Mc.mvs (c:Mc) (x:In):Mc:=bif x.s==0 then c.dh (bJ c.r x.e) else c.dh {c.r with xs:=c.r.xs.set x.r.toNat (status c.r)}
def Mc.cr' (c:Mc) (x:In):Mc:=bif x.op==2 then c.gv x else bif x.op==10 then c.lea x else bif x.op==11 then c.ch x else bif x.op==12 then c.shf x else bif x.op==13 then c.brn x else bif x.op==14 then c.jp x else bif x.op==15 then c.fw x else bif x.op==18 then c.bd x else bif x.op==19 then c.mvs x else c.tk x
def Mc.cr (c:Mc) (x:In):Mc:=bif iR x && !c.r.s then {c with f:=⟨8,0,0,0,false⟩} else c.cr' x
end Pl
theorem Lr (w:World) (lo b g:Nat) (c:Pl.Mc) (h:Bool) (op z r m k e s:Int) (hC:CAt w lo b g c h) (G:Pl.GM c) (hf:c.f=Pl.aH) (B:Pl.InB ⟨op,z,r,m,k,e,s⟩) (hs:s≤3) (hm:m=0∨(2≤m∧m≤6)) :
  Calls prog 165 #[.pointer (some ⟨b,0,none⟩),.agg (inA op z r m k e s)] w fun e' w'=>∃g',e'=.returned (.agg (ftC (c.ch ⟨op,z,r,m,k,e,s⟩).f))∧CAt w' lo b g' (c.ch ⟨op,z,r,m,k,e,s⟩) h∧Since w b (b+1) g w' g':=by
 have hs0:0≤s:=B.s0
 have hq:s=0∨s=1∨s=2∨s=3:=by omega
 rcases hq with rfl|rfl|rfl|rfl
 ·exact LC w lo b g c h op z r m k e hC G hf B hm
 ·exact Lu w lo b g c h op z r m k e hC G hf B hm
 ·exact Lt w lo b g c h op z r m k e hC G hf B hm
 ·exact Ls w lo b g c h op z r m k e hC G hf B hm
theorem TL (w:World) (lo b g:Nat) (c:Pl.Mc) (h:Bool) (op z r m k e s:Int) (hC:CAt w lo b g c h) (G:Pl.GM c) (hf:c.f=Pl.aH) (B:Pl.InB ⟨op,z,r,m,k,e,s⟩) (hs:s≤1) :
  Calls prog 169 #[.pointer (some ⟨b,0,none⟩),.agg (inA op z r m k e s)] w fun e' w'=>∃g',e'=.returned (.agg (ftC (c.jp ⟨op,z,r,m,k,e,s⟩).f))∧CAt w' lo b g' (c.jp ⟨op,z,r,m,k,e,s⟩) h∧Since w b (b+1) g w' g':=by
 have hs0:0≤s:=B.s0
 have hq:s=0∨s=1:=by omega
 rcases hq with rfl|rfl
 ·exact TN w lo b g c h op z r m k e hC G hf B
 ·exact TM w lo b g c h op z r m k e hC G hf B
theorem TP (w:World) (lo b g:Nat) (c:Pl.Mc) (h:Bool) (op z r m k e s:Int) (hC:CAt w lo b g c h) (G:Pl.GM c) (hf:c.f=Pl.aH) (B:Pl.InB ⟨op,z,r,m,k,e,s⟩) (hs:s≤6) (he:s=3→e≤1023) :
  Calls prog 170 #[.pointer (some ⟨b,0,none⟩),.agg (inA op z r m k e s)] w fun e' w'=>∃g',e'=.returned (.agg (ftC (c.fw ⟨op,z,r,m,k,e,s⟩).f))∧CAt w' lo b g' (c.fw ⟨op,z,r,m,k,e,s⟩) h∧Since w b (b+1) g w' g':=by
 have hs0:0≤s:=B.s0
 have hq:s=0∨s=1∨s=2∨s=3∨s=4∨s=5∨s=6:=by omega
 rcases hq with rfl|rfl|rfl|rfl|rfl|rfl|rfl
 ·exact TW w lo b g c h op z r m k e hC G hf B
 ·exact TV w lo b g c h op z r m k e hC G hf B
 ·exact TU w lo b g c h op z r m k e hC G hf B
 ·exact TT w lo b g c h op z r m k e hC G hf B (he rfl)
 ·exact TS w lo b g c h op z r m k e hC G hf B
 ·exact TR w lo b g c h op z r m k e hC G hf B
 ·exact TQ w lo b g c h op z r m k e hC G hf B
theorem V9 (w:World) (lo b g:Nat) (c:Pl.Mc) (h:Bool) (op z r m k e s:Int) (hC:CAt w lo b g c h) (G:Pl.GM c) (hf:c.f=Pl.aH) (B:Pl.InB ⟨op,z,r,m,k,e,s⟩) (hs:s≤1) (ht:jF w lo) :
  Calls prog 171 #[.pointer (some ⟨b,0,none⟩),.agg (inA op z r m k e s)] w fun e' w'=>∃g',e'=.returned (.agg (ftC (c.bd ⟨op,z,r,m,k,e,s⟩).f))∧CAt w' lo b g' (c.bd ⟨op,z,r,m,k,e,s⟩) h∧Since w b (b+1) g w' g':=by
 have hs0:0≤s:=B.s0
 have hq:s=0∨s=1:=by omega
 rcases hq with rfl|rfl
 ·exact Wh w lo b g c h op z r m k e hC G hf B ht
 ·exact We w lo b g c h op z r m k e hC G hf B ht
theorem TI (w:World) (lo b g:Nat) (c:Pl.Mc) (h:Bool) (op z r m k e s:Int) (hC:CAt w lo b g c h) (G:Pl.GM c) (hf:c.f=Pl.aH) (B:Pl.InB ⟨op,z,r,m,k,e,s⟩) (hs:s≤1) (he:s=0→e≤1023) :
  Calls prog 172 #[.pointer (some ⟨b,0,none⟩),.agg (inA op z r m k e s)] w fun e' w'=>e'=.returned (.tuple #[])∧CAt w' lo b g (c.mvs ⟨op,z,r,m,k,e,s⟩) h∧Kept b (b+1) w w':=by
 have hs0:0≤s:=B.s0
 have hq:s=0∨s=1:=by omega
 rcases hq with rfl|rfl
 ·exact TK w lo b g c h op z r m k e hC G B (he rfl)
 ·exact TJ w lo b g c h op z r m k e hC G B
theorem Ea (w:World) (lo b g:Nat) (c:Pl.Mc) (h:Bool) (op z r m k e s:Int) (hC:CAt w lo b g c h) (G:Pl.GM c) (hf:c.f=Pl.aH) (B:Pl.InB ⟨op,z,r,m,k,e,s⟩) (hop:op=9∨op=1∨op=3∨op=4∨op=5∨op=6∨op=7∨op=8) (h1:m=1→z=2) :
  Calls prog 121 #[.pointer (some ⟨b,0,none⟩),.agg (inA op z r m k e s)] w fun e' w'=>∃g',e'=.returned (.agg (ftC (c.cr ⟨op,z,r,m,k,e,s⟩).f))∧CAt w' lo b g' (c.cr ⟨op,z,r,m,k,e,s⟩) h∧Since w b (b+1) g w' g':=by
 have HB:=hide B
 clear B
 obtain ⟨l0,l1,l2,l3,l4⟩:=hC.lt
 have HG:=hide G
 obtain ⟨X,hX,K0,C0,A0,R0,sX⟩:=hC.jh op z r m k e s
 have p:=A0.o.all
 clear hC G
 obtain ⟨E,hE⟩:∃E,E=c.tk ⟨op,z,r,m,k,e,s⟩:=⟨_,rfl⟩
 obtain ⟨F,hF⟩:∃F,F=E.f:=⟨_,rfl⟩
 have hp:Pl.iR ⟨op,z,r,m,k,e,s⟩=false:=by rcases hop with rfl|rfl|rfl|rfl|rfl|rfl|rfl|rfl<;>rfl
 have E1:Hid (c.cr ⟨op,z,r,m,k,e,s⟩=E):=hide (by unfold Pl.Mc.cr;rw [hp,hE];rcases hop with rfl|rfl|rfl|rfl|rfl|rfl|rfl|rfl<;>rfl)
 have H1:=hide h1
 clear h1
 have HE:=hide hE
 have HF:=hide hF
 have hsup:=dO
 clear hE hF
 rcases hop with rfl|rfl|rfl|rfl|rfl|rfl|rfl|rfl
 all_goals
  go_enter func121,ntmps121
  go_wp2_with (first|(go_at_call 163;refine (QK _ lo b g c h _ z r m k e s C1.o HG.o hf HB.o (by decide) H1.o (fun h9=>absurd h9 (by decide))).mono ?_;rintro e9 W2 ⟨g',rfl,hc,hs⟩;rw [←HE.o] at hc ⊢;rw [←HF.o];unfold ftC;have C2:=hide hc;have R2:=hide (hs.blk R1.o (by omega) (by omega));have n2:=hs.ne (b:=w.heap.size+1) R1.o.lt (by omega);have S2:=hide (((Since.refl w b (b+1) g).any K1.o).trans hs);have r2:=R2.o.all;have rf2:=R2.o.fz;clear hc hs)|(go_at_call 162;refine (hsup _ _ z r m k e s).mono ?_;rintro e9 W1 ⟨rfl,k1⟩;rw [hp];have C1:=hide (C0.o.any k1);have A1:=hide (A0.o.af k1);have R1:=hide (R0.o.af k1);have K1:=hide (K0.o.trans k1);have p1:=A1.o.all;have r1:=R1.o.all;have rf1:=R1.o.fz;have q12:=C1.o.cS;clear k1))
  have KR:=(((((ak W2 (w.heap.size+1) 0 (iv F.v)).one 1 (iv F.pc)).one 2 (iv F.ad)).one 3 (iv F.wo)).one 4 (.bool F.wr))
  refine bodyPost_ret (v:=.agg (ftA F)) ?_ rfl ⟨g',?_,?_,(S2.o).mine KR (by omega)⟩
  ·rw [aj rfl];go_simp
  ·rw [E1.o,←HF.o];rfl
  ·rw [E1.o];exact ((C2.o).kept KR (by omega) (by omega))
theorem LD (w:World) (lo b g:Nat) (c:Pl.Mc) (h:Bool) (op z r m k e s:Int) (hC:CAt w lo b g c h) (G:Pl.GM c) (hf:c.f=Pl.aH) (B:Pl.InB ⟨op,z,r,m,k,e,s⟩) (hop:op=16∨op=17) (h1:m=1→z=2) (h2:z=2) :
  Calls prog 121 #[.pointer (some ⟨b,0,none⟩),.agg (inA op z r m k e s)] w fun e' w'=>∃g',e'=.returned (.agg (ftC (c.cr ⟨op,z,r,m,k,e,s⟩).f))∧CAt w' lo b g' (c.cr ⟨op,z,r,m,k,e,s⟩) h∧Since w b (b+1) g w' g':=by
 have HB:=hide B
 clear B
 obtain ⟨l0,l1,l2,l3,l4⟩:=hC.lt
 have HG:=hide G
 obtain ⟨X,hX,K0,C0,A0,R0,sX⟩:=hC.jh op z r m k e s
 have p:=A0.o.all
 clear hC G
 obtain ⟨E,hE⟩:∃E,E=c.tk ⟨op,z,r,m,k,e,s⟩:=⟨_,rfl⟩
 obtain ⟨F,hF⟩:∃F,F=E.f:=⟨_,rfl⟩
 have hp:Pl.iR ⟨op,z,r,m,k,e,s⟩=false:=by rcases hop with rfl|rfl<;>rfl
 have E1:Hid (c.cr ⟨op,z,r,m,k,e,s⟩=E):=hide (by unfold Pl.Mc.cr;rw [hp,hE];rcases hop with rfl|rfl<;>rfl)
 have H1:=hide h1
 have HZ:=hide h2
 clear h1 h2
 have HE:=hide hE
 have HF:=hide hF
 have hsup:=dO
 clear hE hF
 rcases hop with rfl|rfl
 all_goals
  go_enter func121,ntmps121
  go_wp2_with (first|(go_at_call 163;refine (QK _ lo b g c h _ z r m k e s C1.o HG.o hf HB.o (by decide) H1.o (fun _=>HZ.o)).mono ?_;rintro e9 W2 ⟨g',rfl,hc,hs⟩;rw [←HE.o] at hc ⊢;rw [←HF.o];unfold ftC;have C2:=hide hc;have R2:=hide (hs.blk R1.o (by omega) (by omega));have n2:=hs.ne (b:=w.heap.size+1) R1.o.lt (by omega);have S2:=hide (((Since.refl w b (b+1) g).any K1.o).trans hs);have r2:=R2.o.all;have rf2:=R2.o.fz;clear hc hs)|(go_at_call 162;refine (hsup _ _ z r m k e s).mono ?_;rintro e9 W1 ⟨rfl,k1⟩;rw [hp];have C1:=hide (C0.o.any k1);have A1:=hide (A0.o.af k1);have R1:=hide (R0.o.af k1);have K1:=hide (K0.o.trans k1);have p1:=A1.o.all;have r1:=R1.o.all;have rf1:=R1.o.fz;have q12:=C1.o.cS;clear k1))
  have KR:=(((((ak W2 (w.heap.size+1) 0 (iv F.v)).one 1 (iv F.pc)).one 2 (iv F.ad)).one 3 (iv F.wo)).one 4 (.bool F.wr))
  refine bodyPost_ret (v:=.agg (ftA F)) ?_ rfl ⟨g',?_,?_,(S2.o).mine KR (by omega)⟩
  ·rw [aj rfl];go_simp
  ·rw [E1.o,←HF.o];rfl
  ·rw [E1.o];exact ((C2.o).kept KR (by omega) (by omega))
theorem PN (w:World) (lo b g:Nat) (c:Pl.Mc) (h:Bool) (op z r m k e s:Int) (hC:CAt w lo b g c h) (G:Pl.GM c) (hf:c.f=Pl.aH) (B:Pl.InB ⟨op,z,r,m,k,e,s⟩) (hop:op=2) (hm:m=0∨(2≤m∧m≤6)) :
  Calls prog 121 #[.pointer (some ⟨b,0,none⟩),.agg (inA op z r m k e s)] w fun e' w'=>∃g',e'=.returned (.agg (ftC (c.cr ⟨op,z,r,m,k,e,s⟩).f))∧CAt w' lo b g' (c.cr ⟨op,z,r,m,k,e,s⟩) h∧Since w b (b+1) g w' g':=by
 have HB:=hide B
 clear B
 obtain ⟨l0,l1,l2,l3,l4⟩:=hC.lt
 have HG:=hide G
 obtain ⟨X,hX,K0,C0,A0,R0,sX⟩:=hC.jh op z r m k e s
 have p:=A0.o.all
 clear hC G
 obtain ⟨E,hE⟩:∃E,E=c.gv ⟨op,z,r,m,k,e,s⟩:=⟨_,rfl⟩
 obtain ⟨F,hF⟩:∃F,F=E.f:=⟨_,rfl⟩
 have hp:Pl.iR ⟨op,z,r,m,k,e,s⟩=false:=by rw [hop];rfl
 have E1:Hid (c.cr ⟨op,z,r,m,k,e,s⟩=E):=hide (by unfold Pl.Mc.cr;rw [hp,hE];rw [hop];rfl)
 have HE:=hide hE
 have HF:=hide hF
 have hsup:=dO
 clear hE hF
 obtain rfl:=hop
 all_goals
  go_enter func121,ntmps121
  go_wp2_with (first|(go_at_call 164;refine (V7 _ lo b g c h _ z r m k e s C1.o HG.o hf HB.o hm).mono ?_;rintro e9 W2 ⟨g',rfl,hc,hs⟩;rw [←HE.o] at hc ⊢;rw [←HF.o];unfold ftC;have C2:=hide hc;have R2:=hide (hs.blk R1.o (by omega) (by omega));have n2:=hs.ne (b:=w.heap.size+1) R1.o.lt (by omega);have S2:=hide (((Since.refl w b (b+1) g).any K1.o).trans hs);have r2:=R2.o.all;have rf2:=R2.o.fz;clear hc hs)|(go_at_call 162;refine (hsup _ _ z r m k e s).mono ?_;rintro e9 W1 ⟨rfl,k1⟩;rw [hp];have C1:=hide (C0.o.any k1);have A1:=hide (A0.o.af k1);have R1:=hide (R0.o.af k1);have K1:=hide (K0.o.trans k1);have p1:=A1.o.all;have r1:=R1.o.all;have rf1:=R1.o.fz;have q12:=C1.o.cS;clear k1))
  have KR:=(((((ak W2 (w.heap.size+1) 0 (iv F.v)).one 1 (iv F.pc)).one 2 (iv F.ad)).one 3 (iv F.wo)).one 4 (.bool F.wr))
  refine bodyPost_ret (v:=.agg (ftA F)) ?_ rfl ⟨g',?_,?_,(S2.o).mine KR (by omega)⟩
  ·rw [aj rfl];go_simp
  ·rw [E1.o,←HF.o];rfl
  ·rw [E1.o];exact ((C2.o).kept KR (by omega) (by omega))
theorem PQ (w:World) (lo b g:Nat) (c:Pl.Mc) (h:Bool) (op z r m k e s:Int) (hC:CAt w lo b g c h) (G:Pl.GM c) (hf:c.f=Pl.aH) (B:Pl.InB ⟨op,z,r,m,k,e,s⟩) (hop:op=11) (hm:m=0∨(2≤m∧m≤6)) (hs:s≤3) :
  Calls prog 121 #[.pointer (some ⟨b,0,none⟩),.agg (inA op z r m k e s)] w fun e' w'=>∃g',e'=.returned (.agg (ftC (c.cr ⟨op,z,r,m,k,e,s⟩).f))∧CAt w' lo b g' (c.cr ⟨op,z,r,m,k,e,s⟩) h∧Since w b (b+1) g w' g':=by
 have HB:=hide B
 clear B
 obtain ⟨l0,l1,l2,l3,l4⟩:=hC.lt
 have HG:=hide G
 obtain ⟨X,hX,K0,C0,A0,R0,sX⟩:=hC.jh op z r m k e s
 have p:=A0.o.all
 clear hC G
 obtain ⟨E,hE⟩:∃E,E=c.ch ⟨op,z,r,m,k,e,s⟩:=⟨_,rfl⟩
 obtain ⟨F,hF⟩:∃F,F=E.f:=⟨_,rfl⟩
 have hp:Pl.iR ⟨op,z,r,m,k,e,s⟩=false:=by rw [hop];rfl
 have E1:Hid (c.cr ⟨op,z,r,m,k,e,s⟩=E):=hide (by unfold Pl.Mc.cr;rw [hp,hE];rw [hop];rfl)
 have HE:=hide hE
 have HF:=hide hF
 have hsup:=dO
 clear hE hF
 obtain rfl:=hop
 all_goals
  go_enter func121,ntmps121
  go_wp2_with (first|(go_at_call 165;refine (Lr _ lo b g c h _ z r m k e s C1.o HG.o hf HB.o hs hm).mono ?_;rintro e9 W2 ⟨g',rfl,hc,hs⟩;rw [←HE.o] at hc ⊢;rw [←HF.o];unfold ftC;have C2:=hide hc;have R2:=hide (hs.blk R1.o (by omega) (by omega));have n2:=hs.ne (b:=w.heap.size+1) R1.o.lt (by omega);have S2:=hide (((Since.refl w b (b+1) g).any K1.o).trans hs);have r2:=R2.o.all;have rf2:=R2.o.fz;clear hc hs)|(go_at_call 162;refine (hsup _ _ z r m k e s).mono ?_;rintro e9 W1 ⟨rfl,k1⟩;rw [hp];have C1:=hide (C0.o.any k1);have A1:=hide (A0.o.af k1);have R1:=hide (R0.o.af k1);have K1:=hide (K0.o.trans k1);have p1:=A1.o.all;have r1:=R1.o.all;have rf1:=R1.o.fz;have q12:=C1.o.cS;clear k1))
  have KR:=(((((ak W2 (w.heap.size+1) 0 (iv F.v)).one 1 (iv F.pc)).one 2 (iv F.ad)).one 3 (iv F.wo)).one 4 (.bool F.wr))
  refine bodyPost_ret (v:=.agg (ftA F)) ?_ rfl ⟨g',?_,?_,(S2.o).mine KR (by omega)⟩
  ·rw [aj rfl];go_simp
  ·rw [E1.o,←HF.o];rfl
  ·rw [E1.o];exact ((C2.o).kept KR (by omega) (by omega))
theorem PI (w:World) (lo b g:Nat) (c:Pl.Mc) (h:Bool) (op z r m k e s:Int) (hC:CAt w lo b g c h) (G:Pl.GM c) (hf:c.f=Pl.aH) (B:Pl.InB ⟨op,z,r,m,k,e,s⟩) (hop:op=12) :
  Calls prog 121 #[.pointer (some ⟨b,0,none⟩),.agg (inA op z r m k e s)] w fun e' w'=>∃g',e'=.returned (.agg (ftC (c.cr ⟨op,z,r,m,k,e,s⟩).f))∧CAt w' lo b g' (c.cr ⟨op,z,r,m,k,e,s⟩) h∧Since w b (b+1) g w' g':=by
 have HB:=hide B
 clear B
 obtain ⟨l0,l1,l2,l3,l4⟩:=hC.lt
 have HG:=hide G
 obtain ⟨X,hX,K0,C0,A0,R0,sX⟩:=hC.jh op z r m k e s
 have p:=A0.o.all
 clear hC G
 obtain ⟨E,hE⟩:∃E,E=(c.put z r (Pl.jc s z c.r.f (c.low z r) (k+1))).aB (Pl.oH s z c.r.f (c.low z r) (k+1)):=⟨_,rfl⟩
 obtain ⟨F,hF⟩:∃F,F=E.f:=⟨_,rfl⟩
 have hp:Pl.iR ⟨op,z,r,m,k,e,s⟩=false:=by rw [hop];rfl
 have E1:Hid (c.cr ⟨op,z,r,m,k,e,s⟩=E):=hide (by unfold Pl.Mc.cr;rw [hp,hE];rw [hop];rfl)
 have EF:Hid (E.f=Pl.aH):=hide (by rw [hE];exact hf)
 have HE:=hide hE
 have HF:=hide hF
 have hsup:=dO
 clear hE hF
 obtain rfl:=hop
 all_goals
  go_enter func121,ntmps121
  go_wp2_with (first|(go_at_call 167;refine (TA _ lo b g c h _ z r m k e s C1.o HG.o HB.o).mono ?_;rintro e9 W2 ⟨rfl,hc,hk⟩;rw [←HE.o] at hc;have C2:=hide hc;have R2:=hide (R1.o.kept hk (by omega));have S2:=hide (((Since.refl w b (b+1) g).any K1.o).ai hk (Nat.le_refl _) (Nat.le_refl _));have r2:=R2.o.all;have rf2:=R2.o.fz;clear hc hk)|(go_at_call 162;refine (hsup _ _ z r m k e s).mono ?_;rintro e9 W1 ⟨rfl,k1⟩;rw [hp];have C1:=hide (C0.o.any k1);have A1:=hide (A0.o.af k1);have R1:=hide (R0.o.af k1);have K1:=hide (K0.o.trans k1);have p1:=A1.o.all;have r1:=R1.o.all;have rf1:=R1.o.fz;have q12:=C1.o.cS;clear k1))
  have KR:=(((((ak W2 (w.heap.size+1) 0 (iv 0)).one 1 (iv 0)).one 2 (iv 0)).one 3 (iv 0)).one 4 (.bool false))
  refine bodyPost_ret (v:=.agg ftZ) ?_ rfl ⟨g,?_,?_,(S2.o).mine KR (by omega)⟩
  ·rw [aj rfl];go_simp
  ·rw [E1.o,EF.o];rfl
  ·rw [E1.o];exact ((C2.o).kept KR (by omega) (by omega))
theorem PR (w:World) (lo b g:Nat) (c:Pl.Mc) (h:Bool) (op z r m k e s:Int) (hC:CAt w lo b g c h) (G:Pl.GM c) (hf:c.f=Pl.aH) (B:Pl.InB ⟨op,z,r,m,k,e,s⟩) (hop:op=13) (hr:r≤1) :
  Calls prog 121 #[.pointer (some ⟨b,0,none⟩),.agg (inA op z r m k e s)] w fun e' w'=>∃g',e'=.returned (.agg (ftC (c.cr ⟨op,z,r,m,k,e,s⟩).f))∧CAt w' lo b g' (c.cr ⟨op,z,r,m,k,e,s⟩) h∧Since w b (b+1) g w' g':=by
 have HB:=hide B
 clear B
 obtain ⟨l0,l1,l2,l3,l4⟩:=hC.lt
 have HG:=hide G
 obtain ⟨X,hX,K0,C0,A0,R0,sX⟩:=hC.jh op z r m k e s
 have p:=A0.o.all
 clear hC G
 obtain ⟨E,hE⟩:∃E,E=bif Pl.tst (s+8*r) c.r.f then c.aJ ((c.r.p-2+e)%65536) else c:=⟨_,rfl⟩
 obtain ⟨F,hF⟩:∃F,F=E.f:=⟨_,rfl⟩
 have hp:Pl.iR ⟨op,z,r,m,k,e,s⟩=false:=by rw [hop];rfl
 have E1:Hid (c.cr ⟨op,z,r,m,k,e,s⟩=E):=hide (by unfold Pl.Mc.cr;rw [hp,hE];rw [hop];rfl)
 have EF:Hid (E.f=Pl.aH):=hide (by rw [hE];cases Pl.tst (s+8*r) c.r.f<;>exact hf)
 have HE:=hide hE
 have HF:=hide hF
 have hsup:=dO
 clear hE hF
 obtain rfl:=hop
 all_goals
  go_enter func121,ntmps121
  go_wp2_with (first|(go_at_call 168;refine (PS _ lo b g c h _ z r m k e s C1.o HG.o HB.o hr).mono ?_;rintro e9 W2 ⟨rfl,hc,hk⟩;rw [←HE.o] at hc;have C2:=hide hc;have R2:=hide (R1.o.kept hk (by omega));have S2:=hide (((Since.refl w b (b+1) g).any K1.o).ai hk (Nat.le_refl _) (Nat.le_refl _));have r2:=R2.o.all;have rf2:=R2.o.fz;clear hc hk)|(go_at_call 162;refine (hsup _ _ z r m k e s).mono ?_;rintro e9 W1 ⟨rfl,k1⟩;rw [hp];have C1:=hide (C0.o.any k1);have A1:=hide (A0.o.af k1);have R1:=hide (R0.o.af k1);have K1:=hide (K0.o.trans k1);have p1:=A1.o.all;have r1:=R1.o.all;have rf1:=R1.o.fz;have q12:=C1.o.cS;clear k1))
  have KR:=(((((ak W2 (w.heap.size+1) 0 (iv 0)).one 1 (iv 0)).one 2 (iv 0)).one 3 (iv 0)).one 4 (.bool false))
  refine bodyPost_ret (v:=.agg ftZ) ?_ rfl ⟨g,?_,?_,(S2.o).mine KR (by omega)⟩
  ·rw [aj rfl];go_simp
  ·rw [E1.o,EF.o];rfl
  ·rw [E1.o];exact ((C2.o).kept KR (by omega) (by omega))
theorem PM (w:World) (lo b g:Nat) (c:Pl.Mc) (h:Bool) (op z r m k e s:Int) (hC:CAt w lo b g c h) (G:Pl.GM c) (hf:c.f=Pl.aH) (B:Pl.InB ⟨op,z,r,m,k,e,s⟩) (hop:op=14) (hs:s≤1) :
  Calls prog 121 #[.pointer (some ⟨b,0,none⟩),.agg (inA op z r m k e s)] w fun e' w'=>∃g',e'=.returned (.agg (ftC (c.cr ⟨op,z,r,m,k,e,s⟩).f))∧CAt w' lo b g' (c.cr ⟨op,z,r,m,k,e,s⟩) h∧Since w b (b+1) g w' g':=by
 have HB:=hide B
 clear B
 obtain ⟨l0,l1,l2,l3,l4⟩:=hC.lt
 have HG:=hide G
 obtain ⟨X,hX,K0,C0,A0,R0,sX⟩:=hC.jh op z r m k e s
 have p:=A0.o.all
 clear hC G
 obtain ⟨E,hE⟩:∃E,E=c.jp ⟨op,z,r,m,k,e,s⟩:=⟨_,rfl⟩
 obtain ⟨F,hF⟩:∃F,F=E.f:=⟨_,rfl⟩
 have hp:Pl.iR ⟨op,z,r,m,k,e,s⟩=false:=by rw [hop];rfl
 have E1:Hid (c.cr ⟨op,z,r,m,k,e,s⟩=E):=hide (by unfold Pl.Mc.cr;rw [hp,hE];rw [hop];rfl)
 have HE:=hide hE
 have HF:=hide hF
 have hsup:=dO
 clear hE hF
 obtain rfl:=hop
 all_goals
  go_enter func121,ntmps121
  go_wp2_with (first|(go_at_call 169;refine (TL _ lo b g c h _ z r m k e s C1.o HG.o hf HB.o hs).mono ?_;rintro e9 W2 ⟨g',rfl,hc,hs⟩;rw [←HE.o] at hc ⊢;rw [←HF.o];unfold ftC;have C2:=hide hc;have R2:=hide (hs.blk R1.o (by omega) (by omega));have n2:=hs.ne (b:=w.heap.size+1) R1.o.lt (by omega);have S2:=hide (((Since.refl w b (b+1) g).any K1.o).trans hs);have r2:=R2.o.all;have rf2:=R2.o.fz;clear hc hs)|(go_at_call 162;refine (hsup _ _ z r m k e s).mono ?_;rintro e9 W1 ⟨rfl,k1⟩;rw [hp];have C1:=hide (C0.o.any k1);have A1:=hide (A0.o.af k1);have R1:=hide (R0.o.af k1);have K1:=hide (K0.o.trans k1);have p1:=A1.o.all;have r1:=R1.o.all;have rf1:=R1.o.fz;have q12:=C1.o.cS;clear k1))
  have KR:=(((((ak W2 (w.heap.size+1) 0 (iv F.v)).one 1 (iv F.pc)).one 2 (iv F.ad)).one 3 (iv F.wo)).one 4 (.bool F.wr))
  refine bodyPost_ret (v:=.agg (ftA F)) ?_ rfl ⟨g',?_,?_,(S2.o).mine KR (by omega)⟩
  ·rw [aj rfl];go_simp
  ·rw [E1.o,←HF.o];rfl
  ·rw [E1.o];exact ((C2.o).kept KR (by omega) (by omega))
theorem PP (w:World) (lo b g:Nat) (c:Pl.Mc) (h:Bool) (op z r m k e s:Int) (hC:CAt w lo b g c h) (G:Pl.GM c) (hf:c.f=Pl.aH) (B:Pl.InB ⟨op,z,r,m,k,e,s⟩) (hop:op=18) (hs:s≤1) (ht:jF w lo) :
  Calls prog 121 #[.pointer (some ⟨b,0,none⟩),.agg (inA op z r m k e s)] w fun e' w'=>∃g',e'=.returned (.agg (ftC (c.cr ⟨op,z,r,m,k,e,s⟩).f))∧CAt w' lo b g' (c.cr ⟨op,z,r,m,k,e,s⟩) h∧Since w b (b+1) g w' g':=by
 have HB:=hide B
 clear B
 obtain ⟨l0,l1,l2,l3,l4⟩:=hC.lt
 have HG:=hide G
 obtain ⟨X,hX,K0,C0,A0,R0,sX⟩:=hC.jh op z r m k e s
 have p:=A0.o.all
 clear hC G
 obtain ⟨E,hE⟩:∃E,E=c.bd ⟨op,z,r,m,k,e,s⟩:=⟨_,rfl⟩
 obtain ⟨F,hF⟩:∃F,F=E.f:=⟨_,rfl⟩
 have hp:Pl.iR ⟨op,z,r,m,k,e,s⟩=false:=by rw [hop];rfl
 have E1:Hid (c.cr ⟨op,z,r,m,k,e,s⟩=E):=hide (by unfold Pl.Mc.cr;rw [hp,hE];rw [hop];rfl)
 have TB:=hide ht
 have HE:=hide hE
 have HF:=hide hF
 have hsup:=dO
 clear hE hF
 obtain rfl:=hop
 all_goals
  go_enter func121,ntmps121
  go_wp2_with (first|(go_at_call 171;refine (V9 _ lo b g c h _ z r m k e s C1.o HG.o hf HB.o hs (TB.o.any K1.o)).mono ?_;rintro e9 W2 ⟨g',rfl,hc,hs⟩;rw [←HE.o] at hc ⊢;rw [←HF.o];unfold ftC;have C2:=hide hc;have R2:=hide (hs.blk R1.o (by omega) (by omega));have n2:=hs.ne (b:=w.heap.size+1) R1.o.lt (by omega);have S2:=hide (((Since.refl w b (b+1) g).any K1.o).trans hs);have r2:=R2.o.all;have rf2:=R2.o.fz;clear hc hs)|(go_at_call 162;refine (hsup _ _ z r m k e s).mono ?_;rintro e9 W1 ⟨rfl,k1⟩;rw [hp];have C1:=hide (C0.o.any k1);have A1:=hide (A0.o.af k1);have R1:=hide (R0.o.af k1);have K1:=hide (K0.o.trans k1);have p1:=A1.o.all;have r1:=R1.o.all;have rf1:=R1.o.fz;have q12:=C1.o.cS;clear k1))
  have KR:=(((((ak W2 (w.heap.size+1) 0 (iv F.v)).one 1 (iv F.pc)).one 2 (iv F.ad)).one 3 (iv F.wo)).one 4 (.bool F.wr))
  refine bodyPost_ret (v:=.agg (ftA F)) ?_ rfl ⟨g',?_,?_,(S2.o).mine KR (by omega)⟩
  ·rw [aj rfl];go_simp
  ·rw [E1.o,←HF.o];rfl
  ·rw [E1.o];exact ((C2.o).kept KR (by omega) (by omega))
theorem PO (w:World) (lo b g:Nat) (c:Pl.Mc) (h:Bool) (op z r m k e s:Int) (hC:CAt w lo b g c h) (G:Pl.GM c) (hf:c.f=Pl.aH) (B:Pl.InB ⟨op,z,r,m,k,e,s⟩) (hop:op=15) (hs:s≤6) (he:s=3→e≤1023) :
  Calls prog 121 #[.pointer (some ⟨b,0,none⟩),.agg (inA op z r m k e s)] w fun e' w'=>∃g',e'=.returned (.agg (ftC (c.cr ⟨op,z,r,m,k,e,s⟩).f))∧CAt w' lo b g' (c.cr ⟨op,z,r,m,k,e,s⟩) h∧Since w b (b+1) g w' g':=by
 have HB:=hide B
 clear B
 obtain ⟨l0,l1,l2,l3,l4⟩:=hC.lt
 have HG:=hide G
 obtain ⟨X,hX,K0,C0,A0,R0,sX⟩:=hC.jh op z r m k e s
 have p:=A0.o.all
 clear hC G
 obtain rfl:=hop
 obtain ⟨E,hE⟩:∃E,E=c.fw ⟨15,z,r,m,k,e,s⟩:=⟨_,rfl⟩
 obtain ⟨F,hF⟩:∃F,F=E.f:=⟨_,rfl⟩
 have ET:Hid (c.cr' ⟨15,z,r,m,k,e,s⟩=E):=hide (by rw [hE];rfl)
 have HE:=hide hE
 have HF:=hide hF
 clear hE hF
 rcases Bool.eq_false_or_eq_true c.r.s with hss|hss<;>cases hp:Pl.iR ⟨15,z,r,m,k,e,s⟩
 case inr.true=>
  have E1:Hid (c.cr ⟨15,z,r,m,k,e,s⟩={c with f:=⟨8,0,0,0,false⟩}):=hide (by unfold Pl.Mc.cr;rw [hp,hss];rfl)
  have HSS:=hide hss
  clear hss
  go_enter func121,ntmps121
  go_wp2_with (first|(go_at_call 162;refine (dO _ _ z _ m k e s).mono ?_;rintro e9 W1 ⟨rfl,k1⟩;rw [hp];have C1:=hide (C0.o.any k1);have A1:=hide (A0.o.af k1);have R1:=hide (R0.o.af k1);have K1:=hide (K0.o.trans k1);have p1:=A1.o.all;have r1:=R1.o.all;have rf1:=R1.o.fz;have q12:=C1.o.cS;rw [HSS.o] at q12;clear k1))
  have KR:=(((((ak W1 (w.heap.size+1) 0 (iv 8)).one 1 (iv 0)).one 2 (iv 0)).one 3 (iv 0)).one 4 (.bool false))
  refine bodyPost_ret (v:=.agg #[iv 8,iv 0,iv 0,iv 0,.bool false]) ?_ rfl ⟨g,?_,?_,((Since.refl w b (b+1) g).any K1.o).mine KR (by omega)⟩
  ·rw [aj rfl];go_simp
  ·rw [E1.o];rfl
  ·rw [E1.o];exact ((C1.o).kept KR (by omega) (by omega)).fx rfl rfl rfl rfl rfl
 all_goals
  have E1:Hid (c.cr ⟨15,z,r,m,k,e,s⟩=E):=hide (by unfold Pl.Mc.cr;rw [hp,hss];exact ET.o)
  have HSS:=hide hss
  clear hss
  go_enter func121,ntmps121
  go_wp2_with (first|(go_at_call 170;refine (TP _ lo b g c h _ z r m k e s C1.o HG.o hf HB.o hs he).mono ?_;rintro e9 W2 ⟨g',rfl,hc,hs⟩;rw [←HE.o] at hc ⊢;rw [←HF.o];unfold ftC;have C2:=hide hc;have R2:=hide (hs.blk R1.o (by omega) (by omega));have n2:=hs.ne (b:=w.heap.size+1) R1.o.lt (by omega);have S2:=hide (((Since.refl w b (b+1) g).any K1.o).trans hs);have r2:=R2.o.all;have rf2:=R2.o.fz;clear hc hs)|(go_at_call 162;refine (dO _ _ z _ m k e s).mono ?_;rintro e9 W1 ⟨rfl,k1⟩;rw [hp];have C1:=hide (C0.o.any k1);have A1:=hide (A0.o.af k1);have R1:=hide (R0.o.af k1);have K1:=hide (K0.o.trans k1);have p1:=A1.o.all;have r1:=R1.o.all;have rf1:=R1.o.fz;have q12:=C1.o.cS;rw [HSS.o] at q12;clear k1))
  have KR:=(((((ak W2 (w.heap.size+1) 0 (iv F.v)).one 1 (iv F.pc)).one 2 (iv F.ad)).one 3 (iv F.wo)).one 4 (.bool F.wr))
  refine bodyPost_ret (v:=.agg (ftA F)) ?_ rfl ⟨g',?_,?_,(S2.o).mine KR (by omega)⟩
  ·rw [aj rfl];go_simp
  ·rw [E1.o,←HF.o];rfl
  ·rw [E1.o];exact ((C2.o).kept KR (by omega) (by omega))
theorem PK (w:World) (lo b g:Nat) (c:Pl.Mc) (h:Bool) (op z r m k e s:Int) (hC:CAt w lo b g c h) (G:Pl.GM c) (hf:c.f=Pl.aH) (B:Pl.InB ⟨op,z,r,m,k,e,s⟩) (hop:op=19) (hs:s≤1) (he:s=0→e≤1023) :
  Calls prog 121 #[.pointer (some ⟨b,0,none⟩),.agg (inA op z r m k e s)] w fun e' w'=>∃g',e'=.returned (.agg (ftC (c.cr ⟨op,z,r,m,k,e,s⟩).f))∧CAt w' lo b g' (c.cr ⟨op,z,r,m,k,e,s⟩) h∧Since w b (b+1) g w' g':=by
 have HB:=hide B
 clear B
 obtain ⟨l0,l1,l2,l3,l4⟩:=hC.lt
 have HG:=hide G
 obtain ⟨X,hX,K0,C0,A0,R0,sX⟩:=hC.jh op z r m k e s
 have p:=A0.o.all
 clear hC G
 obtain rfl:=hop
 obtain ⟨E,hE⟩:∃E,E=c.mvs ⟨19,z,r,m,k,e,s⟩:=⟨_,rfl⟩
 obtain ⟨F,hF⟩:∃F,F=E.f:=⟨_,rfl⟩
 have ET:Hid (c.cr' ⟨19,z,r,m,k,e,s⟩=E):=hide (by rw [hE];rfl)
 have EF:Hid (E.f=Pl.aH):=hide (by rw [hE];unfold Pl.Mc.mvs;cases s==0<;>exact hf)
 have HE:=hide hE
 have HF:=hide hF
 clear hE hF
 rcases Bool.eq_false_or_eq_true c.r.s with hss|hss<;>cases hp:Pl.iR ⟨19,z,r,m,k,e,s⟩
 case inr.true=>
  have E1:Hid (c.cr ⟨19,z,r,m,k,e,s⟩={c with f:=⟨8,0,0,0,false⟩}):=hide (by unfold Pl.Mc.cr;rw [hp,hss];rfl)
  have HSS:=hide hss
  clear hss
  go_enter func121,ntmps121
  go_wp2_with (first|(go_at_call 162;refine (dO _ _ z _ m k e s).mono ?_;rintro e9 W1 ⟨rfl,k1⟩;rw [hp];have C1:=hide (C0.o.any k1);have A1:=hide (A0.o.af k1);have R1:=hide (R0.o.af k1);have K1:=hide (K0.o.trans k1);have p1:=A1.o.all;have r1:=R1.o.all;have rf1:=R1.o.fz;have q12:=C1.o.cS;rw [HSS.o] at q12;clear k1))
  have KR:=(((((ak W1 (w.heap.size+1) 0 (iv 8)).one 1 (iv 0)).one 2 (iv 0)).one 3 (iv 0)).one 4 (.bool false))
  refine bodyPost_ret (v:=.agg #[iv 8,iv 0,iv 0,iv 0,.bool false]) ?_ rfl ⟨g,?_,?_,((Since.refl w b (b+1) g).any K1.o).mine KR (by omega)⟩
  ·rw [aj rfl];go_simp
  ·rw [E1.o];rfl
  ·rw [E1.o];exact ((C1.o).kept KR (by omega) (by omega)).fx rfl rfl rfl rfl rfl
 all_goals
  have E1:Hid (c.cr ⟨19,z,r,m,k,e,s⟩=E):=hide (by unfold Pl.Mc.cr;rw [hp,hss];exact ET.o)
  have HSS:=hide hss
  clear hss
  go_enter func121,ntmps121
  go_wp2_with (first|(go_at_call 172;refine (TI _ lo b g c h _ z r m k e s C1.o HG.o hf HB.o hs he).mono ?_;rintro e9 W2 ⟨rfl,hc,hk⟩;rw [←HE.o] at hc;have C2:=hide hc;have R2:=hide (R1.o.kept hk (by omega));have S2:=hide (((Since.refl w b (b+1) g).any K1.o).ai hk (Nat.le_refl _) (Nat.le_refl _));have r2:=R2.o.all;have rf2:=R2.o.fz;clear hc hk)|(go_at_call 162;refine (dO _ _ z _ m k e s).mono ?_;rintro e9 W1 ⟨rfl,k1⟩;rw [hp];have C1:=hide (C0.o.any k1);have A1:=hide (A0.o.af k1);have R1:=hide (R0.o.af k1);have K1:=hide (K0.o.trans k1);have p1:=A1.o.all;have r1:=R1.o.all;have rf1:=R1.o.fz;have q12:=C1.o.cS;rw [HSS.o] at q12;clear k1))
  have KR:=(((((ak W2 (w.heap.size+1) 0 (iv 0)).one 1 (iv 0)).one 2 (iv 0)).one 3 (iv 0)).one 4 (.bool false))
  refine bodyPost_ret (v:=.agg ftZ) ?_ rfl ⟨g,?_,?_,(S2.o).mine KR (by omega)⟩
  ·rw [aj rfl];go_simp
  ·rw [E1.o,EF.o];rfl
  ·rw [E1.o];exact ((C2.o).kept KR (by omega) (by omega))
theorem PL (w:World) (lo b g:Nat) (c:Pl.Mc) (h:Bool) (op z r m k e s:Int) (hC:CAt w lo b g c h) (G:Pl.GM c) (hf:c.f=Pl.aH) (B:Pl.InB ⟨op,z,r,m,k,e,s⟩) (hop:op=10) :
  Calls prog 121 #[.pointer (some ⟨b,0,none⟩),.agg (inA op z r m k e s)] w fun e' w'=>∃g',e'=.returned (.agg (ftC (c.cr ⟨op,z,r,m,k,e,s⟩).f))∧CAt w' lo b g' (c.cr ⟨op,z,r,m,k,e,s⟩) h∧Since w b (b+1) g w' g':=by
 have HB:=hide B
 clear B
 obtain ⟨l0,l1,l2,l3,l4⟩:=hC.lt
 have HG:=hide G
 obtain ⟨X,hX,K0,C0,A0,R0,sX⟩:=hC.jh op z r m k e s
 have p:=A0.o.all
 clear hC G
 obtain rfl:=hop
 have hp:Pl.iR ⟨10,z,r,m,k,e,s⟩=false:=rfl
 obtain ⟨n,rfl⟩:∃n:Nat,r=(n:Int):=⟨r.toNat,by have:0≤r:=HB.o.r0;omega⟩
 have hn:n<4:=by have:(n:Int)≤3:=HB.o.r1;omega
 have i0:(0:Int)≤(n:Int):=by omega
 have i1:(n:Int)<4:=by omega
 obtain ⟨D,hD⟩:∃D,D=c.slot z m k e:=⟨_,rfl⟩
 obtain ⟨a,ha⟩:∃a,a=c.readA z m k e:=⟨_,rfl⟩
 have GD:Hid (Pl.GM D):=hide (by rw [hD];exact HG.o.slot HB.o.k0 HB.o.k1)
 have DF:Hid (D.f=Pl.aH):=hide (by rw [hD];unfold Pl.Mc.slot;cases Pl.Mc.gI m<;>exact hf)
 have E1:Hid (c.cr ⟨10,z,(n:Int),m,k,e,s⟩=D.fM n a):=hide (by unfold Pl.Mc.cr;rw [hp,hD,ha];rfl)
 have HA:=hide ha
 obtain ⟨T,U,hW⟩:=kZ m k e
 have HW:=hide hW
 have HD:=hide hD
 have sa:=uS T U z a
 clear ha hW hD
 go_enter func121,ntmps121
 go_wp2_with (first|(go_at_call 162;refine (dO _ _ z _ m k e s).mono ?_;rintro e9 W1 ⟨rfl,k1⟩;rw [hp];have C1:=hide (C0.o.any k1);have A1:=hide (A0.o.af k1);have R1:=hide (R0.o.af k1);have K1:=hide (K0.o.trans k1);have p1:=A1.o.all;have r1:=R1.o.all;have rf1:=R1.o.fz;have q12:=C1.o.cS;clear k1))
 obtain ⟨u0,u1,u2,u3,u4,u5,u6⟩:=A1.o.c7
 go_region_held3 (fun w'=>w'.cell? ⟨w.heap.size,0,none⟩=some (iv 10)∧w'.cell? ⟨w.heap.size,1,none⟩=some (iv z)∧w'.cell? ⟨w.heap.size,2,none⟩=some (iv (n:Int))∧w'.cell? ⟨w.heap.size,3,none⟩=some (iv m)∧w'.cell? ⟨w.heap.size,4,none⟩=some (iv k)∧w'.cell? ⟨w.heap.size,5,none⟩=some (iv e)∧w'.cell? ⟨w.heap.size,6,none⟩=some (iv s)) (first|with_reducible exact A2.o.c7|with_reducible exact (A2.o.other b (4+n) (iv a) (by omega)).c7|exact (show Blk _ _ _ _ from A1.o).c7)
  (first|(go_at_call 166;refine (rQ _ lo b g c h ⟨10,z,(n:Int),m,k,e,s⟩ C1.o.drew HG.o HB.o).mono ?_;rintro e9 W2 ⟨rfl,hc,hkd⟩;have hk:=bW hkd;rw [←HA.o,HW.o];rw [←HD.o] at hc;have C2:=hide hc;have A2:=hide (A1.o.kept hk (by omega));have R2:=hide (R1.o.kept hk (by omega));have S2:=hide (((Since.refl w b (b+1) g).any K1.o).ai hk (Nat.le_refl _) (Nat.le_refl _));have cy:=hc.cY hn;have cz:=hc.fz;clear hc hk hkd))
 have rr:=(R2.o.other b (4+n) (iv a) (by omega)).all
 have rz:=(R2.o.other b (4+n) (iv a) (by omega)).fz
 go_wp2_with fail
 have KR:=(((((ak (W2.setCell ⟨b,4+n,none⟩ (iv a)) (w.heap.size+1) 0 (iv 0)).one 1 (iv 0)).one 2 (iv 0)).one 3 (iv 0)).one 4 (.bool false))
 refine bodyPost_ret (v:=.agg ftZ) ?_ rfl ⟨g,?_,?_,(S2.o.set b (4+n) (iv a) (.inl (by omega))).mine KR (by omega)⟩
 ·rw [aj rfl];go_simp
 ·rw [E1.o,show (D.fM n a).f=Pl.aH from DF.o];rfl
 ·rw [E1.o];exact ((C2.o.uV GD.o.g.a4 hn a).kept KR (by omega) (by omega))
end Go.Proofs.YtkkmnnhaailkcaaGreatDoor
namespace Go.Proofs.YtkkmnnhaailkcaaGreatDoor.Pl
open Go.RowKit Go.Proofs.Tryz
set_option linter.unusedVariables false
def Mc.wf (c:Mc) (p q:Int):Mc:={c with f:={c.f with pc:=p,wo:=q}}
def iW (v:Int):Bool:=(v==5)||decide (18≤v)
structure Same (a b q:Int) (m d:Mc):Prop where
 bx:m.bx=d.bx
 bl:m.bl=d.bl
 bm:m.bm=d.bm
 st:m.st=d.st
 ok:d.f.v=0→m.f.v=0∧m.r=d.r∧d.f=aH
 no:d.f.v≠0→m.f=⟨d.f.v,bif iW d.f.v then b else a,d.f.ad,q,d.f.wr⟩
theorem Qh (f:Ft) (p q k s a:Int):Mc.fA {f with pc:=p,wo:=q} k s a={Mc.fA f k s a with pc:=p,wo:=q}:=by
 unfold Mc.fA
 cases h:(code k s a != 0)&&(f.v==0)<;>rfl
section
variable (c:Mc) (p q:Int)
theorem acc_wf (k s a v:Int):(c.wf p q).acc k s a v=(c.acc k s a v).wf p q:=by
 show Mc.mk _ _ _ _ _ (Mc.fA {c.f with pc:=p,wo:=q} k s a)=_
 rw [Qh];rfl
theorem uz (z m k e:Int):(c.wf p q).read z m k e=(c.read z m k e).wf p q:=by
 unfold Mc.read
 cases Mc.gI m
 ·exact acc_wf (c.plc z m k e) p q 1 z (bZ c.r z m k e) 0
 ·rfl
theorem qQ (z m k a v:Int):(c.wf p q).write z m k a v=(c.write z m k a v).wf p q:=by
 unfold Mc.write
 cases m==0
 ·exact acc_wf c p q 2 z a v
 ·rfl
theorem qY (z m k e:Int):(c.wf p q).place z m k e=(c.place z m k e).wf p q:=by
 unfold Mc.place
 cases m==0<;>rfl
theorem NK (v:Int):(c.wf p q).push v=(c.push v).wf p q:=by
 unfold Mc.push
 rw [show (c.wf p q).spA=c.spA from rfl,acc_wf]
 show (bif (c.acc 2 2 c.spA v).fine then _ else _)=_
 cases (c.acc 2 2 c.spA v).fine<;>rfl
theorem AP:(c.wf p q).pop=c.pop.wf p q:=by
 unfold Mc.pop
 rw [show (c.wf p q).r=c.r from rfl,acc_wf]
 show (bif (c.acc 1 2 (el c.r.ys 3) 0).fine then _ else _)=_
 cases (c.acc 1 2 (el c.r.ys 3) 0).fine<;>rfl
end
def Mc.bus (c:Mc):Prop:=c.f=aH∨c.f.v=2∨c.f.v=3
theorem nC {f:Ft} (h:f=aH∨f.v=2∨f.v=3) (k s a:Int):Mc.fA f k s a=aH∨(Mc.fA f k s a).v=2∨(Mc.fA f k s a).v=3:=by
 unfold Mc.fA
 cases (code k s a != 0)&&(f.v==0)
 ·exact h
 ·cases code k s a==2
  ·exact .inr (.inl rfl)
  ·exact .inr (.inr rfl)
theorem Mc.bus.read {c:Mc} (h:c.bus) (z m k e:Int):(c.read z m k e).bus:=by
 unfold Mc.read
 cases Mc.gI m
 ·exact nC h _ _ _
 ·exact h
theorem Mc.bus.write {c:Mc} (h:c.bus) (z m k a v:Int):(c.write z m k a v).bus:=by
 unfold Mc.write
 cases m==0
 ·exact nC h _ _ _
 ·exact h
theorem Mc.bus.push {c:Mc} (h:c.bus) (v:Int):(c.push v).bus:=by
 unfold Mc.push
 cases (c.acc 2 2 c.spA v).fine
 ·exact nC h _ _ _
 ·exact nC h _ _ _
theorem Mc.bus.pop {c:Mc} (h:c.bus):c.pop.bus:=by
 unfold Mc.pop
 cases (c.acc 1 2 (el c.r.ys 3) 0).fine
 ·exact nC h _ _ _
 ·exact nC h _ _ _
theorem Same.wf {a b q:Int} {d:Mc} (h:d.bus):Same a b q (d.wf a q) d:=
 ⟨rfl,rfl,rfl,rfl,fun e=>⟨e,rfl,by rcases h with h|h|h<;>first|exact h|(rw [h] at e;cases e)⟩,fun e=>by
  have:iW d.f.v=false:=by rcases h with h|h|h<;>rw [h]<;>rfl
  rw [this];rfl⟩
theorem Same.wr {a b q:Int} {d e:Mc} (h:d.bus) (hv:d.fine=false) (bx:e.bx=d.bx) (bl:e.bl=d.bl) (bm:e.bm=d.bm) (st:e.st=d.st) (f:e.f=d.f):Same a b q (d.wf a q) e:=by
 have hv0:d.f.v≠0:=by intro k;unfold Mc.fine at hv;rw [k] at hv;cases hv
 refine ⟨bx.symm,bl.symm,bm.symm,st.symm,fun k => ?_,fun k => ?_⟩
 ·rw [f] at k;exact absurd k hv0
 ·have:iW d.f.v=false:=by rcases h with h|h|h<;>rw [h]<;>rfl
  rw [f,this];rfl
section
variable {c:Mc}
theorem kT (z m k e:Int) (hm:m=0∨(2≤m∧m≤6)):c.slot z m k e=c.place z m k e∧c.readA z m k e=c.iL z m k e:=by
 have:m=0∨m=2∨m=3∨m=4∨m=5∨m=6:=by omega
 rcases this with rfl|rfl|rfl|rfl|rfl|rfl<;>exact ⟨rfl,rfl⟩
theorem nG (z m k a v f:Int):(c.aB f).write z m k a v=(c.write z m k a v).aB f:=by
 unfold Mc.write
 cases m==0<;>rfl
theorem AY (z m k e f:Int):(c.aB f).place z m k e=(c.place z m k e).aB f:=by
 unfold Mc.place
 cases m==0
 ·show ({c.aB f with r:=cZ (c.aB f).r z m k e}:Mc)=_
  unfold cZ
  by_cases h3:m=3
  ·simp only [h3,if_true];rfl
  ·by_cases h4:m=4
   ·simp only [h4,if_true];rfl
   ·simp only [h3,h4,if_false]
    show _=(c.dh (cZ c.r z m k e)).aB f
    unfold cZ
    simp only [h3,h4,if_false];rfl
 ·rfl
theorem Hm {xs:List Int} {k:Nat} {v:Int} (hk:k<xs.length) (h:v=el xs k):xs.set k v=xs:=by
 apply List.ext_getElem?
 intro j
 by_cases e:k=j
 ·subst e
  rw [List.getElem?_set_self hk,h]
  simp [el,hk]
 ·rw [List.getElem?_set_ne e]
theorem NI (G:GM c) {z r:Int} (hz:z=1∨z=2) (r0:0≤r) (r1:r≤3):c.put z r (c.low z r)=c:=by
 have hl:r.toNat<c.r.xs.length:=by rw [G.g.d4];omega
 have hb:=G.g.dw r.toNat (by omega)
 have e:(if z=1 then el c.r.xs r.toNat/256*256+c.low z r else c.low z r)=el c.r.xs r.toNat:=by
  unfold Mc.low
  rcases hz with rfl|rfl
  ·simp [top];omega
  ·simp [top];omega
 show ({c with r:={c.r with xs:=c.r.xs.set r.toNat (if z=1 then el c.r.xs r.toNat/256*256+c.low z r else c.low z r)}}:Mc)=c
 rw [Hm hl e]
end
theorem Ve {a:Int} (h0:0≤a) (h1:a≤31):bits .or .i64 a 0=a:=by
 obtain ⟨n,rfl⟩:∃n:Nat,a=(n:Int):=⟨a.toNat,by omega⟩
 have:=(bits_nat n 0 (by omega) (by omega)).2.1
 rw [show ((0:Nat):Int)=0 from rfl] at this
 rw [this,Nat.or_zero]
variable {c:Mc} {a b q:Int}
theorem jC (hf:c.f=aH):c.bus:=.inl hf
theorem ND (hf:c.f=aH) (x:In) (hm:x.m=0∨(2≤x.m∧x.m≤6)):Same a b q ((c.wf a q).from' x) (c.gv x):=by
 obtain ⟨e1,e2⟩:=kT (c:=c.aB (aQ x.z c.r.f (c.low x.z x.r))) x.z x.m x.k x.e hm
 have e3:=(kT (c:=c) x.z x.m x.k x.e hm).2
 have e:(c.wf a q).from' x=(c.gv x).wf a q:=by
  unfold Mc.from' Mc.gv
  rw [e1,e3,AY,nG,qY]
  show (((c.place x.z x.m x.k x.e).wf a q).write x.z x.m x.k (c.iL x.z x.m x.k x.e) (c.low x.z x.r)).aB (aQ x.z c.r.f (c.low x.z x.r))=_
  rw [qQ];rfl
 rw [e]
 refine Same.wf ?_
 unfold Mc.gv
 refine Mc.bus.write ?_ _ _ _ _ _
 unfold Mc.slot
 cases Mc.gI x.m<;>exact jC hf
theorem Nz (hf:c.f=aH) (x:In) (ho:x.op=9) (hz:x.z=2):Same a b q (bif ((c.wf a q).read 2 x.m x.k x.e).fine then ((c.wf a q).read 2 x.m x.k x.e).fM x.r.toNat ((c.wf a q).aY 2 x.m x.k x.e) else (c.wf a q).read 2 x.m x.k x.e) (c.tk x):=by
 have hb:=(jC hf).read 2 x.m x.k x.e
 unfold Mc.tk Mc.tk'
 rw [ho,hz,uz]
 show Same a b q (bif (c.read 2 x.m x.k x.e).fine then ((c.read 2 x.m x.k x.e).wf a q).fM x.r.toNat (c.aY 2 x.m x.k x.e) else (c.read 2 x.m x.k x.e).wf a q) _
 cases (c.read 2 x.m x.k x.e).fine
 ·exact Same.wf hb
 ·exact Same.wf (d:=(c.read 2 x.m x.k x.e).fM x.r.toNat (c.aY 2 x.m x.k x.e)) hb
theorem Hy (hf:c.f=aH) (x:In) (hz:x.z=2) (hm:x.m=0∨(2≤x.m∧x.m≤6)):Same a b q (((c.wf a q).place 2 x.m x.k x.e).fM x.r.toNat ((c.wf a q).iL 2 x.m x.k x.e)) (c.lea x):=by
 obtain ⟨e1,e2⟩:=kT (c:=c) 2 x.m x.k x.e hm
 unfold Mc.lea
 rw [hz,e1,e2,qY]
 refine Same.wf (d:=(c.place 2 x.m x.k x.e).fM x.r.toNat (c.iL 2 x.m x.k x.e)) ?_
 show (c.place 2 x.m x.k x.e).bus
 unfold Mc.place
 cases x.m==0<;>exact jC hf
theorem QZ (G:GM c) (x:In) (B:InB x) (ho:x.op=1∨x.op=3∨x.op=4∨x.op=5∨x.op=6∨x.op=7∨x.op=8) (v:Int) (hv:okv x.z v=true) :
  c.two' x (c.low x.z x.r) v=c.tk' x.op x.z x.r v:=by
 have hq:=fJ G B.z B.r0 B.r1
 obtain ⟨b1,b2,b3⟩:=mQ hq hv
 have dat:∀u,okv x.z u=true→c.data x.z x.r u=(c.put x.z x.r u).aB (bits .or .i64 (aQ x.z c.r.f u) (fl (0 != (0:Int)) 2)):=by
  intro u hu
  have h:=dX x.z c.r.f u hu (bG G)
  rw [show fl (0 != (0:Int)) 2=0 from rfl,Ve h.1 h.2]
  rfl
 unfold Mc.two' Mc.tk' cbV cbF cbM cbU
 rcases ho with h|h|h|h|h|h|h<;>rw [h]
 ·exact dat v hv
 ·rfl
 ·rfl
 ·exact dat _ b1
 ·exact dat _ b2
 ·exact dat _ b3
 ·show c.aB (oG x.z c.r.f (c.low x.z x.r) v)=(c.put x.z x.r (c.low x.z x.r)).aB (oG x.z c.r.f (c.low x.z x.r) v)
  rw [NI G B.z B.r0 B.r1]
theorem QY (x:In) (p v:Int):(c.wf a q).two' x p v=(c.two' x p v).wf a q:=by
 unfold Mc.two'
 cases x.op==8<;>cases x.op==3<;>cases x.op==4<;>cases x.op==5<;>cases x.op==6<;>cases x.op==7<;>rfl
theorem MW (h:c.bus) (x:In) (p v:Int):(c.two' x p v).bus:=by
 unfold Mc.two'
 cases x.op==8<;>cases x.op==3<;>cases x.op==4<;>cases x.op==5<;>cases x.op==6<;>cases x.op==7<;>exact h
theorem Hq (G:GM c) (hf:c.f=aH) (x:In) (B:InB x) (h1:x.m=1→x.z=2) (ho:x.op=1∨x.op=3∨x.op=4∨x.op=5∨x.op=6∨x.op=7∨x.op=8):Same a b q ((c.wf a q).two x) (c.tk x):=by
 have hb:=(jC hf).read x.z x.m x.k x.e
 have hv:=di G B.z B.k0 B.k1 B.e0 B.e1 h1 B.n7
 have GR:=G.read (m:=x.m) B.z B.k0 B.k1 B.e0 B.e1
 unfold Mc.two Mc.tk
 rw [uz]
 show Same a b q (bif (c.read x.z x.m x.k x.e).fine then ((c.read x.z x.m x.k x.e).wf a q).two' x ((c.read x.z x.m x.k x.e).low x.z x.r) (c.aY x.z x.m x.k x.e) else (c.read x.z x.m x.k x.e).wf a q) _
 cases (c.read x.z x.m x.k x.e).fine
 ·exact Same.wf hb
 ·show Same a b q (((c.read x.z x.m x.k x.e).wf a q).two' x ((c.read x.z x.m x.k x.e).low x.z x.r) (c.aY x.z x.m x.k x.e)) ((c.read x.z x.m x.k x.e).tk' x.op x.z x.r (c.aY x.z x.m x.k x.e))
  rw [QY,←QZ GR x B ho _ hv]
  exact Same.wf (MW hb _ _ _)
theorem RH (x:In) (ho:x.s=1∨x.s=2∨x.s=3) (d:Mc) (hd:d.r.f=c.r.f) (u v:Int):c.one' d x u v=d.ch' x.z x.m x.k u x.s v:=by
 unfold Mc.one' Mc.ch' chF chV
 rw [hd]
 rcases ho with h|h|h<;>rw [h]
 ·exact (nG x.z x.m x.k u _ _).symm
 ·exact (nG x.z x.m x.k u _ _).symm
 ·rfl
theorem Ht (G:GM c) (hf:c.f=aH) (x:In) (B:InB x) (hm:x.m=0∨(2≤x.m∧x.m≤6)) (hs:x.s≤3):Same a b q ((c.wf a q).one x) (c.ch x):=by
 have hs0:=B.s0
 have hb:=(jC hf).read x.z x.m x.k x.e
 obtain ⟨e1,e2⟩:=kT (c:=c) x.z x.m x.k x.e hm
 by_cases h0:x.s=0
 ·have e:(c.wf a q).one x=(c.ch x).wf a q:=by
   unfold Mc.one Mc.ch
   rw [h0]
   show (c.wf a q).IA x=((c.slot x.z x.m x.k x.e).ch' x.z x.m x.k (c.readA x.z x.m x.k x.e) 0 0).wf a q
   unfold Mc.IA
   rw [e1,e2,qY]
   show (((c.place x.z x.m x.k x.e).wf a q).write x.z x.m x.k (c.iL x.z x.m x.k x.e) 0).aB (aQ x.z c.r.f 0)=_
   rw [qQ]
   show _=(((c.place x.z x.m x.k x.e).aB (aQ x.z (c.place x.z x.m x.k x.e).r.f 0)).write x.z x.m x.k (c.iL x.z x.m x.k x.e) 0).wf a q
   rw [nG,xH];rfl
  rw [e]
  refine Same.wf ?_
  unfold Mc.ch Mc.ch'
  rw [h0]
  refine Mc.bus.write ?_ _ _ _ _ _
  show (c.slot x.z x.m x.k x.e).bus
  unfold Mc.slot
  cases Mc.gI x.m<;>exact jC hf
 ·have h1:x.s=1∨x.s=2∨x.s=3:=by omega
  have hz:(x.s==0)=false:=by simpa using h0
  unfold Mc.one Mc.ch
  rw [hz,uz]
  show Same a b q (bif (c.read x.z x.m x.k x.e).fine then (c.wf a q).one' ((c.read x.z x.m x.k x.e).wf a q) x (c.readA x.z x.m x.k x.e) (c.aY x.z x.m x.k x.e) else (c.read x.z x.m x.k x.e).wf a q) (bif (c.read x.z x.m x.k x.e).fine then (c.read x.z x.m x.k x.e).ch' x.z x.m x.k (c.readA x.z x.m x.k x.e) x.s (c.aY x.z x.m x.k x.e) else c.read x.z x.m x.k x.e)
  cases (c.read x.z x.m x.k x.e).fine
  ·exact Same.wf hb
  ·have e:(c.wf a q).one' ((c.read x.z x.m x.k x.e).wf a q) x (c.readA x.z x.m x.k x.e) (c.aY x.z x.m x.k x.e)=((c.read x.z x.m x.k x.e).ch' x.z x.m x.k (c.readA x.z x.m x.k x.e) x.s (c.aY x.z x.m x.k x.e)).wf a q:=by
    rw [←RH x h1 _ (xC c _ _ _ _)]
    unfold Mc.one'
    rw [qQ,qQ]
    cases x.s==1<;>cases x.s==2<;>rfl
   show Same a b q ((c.wf a q).one' _ _ _ _) _
   rw [e]
   refine Same.wf ?_
   unfold Mc.ch'
   cases x.s==3
   ·have hb':((c.read x.z x.m x.k x.e).aB (chF x.s x.z (c.read x.z x.m x.k x.e).r.f (c.aY x.z x.m x.k x.e))).bus:=hb
    exact hb'.write _ _ _ _ _
   ·exact hb
theorem Hr (hf:c.f=aH) (x:In):Same a b q (((c.wf a q).aB (oH x.s x.z c.r.f (c.low x.z x.r) (x.k+1))).put x.z x.r (jc x.s x.z c.r.f (c.low x.z x.r) (x.k+1))) (c.shf x):=
 Same.wf (d:=c.shf x) (jC (c:=c) hf)
theorem Hz (hf:c.f=aH) (x:In) (ho:x.op=13) (hp:c.r.p=(a+2*2)%65536):Same a b q ((c.wf a q).jump x a) (c.brn x):=by
 unfold Mc.jump Mc.brn
 rw [ho]
 have e:(c.r.p-2+x.e)%65536=(a+2+x.e)%65536:=by omega
 rw [e]
 show Same a b q (bif tst (x.s+8*x.r) c.r.f then (c.wf a q).aJ ((a+2+x.e)%65536) else c.wf a q) _
 cases tst (x.s+8*x.r) c.r.f
 ·exact Same.wf (jC hf)
 ·exact Same.wf (d:=c.aJ ((a+2+x.e)%65536)) (jC (c:=c) hf)
theorem NC (hf:c.f=aH) (x:In) (ho:x.op=14) (hz:x.z=2) (hm:x.m=0∨(2≤x.m∧x.m≤6)):Same a b q ((c.wf a q).jump x a) (c.jp x):=by
 obtain ⟨e1,e2⟩:=kT (c:=c) 2 x.m x.k x.e hm
 have hb:(c.place 2 x.m x.k x.e).bus:=by
  unfold Mc.place
  cases x.m==0<;>exact jC hf
 have hbp:=hb.push c.r.p
 unfold Mc.jump Mc.jp
 rw [ho,hz,e1,e2,qY,show (c.wf a q).r=c.r from rfl,NK]
 show Same a b q (bif x.s==1 then (bif ((c.place 2 x.m x.k x.e).push c.r.p).fine then (((c.place 2 x.m x.k x.e).push c.r.p).aJ (c.iL 2 x.m x.k x.e)).wf a q else ((c.place 2 x.m x.k x.e).push c.r.p).wf a q) else ((c.place 2 x.m x.k x.e).aJ (c.iL 2 x.m x.k x.e)).wf a q) _
 cases x.s==1
 ·exact Same.wf (d:=(c.place 2 x.m x.k x.e).aJ (c.iL 2 x.m x.k x.e)) hb
 ·cases ((c.place 2 x.m x.k x.e).push c.r.p).fine
  ·exact Same.wf hbp
  ·exact Same.wf (d:=((c.place 2 x.m x.k x.e).push c.r.p).aJ (c.iL 2 x.m x.k x.e)) hbp
theorem Hw (G:GM c) (hf:c.f=aH) (x:In) (B:InB x) (hz:x.z=2) (h1:x.m≠1) (ho:x.op=16∨x.op=17) (hp:c.r.p=b):Same a b q ((c.wf a q).product x) (c.tk x):=by
 have h7:x.m=7→okv 2 x.e=true:=by rw [←hz];exact B.n7
 have hb:=(jC hf).read 2 x.m x.k x.e
 have hv:=di (c:=c) G (z:=2) (m:=x.m) (.inr rfl) B.k0 B.k1 B.e0 B.e1 (fun _=>rfl) h7
 have GR:=G.read (z:=2) (m:=x.m) (.inr rfl) B.k0 B.k1 B.e0 B.e1
 have hp2:(c.read 2 x.m x.k x.e).r.p=b:=by
  rw [←hp];unfold Mc.read;cases Mc.gI x.m
  ·exact qZ c.r 2 x.m x.k x.e
  ·rfl
 unfold Mc.product Mc.tk
 rw [uz,hz]
 show Same a b q (bif (c.read 2 x.m x.k x.e).fine then ((c.read 2 x.m x.k x.e).wf a q).jm x (c.aY 2 x.m x.k x.e) else (c.read 2 x.m x.k x.e).wf a q) _
 cases hfi:(c.read 2 x.m x.k x.e).fine
 ·exact Same.wf hb
 ·show Same a b q (((c.read 2 x.m x.k x.e).wf a q).jm x (c.aY 2 x.m x.k x.e)) ((c.read 2 x.m x.k x.e).tk' x.op 2 x.r (c.aY 2 x.m x.k x.e))
  generalize hd:c.read 2 x.m x.k x.e=d at hb GR hp2 hfi ⊢
  generalize hu:c.aY 2 x.m x.k x.e=u at hv ⊢
  have hu2:=aP hv
  have hr:=GR.g.dw x.r.toNat (by have:=B.r1;omega)
  have el2:d.low 2 x.r=el d.r.xs x.r.toNat:=by unfold Mc.low;simp [top];omega
  have hu0:0≤u∧u≤65535:=by simp [top] at hu2;omega
  have hN:d.f=aH:=by rw [←hd];refine qW hf rfl ?_;rw [hd];unfold Mc.fine at hfi;simpa using hfi
  obtain ⟨p,hE⟩:∃p,el d.r.xs x.r.toNat=p:=⟨_,rfl⟩
  rw [hE] at hr el2
  rcases ho with ho|ho
  ·have k2:ok2 p u=true:=by simp [ok2,wOk];omega
   have hpu:0≤p*u:=Int.mul_nonneg hr.1 hu0.1
   have eM:xM p u=p*u%65536:=by unfold xM;rw [if_pos k2]
   have eH:(EJ p u != 0)=decide (65535<p*u):=by
    unfold EJ;rw [if_pos k2]
    generalize p*u=w at hpu
    by_cases h:65535<w
    ·rw [decide_eq_true h];simp;omega
    ·rw [decide_eq_false h];simp;omega
   have e:(d.wf a q).jm x u=(d.tk' x.op 2 x.r u).wf a q:=by
    unfold Mc.jm Mc.tk' cbV cbF cbM cbU
    rw [ho,el2]
    show (d.wf a q).II x (el d.r.xs x.r.toNat*u)=((d.put 2 x.r (xM p u)).aB (bits .or .i64 (aQ 2 d.r.f (xM p u)) (fl (EJ p u != 0) 2))).wf a q
    rw [eM,eH,hE]
    rfl
   rw [e]
   refine Same.wf ?_
   unfold Mc.tk';rw [ho];exact hb
  ·cases h0:u==0
   ·have hn:u≠0:=by simpa using h0
    have eQ:dvQ 0 p u=p/u:=by
     have hk:dOk 0 p u=true:=by simp [dOk,wOk];omega
     unfold dvQ
     rw [if_pos hk]
     exact (yT (by omega) (by omega) (by omega)).1
    have hq2:okv 2 (p/u)=true:=by
     have h1:0≤p/u:=Int.ediv_nonneg (by omega) (by omega)
     have h3:p/u≤p:=Int.ediv_le_self _ (by omega)
     simp [okv,top];omega
    have hL:=dX 2 d.r.f (p/u) hq2 (bG GR)
    have e:(d.wf a q).jm x u=(d.tk' x.op 2 x.r u).wf a q:=by
     unfold Mc.jm Mc.tk' cbV cbF cbM cbU
     rw [ho,el2,h0]
     show (d.wf a q).data 2 x.r (el d.r.xs x.r.toNat/u)=((d.put 2 x.r (dvQ 0 p u)).aB (bits .or .i64 (aQ 2 d.r.f (dvQ 0 p u)) (fl ((0:Int) != 0) 2))).wf a q
     rw [eQ,hE,show fl ((0:Int) != 0) 2=0 from rfl,Ve hL.1 hL.2]
     rfl
    rw [e]
    refine Same.wf ?_
    unfold Mc.tk';rw [ho,h0];exact hb
   ·have e1:(d.wf a q).jm x u=(d.wf a q).raise 5:=by unfold Mc.jm;rw [ho,h0];rfl
    have e2:d.tk' x.op 2 x.r u={d with f:=⟨5,0,0,0,false⟩}:=by unfold Mc.tk';rw [ho,h0];rfl
    rw [e1,e2]
    refine ⟨rfl,rfl,rfl,rfl,fun h=>absurd (show (5:Int)=0 from h) (by decide),fun _ => ?_⟩
    show ({d.f with pc:=d.r.p,wo:=q,v:=5}:Ft)=⟨5,b,0,q,false⟩
    rw [hN,hp2];rfl
theorem NE (G:GM c) (hf:c.f=aH) (x:In) (hp:c.r.p=b) (h4:0≤x.r):Same a b q ((c.wf a q).iD x) (c.fw x):=by
 have hb:=jC hf
 unfold Mc.iD Mc.fw
 cases h0:x.s==0
 ·cases h1:x.s==1
  ·cases h3:x.s==3
   ·cases h4:x.s==4
    ·cases h5:x.s==5
     ·cases h6:x.s==6
      ·exact Same.wf hb
      ·exact Same.wf (d:=(c.put 2 x.r (mY (c.low 1 x.r))).aB (aQ 2 c.r.f (mY (c.low 1 x.r)))) hb
     ·exact Same.wf (d:=(c.put 2 x.r (lT (el c.r.xs x.r.toNat))).aB (aQ 2 c.r.f (lT (el c.r.xs x.r.toNat)))) hb
    ·refine ⟨rfl,rfl,rfl,rfl,fun h => ?_,fun _ => ?_⟩
     ·exfalso
      have:18+x.r=0:=h
      omega
     ·show ({c.f with pc:=c.r.p,wo:=q,v:=18+x.r}:Ft)=⟨18+x.r,bif iW (18+x.r) then b else a,0,q,false⟩
      have:iW (18+x.r)=true:=by unfold iW;simp;omega
      rw [this,hf,hp];rfl
   ·exact Same.wf (d:={c.dh (bJ c.r x.e) with st:=true}) hb
  ·show Same a b q (bif !(c.wf a q).pop.fine then (c.wf a q).pop else bif !(c.wf a q).pop.pop.fine then (c.wf a q).pop.pop else ((c.wf a q).pop.pop.aJ (c.wf a q).pop.dV).dh (bJ ((c.wf a q).pop.pop.aJ (c.wf a q).pop.dV).r ((c.wf a q).dV%1024))) c.cb1
   rw [AP,AP]
   show Same a b q (bif !c.pop.fine then c.pop.wf a q else bif !c.pop.pop.fine then c.pop.pop.wf a q else ((c.pop.pop.aJ c.pop.dV).dh (bJ (c.pop.pop.aJ c.pop.dV).r (c.dV%1024))).wf a q) c.cb1
   unfold Mc.cb1
   cases k1:c.pop.fine
   ·exact Same.wf hb.pop
   ·cases k2:c.pop.pop.fine
    ·exact Same.wr hb.pop.pop k2 rfl rfl rfl rfl rfl
    ·exact Same.wf (d:=(c.pop.pop.aJ c.pop.dV).dh (bJ (c.pop.pop.aJ c.pop.dV).r (c.dV%1024))) hb.pop.pop
 ·show Same a b q ((c.wf a q).pop.aJ c.dV) c.cb0
  rw [AP]
  have e:c.cb0=c.pop.aJ c.dV:=by
   unfold Mc.cb0
   cases c.pop.fine
   ·rfl
   ·have hs:(c.pop.aJ c.dV).r.s=c.r.s∧(c.pop.aJ c.dV).r.t=c.r.t∧(c.pop.aJ c.dV).r.m=c.r.m∧(c.pop.aJ c.dV).r.f=c.r.f:=by
     unfold Mc.pop
     cases (c.acc 1 2 (el c.r.ys 3) 0).fine<;>exact ⟨rfl,rfl,rfl,rfl⟩
    show (c.pop.aJ c.dV).dh _=_
    rw [yP G.g hs.1 hs.2.1 hs.2.2.1 hs.2.2.2]
    rfl
  rw [e]
  exact Same.wf (d:=c.pop.aJ c.dV) hb.pop
theorem KF:∀n:Nat,n<32→∀v c:Bool,bits .or .i64 (fl v (bits .and .i64 (n:Int) 4)) (fl c 17)=fl (v&&((n:Int)/4%2==1)) 4+(if c then 1 else 0)*17:=by decide +kernel
theorem NG (G:GM c) (hf:c.f=aH) (x:In):Same a b q ((c.wf a q).jw x) (c.bd x):=by
 have hb:=jC hf
 have f0:=G.g.f0
 have f1:=G.g.f1
 have hx:c.xOf=c.r.f/16:=by unfold Mc.xOf;omega
 have hbit:bit (c.r.f/16)=true:=by simp [bit];omega
 have l1:c.low 1 x.r=el c.r.xs x.r.toNat%256:=rfl
 have l2:c.low 1 x.k=el c.r.xs x.k.toNat%256:=rfl
 unfold Mc.jw Mc.kL Mc.bd fB
 rw [l1,l2,hbit,Bool.true_and]
 show Same a b q (bif bcd (el c.r.xs x.r.toNat%256)&&bcd (el c.r.xs x.k.toNat%256) then ((c.wf a q).aB (c.nz x.s (el c.r.xs x.r.toNat%256) (el c.r.xs x.k.toNat%256))).put 1 x.r (c.kF x.s (el c.r.xs x.r.toNat%256) (el c.r.xs x.k.toNat%256)) else (c.wf a q).vec 4) _
 generalize el c.r.xs x.r.toNat%256=u
 generalize el c.r.xs x.k.toNat%256=v
 cases bcd u&&bcd v
 ·refine ⟨rfl,rfl,rfl,rfl,fun h=>absurd (show (4:Int)=0 from h) (by decide),fun _ => ?_⟩
  show ({c.f with pc:=a,wo:=q,v:=4}:Ft)=⟨4,a,0,q,false⟩
  rw [hf];rfl
 ·have eV:c.kF x.s u v=dcV x.s (c.r.f/16) u v:=by unfold Mc.kF dcV;rw [hx]
  have eC:c.lN x.s u v=dcC x.s (c.r.f/16) u v:=by unfold Mc.lN dcC;rw [hx]
  have hc:dcC x.s (c.r.f/16) u v=0∨dcC x.s (c.r.f/16) u v=1:=by
   unfold dcC
   have h1:=Ae (c.r.f/16) u v
   have h2:=CW (c.r.f/16) u v
   cases x.s==1
   ·show aC (c.r.f/16) u v=0∨aC (c.r.f/16) u v=1
    omega
   ·show sC (c.r.f/16) u v=0∨sC (c.r.f/16) u v=1
    omega
  have eF:c.nz x.s u v=dcF x.s c.r.f (c.r.f/16) u v:=by
   unfold Mc.nz dcF
   rw [eV,eC]
   obtain ⟨n,hn⟩:∃n:Nat,c.r.f=(n:Int):=⟨c.r.f.toNat,by omega⟩
   have:=KF n (by omega) (dcV x.s (c.r.f/16) u v==0) (dcC x.s (c.r.f/16) u v==1)
   rw [←hn] at this
   rw [this]
   rcases hc with h|h<;>rw [h]<;>rfl
  show Same a b q (((c.wf a q).aB (c.nz x.s u v)).put 1 x.r (c.kF x.s u v)) _
  rw [eV,eF]
  exact Same.wf (d:=(c.put 1 x.r (dcV x.s (c.r.f/16) u v)).aB (dcF x.s c.r.f (c.r.f/16) u v)) hb
theorem Hu (hf:c.f=aH) (x:In):Same a b q ((c.wf a q).stat x) (c.mvs x):=by
 have hb:=jC hf
 unfold Mc.stat Mc.mvs
 cases x.s==0
 ·exact Same.wf (d:=c.dh {c.r with xs:=c.r.xs.set x.r.toNat (status c.r)}) hb
 ·exact Same.wf (d:=c.dh (bJ c.r x.e)) hb
variable {c:Mc}
theorem Df {m:Int} (h:fH m=true):m=0∨(2≤m∧m≤6):=by
 simp only [fH,Bool.or_eq_true,beq_iff_eq] at h;omega
theorem GY {m:Int} (h:((m==0)||kD m)=true):m=0∨(2≤m∧m≤6):=by
 simp only [kD,within,Bool.or_eq_true,Bool.and_eq_true,beq_iff_eq,decide_eq_true_eq] at h;omega
def Oj (x:In):Int:=if jS x.m=true then 2 else 1
theorem Dz {x:In} (hx:dF x=true) :
  ((x.op=1∨x.op=3∨x.op=4∨x.op=5∨x.op=6∨x.op=7∨x.op=8)∧(x.m=1→x.z=2))∨
  (x.op=2∧(x.m=0∨(2≤x.m∧x.m≤6)))∨(x.op=9∧x.z=2)∨
  (x.op=10∧x.z=2∧(x.m=0∨(2≤x.m∧x.m≤6)))∨
  (x.op=11∧(x.m=0∨(2≤x.m∧x.m≤6))∧x.s≤3)∨(x.op=12)∨
  (x.op=13∧x.r≤1∧x.m=7)∨(x.op=14∧x.z=2∧(x.m=0∨(2≤x.m∧x.m≤6))∧x.s≤1)∨
  ((x.op=16∨x.op=17)∧x.z=2∧x.m≠1)∨(x.op=18∧x.s≤1)∨
  (x.op=19∧x.s≤1∧(x.s=0→x.e≤1023))∨(x.op=15∧x.s≤6∧(x.s=3→x.e≤1023)):=by
 obtain ⟨o1,o2,_⟩:=Qy hx
 have hk:ax x=true:=by unfold dF at hx;rw [Bool.and_eq_true] at hx;exact hx.2
 have:x.op=1∨x.op=2∨x.op=3∨x.op=4∨x.op=5∨x.op=6∨x.op=7∨x.op=8∨x.op=9∨x.op=10∨x.op=11∨x.op=12∨x.op=13∨x.op=14∨x.op=15∨x.op=16∨x.op=17∨x.op=18∨x.op=19:=by omega
 have two:((x.s==0)&&((x.z==2) || !(x.m==1)))=true→(x.m=1→x.z=2):=by
  intro h k
  rw [k] at h
  simp at h
  exact h.2
 unfold ax at hk
 rcases this with h|h|h|h|h|h|h|h|h|h|h|h|h|h|h|h|h|h|h<;>rw [h] at hk ⊢
 ·exact .inl ⟨.inl rfl,two hk⟩
 ·refine .inr (.inl ⟨rfl,GY ?_⟩)
  have q:((x.s==0)&&((x.m==0)||kD x.m))=true:=hk
  exact (Bool.and_eq_true_iff.1 q).2
 ·exact .inl ⟨.inr (.inl rfl),two hk⟩
 ·exact .inl ⟨.inr (.inr (.inl rfl)),two hk⟩
 ·exact .inl ⟨.inr (.inr (.inr (.inl rfl))),two hk⟩
 ·exact .inl ⟨.inr (.inr (.inr (.inr (.inl rfl)))),two hk⟩
 ·exact .inl ⟨.inr (.inr (.inr (.inr (.inr (.inl rfl))))),two hk⟩
 ·exact .inl ⟨.inr (.inr (.inr (.inr (.inr (.inr rfl))))),two hk⟩
 ·have q:((x.z==2)&&(x.s==0))=true:=hk
  simp only [Bool.and_eq_true,beq_iff_eq] at q
  exact .inr (.inr (.inl ⟨rfl,q.1⟩))
 ·have q:(((x.z==2)&&(x.s==0))&&fH x.m)=true:=hk
  simp only [Bool.and_eq_true,beq_iff_eq] at q
  exact .inr (.inr (.inr (.inl ⟨rfl,q.1.1,Df q.2⟩)))
 ·have q:(((x.r==0)&&decide (x.s≤3))&&((x.m==0)||kD x.m))=true:=hk
  rw [Bool.and_eq_true,Bool.and_eq_true,decide_eq_true_eq] at q
  exact .inr (.inr (.inr (.inr (.inl ⟨rfl,GY q.2,q.1.2⟩))))
 ·exact .inr (.inr (.inr (.inr (.inr (.inl rfl)))))
 ·have q:(((x.z==2)&&decide (x.r≤1))&&(x.m==7))=true:=hk
  simp only [Bool.and_eq_true,beq_iff_eq,decide_eq_true_eq] at q
  exact .inr (.inr (.inr (.inr (.inr (.inr (.inl ⟨rfl,q.1.2,q.2⟩))))))
 ·have q:((((x.z==2)&&(x.r==0))&&decide (x.s≤1))&&fH x.m)=true:=hk
  simp only [Bool.and_eq_true,beq_iff_eq,decide_eq_true_eq] at q
  exact .inr (.inr (.inr (.inr (.inr (.inr (.inr (.inl ⟨rfl,q.1.1.1,Df q.2,q.1.2⟩)))))))
 ·refine .inr (.inr (.inr (.inr (.inr (.inr (.inr (.inr (.inr (.inr (.inr ⟨rfl,?_⟩))))))))))
  have q:(bif x.s==3 then ((x.z==2)&&(x.r==0))&&jv x.m x.e else (((x.z==2)&&decide (x.s≤6))&&iw x.m x.k x.e)&&(decide (3<x.s)||(x.r==0)))=true:=hk
  cases h3:x.s==3
  ·rw [h3] at q
   have n3:x.s≠3:=by simpa using h3
   have q2:((((x.z==2)&&decide (x.s≤6))&&iw x.m x.k x.e)&&(decide (3<x.s)||(x.r==0)))=true:=q
   simp only [Bool.and_eq_true,decide_eq_true_eq] at q2
   exact ⟨q2.1.1.2,fun k=>absurd k n3⟩
  ·rw [h3] at q
   have n3:x.s=3:=by simpa using h3
   have q2:(((x.z==2)&&(x.r==0))&&jv x.m x.e)=true:=q
   simp only [jv,Bool.and_eq_true,decide_eq_true_eq] at q2
   exact ⟨by omega,fun _=>q2.2.2⟩
 ·have q:(((x.z==2)&&(x.s==0)) && !(x.m==1))=true:=hk
  simp only [Bool.and_eq_true,beq_iff_eq,Bool.not_eq_true',beq_eq_false_iff_ne] at q
  exact .inr (.inr (.inr (.inr (.inr (.inr (.inr (.inr (.inl ⟨.inl rfl,q.1.1,q.2⟩))))))))
 ·have q:(((x.z==2)&&(x.s==0)) && !(x.m==1))=true:=hk
  simp only [Bool.and_eq_true,beq_iff_eq,Bool.not_eq_true',beq_eq_false_iff_ne] at q
  exact .inr (.inr (.inr (.inr (.inr (.inr (.inr (.inr (.inl ⟨.inr rfl,q.1.1,q.2⟩))))))))
 ·have q:(((!(x.z==2))&&decide (x.s≤1))&&(x.m==0))=true:=hk
  simp only [Bool.and_eq_true,decide_eq_true_eq] at q
  exact .inr (.inr (.inr (.inr (.inr (.inr (.inr (.inr (.inr (.inl ⟨rfl,q.1.2⟩)))))))))
 ·have q:((x.z==2)&&((((x.s==0)&&(x.r==0))&&jv x.m x.e)||((x.s==1)&&iw x.m x.k x.e)))=true:=hk
  simp only [jv,Bool.and_eq_true,Bool.or_eq_true,beq_iff_eq,decide_eq_true_eq] at q
  refine .inr (.inr (.inr (.inr (.inr (.inr (.inr (.inr (.inr (.inr (.inl ⟨rfl,?_,?_⟩))))))))))
  ·rcases q.2 with k|k
   ·have:=k.1.1;omega
   ·have:=k.1;omega
  ·intro k0
   rcases q.2 with k|k
   ·exact k.2.2
   ·have:=k.1;omega
theorem NF {a b q:Int} (G:GM c) (hf:c.f=aH) (x:In) (hx:dF x=true) (hp:c.r.p=b) (hb:b=(a+Oj x*2)%65536):Same a b q ((c.wf a q).doI x a) (c.cr' x):=by
 have B:=vJ hx
 have K:=Dz hx
 unfold Mc.doI Mc.cr'
 rcases K with ⟨h,h1⟩|⟨h,hm⟩|⟨h,hz⟩|⟨h,hz,hm⟩|⟨h,hm,hs⟩|h|⟨h,hr,hm⟩|⟨h,hz,hm,hs⟩|⟨h,hz,hm⟩|⟨h,hs⟩|⟨h,hs,he⟩|⟨h,hs,he⟩
 ·have s:=Hq (a:=a) (b:=b) (q:=q) G hf x B h1 h
  rcases h with h|h|h|h|h|h|h<;>rw [h]<;>exact s
 ·rw [h];exact ND hf x hm
 ·rw [h];exact Nz hf x h hz
 ·rw [h];exact Hy hf x hz hm
 ·rw [h];exact Ht G hf x B hm hs
 ·rw [h];exact Hr hf x
 ·rw [h]
  refine Hz hf x h ?_
  rw [hp,hb]
  unfold Oj
  rw [hm];rfl
 ·rw [h];exact NC hf x h hz hm
 ·have s:=Hw (a:=a) (b:=b) (q:=q) G hf x B hz hm h hp
  rcases h with h|h<;>rw [h]<;>exact s
 ·rw [h];exact NG G hf x
 ·rw [h];exact Hu hf x
 ·rw [h];exact NE G hf x hp B.r0
theorem Dc (z m k e:Int):(c.read z m k e).st=c.st:=by unfold Mc.read;cases Mc.gI m<;>rfl
theorem uy (z m k e:Int):(c.slot z m k e).st=c.st:=by unfold Mc.slot;cases Mc.gI m<;>rfl
theorem uJ (z m k a v:Int):(c.write z m k a v).st=c.st:=by unfold Mc.write;cases m==0<;>rfl
theorem NL (v:Int):(c.push v).st=c.st:=by unfold Mc.push;cases (c.acc 2 2 c.spA v).fine<;>rfl
theorem Ib:c.pop.st=c.st:=by unfold Mc.pop;cases (c.acc 1 2 (el c.r.ys 3) 0).fine<;>rfl
theorem gJ (b:Bool) (x y:Mc) (s:Bool) (hx:x.st=s) (hy:y.st=s):(bif b then x else y).st=s:=by cases b<;>assumption
theorem UC (x:In):(c.tk x).st=c.st:=by
 unfold Mc.tk Mc.tk'
 have h:=Dc (c:=c) x.z x.m x.k x.e
 exact gJ _ _ _ _ (gJ _ _ _ _ h (gJ _ _ _ _ h h)) h
theorem VY (x:In):(c.ch x).st=c.st:=by
 unfold Mc.ch Mc.ch'
 have h:=Dc (c:=c) x.z x.m x.k x.e
 have h2:=uy (c:=c) x.z x.m x.k x.e
 refine gJ _ _ _ _ (gJ _ _ _ _ h2 ?_) (gJ _ _ _ _ (gJ _ _ _ _ h ?_) h)
 ·rw [uJ];exact h2
 ·rw [uJ];exact h
theorem VK (x:In):(c.jp x).st=c.st:=by
 unfold Mc.jp
 have h2:=uy (c:=c) x.z x.m x.k x.e
 have h3:=(NL (c:=c.slot x.z x.m x.k x.e) c.r.p).trans h2
 exact gJ _ _ _ _ (gJ _ _ _ _ h3 h3) h2
theorem VO (hf:c.f=aH) (x:In):(c.fw x).f.v≠0→(c.fw x).st=c.st:=by
 unfold Mc.fw
 intro h
 have p1:=Ib (c:=c)
 have p2:=(Ib (c:=c.pop)).trans p1
 cases h0:x.s==0<;>rw [h0] at h
 ·cases h1:x.s==1<;>rw [h1] at h
  ·cases h3:x.s==3<;>rw [h3] at h
   ·show (bif x.s==4 then _ else bif x.s==5 then _ else bif x.s==6 then _ else c:Mc).st=c.st
    exact gJ _ _ _ _ rfl (gJ _ _ _ _ rfl (gJ _ _ _ _ rfl rfl))
   ·exact absurd (show c.f.v=0 by rw [hf];rfl) h
  ·show c.cb1.st=c.st
   unfold Mc.cb1
   exact gJ _ _ _ _ (gJ _ _ _ _ p2 p2) p1
 ·show c.cb0.st=c.st
  unfold Mc.cb0
  exact gJ _ _ _ _ p1 p1
theorem VW (hf:c.f=aH) (x:In):(c.cr' x).f.v≠0→(c.cr' x).st=c.st:=by
 unfold Mc.cr'
 intro h
 cases h2:x.op==2<;>rw [h2] at h
 ·cases h10:x.op==10<;>rw [h10] at h
  ·cases h11:x.op==11<;>rw [h11] at h
   ·cases h12:x.op==12<;>rw [h12] at h
    ·cases h13:x.op==13<;>rw [h13] at h
     ·cases h14:x.op==14<;>rw [h14] at h
      ·cases h15:x.op==15<;>rw [h15] at h
       ·show (bif x.op==18 then c.bd x else bif x.op==19 then c.mvs x else c.tk x).st=c.st
        refine gJ _ _ _ _ ?_ (gJ _ _ _ _ ?_ (UC x))
        ·unfold Mc.bd;exact gJ _ _ _ _ rfl rfl
        ·unfold Mc.mvs;exact gJ _ _ _ _ rfl rfl
       ·exact VO hf x h
      ·exact VK x
     ·show (c.brn x).st=c.st
      unfold Mc.brn;exact gJ _ _ _ _ rfl rfl
    ·rfl
   ·exact VY x
  ·show (c.slot x.z x.m x.k x.e).st=c.st
   exact uy _ _ _ _
 ·show (c.gv x).st=c.st
  unfold Mc.gv
  rw [uJ];exact uy (c:=c.aB _) _ _ _ _
def beh (a:Int) (x:In):Int:=(a+Oj x*2)%65536
def Mc.dn' (c d:Mc) (b a q:Int):Mc:=bif d.f.v==0 then d else {d with r:=c.r,f:=⟨d.f.v,bif iW d.f.v then b else a,d.f.ad,q,d.f.wr⟩}
def Mc.dn (c:Mc) (x:In) (a:Int):Mc:=c.dn' ((c.aJ (beh a x)).cr x) (beh a x) a (oK x%65536)
def Mc.nf (c:Mc):Mc:={c with f:=aH}
def Mc.sp (c:Mc):Mc:=bif c.kX.v==0 then c.fetch.nf.dn c.ay c.r.p else {c.fetch with f:=c.kX}
theorem DL:c.fetch.r=c.r∧c.fetch.st=c.st:=by
 unfold Mc.fetch
 have h3:c.fe3.r=c.r∧c.fe3.st=c.st:=by
  unfold Mc.fe3
  cases fD c.feW==2<;>exact ⟨rfl,rfl⟩
 cases c.fe1.fine
 ·exact ⟨rfl,rfl⟩
 ·cases c.fe3.fine
  ·exact h3
  ·cases dF c.feX
   ·exact h3
   ·exact h3
theorem zO (h:c.fetch.fine=true):c.fe1.fine=true∧c.fe3.fine=true∧dF c.feX=true:=by
 cases h1:c.fe1.fine
 ·rw [(DR h1).1,h1] at h;cases h
 ·cases h3:c.fe3.fine
  ·rw [(DN h1 h3).1,h3] at h;cases h
  ·cases hx:dF c.feX
   ·rw [(yc h1 h3 hx).1] at h;cases h
   ·exact ⟨rfl,rfl,rfl⟩
theorem VQ (hf:c.f=aH) (h3:c.fe3.fine=true) (h1:c.fe1.fine=true):c.fe3.f=⟨0,c.r.p,0,c.feW,false⟩:=by
 have e1:c.fe1.f=⟨0,c.r.p,0,0,false⟩:=by
  have e:c.fe1.f={Mc.fA aH 3 2 c.r.p with pc:=c.r.p,wo:=0}:=by
   show Mc.fA {c.f with pc:=c.r.p} 3 2 c.r.p=_
   rw [hf]
   exact qE c.r.p 0 3 2 c.r.p
  have:((Mc.fA aH 3 2 c.r.p).v != 0)=false:=by
   unfold Mc.fine at h1;rw [e] at h1;simpa using h1
  rw [e,(nU this).2];rfl
 have e2:c.fe2.f={aH with pc:=c.r.p,wo:=c.feW}:=by
  show ({c.fe1.f with wo:=c.feW}:Ft)=_
  rw [e1];rfl
 unfold Mc.fe3 at h3 ⊢
 cases hl:fD c.feW==2
 ·exact e2
 ·rw [hl] at h3
  have e:(c.fe2.acc 3 2 c.feA 0).f={Mc.fA aH 3 2 c.feA with pc:=c.r.p,wo:=c.feW}:=by
   show Mc.fA c.fe2.f 3 2 c.feA=_
   rw [e2];exact qE _ _ _ _ _
  have:((Mc.fA aH 3 2 c.feA).v != 0)=false:=by
   have h3':(c.fe2.acc 3 2 c.feA 0).fine=true:=h3
   unfold Mc.fine at h3';rw [e] at h3';simpa using h3'
  show (c.fe2.acc 3 2 c.feA 0).f=_
  rw [e,(nU this).2];rfl
theorem Tm {c:Mc} (G:GM c):0≤c.feW∧c.feW≤65535:=by
 have h:=(G.ft {c.f with pc:=c.r.p}).jE (k:=3) (s:=2) (a:=c.r.p) (v:=0) (iJ (.inr rfl) G.p0 G.p1)
 have t:=aP h
 have e:c.feW=lv c.bx 3 2 c.r.p 0:=rfl
 have e2:({c with f:={c.f with pc:=c.r.p}}:Mc).jE 3 2 c.r.p 0=lv c.bx 3 2 c.r.p 0:=rfl
 rw [e2] at t
 rw [e]
 simp [top] at t
 omega
theorem Gy {w v:Int} (h0:0≤w) (h1:w≤65535):oK (decode w v)%65536=w:=by
 unfold oK decode
 simp only
 omega
theorem GM.like {m d:Mc} (h:GM m) (bx:m.bx=d.bx) (bl:m.bl=d.bl) (bm:m.bm=d.bm) (g:Good d.r) (p0:0≤d.r.p) (p1:d.r.p≤65535):GM d:=
 ⟨g,p0,p1,by rw [←bx];exact h.bx,by rw [←bx];exact h.ok,by rw [←bl,←bm];exact h.bl,by rw [←bm];exact h.bm,by rw [←bl,←bm];exact h.ac⟩
theorem Ns (k:Cp) (G:GM (Mc.ofC k)):(Mc.ofC k).sp.f=dA k∧(Mc.ofC k).sp.cpu false=aO k∧GM (Mc.ofC k).sp:=by
 have er:stepM k=(Mc.ofC k).s2:=rfl
 have ek:(Mc.ofC k).r=k.r∧(Mc.ofC k).st=k.st:=⟨rfl,rfl⟩
 have hf:(Mc.ofC k).f=aH:=rfl
 unfold dA aO
 rw [er,←ek.1,←ek.2]
 generalize Mc.ofC k=c at G hf
 have GF:=G.fetch
 obtain ⟨fr,fs⟩:=DL (c:=c)
 cases hF:c.fetch.fine
 ·have e1:c.s1=c.fetch:=by unfold Mc.s1;rw [hF];rfl
  have e2:c.s2=c.fetch:=by unfold Mc.s2;rw [e1,hF];rfl
  have eF:c.kX=c.fetch.f:=by unfold Mc.kX;rw [hF];rfl
  have hv:(c.kX.v==0)=false:=by rw [eF];exact hF
  have es:c.sp=c.fetch:=by
   unfold Mc.sp
   rw [hv,eF];rfl
  rw [es,e2,hF]
  refine ⟨rfl,?_,GF⟩
  show Cp.mk c.fetch.r c.fetch.bx c.fetch.bl c.fetch.bm c.fetch.st false=Cp.mk c.r c.fetch.bx c.fetch.bl c.fetch.bm c.st false
  rw [fr,fs]
 ·obtain ⟨h1,h3,hx⟩:=zO hF
  obtain ⟨eD,eI,eN,eF⟩:=xZ h1 h3 hx
  have ff:c.fetch.f=⟨0,c.r.p,0,c.feW,false⟩:=by rw [eD];exact VQ hf h3 h1
  have hw:=Tm G
  have ew:oK c.ay%65536=c.feW:=by rw [eI];exact Gy hw.1 hw.2
  have eb:(c.r.p+2*c.bC)%65536=beh c.r.p c.ay:=by
   unfold beh
   rw [eI,eN,Int.mul_comm 2];rfl
  have hx2:dF c.ay=true:=by rw [eI];exact hx
  have hv:(c.kX.v==0)=true:=by rw [eF];rfl
  have es:c.sp=c.fetch.nf.dn c.ay c.r.p:=by unfold Mc.sp;rw [hv];rfl
  rw [es]
  obtain ⟨x,hX⟩:∃x,c.ay=x:=⟨_,rfl⟩
  rw [hX] at ew eb hx2 ⊢
  have hb:0≤beh c.r.p x∧beh c.r.p x≤65535:=by unfold beh;omega
  obtain ⟨d,hd⟩:∃d,c.fetch.nf=d:=⟨_,rfl⟩
  have gd:GM d:=by rw [←hd];exact GF.ft aH
  have df:d.f=aH:=by rw [←hd];rfl
  have dr:d.r=c.r:=by rw [←hd];exact fr
  have ds:d.st=c.st:=by rw [←hd];exact fs
  have dw:c.fetch=d.wf c.r.p c.feW:=by
   rw [←hd]
   show c.fetch=Mc.mk c.fetch.r c.fetch.bx c.fetch.bl c.fetch.bm c.fetch.st ⟨0,c.r.p,0,c.feW,false⟩
   rw [←ff]
  unfold Mc.dn
  rw [hd,ew]
  have gE:GM (d.aJ (beh c.r.p x)):=gd.aJ hb.1 hb.2
  cases hp:iR x && !c.r.s
  ·have e1:c.s1=c.fetch:=by unfold Mc.s1;rw [hF,fr,hX,hp];rfl
   have e2:c.s2=((d.aJ (beh c.r.p x)).wf c.r.p c.feW).doI x c.r.p:=by unfold Mc.s2;rw [e1,hF,eb,hX,dw];rfl
   have ec:(d.aJ (beh c.r.p x)).cr x=(d.aJ (beh c.r.p x)).cr' x:=by
    unfold Mc.cr
    show (bif iR x && !d.r.s then _ else _)=_
    rw [dr,hp];rfl
   have S:=NF (q:=c.feW) gE df x hx2 (a:=c.r.p) rfl rfl
   have GD:=GM.doI (gE.ft {(d.aJ (beh c.r.p x)).f with pc:=c.r.p,wo:=c.feW}) hx2 c.r.p
   have GS:=VW (c:=d.aJ (beh c.r.p x)) df x
   rw [e2,ec]
   change Same c.r.p (beh c.r.p x) c.feW (((d.aJ (beh c.r.p x)).wf c.r.p c.feW).doI x c.r.p) _ at S
   change GM (((d.aJ (beh c.r.p x)).wf c.r.p c.feW).doI x c.r.p) at GD
   generalize ((d.aJ (beh c.r.p x)).wf c.r.p c.feW).doI x c.r.p=m at S GD
   have GS2:((d.aJ (beh c.r.p x)).cr' x).f.v≠0→((d.aJ (beh c.r.p x)).cr' x).st=d.st:=GS
   generalize (d.aJ (beh c.r.p x)).cr' x=u at S GS2
   clear GS
   unfold Mc.dn'
   cases hu:u.f.v==0
   ·have hn:u.f.v≠0:=by simpa using hu
    have mf:=S.no hn
    have mn:m.fine=false:=by unfold Mc.fine;rw [mf];exact hu
    rw [mn]
    refine ⟨mf.symm,?_,?_⟩
    ·show Cp.mk d.r u.bx u.bl u.bm u.st false=Cp.mk c.r m.bx m.bl m.bm c.st false
     rw [dr,S.bx,S.bl,S.bm,GS2 hn,ds]
    ·exact GM.like (d:={u with r:=d.r,f:=⟨u.f.v,bif iW u.f.v then beh c.r.p x else c.r.p,u.f.ad,c.feW,u.f.wr⟩}) GD S.bx S.bl S.bm gd.g gd.p0 gd.p1
   ·have hz:u.f.v=0:=by simpa using hu
    obtain ⟨m0,mr,uf⟩:=S.ok hz
    have mn:m.fine=true:=by unfold Mc.fine;rw [m0];rfl
    rw [mn]
    refine ⟨uf,?_,?_⟩
    ·show Cp.mk u.r u.bx u.bl u.bm u.st false=Cp.mk m.r m.bx m.bl m.bm m.st false
     rw [mr,S.bx,S.bl,S.bm,S.st]
    ·exact GM.like (d:=u) GD S.bx S.bl S.bm (by rw [←mr];exact GD.g) (by rw [←mr];exact GD.p0) (by rw [←mr];exact GD.p1)
  ·have e1:c.s1=c.fetch.vec 8:=by unfold Mc.s1;rw [hF,fr,hX,hp];rfl
   have e2:c.s2=c.fetch.vec 8:=by unfold Mc.s2;rw [e1];rfl
   have ec:(d.aJ (beh c.r.p x)).cr x={d.aJ (beh c.r.p x) with f:=⟨8,0,0,0,false⟩}:=by
    unfold Mc.cr
    show (bif iR x && !d.r.s then _ else _)=_
    rw [dr,hp];rfl
   rw [e2,ec,dw]
   refine ⟨?_,?_,?_⟩
   ·show Ft.mk 8 c.r.p 0 c.feW false={d.f with pc:=c.r.p,wo:=c.feW,v:=8}
    rw [df];rfl
   ·show Cp.mk d.r d.bx d.bl d.bm d.st false=Cp.mk c.r d.bx d.bl d.bm c.st false
    rw [dr,ds]
   ·exact gd.ft ⟨8,c.r.p,0,c.feW,false⟩
end Go.Proofs.YtkkmnnhaailkcaaGreatDoor.Pl
namespace Go.Proofs.YtkkmnnhaailkcaaGreatDoor
open Go.RowKit Go.Proofs.Tryz
set_option linter.unusedVariables false
theorem TZ (w:World) (lo b g:Nat) (c:Pl.Mc) (h:Bool) (op z r m k e s:Int) (hC:CAt w lo b g c h) (G:Pl.GM c) (hf:c.f=Pl.aH) (hx:Pl.dF ⟨op,z,r,m,k,e,s⟩=true) (ht:jF w lo) :
  Calls prog 121 #[.pointer (some ⟨b,0,none⟩),.agg (inA op z r m k e s)] w fun e' w'=>∃g',e'=.returned (.agg (ftC (c.cr ⟨op,z,r,m,k,e,s⟩).f))∧CAt w' lo b g' (c.cr ⟨op,z,r,m,k,e,s⟩) h∧Since w b (b+1) g w' g':=by
 have B:=Pl.vJ hx
 rcases Pl.Dz hx with ⟨ho,h1⟩|⟨ho,hm⟩|⟨ho,hz⟩|⟨ho,hz,hm⟩|⟨ho,hm,hs⟩|ho|⟨ho,hr,hm⟩|⟨ho,hz,hm,hs⟩|⟨ho,hz,hm⟩|⟨ho,hs⟩|⟨ho,hs,he⟩|⟨ho,hs,he⟩
 ·simp only at ho
  exact Ea w lo b g c h op z r m k e s hC G hf B (by omega) h1
 ·exact PN w lo b g c h op z r m k e s hC G hf B ho hm
 ·exact Ea w lo b g c h op z r m k e s hC G hf B (.inl ho) (fun _=>hz)
 ·exact PL w lo b g c h op z r m k e s hC G hf B ho
 ·exact PQ w lo b g c h op z r m k e s hC G hf B ho hm hs
 ·exact PI w lo b g c h op z r m k e s hC G hf B ho
 ·exact PR w lo b g c h op z r m k e s hC G hf B ho hr
 ·exact PM w lo b g c h op z r m k e s hC G hf B ho hs
 ·exact LD w lo b g c h op z r m k e s hC G hf B ho (fun q=>absurd q hm) hz
 ·exact PP w lo b g c h op z r m k e s hC G hf B ho hs ht
 ·exact PK w lo b g c h op z r m k e s hC G hf B ho hs he
 ·exact PO w lo b g c h op z r m k e s hC G hf B ho hs he
theorem iW (v:Int) (w:World):Calls prog 58 #[iv v] w fun e w'=>e=.returned (.bool (Pl.iW v))∧w'=w:=by
 cases h0:(v==5)
 ·go_enter func58,ntmps58
  go_wp2
  go_ret
  exact ⟨by unfold Pl.iW;rw [h0];rfl,rfl⟩
 ·go_enter func58,ntmps58
  go_wp2
  go_ret
  exact ⟨by unfold Pl.iW;rw [h0];rfl,rfl⟩
theorem Blk.QN {w:World} {b:Nat} {u0 u1 u2 u3 u4 u5 u6 u7 u8 u9 u10 u11 u12 u13 v0 v1 v2 v3 v4 v5 v6 v7 v8 v9 v10 v11 v12 v13:Value} {B:Array Value} {ty:TypeId} (h:Blk w b (#[u0,u1,u2,u3,u4,u5,u6,u7,u8,u9,u10,u11,u12,u13]++B) ty):Blk ((((((((((((((w.setCell ⟨b,0,none⟩ (v0)).setCell ⟨b,1,none⟩ (v1)).setCell ⟨b,2,none⟩ (v2)).setCell ⟨b,3,none⟩ (v3)).setCell ⟨b,4,none⟩ (v4)).setCell ⟨b,5,none⟩ (v5)).setCell ⟨b,6,none⟩ (v6)).setCell ⟨b,7,none⟩ (v7)).setCell ⟨b,8,none⟩ (v8)).setCell ⟨b,9,none⟩ (v9)).setCell ⟨b,10,none⟩ (v10)).setCell ⟨b,11,none⟩ (v11)).setCell ⟨b,12,none⟩ (v12)).setCell ⟨b,13,none⟩ (v13)) b (#[v0,v1,v2,v3,v4,v5,v6,v7,v8,v9,v10,v11,v12,v13]++B) ty:=by
 have h0:Blk (w.setCell ⟨b,0,none⟩ v0) b (#[v0,u1,u2,u3,u4,u5,u6,u7,u8,u9,u10,u11,u12,u13]++B) ty:=by have q:=Blk.set h 0 v0;rw [set_left (by simp)] at q;exact q
 have h1:Blk ((w.setCell ⟨b,0,none⟩ v0).setCell ⟨b,1,none⟩ v1) b (#[v0,v1,u2,u3,u4,u5,u6,u7,u8,u9,u10,u11,u12,u13]++B) ty:=by have q:=Blk.set h0 1 v1;rw [set_left (by simp)] at q;exact q
 have h2:Blk (((w.setCell ⟨b,0,none⟩ v0).setCell ⟨b,1,none⟩ v1).setCell ⟨b,2,none⟩ v2) b (#[v0,v1,v2,u3,u4,u5,u6,u7,u8,u9,u10,u11,u12,u13]++B) ty:=by have q:=Blk.set h1 2 v2;rw [set_left (by simp)] at q;exact q
 have h3:Blk ((((w.setCell ⟨b,0,none⟩ v0).setCell ⟨b,1,none⟩ v1).setCell ⟨b,2,none⟩ v2).setCell ⟨b,3,none⟩ v3) b (#[v0,v1,v2,v3,u4,u5,u6,u7,u8,u9,u10,u11,u12,u13]++B) ty:=by have q:=Blk.set h2 3 v3;rw [set_left (by simp)] at q;exact q
 have h4:Blk (((((w.setCell ⟨b,0,none⟩ v0).setCell ⟨b,1,none⟩ v1).setCell ⟨b,2,none⟩ v2).setCell ⟨b,3,none⟩ v3).setCell ⟨b,4,none⟩ v4) b (#[v0,v1,v2,v3,v4,u5,u6,u7,u8,u9,u10,u11,u12,u13]++B) ty:=by have q:=Blk.set h3 4 v4;rw [set_left (by simp)] at q;exact q
 have h5:Blk ((((((w.setCell ⟨b,0,none⟩ v0).setCell ⟨b,1,none⟩ v1).setCell ⟨b,2,none⟩ v2).setCell ⟨b,3,none⟩ v3).setCell ⟨b,4,none⟩ v4).setCell ⟨b,5,none⟩ v5) b (#[v0,v1,v2,v3,v4,v5,u6,u7,u8,u9,u10,u11,u12,u13]++B) ty:=by have q:=Blk.set h4 5 v5;rw [set_left (by simp)] at q;exact q
 have h6:Blk (((((((w.setCell ⟨b,0,none⟩ v0).setCell ⟨b,1,none⟩ v1).setCell ⟨b,2,none⟩ v2).setCell ⟨b,3,none⟩ v3).setCell ⟨b,4,none⟩ v4).setCell ⟨b,5,none⟩ v5).setCell ⟨b,6,none⟩ v6) b (#[v0,v1,v2,v3,v4,v5,v6,u7,u8,u9,u10,u11,u12,u13]++B) ty:=by have q:=Blk.set h5 6 v6;rw [set_left (by simp)] at q;exact q
 have h7:Blk ((((((((w.setCell ⟨b,0,none⟩ v0).setCell ⟨b,1,none⟩ v1).setCell ⟨b,2,none⟩ v2).setCell ⟨b,3,none⟩ v3).setCell ⟨b,4,none⟩ v4).setCell ⟨b,5,none⟩ v5).setCell ⟨b,6,none⟩ v6).setCell ⟨b,7,none⟩ v7) b (#[v0,v1,v2,v3,v4,v5,v6,v7,u8,u9,u10,u11,u12,u13]++B) ty:=by have q:=Blk.set h6 7 v7;rw [set_left (by simp)] at q;exact q
 have h8:Blk (((((((((w.setCell ⟨b,0,none⟩ v0).setCell ⟨b,1,none⟩ v1).setCell ⟨b,2,none⟩ v2).setCell ⟨b,3,none⟩ v3).setCell ⟨b,4,none⟩ v4).setCell ⟨b,5,none⟩ v5).setCell ⟨b,6,none⟩ v6).setCell ⟨b,7,none⟩ v7).setCell ⟨b,8,none⟩ v8) b (#[v0,v1,v2,v3,v4,v5,v6,v7,v8,u9,u10,u11,u12,u13]++B) ty:=by have q:=Blk.set h7 8 v8;rw [set_left (by simp)] at q;exact q
 have h9:Blk ((((((((((w.setCell ⟨b,0,none⟩ v0).setCell ⟨b,1,none⟩ v1).setCell ⟨b,2,none⟩ v2).setCell ⟨b,3,none⟩ v3).setCell ⟨b,4,none⟩ v4).setCell ⟨b,5,none⟩ v5).setCell ⟨b,6,none⟩ v6).setCell ⟨b,7,none⟩ v7).setCell ⟨b,8,none⟩ v8).setCell ⟨b,9,none⟩ v9) b (#[v0,v1,v2,v3,v4,v5,v6,v7,v8,v9,u10,u11,u12,u13]++B) ty:=by have q:=Blk.set h8 9 v9;rw [set_left (by simp)] at q;exact q
 have h10:Blk (((((((((((w.setCell ⟨b,0,none⟩ v0).setCell ⟨b,1,none⟩ v1).setCell ⟨b,2,none⟩ v2).setCell ⟨b,3,none⟩ v3).setCell ⟨b,4,none⟩ v4).setCell ⟨b,5,none⟩ v5).setCell ⟨b,6,none⟩ v6).setCell ⟨b,7,none⟩ v7).setCell ⟨b,8,none⟩ v8).setCell ⟨b,9,none⟩ v9).setCell ⟨b,10,none⟩ v10) b (#[v0,v1,v2,v3,v4,v5,v6,v7,v8,v9,v10,u11,u12,u13]++B) ty:=by have q:=Blk.set h9 10 v10;rw [set_left (by simp)] at q;exact q
 have h11:Blk ((((((((((((w.setCell ⟨b,0,none⟩ v0).setCell ⟨b,1,none⟩ v1).setCell ⟨b,2,none⟩ v2).setCell ⟨b,3,none⟩ v3).setCell ⟨b,4,none⟩ v4).setCell ⟨b,5,none⟩ v5).setCell ⟨b,6,none⟩ v6).setCell ⟨b,7,none⟩ v7).setCell ⟨b,8,none⟩ v8).setCell ⟨b,9,none⟩ v9).setCell ⟨b,10,none⟩ v10).setCell ⟨b,11,none⟩ v11) b (#[v0,v1,v2,v3,v4,v5,v6,v7,v8,v9,v10,v11,u12,u13]++B) ty:=by have q:=Blk.set h10 11 v11;rw [set_left (by simp)] at q;exact q
 have h12:Blk (((((((((((((w.setCell ⟨b,0,none⟩ v0).setCell ⟨b,1,none⟩ v1).setCell ⟨b,2,none⟩ v2).setCell ⟨b,3,none⟩ v3).setCell ⟨b,4,none⟩ v4).setCell ⟨b,5,none⟩ v5).setCell ⟨b,6,none⟩ v6).setCell ⟨b,7,none⟩ v7).setCell ⟨b,8,none⟩ v8).setCell ⟨b,9,none⟩ v9).setCell ⟨b,10,none⟩ v10).setCell ⟨b,11,none⟩ v11).setCell ⟨b,12,none⟩ v12) b (#[v0,v1,v2,v3,v4,v5,v6,v7,v8,v9,v10,v11,v12,u13]++B) ty:=by have q:=Blk.set h11 12 v12;rw [set_left (by simp)] at q;exact q
 have h13:Blk ((((((((((((((w.setCell ⟨b,0,none⟩ v0).setCell ⟨b,1,none⟩ v1).setCell ⟨b,2,none⟩ v2).setCell ⟨b,3,none⟩ v3).setCell ⟨b,4,none⟩ v4).setCell ⟨b,5,none⟩ v5).setCell ⟨b,6,none⟩ v6).setCell ⟨b,7,none⟩ v7).setCell ⟨b,8,none⟩ v8).setCell ⟨b,9,none⟩ v9).setCell ⟨b,10,none⟩ v10).setCell ⟨b,11,none⟩ v11).setCell ⟨b,12,none⟩ v12).setCell ⟨b,13,none⟩ v13) b (#[v0,v1,v2,v3,v4,v5,v6,v7,v8,v9,v10,v11,v12,v13]++B) ty:=by have q:=Blk.set h12 13 v13;rw [set_left (by simp)] at q;exact q
 exact h13
theorem Blk.MP {w:World} {b:Nat} {u0 u1 u2 u3 u4 u5 u6 u7 u8 u9 u10 u11 u12 u13 v0 v1 v2 v3 v4 v5 v6 v7 v8 v9 v10 v11 v12 v13:Value} {ty:TypeId} (h:Blk w b #[u0,u1,u2,u3,u4,u5,u6,u7,u8,u9,u10,u11,u12,u13] ty):Blk ((((((((((((((w.setCell ⟨b,0,none⟩ (v0)).setCell ⟨b,1,none⟩ (v1)).setCell ⟨b,2,none⟩ (v2)).setCell ⟨b,3,none⟩ (v3)).setCell ⟨b,4,none⟩ (v4)).setCell ⟨b,5,none⟩ (v5)).setCell ⟨b,6,none⟩ (v6)).setCell ⟨b,7,none⟩ (v7)).setCell ⟨b,8,none⟩ (v8)).setCell ⟨b,9,none⟩ (v9)).setCell ⟨b,10,none⟩ (v10)).setCell ⟨b,11,none⟩ (v11)).setCell ⟨b,12,none⟩ (v12)).setCell ⟨b,13,none⟩ (v13)) b #[v0,v1,v2,v3,v4,v5,v6,v7,v8,v9,v10,v11,v12,v13] ty:=by
 have q:=Blk.QN (u0:=u0) (u1:=u1) (u2:=u2) (u3:=u3) (u4:=u4) (u5:=u5) (u6:=u6) (u7:=u7) (u8:=u8) (u9:=u9) (u10:=u10) (u11:=u11) (u12:=u12) (u13:=u13) (v0:=v0) (v1:=v1) (v2:=v2) (v3:=v3) (v4:=v4) (v5:=v5) (v6:=v6) (v7:=v7) (v8:=v8) (v9:=v9) (v10:=v10) (v11:=v11) (v12:=v12) (v13:=v13) (B:=#[]) (w:=w) (b:=b) (ty:=ty) (by rw [Array.append_empty];exact h)
 rw [Array.append_empty] at q
 exact q
theorem JK (w:World) (b:Nat) (v0 v1 v2 v3 v4 v5 v6 v7 v8 v9 v10 v11 v12 v13:Value):Kept b (b+1) w ((((((((((((((w.setCell ⟨b,0,none⟩ (v0)).setCell ⟨b,1,none⟩ (v1)).setCell ⟨b,2,none⟩ (v2)).setCell ⟨b,3,none⟩ (v3)).setCell ⟨b,4,none⟩ (v4)).setCell ⟨b,5,none⟩ (v5)).setCell ⟨b,6,none⟩ (v6)).setCell ⟨b,7,none⟩ (v7)).setCell ⟨b,8,none⟩ (v8)).setCell ⟨b,9,none⟩ (v9)).setCell ⟨b,10,none⟩ (v10)).setCell ⟨b,11,none⟩ (v11)).setCell ⟨b,12,none⟩ (v12)).setCell ⟨b,13,none⟩ (v13)):=((((((((((((((ak w b 0 (v0)).one 1 (v1)).one 2 (v2)).one 3 (v3)).one 4 (v4)).one 5 (v5)).one 6 (v6)).one 7 (v7)).one 8 (v8)).one 9 (v9)).one 10 (v10)).one 11 (v11)).one 12 (v12)).one 13 (v13))
theorem CAt.X8 {w:World} {lo b g:Nat} {c:Pl.Mc} {h:Bool} (a:CAt w lo b g c h) (r:Pl.Rg):CAt ((((((((((((((w.setCell ⟨b,0,none⟩ ((iv (el r.xs 0)))).setCell ⟨b,1,none⟩ ((iv (el r.xs 1)))).setCell ⟨b,2,none⟩ ((iv (el r.xs 2)))).setCell ⟨b,3,none⟩ ((iv (el r.xs 3)))).setCell ⟨b,4,none⟩ ((iv (el r.ys 0)))).setCell ⟨b,5,none⟩ ((iv (el r.ys 1)))).setCell ⟨b,6,none⟩ ((iv (el r.ys 2)))).setCell ⟨b,7,none⟩ ((iv (el r.ys 3)))).setCell ⟨b,8,none⟩ ((iv r.o))).setCell ⟨b,9,none⟩ ((iv r.p))).setCell ⟨b,10,none⟩ ((iv r.f))).setCell ⟨b,11,none⟩ ((iv r.m))).setCell ⟨b,12,none⟩ ((.bool r.s))).setCell ⟨b,13,none⟩ ((.bool r.t))) lo b g (c.dh r) h:=by
 obtain ⟨cu,hB,hO⟩:=a
 exact ⟨cu,Blk.QN (show Blk w b (bkR c.r++_) _ from hB),hO.own (JK _ _ _ _ _ _ _ _ _ _ _ _ _ _ _ _)⟩
end Go.Proofs.YtkkmnnhaailkcaaGreatDoor
