/- Part 21 of what the last text leans on. -/
import Derived.Test.YtgikibaajanjiaaGreatDoorJB17
import Derived.Test.YtgikibaajanjiaaGreatDoorJB20
import Derived.Test.YtgikibaajanjiaaGreatDoorJB16
import Derived.Test.YtgikibaajanjiaaGreatDoorJB13
import Derived.Test.YtgikibaajanjiaaGreatDoorJB14
import Derived.Deep.RegionHeld3
import Derived.Test.YtgikibaajanjiaaGreatDoorJB5
import Derived.Test.YtgikibaajanjiaaGreatDoorJB1
import Derived.Test.YtgikibaajanjiaaGreatDoorJB15
set_option maxRecDepth 100000
set_option maxHeartbeats 16000000
namespace Go.Proofs.YtgikibaajanjiaaGreatDoor
open Pl
open Go.RowKit Go.Proofs.Tryz
set_option linter.unusedVariables false
namespace Pl
def Mc.lea (c:Mc) (x:In):Mc:=(c.slot x.z x.m x.k x.e).fB x.r.toNat (c.readA x.z x.m x.k x.e)
def Mc.shf (c:Mc) (x:In):Mc:=(c.put x.z x.r (iU x.s x.z c.r.f (c.low x.z x.r) (x.k+1))).aJ (nU x.s x.z c.r.f (c.low x.z x.r) (x.k+1))
def Mc.brn (c:Mc) (x:In):Mc:=bif tst (x.s+8*x.r) c.r.f then c.aH ((c.r.p-2+x.e)%65536) else c
def Mc.mvs (c:Mc) (x:In):Mc:=bif x.s==0 then c.bC (aW c.r x.e) else c.bC {c.r with xs:=c.r.xs.set x.r.toNat (status c.r)}
def Mc.cr' (c:Mc) (x:In):Mc:=bif x.op==2 then c.gv x else bif x.op==10 then c.lea x else bif x.op==11 then c.ch x else bif x.op==12 then c.shf x else bif x.op==13 then c.brn x else bif x.op==14 then c.jp x else bif x.op==15 then c.fw x else bif x.op==18 then c.bd x else bif x.op==19 then c.mvs x else c.tk x
def Mc.cr (c:Mc) (x:In):Mc:=bif jl x && !c.r.s then {c with f:=⟨8,0,0,0,false⟩} else c.cr' x
end Pl
variable (w:World) (lo b g:Nat) (c:Mc) (h:Hl)
theorem MQ (op z r m k e s:Int) (hC:CAt w lo b g c h) (G:GM c) (hf:c.f=aI) (B:InB ⟨op,z,r,m,k,e,s⟩) (hs:s<=3) (hm:m=0∨(2<=m∧m<=6)) :
  Calls prog 226 #[.pointer (some (aaB b 0)),.agg (inA op z r m k e s)] w fun e' w'=>∃g',e'=.returned (.agg (ftC (c.ch ⟨op,z,r,m,k,e,s⟩).f))∧CAt w' lo b g' (c.ch ⟨op,z,r,m,k,e,s⟩) h∧Since w b (b+1) g w' g':=by
 have hs0:0<=s:=B.s0;by_cases q:s=0
 ·subst q;exact MS w lo b g c h op z r m k e hC G hf B hm
 ·exact MR w lo b g c h op z r m k e s hC G hf B (by omega) hm
theorem U5 (op z r m k e s:Int) (hC:CAt w lo b g c h) (G:GM c) (hf:c.f=aI) (B:InB ⟨op,z,r,m,k,e,s⟩) (hs:s<=1) :
  Calls prog 230 #[.pointer (some (aaB b 0)),.agg (inA op z r m k e s)] w fun e' w'=>∃g',e'=.returned (.agg (ftC (c.jp ⟨op,z,r,m,k,e,s⟩).f))∧CAt w' lo b g' (c.jp ⟨op,z,r,m,k,e,s⟩) h∧Since w b (b+1) g w' g':=by
 have hs0:0<=s:=B.s0;have hq:s=0∨s=1:=by omega
 rcases hq with rfl|rfl
 ·exact U7 w lo b g c h op z r m k e hC G hf B
 ·exact U6 w lo b g c h op z r m k e hC G hf B
theorem U8 (op z r m k e s:Int) (hC:CAt w lo b g c h) (G:GM c) (hf:c.f=aI) (B:InB ⟨op,z,r,m,k,e,s⟩) (hs:s<=6) (he:s=3->e<=1023) :
  Calls prog 231 #[.pointer (some (aaB b 0)),.agg (inA op z r m k e s)] w fun e' w'=>∃g',e'=.returned (.agg (ftC (c.fw ⟨op,z,r,m,k,e,s⟩).f))∧CAt w' lo b g' (c.fw ⟨op,z,r,m,k,e,s⟩) h∧Since w b (b+1) g w' g':=by
 have hs0:0<=s:=B.s0;have hq:s=0∨s=1∨s=2∨s=3∨s=4∨s=5∨s=6:=by omega
 rcases hq with rfl|rfl|rfl|rfl|rfl|rfl|rfl
 ·exact Vg w lo b g c h op z r m k e hC G hf B
 ·exact Vf w lo b g c h op z r m k e hC G hf B
 ·exact Ve w lo b g c h op z r m k e hC G hf B
 ·exact Vd w lo b g c h op z r m k e hC G hf B (he rfl)
 ·exact Vb w lo b g c h op z r m k e hC G hf B
 ·exact Va w lo b g c h op z r m k e hC G hf B
 ·exact U9 w lo b g c h op z r m k e hC G hf B
theorem XT (op z r m k e s:Int) (hC:CAt w lo b g c h) (G:GM c) (hf:c.f=aI) (B:InB ⟨op,z,r,m,k,e,s⟩) (hs:s<=1) (ht:jb w lo) :
  Calls prog 232 #[.pointer (some (aaB b 0)),.agg (inA op z r m k e s)] w fun e' w'=>∃g',e'=.returned (.agg (ftC (c.bd ⟨op,z,r,m,k,e,s⟩).f))∧CAt w' lo b g' (c.bd ⟨op,z,r,m,k,e,s⟩) h∧Since w b (b+1) g w' g':=by
 have hs0:0<=s:=B.s0;have hq:s=0∨s=1:=by omega
 rcases hq with rfl|rfl
 ·exact XV w lo b g c h op z r m k e hC G hf B ht
 ·exact XU w lo b g c h op z r m k e hC G hf B ht
theorem U2 (op z r m k e s:Int) (hC:CAt w lo b g c h) (G:GM c) (hf:c.f=aI) (B:InB ⟨op,z,r,m,k,e,s⟩) (hs:s<=1) (he:s=0->e<=1023) :
  Calls prog 233 #[.pointer (some (aaB b 0)),.agg (inA op z r m k e s)] w fun e' w'=>e'=.returned (.tuple #[])∧CAt w' lo b g (c.mvs ⟨op,z,r,m,k,e,s⟩) h∧Kept b (b+1) w w':=by
 have hs0:0<=s:=B.s0;have hq:s=0∨s=1:=by omega
 rcases hq with rfl|rfl
 ·exact U4 w lo b g c h op z r m k e hC G B (he rfl)
 ·exact U3 w lo b g c h op z r m k e hC G B
def CTo (f:Nat) (a:Array Value) (w:World) (lo b:Nat) (c E:Mc) (h:Hl):Prop:=∀W g,Kept 0 0 w W->CAt W lo b g c h->Calls prog f a W fun e' w'=>∃g',e'=.returned (.agg (ftC E.f))∧CAt w' lo b g' E h∧Since W b (b+1) g w' g'
def CSt (f:Nat) (a:Array Value) (w:World) (lo b:Nat) (c E:Mc) (h:Hl):Prop:=∀W g,Kept 0 0 w W->CAt W lo b g c h->Calls prog f a W fun e' w'=>e'=.returned (.tuple #[])∧CAt w' lo b g E h∧Kept b (b+1) W w'
theorem kX (w:World) (lo b g:Nat) (c E:Mc) (h:Hl) (op z r m k e s:Int) (hC:CAt w lo b g c h) (hp:jl ⟨op,z,r,m,k,e,s⟩=false) (hE:c.cr ⟨op,z,r,m,k,e,s⟩=E)
  (H:((op=9∨op=1∨op=3∨op=4∨op=5∨op=6∨op=7∨op=8∨op=16∨op=17)∧CTo 224 #[.pointer (some (aaB b 0)),.agg (inA op z r m k e s)] w lo b c E h)∨(op=2∧CTo 225 #[.pointer (some (aaB b 0)),.agg (inA op z r m k e s)] w lo b c E h)∨(op=11∧CTo 226 #[.pointer (some (aaB b 0)),.agg (inA op z r m k e s)] w lo b c E h)∨(op=14∧CTo 230 #[.pointer (some (aaB b 0)),.agg (inA op z r m k e s)] w lo b c E h)∨(op=18∧CTo 232 #[.pointer (some (aaB b 0)),.agg (inA op z r m k e s)] w lo b c E h)) :
  Calls prog 179 #[.pointer (some (aaB b 0)),.agg (inA op z r m k e s)] w fun e' w'=>∃g',e'=.returned (.agg (ftC (c.cr ⟨op,z,r,m,k,e,s⟩).f))∧CAt w' lo b g' (c.cr ⟨op,z,r,m,k,e,s⟩) h∧Since w b (b+1) g w' g':=by
 obtain ⟨l0,l1,l2,l3,l4⟩:=hC.lt;obtain ⟨X,hX,K0,C0,A0,R0,sX⟩:=hC.kZ op z r m k e s;have p:=A0.o.all;clear hC;have E1:=aaA hE;have hsup:=iY;clear hE;obtain ⟨F,hF⟩:∃F,F=E.f:=⟨_,rfl⟩
 have HF:=aaA hF;clear hF;rcases H with ⟨rfl|rfl|rfl|rfl|rfl|rfl|rfl|rfl|rfl|rfl,H⟩|⟨rfl,H⟩|⟨rfl,H⟩|⟨rfl,H⟩|⟨rfl,H⟩
 all_goals
  go_enter func179,ntmps179;go_wp2_with (first|((first|go_at_call 224|go_at_call 225|go_at_call 226|go_at_call 230|go_at_call 232);refine (H _ g K1.o C1.o).mono ?_;rintro e9 W2 ⟨g',rfl,hc,hs⟩;rw [<-HF.o];unfold ftC;have C2:=aaA hc;have R2:=aaA (hs.blk R1.o (by omega) (by omega));have n2:=hs.ne (b:=w.heap.size+1) R1.o.lt (by omega);have S2:=aaA (((Since.refl w b (b+1) g).any K1.o).trans hs);have r2:=R2.o.all;have rf2:=R2.o.fz;clear hc hs)|(go_at_call 223;refine (hsup _ _ z r m k e s).mono ?_;rintro e9 W1 ⟨rfl,k1⟩;rw [hp];have C1:=aaA (C0.o.any k1);have A1:=aaA (A0.o.ae k1);have R1:=aaA (R0.o.ae k1);have K1:=aaA (K0.o.trans k1);have p1:=A1.o.all;have r1:=R1.o.all;have rf1:=R1.o.fz;have q12:=C1.o.cS;clear k1));have KR:=(((((ak W2 (w.heap.size+1) 0 (iv F.v)).one 1 (iv F.pc)).one 2 (iv F.ad)).one 3 (iv F.wo)).one 4 (.bool F.wr))
  refine bodyPost_ret (v:=.agg (ftA F)) ?_ rfl ⟨g',?_,?_,(S2.o).mine KR (by omega)⟩
  ·rw [aj rfl];go_simp
  ·rw [E1.o,<-HF.o];rfl
  ·rw [E1.o];exact ((C2.o).kept KR (by omega) (by omega))
theorem Ap (w:World) (lo b g:Nat) (c E:Mc) (h:Hl) (op z r m k e s:Int) (hC:CAt w lo b g c h) (hp:jl ⟨op,z,r,m,k,e,s⟩=false) (hE:c.cr ⟨op,z,r,m,k,e,s⟩=E) (hf:E.f=aI)
  (H:(op=12∧CSt 228 #[.pointer (some (aaB b 0)),.agg (inA op z r m k e s)] w lo b c E h)∨(op=13∧CSt 229 #[.pointer (some (aaB b 0)),.agg (inA op z r m k e s)] w lo b c E h)) :
  Calls prog 179 #[.pointer (some (aaB b 0)),.agg (inA op z r m k e s)] w fun e' w'=>∃g',e'=.returned (.agg (ftC (c.cr ⟨op,z,r,m,k,e,s⟩).f))∧CAt w' lo b g' (c.cr ⟨op,z,r,m,k,e,s⟩) h∧Since w b (b+1) g w' g':=by
 obtain ⟨l0,l1,l2,l3,l4⟩:=hC.lt;obtain ⟨X,hX,K0,C0,A0,R0,sX⟩:=hC.kZ op z r m k e s;have p:=A0.o.all;clear hC;have E1:=aaA hE;have hsup:=iY;clear hE;have EF:=aaA hf;rcases H with ⟨rfl,H⟩|⟨rfl,H⟩
 all_goals
  go_enter func179,ntmps179;go_wp2_with (first|((first|go_at_call 228|go_at_call 229);refine (H _ g K1.o C1.o).mono ?_;rintro e9 W2 ⟨rfl,hc,hk⟩;have C2:=aaA hc;have R2:=aaA (R1.o.kept hk (by omega));have S2:=aaA (((Since.refl w b (b+1) g).any K1.o).ag hk (Nat.le_refl _) (Nat.le_refl _));have r2:=R2.o.all;have rf2:=R2.o.fz;clear hc hk)|(go_at_call 223;refine (hsup _ _ z r m k e s).mono ?_;rintro e9 W1 ⟨rfl,k1⟩;rw [hp];have C1:=aaA (C0.o.any k1);have A1:=aaA (A0.o.ae k1);have R1:=aaA (R0.o.ae k1);have K1:=aaA (K0.o.trans k1);have p1:=A1.o.all;have r1:=R1.o.all;have rf1:=R1.o.fz;have q12:=C1.o.cS;clear k1));have KR:=(((((ak W2 (w.heap.size+1) 0 (iv 0)).one 1 (iv 0)).one 2 (iv 0)).one 3 (iv 0)).one 4 (.bool false))
  refine bodyPost_ret (v:=.agg ftZ) ?_ rfl ⟨g,?_,?_,(S2.o).mine KR (by omega)⟩
  ·rw [aj rfl];go_simp
  ·rw [E1.o,EF.o];rfl
  ·rw [E1.o];exact ((C2.o).kept KR (by omega) (by omega))
theorem QO (op z r m k e s:Int) (hC:CAt w lo b g c h) (G:GM c) (hf:c.f=aI) (B:InB ⟨op,z,r,m,k,e,s⟩) (hop:op=15) (hs:s<=6) (he:s=3->e<=1023) :
  Calls prog 179 #[.pointer (some (aaB b 0)),.agg (inA op z r m k e s)] w fun e' w'=>∃g',e'=.returned (.agg (ftC (c.cr ⟨op,z,r,m,k,e,s⟩).f))∧CAt w' lo b g' (c.cr ⟨op,z,r,m,k,e,s⟩) h∧Since w b (b+1) g w' g':=by
 have HB:=aaA B;clear B;obtain ⟨l0,l1,l2,l3,l4⟩:=hC.lt;have HG:=aaA G;obtain ⟨X,hX,K0,C0,A0,R0,sX⟩:=hC.kZ op z r m k e s;have p:=A0.o.all;clear hC G;obtain rfl:=hop;obtain ⟨E,hE⟩:∃E,E=c.fw ⟨15,z,r,m,k,e,s⟩:=⟨_,rfl⟩
 obtain ⟨F,hF⟩:∃F,F=E.f:=⟨_,rfl⟩
 have ET:Hid (c.cr' ⟨15,z,r,m,k,e,s⟩=E):=aaA (by rw [hE];rfl);have HE:=aaA hE;have HF:=aaA hF;clear hE hF;rcases Bool.eq_false_or_eq_true c.r.s with hss|hss<;>cases hp:jl ⟨15,z,r,m,k,e,s⟩
 case inr.true=>
  have E1:Hid (c.cr ⟨15,z,r,m,k,e,s⟩={c with f:=⟨8,0,0,0,false⟩}):=aaA (by unfold Mc.cr;rw [hp,hss];rfl);have HSS:=aaA hss;clear hss;go_enter func179,ntmps179;go_wp2_with (first|(go_at_call 223;refine (iY _ _ z _ m k e s).mono ?_;rintro e9 W1 ⟨rfl,k1⟩;rw [hp];have C1:=aaA (C0.o.any k1);have A1:=aaA (A0.o.ae k1);have R1:=aaA (R0.o.ae k1);have K1:=aaA (K0.o.trans k1);have p1:=A1.o.all;have r1:=R1.o.all;have rf1:=R1.o.fz;have q12:=C1.o.cS;rw [HSS.o] at q12;clear k1));have KR:=(((((ak W1 (w.heap.size+1) 0 (iv 8)).one 1 (iv 0)).one 2 (iv 0)).one 3 (iv 0)).one 4 (.bool false))
  refine bodyPost_ret (v:=.agg #[iv 8,iv 0,iv 0,iv 0,.bool false]) ?_ rfl ⟨g,?_,?_,((Since.refl w b (b+1) g).any K1.o).mine KR (by omega)⟩
  ·rw [aj rfl];go_simp
  ·rw [E1.o];rfl
  ·rw [E1.o];exact ((C1.o).kept KR (by omega) (by omega)).fx rfl rfl rfl rfl rfl
 all_goals
  have E1:Hid (c.cr ⟨15,z,r,m,k,e,s⟩=E):=aaA (by unfold Mc.cr;rw [hp,hss];exact ET.o);have HSS:=aaA hss;clear hss;go_enter func179,ntmps179;go_wp2_with (first|(go_at_call 231;refine (U8 _ lo b g c h _ z r m k e s C1.o HG.o hf HB.o hs he).mono ?_;rintro e9 W2 ⟨g',rfl,hc,hs⟩;rw [<-HE.o] at hc ⊢;rw [<-HF.o];unfold ftC;have C2:=aaA hc;have R2:=aaA (hs.blk R1.o (by omega) (by omega));have n2:=hs.ne (b:=w.heap.size+1) R1.o.lt (by omega);have S2:=aaA (((Since.refl w b (b+1) g).any K1.o).trans hs);have r2:=R2.o.all;have rf2:=R2.o.fz;clear hc hs)|(go_at_call 223;refine (iY _ _ z _ m k e s).mono ?_;rintro e9 W1 ⟨rfl,k1⟩;rw [hp];have C1:=aaA (C0.o.any k1);have A1:=aaA (A0.o.ae k1);have R1:=aaA (R0.o.ae k1);have K1:=aaA (K0.o.trans k1);have p1:=A1.o.all;have r1:=R1.o.all;have rf1:=R1.o.fz;have q12:=C1.o.cS;rw [HSS.o] at q12;clear k1));have KR:=(((((ak W2 (w.heap.size+1) 0 (iv F.v)).one 1 (iv F.pc)).one 2 (iv F.ad)).one 3 (iv F.wo)).one 4 (.bool F.wr))
  refine bodyPost_ret (v:=.agg (ftA F)) ?_ rfl ⟨g',?_,?_,(S2.o).mine KR (by omega)⟩
  ·rw [aj rfl];go_simp
  ·rw [E1.o,<-HF.o];rfl
  ·rw [E1.o];exact ((C2.o).kept KR (by omega) (by omega))
theorem QM (op z r m k e s:Int) (hC:CAt w lo b g c h) (G:GM c) (hf:c.f=aI) (B:InB ⟨op,z,r,m,k,e,s⟩) (hop:op=19) (hs:s<=1) (he:s=0->e<=1023) :
  Calls prog 179 #[.pointer (some (aaB b 0)),.agg (inA op z r m k e s)] w fun e' w'=>∃g',e'=.returned (.agg (ftC (c.cr ⟨op,z,r,m,k,e,s⟩).f))∧CAt w' lo b g' (c.cr ⟨op,z,r,m,k,e,s⟩) h∧Since w b (b+1) g w' g':=by
 have HB:=aaA B;clear B;obtain ⟨l0,l1,l2,l3,l4⟩:=hC.lt;have HG:=aaA G;obtain ⟨X,hX,K0,C0,A0,R0,sX⟩:=hC.kZ op z r m k e s;have p:=A0.o.all;clear hC G;obtain rfl:=hop;obtain ⟨E,hE⟩:∃E,E=c.mvs ⟨19,z,r,m,k,e,s⟩:=⟨_,rfl⟩
 obtain ⟨F,hF⟩:∃F,F=E.f:=⟨_,rfl⟩
 have ET:Hid (c.cr' ⟨19,z,r,m,k,e,s⟩=E):=aaA (by rw [hE];rfl);have EF:Hid (E.f=aI):=aaA (by rw [hE];unfold Mc.mvs;cases s==0<;>exact hf);have HE:=aaA hE;have HF:=aaA hF;clear hE hF;rcases Bool.eq_false_or_eq_true c.r.s with hss|hss<;>cases hp:jl ⟨19,z,r,m,k,e,s⟩
 case inr.true=>
  have E1:Hid (c.cr ⟨19,z,r,m,k,e,s⟩={c with f:=⟨8,0,0,0,false⟩}):=aaA (by unfold Mc.cr;rw [hp,hss];rfl);have HSS:=aaA hss;clear hss;go_enter func179,ntmps179;go_wp2_with (first|(go_at_call 223;refine (iY _ _ z _ m k e s).mono ?_;rintro e9 W1 ⟨rfl,k1⟩;rw [hp];have C1:=aaA (C0.o.any k1);have A1:=aaA (A0.o.ae k1);have R1:=aaA (R0.o.ae k1);have K1:=aaA (K0.o.trans k1);have p1:=A1.o.all;have r1:=R1.o.all;have rf1:=R1.o.fz;have q12:=C1.o.cS;rw [HSS.o] at q12;clear k1));have KR:=(((((ak W1 (w.heap.size+1) 0 (iv 8)).one 1 (iv 0)).one 2 (iv 0)).one 3 (iv 0)).one 4 (.bool false))
  refine bodyPost_ret (v:=.agg #[iv 8,iv 0,iv 0,iv 0,.bool false]) ?_ rfl ⟨g,?_,?_,((Since.refl w b (b+1) g).any K1.o).mine KR (by omega)⟩
  ·rw [aj rfl];go_simp
  ·rw [E1.o];rfl
  ·rw [E1.o];exact ((C1.o).kept KR (by omega) (by omega)).fx rfl rfl rfl rfl rfl
 all_goals
  have E1:Hid (c.cr ⟨19,z,r,m,k,e,s⟩=E):=aaA (by unfold Mc.cr;rw [hp,hss];exact ET.o);have HSS:=aaA hss;clear hss;go_enter func179,ntmps179;go_wp2_with (first|(go_at_call 233;refine (U2 _ lo b g c h _ z r m k e s C1.o HG.o hf HB.o hs he).mono ?_;rintro e9 W2 ⟨rfl,hc,hk⟩;rw [<-HE.o] at hc;have C2:=aaA hc;have R2:=aaA (R1.o.kept hk (by omega));have S2:=aaA (((Since.refl w b (b+1) g).any K1.o).ag hk (Nat.le_refl _) (Nat.le_refl _));have r2:=R2.o.all;have rf2:=R2.o.fz;clear hc hk)|(go_at_call 223;refine (iY _ _ z _ m k e s).mono ?_;rintro e9 W1 ⟨rfl,k1⟩;rw [hp];have C1:=aaA (C0.o.any k1);have A1:=aaA (A0.o.ae k1);have R1:=aaA (R0.o.ae k1);have K1:=aaA (K0.o.trans k1);have p1:=A1.o.all;have r1:=R1.o.all;have rf1:=R1.o.fz;have q12:=C1.o.cS;rw [HSS.o] at q12;clear k1));have KR:=(((((ak W2 (w.heap.size+1) 0 (iv 0)).one 1 (iv 0)).one 2 (iv 0)).one 3 (iv 0)).one 4 (.bool false))
  refine bodyPost_ret (v:=.agg ftZ) ?_ rfl ⟨g,?_,?_,(S2.o).mine KR (by omega)⟩
  ·rw [aj rfl];go_simp
  ·rw [E1.o,EF.o];rfl
  ·rw [E1.o];exact ((C2.o).kept KR (by omega) (by omega))
theorem QN (op z r m k e s:Int) (hC:CAt w lo b g c h) (G:GM c) (hf:c.f=aI) (B:InB ⟨op,z,r,m,k,e,s⟩) (hop:op=10) :
  Calls prog 179 #[.pointer (some (aaB b 0)),.agg (inA op z r m k e s)] w fun e' w'=>∃g',e'=.returned (.agg (ftC (c.cr ⟨op,z,r,m,k,e,s⟩).f))∧CAt w' lo b g' (c.cr ⟨op,z,r,m,k,e,s⟩) h∧Since w b (b+1) g w' g':=by
 have HB:=aaA B;clear B;obtain ⟨l0,l1,l2,l3,l4⟩:=hC.lt;have HG:=aaA G;obtain ⟨X,hX,K0,C0,A0,R0,sX⟩:=hC.kZ op z r m k e s;have p:=A0.o.all;clear hC G;obtain rfl:=hop;have hp:jl ⟨10,z,r,m,k,e,s⟩=false:=rfl;obtain ⟨n,rfl⟩:∃n:Nat,r=(n:Int):=⟨r.toNat,by have:0<=r:=HB.o.r0;omega⟩
 have hn:n<4:=by have:(n:Int)<=3:=HB.o.r1;omega
 have i0:(0:Int)<=(n:Int):=by omega
 have i1:(n:Int)<4:=by omega
 obtain ⟨D,hD⟩:∃D,D=c.slot z m k e:=⟨_,rfl⟩
 obtain ⟨a,ha⟩:∃a,a=c.readA z m k e:=⟨_,rfl⟩
 have GD:Hid (GM D):=aaA (by rw [hD];exact HG.o.slot HB.o.k0 HB.o.k1);have DF:Hid (D.f=aI):=aaA (by rw [hD];unfold Mc.slot;cases Mc.gJ m<;>exact hf);have E1:Hid (c.cr ⟨10,z,(n:Int),m,k,e,s⟩=D.fB n a):=aaA (by unfold Mc.cr;rw [hp,hD,ha];rfl);have HA:=aaA ha;obtain ⟨T,U,hW⟩:=pU m k e;have HW:=aaA hW;have HD:=aaA hD;have sa:=uQ T U z a;clear ha hW hD;go_enter func179,ntmps179;go_wp2_with (first|(go_at_call 223;refine (iY _ _ z _ m k e s).mono ?_;rintro e9 W1 ⟨rfl,k1⟩;rw [hp];have C1:=aaA (C0.o.any k1);have A1:=aaA (A0.o.ae k1);have R1:=aaA (R0.o.ae k1);have K1:=aaA (K0.o.trans k1);have p1:=A1.o.all;have r1:=R1.o.all;have rf1:=R1.o.fz;have q12:=C1.o.cS;clear k1));obtain ⟨u0,u1,u2,u3,u4,u5,u6⟩:=A1.o.c7
 go_region_held3 (fun w'=>w'.cell? (aaB w.heap.size 0)=some (iv 10)∧w'.cell? (aaB w.heap.size 1)=some (iv z)∧w'.cell? (aaB w.heap.size 2)=some (iv (n:Int))∧w'.cell? (aaB w.heap.size 3)=some (iv m)∧w'.cell? (aaB w.heap.size 4)=some (iv k)∧w'.cell? (aaB w.heap.size 5)=some (iv e)∧w'.cell? (aaB w.heap.size 6)=some (iv s)) (first|with_reducible exact A2.o.c7|with_reducible exact (A2.o.other b (4+n) (iv a) (by omega)).c7|exact (show Blk _ _ _ _ from A1.o).c7)
  (first|(go_at_call 227;refine (vY _ lo b g c h ⟨10,z,(n:Int),m,k,e,s⟩ C1.o.drew HG.o HB.o).mono ?_;rintro e9 W2 ⟨rfl,hc,hkd⟩;have hk:=aK hkd;rw [<-HA.o,HW.o];rw [<-HD.o] at hc;have C2:=aaA hc;have A2:=aaA (A1.o.kept hk (by omega));have R2:=aaA (R1.o.kept hk (by omega));have S2:=aaA (((Since.refl w b (b+1) g).any K1.o).ag hk (Nat.le_refl _) (Nat.le_refl _));have cy:=hc.cY hn;have cz:=hc.fz;clear hc hk hkd))
 have rr:=(R2.o.other b (4+n) (iv a) (by omega)).all;have rz:=(R2.o.other b (4+n) (iv a) (by omega)).fz;go_wp2_with fail;have KR:=(((((ak (W2.setCell ⟨b,4+n,none⟩ (iv a)) (w.heap.size+1) 0 (iv 0)).one 1 (iv 0)).one 2 (iv 0)).one 3 (iv 0)).one 4 (.bool false))
 refine bodyPost_ret (v:=.agg ftZ) ?_ rfl ⟨g,?_,?_,(S2.o.set b (4+n) (iv a) (.inl (by omega))).mine KR (by omega)⟩
 ·rw [aj rfl];go_simp
 ·rw [E1.o,show (D.fB n a).f=aI from DF.o];rfl
 ·rw [E1.o];exact ((C2.o.uU GD.o.g.a4 hn a).kept KR (by omega) (by omega))
end Go.Proofs.YtgikibaajanjiaaGreatDoor
namespace Go.Proofs.YtgikibaajanjiaaGreatDoor.Pl
open Go.RowKit Go.Proofs.Tryz
set_option linter.unusedVariables false
def Mc.wf (c:Mc) (p q:Int):Mc:={c with f:={c.f with pc:=p,wo:=q}}
def dS (v:Int):Bool:=(v==5)||decide (18<=v)
structure Same (a b q:Int) (m d:Mc):Prop where
 bx:m.bx=d.bx
 bl:m.bl=d.bl
 bm:m.bm=d.bm
 st:m.st=d.st
 ok:d.f.v=0->m.f.v=0∧m.r=d.r∧d.f=aI
 no:d.f.v≠0->m.f=⟨d.f.v,bif dS d.f.v then b else a,d.f.ad,q,d.f.wr⟩
theorem Rk (f:Ft) (p q k s a:Int):Mc.di {f with pc:=p,wo:=q} k s a={Mc.di f k s a with pc:=p,wo:=q}:=by
 unfold Mc.di;cases h:(code k s a != 0)&&(f.v==0)<;>rfl
section
variable (c:Mc) (p q:Int)
theorem acc_wf (k s a v:Int):(c.wf p q).acc k s a v=(c.acc k s a v).wf p q:=by
 show Mc.mk _ _ _ _ _ (Mc.di {c.f with pc:=p,wo:=q} k s a)=_
 rw [Rk];rfl
theorem uw (z m k e:Int):(c.wf p q).read z m k e=(c.read z m k e).wf p q:=by
 unfold Mc.read;cases Mc.gJ m
 ·exact acc_wf (c.plc z m k e) p q 1 z (bu c.r z m k e) 0
 ·rfl
theorem qK (z m k a v:Int):(c.wf p q).write z m k a v=(c.write z m k a v).wf p q:=by
 unfold Mc.write;cases m==0
 ·exact acc_wf c p q 2 z a v
 ·rfl
theorem qO (z m k e:Int):(c.wf p q).place z m k e=(c.place z m k e).wf p q:=by
 unfold Mc.place;cases m==0<;>rfl
theorem Oz (v:Int):(c.wf p q).push v=(c.push v).wf p q:=by
 unfold Mc.push;rw [show (c.wf p q).spA=c.spA from rfl,acc_wf];show (bif (c.acc 2 2 c.spA v).fine then _ else _)=_;cases (c.acc 2 2 c.spA v).fine<;>rfl
theorem BD:(c.wf p q).pop=c.pop.wf p q:=by
 unfold Mc.pop;rw [show (c.wf p q).r=c.r from rfl,acc_wf];show (bif (c.acc 1 2 (el c.r.ys 3) 0).fine then _ else _)=_;cases (c.acc 1 2 (el c.r.ys 3) 0).fine<;>rfl
end
def Mc.bus (c:Mc):Prop:=c.f=aI∨c.f.v=2∨c.f.v=3
theorem mP {f:Ft} (h:f=aI∨f.v=2∨f.v=3) (k s a:Int):Mc.di f k s a=aI∨(Mc.di f k s a).v=2∨(Mc.di f k s a).v=3:=by
 unfold Mc.di;cases (code k s a != 0)&&(f.v==0)
 ·exact h
 ·cases code k s a==2
  ·exact .inr (.inl rfl)
  ·exact .inr (.inr rfl)
theorem Mc.bus.read {c:Mc} (h:c.bus) (z m k e:Int):(c.read z m k e).bus:=by
 unfold Mc.read;cases Mc.gJ m
 ·exact mP h _ _ _
 ·exact h
theorem Mc.bus.write {c:Mc} (h:c.bus) (z m k a v:Int):(c.write z m k a v).bus:=by
 unfold Mc.write;cases m==0
 ·exact mP h _ _ _
 ·exact h
theorem Mc.bus.push {c:Mc} (h:c.bus) (v:Int):(c.push v).bus:=by
 unfold Mc.push;cases (c.acc 2 2 c.spA v).fine
 ·exact mP h _ _ _
 ·exact mP h _ _ _
theorem Mc.bus.pop {c:Mc} (h:c.bus):c.pop.bus:=by
 unfold Mc.pop;cases (c.acc 1 2 (el c.r.ys 3) 0).fine
 ·exact mP h _ _ _
 ·exact mP h _ _ _
theorem Same.wf {a b q:Int} {d:Mc} (h:d.bus):Same a b q (d.wf a q) d:=
 ⟨rfl,rfl,rfl,rfl,fun e=>⟨e,rfl,by rcases h with h|h|h<;>first|exact h|(rw [h] at e;cases e)⟩,fun e=>by
  have:dS d.f.v=false:=by rcases h with h|h|h<;>rw [h]<;>rfl
  rw [this];rfl⟩
theorem Same.wr {a b q:Int} {d e:Mc} (h:d.bus) (hv:d.fine=false) (bx:e.bx=d.bx) (bl:e.bl=d.bl) (bm:e.bm=d.bm) (st:e.st=d.st) (f:e.f=d.f):Same a b q (d.wf a q) e:=by
 have hv0:d.f.v≠0:=by intro k;unfold Mc.fine at hv;rw [k] at hv;cases hv
 refine ⟨bx.symm,bl.symm,bm.symm,st.symm,fun k => ?_,fun k => ?_⟩
 ·rw [f] at k;exact absurd k hv0
 ·have:dS d.f.v=false:=by rcases h with h|h|h<;>rw [h]<;>rfl
  rw [f,this];rfl
section
variable {c:Mc}
theorem kU (z m k e:Int) (hm:m=0∨(2<=m∧m<=6)):c.slot z m k e=c.place z m k e∧c.readA z m k e=c.iK z m k e:=by
 have:m=0∨m=2∨m=3∨m=4∨m=5∨m=6:=by omega
 rcases this with rfl|rfl|rfl|rfl|rfl|rfl<;>exact ⟨rfl,rfl⟩
theorem mV (z m k a v f:Int):(c.aJ f).write z m k a v=(c.write z m k a v).aJ f:=by
 unfold Mc.write;cases m==0<;>rfl
theorem BM (z m k e f:Int):(c.aJ f).place z m k e=(c.place z m k e).aJ f:=by
 unfold Mc.place;cases m==0
 ·show ({c.aJ f with r:=bG (c.aJ f).r z m k e}:Mc)=_
  unfold bG;by_cases h3:m=3
  ·simp only [h3,if_true];rfl
  ·by_cases h4:m=4
   ·simp only [h4,if_true];rfl
   ·simp only [h3,h4,if_false];show _=(c.bC (bG c.r z m k e)).aJ f;unfold bG;simp only [h3,h4,if_false];rfl
 ·rfl
theorem Ir {xs:List Int} {k:Nat} {v:Int} (hk:k<xs.length) (h:v=el xs k):xs.set k v=xs:=by
 apply List.ext_getElem?;intro j;by_cases e:k=j
 ·subst e;rw [List.getElem?_set_self hk,h];simp [el,hk]
 ·rw [List.getElem?_set_ne e]
theorem Ox (G:GM c) {z r:Int} (hz:z=1∨z=2) (r0:0<=r) (r1:r<=3):c.put z r (c.low z r)=c:=by
 have hl:r.toNat<c.r.xs.length:=by rw [G.g.d4];omega
 have hb:=G.g.dw r.toNat (by omega)
 have e:(if z=1 then el c.r.xs r.toNat/256*256+c.low z r else c.low z r)=el c.r.xs r.toNat:=by
  unfold Mc.low;rcases hz with rfl|rfl
  ·simp [top];omega
  ·simp [top];omega
 show ({c with r:={c.r with xs:=c.r.xs.set r.toNat (if z=1 then el c.r.xs r.toNat/256*256+c.low z r else c.low z r)}}:Mc)=c
 rw [Ir hl e]
end
theorem WF {a:Int} (h0:0<=a) (h1:a<=31):bits .or .i64 a 0=a:=by
 obtain ⟨n,rfl⟩:∃n:Nat,a=(n:Int):=⟨a.toNat,by omega⟩
 have:=(bits_nat n 0 (by omega) (by omega)).2.1
 rw [show ((0:Nat):Int)=0 from rfl] at this;rw [this,Nat.or_zero]
variable {c:Mc} {a b q:Int}
theorem jy (hf:c.f=aI):c.bus:=.inl hf
theorem Oo (hf:c.f=aI) (x:In) (hm:x.m=0∨(2<=x.m∧x.m<=6)):Same a b q ((c.wf a q).from' x) (c.gv x):=by
 obtain ⟨e1,e2⟩:=kU (c:=c.aJ (dm x.z c.r.f (c.low x.z x.r))) x.z x.m x.k x.e hm;have e3:=(kU (c:=c) x.z x.m x.k x.e hm).2
 have e:(c.wf a q).from' x=(c.gv x).wf a q:=by
  unfold Mc.from' Mc.gv;rw [e1,e3,BM,mV,qO];show (((c.place x.z x.m x.k x.e).wf a q).write x.z x.m x.k (c.iK x.z x.m x.k x.e) (c.low x.z x.r)).aJ (dm x.z c.r.f (c.low x.z x.r))=_;rw [qK];rfl
 rw [e];refine Same.wf ?_;unfold Mc.gv;refine Mc.bus.write ?_ _ _ _ _ _;unfold Mc.slot;cases Mc.gJ x.m<;>exact jy hf
theorem Ol (hf:c.f=aI) (x:In) (ho:x.op=9) (hz:x.z=2):Same a b q (bif ((c.wf a q).read 2 x.m x.k x.e).fine then ((c.wf a q).read 2 x.m x.k x.e).fB x.r.toNat ((c.wf a q).bH 2 x.m x.k x.e) else (c.wf a q).read 2 x.m x.k x.e) (c.tk x):=by
 have hb:=(jy hf).read 2 x.m x.k x.e;unfold Mc.tk Mc.tk';rw [ho,hz,uw];show Same a b q (bif (c.read 2 x.m x.k x.e).fine then ((c.read 2 x.m x.k x.e).wf a q).fB x.r.toNat (c.bH 2 x.m x.k x.e) else (c.read 2 x.m x.k x.e).wf a q) _;cases (c.read 2 x.m x.k x.e).fine
 ·exact Same.wf hb
 ·exact Same.wf (d:=(c.read 2 x.m x.k x.e).fB x.r.toNat (c.bH 2 x.m x.k x.e)) hb
theorem IC (hf:c.f=aI) (x:In) (hz:x.z=2) (hm:x.m=0∨(2<=x.m∧x.m<=6)):Same a b q (((c.wf a q).place 2 x.m x.k x.e).fB x.r.toNat ((c.wf a q).iK 2 x.m x.k x.e)) (c.lea x):=by
 obtain ⟨e1,e2⟩:=kU (c:=c) 2 x.m x.k x.e hm;unfold Mc.lea;rw [hz,e1,e2,qO];refine Same.wf (d:=(c.place 2 x.m x.k x.e).fB x.r.toNat (c.iK 2 x.m x.k x.e)) ?_;show (c.place 2 x.m x.k x.e).bus;unfold Mc.place;cases x.m==0<;>exact jy hf
theorem Td (G:GM c) (x:In) (B:InB x) (ho:x.op=1∨x.op=3∨x.op=4∨x.op=5∨x.op=6∨x.op=7∨x.op=8) (v:Int) (hv:okv x.z v=true) :
  c.two' x (c.low x.z x.r) v=c.tk' x.op x.z x.r v:=by
 have hq:=iG G B.z B.r0 B.r1;obtain ⟨b1,b2,b3⟩:=qW hq hv
 have dat:∀u,okv x.z u=true->c.data x.z x.r u=(c.put x.z x.r u).aJ (bits .or .i64 (dm x.z c.r.f u) (fl (0 != (0:Int)) 2)):=by
  intro u hu;have h:=fZ x.z c.r.f u hu (dh G);rw [show fl (0 != (0:Int)) 2=0 from rfl,WF h.1 h.2];rfl
 unfold Mc.two' Mc.tk' cbV cbF cbM cbU;rcases ho with h|h|h|h|h|h|h<;>rw [h]
 ·exact dat v hv
 ·rfl
 ·rfl
 ·exact dat _ b1
 ·exact dat _ b2
 ·exact dat _ b3
 ·show c.aJ (nT x.z c.r.f (c.low x.z x.r) v)=(c.put x.z x.r (c.low x.z x.r)).aJ (nT x.z c.r.f (c.low x.z x.r) v)
  rw [Ox G B.z B.r0 B.r1]
theorem Tc (x:In) (p v:Int):(c.wf a q).two' x p v=(c.two' x p v).wf a q:=by
 unfold Mc.two';cases x.op==8<;>cases x.op==3<;>cases x.op==4<;>cases x.op==5<;>cases x.op==6<;>cases x.op==7<;>rfl
theorem NK (h:c.bus) (x:In) (p v:Int):(c.two' x p v).bus:=by
 unfold Mc.two';cases x.op==8<;>cases x.op==3<;>cases x.op==4<;>cases x.op==5<;>cases x.op==6<;>cases x.op==7<;>exact h
theorem Iw (G:GM c) (hf:c.f=aI) (x:In) (B:InB x) (h1:x.m=1->x.z=2) (ho:x.op=1∨x.op=3∨x.op=4∨x.op=5∨x.op=6∨x.op=7∨x.op=8):Same a b q ((c.wf a q).two x) (c.tk x):=by
 have hb:=(jy hf).read x.z x.m x.k x.e;have hv:=fG G B.z B.k0 B.k1 B.e0 B.e1 h1 B.n7;have GR:=G.read (m:=x.m) B.z B.k0 B.k1 B.e0 B.e1;unfold Mc.two Mc.tk;rw [uw];show Same a b q (bif (c.read x.z x.m x.k x.e).fine then ((c.read x.z x.m x.k x.e).wf a q).two' x ((c.read x.z x.m x.k x.e).low x.z x.r) (c.bH x.z x.m x.k x.e) else (c.read x.z x.m x.k x.e).wf a q) _;cases (c.read x.z x.m x.k x.e).fine
 ·exact Same.wf hb
 ·show Same a b q (((c.read x.z x.m x.k x.e).wf a q).two' x ((c.read x.z x.m x.k x.e).low x.z x.r) (c.bH x.z x.m x.k x.e)) ((c.read x.z x.m x.k x.e).tk' x.op x.z x.r (c.bH x.z x.m x.k x.e))
  rw [Tc,<-Td GR x B ho _ hv];exact Same.wf (NK hb _ _ _)
theorem TN (x:In) (ho:x.s=1∨x.s=2∨x.s=3) (d:Mc) (hd:d.r.f=c.r.f) (u v:Int):c.one' d x u v=d.ch' x.z x.m x.k u x.s v:=by
 unfold Mc.one' Mc.ch' chF chV;rw [hd];rcases ho with h|h|h<;>rw [h]
 ·exact (mV x.z x.m x.k u _ _).symm
 ·exact (mV x.z x.m x.k u _ _).symm
 ·rfl
theorem Iz (G:GM c) (hf:c.f=aI) (x:In) (B:InB x) (hm:x.m=0∨(2<=x.m∧x.m<=6)) (hs:x.s<=3):Same a b q ((c.wf a q).one x) (c.ch x):=by
 have hs0:=B.s0;have hb:=(jy hf).read x.z x.m x.k x.e;obtain ⟨e1,e2⟩:=kU (c:=c) x.z x.m x.k x.e hm;by_cases h0:x.s=0
 ·have e:(c.wf a q).one x=(c.ch x).wf a q:=by
   unfold Mc.one Mc.ch;rw [h0];show (c.wf a q).Jk x=((c.slot x.z x.m x.k x.e).ch' x.z x.m x.k (c.readA x.z x.m x.k x.e) 0 0).wf a q;unfold Mc.Jk;rw [e1,e2,qO];show (((c.place x.z x.m x.k x.e).wf a q).write x.z x.m x.k (c.iK x.z x.m x.k x.e) 0).aJ (dm x.z c.r.f 0)=_;rw [qK];show _=(((c.place x.z x.m x.k x.e).aJ (dm x.z (c.place x.z x.m x.k x.e).r.f 0)).write x.z x.m x.k (c.iK x.z x.m x.k x.e) 0).wf a q;rw [mV,xK];rfl
  rw [e];refine Same.wf ?_;unfold Mc.ch Mc.ch';rw [h0];refine Mc.bus.write ?_ _ _ _ _ _;show (c.slot x.z x.m x.k x.e).bus;unfold Mc.slot;cases Mc.gJ x.m<;>exact jy hf
 ·have h1:x.s=1∨x.s=2∨x.s=3:=by omega
  have hz:(x.s==0)=false:=by simpa using h0
  unfold Mc.one Mc.ch;rw [hz,uw];show Same a b q (bif (c.read x.z x.m x.k x.e).fine then (c.wf a q).one' ((c.read x.z x.m x.k x.e).wf a q) x (c.readA x.z x.m x.k x.e) (c.bH x.z x.m x.k x.e) else (c.read x.z x.m x.k x.e).wf a q) (bif (c.read x.z x.m x.k x.e).fine then (c.read x.z x.m x.k x.e).ch' x.z x.m x.k (c.readA x.z x.m x.k x.e) x.s (c.bH x.z x.m x.k x.e) else c.read x.z x.m x.k x.e);cases (c.read x.z x.m x.k x.e).fine
  ·exact Same.wf hb
  ·have e:(c.wf a q).one' ((c.read x.z x.m x.k x.e).wf a q) x (c.readA x.z x.m x.k x.e) (c.bH x.z x.m x.k x.e)=((c.read x.z x.m x.k x.e).ch' x.z x.m x.k (c.readA x.z x.m x.k x.e) x.s (c.bH x.z x.m x.k x.e)).wf a q:=by
    rw [<-TN x h1 _ (IP c _ _ _ _)];unfold Mc.one';rw [qK,qK];cases x.s==1<;>cases x.s==2<;>rfl
   show Same a b q ((c.wf a q).one' _ _ _ _) _
   rw [e];refine Same.wf ?_;unfold Mc.ch';cases x.s==3
   ·have hb':((c.read x.z x.m x.k x.e).aJ (chF x.s x.z (c.read x.z x.m x.k x.e).r.f (c.bH x.z x.m x.k x.e))).bus:=hb;exact hb'.write _ _ _ _ _
   ·exact hb
theorem Iy (hf:c.f=aI) (x:In):Same a b q (((c.wf a q).aJ (nU x.s x.z c.r.f (c.low x.z x.r) (x.k+1))).put x.z x.r (iU x.s x.z c.r.f (c.low x.z x.r) (x.k+1))) (c.shf x):=
 Same.wf (d:=c.shf x) (jy (c:=c) hf)
theorem IE (hf:c.f=aI) (x:In) (ho:x.op=13) (hp:c.r.p=(a+2*2)%65536):Same a b q ((c.wf a q).jump x a) (c.brn x):=by
 unfold Mc.jump Mc.brn;rw [ho];have e:(c.r.p-2+x.e)%65536=(a+2+x.e)%65536:=by omega
 rw [e];show Same a b q (bif tst (x.s+8*x.r) c.r.f then (c.wf a q).aH ((a+2+x.e)%65536) else c.wf a q) _;cases tst (x.s+8*x.r) c.r.f
 ·exact Same.wf (jy hf)
 ·exact Same.wf (d:=c.aH ((a+2+x.e)%65536)) (jy (c:=c) hf)
theorem Om (hf:c.f=aI) (x:In) (ho:x.op=14) (hz:x.z=2) (hm:x.m=0∨(2<=x.m∧x.m<=6)):Same a b q ((c.wf a q).jump x a) (c.jp x):=by
 obtain ⟨e1,e2⟩:=kU (c:=c) 2 x.m x.k x.e hm
 have hb:(c.place 2 x.m x.k x.e).bus:=by
  unfold Mc.place;cases x.m==0<;>exact jy hf
 have hbp:=hb.push c.r.p;unfold Mc.jump Mc.jp;rw [ho,hz,e1,e2,qO,show (c.wf a q).r=c.r from rfl,Oz];show Same a b q (bif x.s==1 then (bif ((c.place 2 x.m x.k x.e).push c.r.p).fine then (((c.place 2 x.m x.k x.e).push c.r.p).aH (c.iK 2 x.m x.k x.e)).wf a q else ((c.place 2 x.m x.k x.e).push c.r.p).wf a q) else ((c.place 2 x.m x.k x.e).aH (c.iK 2 x.m x.k x.e)).wf a q) _;cases x.s==1
 ·exact Same.wf (d:=(c.place 2 x.m x.k x.e).aH (c.iK 2 x.m x.k x.e)) hb
 ·cases ((c.place 2 x.m x.k x.e).push c.r.p).fine
  ·exact Same.wf hbp
  ·exact Same.wf (d:=((c.place 2 x.m x.k x.e).push c.r.p).aH (c.iK 2 x.m x.k x.e)) hbp
theorem IB (G:GM c) (hf:c.f=aI) (x:In) (B:InB x) (hz:x.z=2) (h1:x.m≠1) (ho:x.op=16∨x.op=17) (hp:c.r.p=b):Same a b q ((c.wf a q).product x) (c.tk x):=by
 have h7:x.m=7->okv 2 x.e=true:=by rw [<-hz];exact B.n7
 have hb:=(jy hf).read 2 x.m x.k x.e;have hv:=fG (c:=c) G (z:=2) (m:=x.m) (.inr rfl) B.k0 B.k1 B.e0 B.e1 (fun _=>rfl) h7;have GR:=G.read (z:=2) (m:=x.m) (.inr rfl) B.k0 B.k1 B.e0 B.e1
 have hp2:(c.read 2 x.m x.k x.e).r.p=b:=by
  rw [<-hp];unfold Mc.read;cases Mc.gJ x.m
  ·exact qP c.r 2 x.m x.k x.e
  ·rfl
 unfold Mc.product Mc.tk;rw [uw,hz];show Same a b q (bif (c.read 2 x.m x.k x.e).fine then ((c.read 2 x.m x.k x.e).wf a q).jf x (c.bH 2 x.m x.k x.e) else (c.read 2 x.m x.k x.e).wf a q) _;cases hfi:(c.read 2 x.m x.k x.e).fine
 ·exact Same.wf hb
 ·show Same a b q (((c.read 2 x.m x.k x.e).wf a q).jf x (c.bH 2 x.m x.k x.e)) ((c.read 2 x.m x.k x.e).tk' x.op 2 x.r (c.bH 2 x.m x.k x.e))
  generalize hd:c.read 2 x.m x.k x.e=d at hb GR hp2 hfi ⊢;generalize hu:c.bH 2 x.m x.k x.e=u at hv ⊢;have hu2:=aQ hv;have hr:=GR.g.dw x.r.toNat (by have:=B.r1;omega);have el2:d.low 2 x.r=el d.r.xs x.r.toNat:=by unfold Mc.low;simp [top];omega
  have hu0:0<=u∧u<=65535:=by simp [top] at hu2;omega
  have hN:d.f=aI:=by rw [<-hd];refine xH hf rfl ?_;rw [hd];unfold Mc.fine at hfi;simpa using hfi
  obtain ⟨p,hE⟩:∃p,el d.r.xs x.r.toNat=p:=⟨_,rfl⟩
  rw [hE] at hr el2;rcases ho with ho|ho
  ·have k2:ok2 p u=true:=by simp [ok2,wOk];omega
   have hpu:0<=p*u:=Int.mul_nonneg hr.1 hu0.1;have eM:xQ p u=p*u%65536:=by unfold xQ;rw [if_pos k2]
   have eH:(FI p u != 0)=decide (65535<p*u):=by
    unfold FI;rw [if_pos k2];generalize p*u=w at hpu;by_cases h:65535<w
    ·rw [decide_eq_true h];simp;omega
    ·rw [decide_eq_false h];simp;omega
   have e:(d.wf a q).jf x u=(d.tk' x.op 2 x.r u).wf a q:=by
    unfold Mc.jf Mc.tk' cbV cbF cbM cbU;rw [ho,el2];show (d.wf a q).Jp x (el d.r.xs x.r.toNat*u)=((d.put 2 x.r (xQ p u)).aJ (bits .or .i64 (dm 2 d.r.f (xQ p u)) (fl (FI p u != 0) 2))).wf a q;rw [eM,eH,hE];rfl
   rw [e];refine Same.wf ?_;unfold Mc.tk';rw [ho];exact hb
  ·cases h0:u==0
   ·have hn:u≠0:=by simpa using h0
    have eQ:dvQ 0 p u=p/u:=by
     have hk:dOk 0 p u=true:=by simp [dOk,wOk];omega
     unfold dvQ;rw [if_pos hk];exact (yX (by omega) (by omega) (by omega)).1
    have hq2:okv 2 (p/u)=true:=by
     have h1:0<=p/u:=Int.ediv_nonneg (by omega) (by omega);have h3:p/u<=p:=Int.ediv_le_self _ (by omega);simp [okv,top];omega
    have hL:=fZ 2 d.r.f (p/u) hq2 (dh GR)
    have e:(d.wf a q).jf x u=(d.tk' x.op 2 x.r u).wf a q:=by
     unfold Mc.jf Mc.tk' cbV cbF cbM cbU;rw [ho,el2,h0];show (d.wf a q).data 2 x.r (el d.r.xs x.r.toNat/u)=((d.put 2 x.r (dvQ 0 p u)).aJ (bits .or .i64 (dm 2 d.r.f (dvQ 0 p u)) (fl ((0:Int) != 0) 2))).wf a q;rw [eQ,hE,show fl ((0:Int) != 0) 2=0 from rfl,WF hL.1 hL.2];rfl
    rw [e];refine Same.wf ?_;unfold Mc.tk';rw [ho,h0];exact hb
   ·have e1:(d.wf a q).jf x u=(d.wf a q).raise 5:=by unfold Mc.jf;rw [ho,h0];rfl
    have e2:d.tk' x.op 2 x.r u={d with f:=⟨5,0,0,0,false⟩}:=by unfold Mc.tk';rw [ho,h0];rfl
    rw [e1,e2];refine ⟨rfl,rfl,rfl,rfl,fun h=>absurd (show (5:Int)=0 from h) (by decide),fun _ => ?_⟩;show ({d.f with pc:=d.r.p,wo:=q,v:=5}:Ft)=⟨5,b,0,q,false⟩;rw [hN,hp2];rfl
theorem Oq (G:GM c) (hf:c.f=aI) (x:In) (hp:c.r.p=b) (h4:0<=x.r):Same a b q ((c.wf a q).jD x) (c.fw x):=by
 have hb:=jy hf;unfold Mc.jD Mc.fw;cases h0:x.s==0
 ·cases h1:x.s==1
  ·cases h3:x.s==3
   ·cases h4:x.s==4
    ·cases h5:x.s==5
     ·cases h6:x.s==6
      ·exact Same.wf hb
      ·exact Same.wf (d:=(c.put 2 x.r (mD (c.low 1 x.r))).aJ (dm 2 c.r.f (mD (c.low 1 x.r)))) hb
     ·exact Same.wf (d:=(c.put 2 x.r (lQ (el c.r.xs x.r.toNat))).aJ (dm 2 c.r.f (lQ (el c.r.xs x.r.toNat)))) hb
    ·refine ⟨rfl,rfl,rfl,rfl,fun h => ?_,fun _ => ?_⟩
     ·exfalso
      have:18+x.r=0:=h
      omega
     ·show ({c.f with pc:=c.r.p,wo:=q,v:=18+x.r}:Ft)=⟨18+x.r,bif dS (18+x.r) then b else a,0,q,false⟩
      have:dS (18+x.r)=true:=by unfold dS;simp;omega
      rw [this,hf,hp];rfl
   ·exact Same.wf (d:={c.bC (aW c.r x.e) with st:=true}) hb
  ·show Same a b q (bif !(c.wf a q).pop.fine then (c.wf a q).pop else bif !(c.wf a q).pop.pop.fine then (c.wf a q).pop.pop else ((c.wf a q).pop.pop.aH (c.wf a q).pop.dI).bC (aW ((c.wf a q).pop.pop.aH (c.wf a q).pop.dI).r ((c.wf a q).dI%1024))) c.cb1
   rw [BD,BD];show Same a b q (bif !c.pop.fine then c.pop.wf a q else bif !c.pop.pop.fine then c.pop.pop.wf a q else ((c.pop.pop.aH c.pop.dI).bC (aW (c.pop.pop.aH c.pop.dI).r (c.dI%1024))).wf a q) c.cb1;unfold Mc.cb1;cases k1:c.pop.fine
   ·exact Same.wf hb.pop
   ·cases k2:c.pop.pop.fine
    ·exact Same.wr hb.pop.pop k2 rfl rfl rfl rfl rfl
    ·exact Same.wf (d:=(c.pop.pop.aH c.pop.dI).bC (aW (c.pop.pop.aH c.pop.dI).r (c.dI%1024))) hb.pop.pop
 ·show Same a b q ((c.wf a q).pop.aH c.dI) c.cb0
  rw [BD]
  have e:c.cb0=c.pop.aH c.dI:=by
   unfold Mc.cb0;cases c.pop.fine
   ·rfl
   ·have hs:(c.pop.aH c.dI).r.s=c.r.s∧(c.pop.aH c.dI).r.t=c.r.t∧(c.pop.aH c.dI).r.m=c.r.m∧(c.pop.aH c.dI).r.f=c.r.f:=by
     unfold Mc.pop;cases (c.acc 1 2 (el c.r.ys 3) 0).fine<;>exact ⟨rfl,rfl,rfl,rfl⟩
    show (c.pop.aH c.dI).bC _=_
    rw [yP G.g hs.1 hs.2.1 hs.2.2.1 hs.2.2.2];rfl
  rw [e];exact Same.wf (d:=c.pop.aH c.dI) hb.pop
theorem Lu:∀n:Nat,n<32->∀v c:Bool,bits .or .i64 (fl v (bits .and .i64 (n:Int) 4)) (fl c 17)=fl (v&&((n:Int)/4%2==1)) 4+(if c then 1 else 0)*17:=by decide +kernel
theorem Ou (G:GM c) (hf:c.f=aI) (x:In):Same a b q ((c.wf a q).uj x) (c.bd x):=by
 have hb:=jy hf;have f0:=G.g.f0;have f1:=G.g.f1;have hx:c.xOf=c.r.f/16:=by unfold Mc.xOf;omega
 have hbit:bit (c.r.f/16)=true:=by simp [bit];omega
 have l1:c.low 1 x.r=el c.r.xs x.r.toNat%256:=rfl;have l2:c.low 1 x.k=el c.r.xs x.k.toNat%256:=rfl;unfold Mc.uj Mc.yL Mc.bd eX;rw [l1,l2,hbit,Bool.true_and];show Same a b q (bif bcd (el c.r.xs x.r.toNat%256)&&bcd (el c.r.xs x.k.toNat%256) then ((c.wf a q).aJ (c.sU x.s (el c.r.xs x.r.toNat%256) (el c.r.xs x.k.toNat%256))).put 1 x.r (c.nO x.s (el c.r.xs x.r.toNat%256) (el c.r.xs x.k.toNat%256)) else (c.wf a q).vec 4) _;generalize el c.r.xs x.r.toNat%256=u;generalize el c.r.xs x.k.toNat%256=v;cases bcd u&&bcd v
 ·refine ⟨rfl,rfl,rfl,rfl,fun h=>absurd (show (4:Int)=0 from h) (by decide),fun _ => ?_⟩;show ({c.f with pc:=a,wo:=q,v:=4}:Ft)=⟨4,a,0,q,false⟩;rw [hf];rfl
 ·have eV:c.nO x.s u v=dcV x.s (c.r.f/16) u v:=by unfold Mc.nO dcV;rw [hx]
  have eC:c.qB x.s u v=dcC x.s (c.r.f/16) u v:=by unfold Mc.qB dcC;rw [hx]
  have hc:dcC x.s (c.r.f/16) u v=0∨dcC x.s (c.r.f/16) u v=1:=by
   unfold dcC;have h1:=ED (c.r.f/16) u v;have h2:=IK (c.r.f/16) u v;cases x.s==1
   ·show aC (c.r.f/16) u v=0∨aC (c.r.f/16) u v=1
    omega
   ·show sC (c.r.f/16) u v=0∨sC (c.r.f/16) u v=1
    omega
  have eF:c.sU x.s u v=dcF x.s c.r.f (c.r.f/16) u v:=by
   unfold Mc.sU dcF;rw [eV,eC];obtain ⟨n,hn⟩:∃n:Nat,c.r.f=(n:Int):=⟨c.r.f.toNat,by omega⟩
   have:=Lu n (by omega) (dcV x.s (c.r.f/16) u v==0) (dcC x.s (c.r.f/16) u v==1)
   rw [<-hn] at this;rw [this];rcases hc with h|h<;>rw [h]<;>rfl
  show Same a b q (((c.wf a q).aJ (c.sU x.s u v)).put 1 x.r (c.nO x.s u v)) _
  rw [eV,eF];exact Same.wf (d:=(c.put 1 x.r (dcV x.s (c.r.f/16) u v)).aJ (dcF x.s c.r.f (c.r.f/16) u v)) hb
theorem IA (hf:c.f=aI) (x:In):Same a b q ((c.wf a q).stat x) (c.mvs x):=by
 have hb:=jy hf;unfold Mc.stat Mc.mvs;cases x.s==0
 ·exact Same.wf (d:=c.bC {c.r with xs:=c.r.xs.set x.r.toNat (status c.r)}) hb
 ·exact Same.wf (d:=c.bC (aW c.r x.e)) hb
variable {c:Mc}
theorem Dw {m:Int} (h:fE m=true):m=0∨(2<=m∧m<=6):=by
 simp only [fE,Bool.or_eq_true,beq_iff_eq] at h;omega
theorem Hy {m:Int} (h:((m==0)||kD m)=true):m=0∨(2<=m∧m<=6):=by
 simp only [kD,within,Bool.or_eq_true,Bool.and_eq_true,beq_iff_eq,decide_eq_true_eq] at h;omega
def Po (x:In):Int:=if jO x.m=true then 2 else 1
theorem DY {x:In} (hx:bP x=true) :
  ((x.op=1∨x.op=3∨x.op=4∨x.op=5∨x.op=6∨x.op=7∨x.op=8)∧(x.m=1->x.z=2))∨
  (x.op=2∧(x.m=0∨(2<=x.m∧x.m<=6)))∨(x.op=9∧x.z=2)∨
  (x.op=10∧x.z=2∧(x.m=0∨(2<=x.m∧x.m<=6)))∨
  (x.op=11∧(x.m=0∨(2<=x.m∧x.m<=6))∧x.s<=3)∨(x.op=12)∨
  (x.op=13∧x.r<=1∧x.m=7)∨(x.op=14∧x.z=2∧(x.m=0∨(2<=x.m∧x.m<=6))∧x.s<=1)∨
  ((x.op=16∨x.op=17)∧x.z=2∧x.m≠1)∨(x.op=18∧x.s<=1)∨
  (x.op=19∧x.s<=1∧(x.s=0->x.e<=1023))∨(x.op=15∧x.s<=6∧(x.s=3->x.e<=1023)):=by
 obtain ⟨o1,o2,_⟩:=RP hx;have hk:az x=true:=by unfold bP at hx;rw [Bool.and_eq_true] at hx;exact hx.2
 have:x.op=1∨x.op=2∨x.op=3∨x.op=4∨x.op=5∨x.op=6∨x.op=7∨x.op=8∨x.op=9∨x.op=10∨x.op=11∨x.op=12∨x.op=13∨x.op=14∨x.op=15∨x.op=16∨x.op=17∨x.op=18∨x.op=19:=by omega
 have two:((x.s==0)&&((x.z==2) || !(x.m==1)))=true->(x.m=1->x.z=2):=by
  intro h k;rw [k] at h;simp at h;exact h.2
 unfold az at hk;rcases this with h|h|h|h|h|h|h|h|h|h|h|h|h|h|h|h|h|h|h<;>rw [h] at hk ⊢
 ·exact .inl ⟨.inl rfl,two hk⟩
 ·refine .inr (.inl ⟨rfl,Hy ?_⟩);have q:((x.s==0)&&((x.m==0)||kD x.m))=true:=hk;exact (Bool.and_eq_true_iff.1 q).2
 ·exact .inl ⟨.inr (.inl rfl),two hk⟩
 ·exact .inl ⟨.inr (.inr (.inl rfl)),two hk⟩
 ·exact .inl ⟨.inr (.inr (.inr (.inl rfl))),two hk⟩
 ·exact .inl ⟨.inr (.inr (.inr (.inr (.inl rfl)))),two hk⟩
 ·exact .inl ⟨.inr (.inr (.inr (.inr (.inr (.inl rfl))))),two hk⟩
 ·exact .inl ⟨.inr (.inr (.inr (.inr (.inr (.inr rfl))))),two hk⟩
 ·have q:((x.z==2)&&(x.s==0))=true:=hk;simp only [Bool.and_eq_true,beq_iff_eq] at q;exact .inr (.inr (.inl ⟨rfl,q.1⟩))
 ·have q:(((x.z==2)&&(x.s==0))&&fE x.m)=true:=hk;simp only [Bool.and_eq_true,beq_iff_eq] at q;exact .inr (.inr (.inr (.inl ⟨rfl,q.1.1,Dw q.2⟩)))
 ·have q:(((x.r==0)&&decide (x.s<=3))&&((x.m==0)||kD x.m))=true:=hk;rw [Bool.and_eq_true,Bool.and_eq_true,decide_eq_true_eq] at q;exact .inr (.inr (.inr (.inr (.inl ⟨rfl,Hy q.2,q.1.2⟩))))
 ·exact .inr (.inr (.inr (.inr (.inr (.inl rfl)))))
 ·have q:(((x.z==2)&&decide (x.r<=1))&&(x.m==7))=true:=hk;simp only [Bool.and_eq_true,beq_iff_eq,decide_eq_true_eq] at q;exact .inr (.inr (.inr (.inr (.inr (.inr (.inl ⟨rfl,q.1.2,q.2⟩))))))
 ·have q:((((x.z==2)&&(x.r==0))&&decide (x.s<=1))&&fE x.m)=true:=hk;simp only [Bool.and_eq_true,beq_iff_eq,decide_eq_true_eq] at q;exact .inr (.inr (.inr (.inr (.inr (.inr (.inr (.inl ⟨rfl,q.1.1.1,Dw q.2,q.1.2⟩)))))))
 ·refine .inr (.inr (.inr (.inr (.inr (.inr (.inr (.inr (.inr (.inr (.inr ⟨rfl,?_⟩))))))))));have q:(bif x.s==3 then ((x.z==2)&&(x.r==0))&&jm x.m x.e else (((x.z==2)&&decide (x.s<=6))&&iq x.m x.k x.e)&&(decide (3<x.s)||(x.r==0)))=true:=hk;cases h3:x.s==3
  ·rw [h3] at q;have n3:x.s≠3:=by simpa using h3
   have q2:((((x.z==2)&&decide (x.s<=6))&&iq x.m x.k x.e)&&(decide (3<x.s)||(x.r==0)))=true:=q;simp only [Bool.and_eq_true,decide_eq_true_eq] at q2;exact ⟨q2.1.1.2,fun k=>absurd k n3⟩
  ·rw [h3] at q;have n3:x.s=3:=by simpa using h3
   have q2:(((x.z==2)&&(x.r==0))&&jm x.m x.e)=true:=q;simp only [jm,Bool.and_eq_true,decide_eq_true_eq] at q2;exact ⟨by omega,fun _=>q2.2.2⟩
 ·have q:(((x.z==2)&&(x.s==0)) && !(x.m==1))=true:=hk;simp only [Bool.and_eq_true,beq_iff_eq,Bool.not_eq_true',beq_eq_false_iff_ne] at q;exact .inr (.inr (.inr (.inr (.inr (.inr (.inr (.inr (.inl ⟨.inl rfl,q.1.1,q.2⟩))))))))
 ·have q:(((x.z==2)&&(x.s==0)) && !(x.m==1))=true:=hk;simp only [Bool.and_eq_true,beq_iff_eq,Bool.not_eq_true',beq_eq_false_iff_ne] at q;exact .inr (.inr (.inr (.inr (.inr (.inr (.inr (.inr (.inl ⟨.inr rfl,q.1.1,q.2⟩))))))))
 ·have q:(((!(x.z==2))&&decide (x.s<=1))&&(x.m==0))=true:=hk;simp only [Bool.and_eq_true,decide_eq_true_eq] at q;exact .inr (.inr (.inr (.inr (.inr (.inr (.inr (.inr (.inr (.inl ⟨rfl,q.1.2⟩)))))))))
 ·have q:((x.z==2)&&((((x.s==0)&&(x.r==0))&&jm x.m x.e)||((x.s==1)&&iq x.m x.k x.e)))=true:=hk;simp only [jm,Bool.and_eq_true,Bool.or_eq_true,beq_iff_eq,decide_eq_true_eq] at q;refine .inr (.inr (.inr (.inr (.inr (.inr (.inr (.inr (.inr (.inr (.inl ⟨rfl,?_,?_⟩))))))))))
  ·rcases q.2 with k|k
   ·have:=k.1.1;omega
   ·have:=k.1;omega
  ·intro k0;rcases q.2 with k|k
   ·exact k.2.2
   ·have:=k.1;omega
theorem Ot {a b q:Int} (G:GM c) (hf:c.f=aI) (x:In) (hx:bP x=true) (hp:c.r.p=b) (hb:b=(a+Po x*2)%65536):Same a b q ((c.wf a q).doI x a) (c.cr' x):=by
 have B:=sH hx;have K:=DY hx;unfold Mc.doI Mc.cr';rcases K with ⟨h,h1⟩|⟨h,hm⟩|⟨h,hz⟩|⟨h,hz,hm⟩|⟨h,hm,hs⟩|h|⟨h,hr,hm⟩|⟨h,hz,hm,hs⟩|⟨h,hz,hm⟩|⟨h,hs⟩|⟨h,hs,he⟩|⟨h,hs,he⟩
 ·have s:=Iw (a:=a) (b:=b) (q:=q) G hf x B h1 h;rcases h with h|h|h|h|h|h|h<;>rw [h]<;>exact s
 ·rw [h];exact Oo hf x hm
 ·rw [h];exact Ol hf x h hz
 ·rw [h];exact IC hf x hz hm
 ·rw [h];exact Iz G hf x B hm hs
 ·rw [h];exact Iy hf x
 ·rw [h];refine IE hf x h ?_;rw [hp,hb];unfold Po;rw [hm];rfl
 ·rw [h];exact Om hf x h hz hm
 ·have s:=IB (a:=a) (b:=b) (q:=q) G hf x B hz hm h hp;rcases h with h|h<;>rw [h]<;>exact s
 ·rw [h];exact Ou G hf x
 ·rw [h];exact IA hf x
 ·rw [h];exact Oq G hf x hp B.r0
theorem Dv (z m k e:Int):(c.read z m k e).st=c.st:=by unfold Mc.read;cases Mc.gJ m<;>rfl
theorem uu (z m k e:Int):(c.slot z m k e).st=c.st:=by unfold Mc.slot;cases Mc.gJ m<;>rfl
theorem uG (z m k a v:Int):(c.write z m k a v).st=c.st:=by unfold Mc.write;cases m==0<;>rfl
theorem OC (v:Int):(c.push v).st=c.st:=by unfold Mc.push;cases (c.acc 2 2 c.spA v).fine<;>rfl
theorem IR:c.pop.st=c.st:=by unfold Mc.pop;cases (c.acc 1 2 (el c.r.ys 3) 0).fine<;>rfl
theorem gB (b:Bool) (x y:Mc) (s:Bool) (hx:x.st=s) (hy:y.st=s):(bif b then x else y).st=s:=by cases b<;>assumption
theorem VN (x:In):(c.tk x).st=c.st:=by
 unfold Mc.tk Mc.tk';have h:=Dv (c:=c) x.z x.m x.k x.e;exact gB _ _ _ _ (gB _ _ _ _ h (gB _ _ _ _ h h)) h
theorem XJ (x:In):(c.ch x).st=c.st:=by
 unfold Mc.ch Mc.ch';have h:=Dv (c:=c) x.z x.m x.k x.e;have h2:=uu (c:=c) x.z x.m x.k x.e;refine gB _ _ _ _ (gB _ _ _ _ h2 ?_) (gB _ _ _ _ (gB _ _ _ _ h ?_) h)
 ·rw [uG];exact h2
 ·rw [uG];exact h
theorem Xv (x:In):(c.jp x).st=c.st:=by
 unfold Mc.jp;have h2:=uu (c:=c) x.z x.m x.k x.e;have h3:=(OC (c:=c.slot x.z x.m x.k x.e) c.r.p).trans h2;exact gB _ _ _ _ (gB _ _ _ _ h3 h3) h2
theorem Xy (hf:c.f=aI) (x:In):(c.fw x).f.v≠0->(c.fw x).st=c.st:=by
 unfold Mc.fw;intro h;have p1:=IR (c:=c);have p2:=(IR (c:=c.pop)).trans p1;cases h0:x.s==0<;>rw [h0] at h
 ·cases h1:x.s==1<;>rw [h1] at h
  ·cases h3:x.s==3<;>rw [h3] at h
   ·show (bif x.s==4 then _ else bif x.s==5 then _ else bif x.s==6 then _ else c:Mc).st=c.st
    exact gB _ _ _ _ rfl (gB _ _ _ _ rfl (gB _ _ _ _ rfl rfl))
   ·exact absurd (show c.f.v=0 by rw [hf];rfl) h
  ·show c.cb1.st=c.st
   unfold Mc.cb1;exact gB _ _ _ _ (gB _ _ _ _ p2 p2) p1
 ·show c.cb0.st=c.st
  unfold Mc.cb0;exact gB _ _ _ _ p1 p1
theorem XH (hf:c.f=aI) (x:In):(c.cr' x).f.v≠0->(c.cr' x).st=c.st:=by
 unfold Mc.cr';intro h;cases h2:x.op==2<;>rw [h2] at h
 ·cases h10:x.op==10<;>rw [h10] at h
  ·cases h11:x.op==11<;>rw [h11] at h
   ·cases h12:x.op==12<;>rw [h12] at h
    ·cases h13:x.op==13<;>rw [h13] at h
     ·cases h14:x.op==14<;>rw [h14] at h
      ·cases h15:x.op==15<;>rw [h15] at h
       ·show (bif x.op==18 then c.bd x else bif x.op==19 then c.mvs x else c.tk x).st=c.st
        refine gB _ _ _ _ ?_ (gB _ _ _ _ ?_ (VN x))
        ·unfold Mc.bd;exact gB _ _ _ _ rfl rfl
        ·unfold Mc.mvs;exact gB _ _ _ _ rfl rfl
       ·exact Xy hf x h
      ·exact Xv x
     ·show (c.brn x).st=c.st
      unfold Mc.brn;exact gB _ _ _ _ rfl rfl
    ·rfl
   ·exact XJ x
  ·show (c.slot x.z x.m x.k x.e).st=c.st
   exact uu _ _ _ _
 ·show (c.gv x).st=c.st
  unfold Mc.gv;rw [uG];exact uu (c:=c.aJ _) _ _ _ _
def beh (a:Int) (x:In):Int:=(a+Po x*2)%65536
def Mc.dn' (c d:Mc) (b a q:Int):Mc:=bif d.f.v==0 then d else {d with r:=c.r,f:=⟨d.f.v,bif dS d.f.v then b else a,d.f.ad,q,d.f.wr⟩}
def Mc.dn (c:Mc) (x:In) (a:Int):Mc:=c.dn' ((c.aH (beh a x)).cr x) (beh a x) a (nZ x%65536)
def Mc.nf (c:Mc):Mc:={c with f:=aI}
def Mc.sp (c:Mc):Mc:=bif c.lC.v==0 then c.fetch.nf.dn c.aF c.r.p else {c.fetch with f:=c.lC}
theorem Eh:c.fetch.r=c.r∧c.fetch.st=c.st:=by
 unfold Mc.fetch
 have h3:c.fe3.r=c.r∧c.fe3.st=c.st:=by
  unfold Mc.fe3;cases dW c.feW==2<;>exact ⟨rfl,rfl⟩
 cases c.fe1.fine
 ·exact ⟨rfl,rfl⟩
 ·cases c.fe3.fine
  ·exact h3
  ·cases bP c.feX
   ·exact h3
   ·exact h3
theorem Aa (h:c.fetch.fine=true):c.fe1.fine=true∧c.fe3.fine=true∧bP c.feX=true:=by
 cases h1:c.fe1.fine
 ·rw [(Ej h1).1,h1] at h;cases h
 ·cases h3:c.fe3.fine
  ·rw [(Ei h1 h3).1,h3] at h;cases h
  ·cases hx:bP c.feX
   ·rw [(yA h1 h3 hx).1] at h;cases h
   ·exact ⟨rfl,rfl,rfl⟩
theorem XA (hf:c.f=aI) (h3:c.fe3.fine=true) (h1:c.fe1.fine=true):c.fe3.f=⟨0,c.r.p,0,c.feW,false⟩:=by
 have e1:c.fe1.f=⟨0,c.r.p,0,0,false⟩:=by
  have e:c.fe1.f={Mc.di aI 3 2 c.r.p with pc:=c.r.p,wo:=0}:=by
   show Mc.di {c.f with pc:=c.r.p} 3 2 c.r.p=_
   rw [hf];exact qm c.r.p 0 3 2 c.r.p
  have:((Mc.di aI 3 2 c.r.p).v != 0)=false:=by
   unfold Mc.fine at h1;rw [e] at h1;simpa using h1
  rw [e,(nJ this).2];rfl
 have e2:c.fe2.f={aI with pc:=c.r.p,wo:=c.feW}:=by
  show ({c.fe1.f with wo:=c.feW}:Ft)=_
  rw [e1];rfl
 unfold Mc.fe3 at h3 ⊢;cases hl:dW c.feW==2
 ·exact e2
 ·rw [hl] at h3
  have e:(c.fe2.acc 3 2 c.feA 0).f={Mc.di aI 3 2 c.feA with pc:=c.r.p,wo:=c.feW}:=by
   show Mc.di c.fe2.f 3 2 c.feA=_
   rw [e2];exact qm _ _ _ _ _
  have:((Mc.di aI 3 2 c.feA).v != 0)=false:=by
   have h3':(c.fe2.acc 3 2 c.feA 0).fine=true:=h3;unfold Mc.fine at h3';rw [e] at h3';simpa using h3'
  show (c.fe2.acc 3 2 c.feA 0).f=_
  rw [e,(nJ this).2];rfl
theorem UJ {c:Mc} (G:GM c):0<=c.feW∧c.feW<=65535:=by
 have h:=(G.ft {c.f with pc:=c.r.p}).gG (k:=3) (s:=2) (a:=c.r.p) (v:=0) (dY (.inr rfl) G.p0 G.p1);have t:=aQ h;have e:c.feW=lv c.bx 3 2 c.r.p 0:=rfl;have e2:({c with f:={c.f with pc:=c.r.p}}:Mc).gG 3 2 c.r.p 0=lv c.bx 3 2 c.r.p 0:=rfl;rw [e2] at t;rw [e];simp [top] at t;omega
theorem He {w v:Int} (h0:0<=w) (h1:w<=65535):nZ (decode w v)%65536=w:=by
 unfold nZ decode;simp only;omega
theorem GM.like {m d:Mc} (h:GM m) (bx:m.bx=d.bx) (bl:m.bl=d.bl) (bm:m.bm=d.bm) (g:Good d.r) (p0:0<=d.r.p) (p1:d.r.p<=65535):GM d:=
 ⟨g,p0,p1,by rw [<-bx];exact h.bx,by rw [<-bx];exact h.ok,by rw [<-bl,<-bm];exact h.bl,by rw [<-bm];exact h.bm,by rw [<-bl,<-bm];exact h.ac⟩
theorem Du (k:Cp) (G:GM (Mc.ofC k)):(Mc.ofC k).sp.f=fD k∧(Mc.ofC k).sp.cpu false=dB k∧GM (Mc.ofC k).sp:=by
 have er:stepM k=(Mc.ofC k).s2:=rfl;have ek:(Mc.ofC k).r=k.r∧(Mc.ofC k).st=k.st:=⟨rfl,rfl⟩
 have hf:(Mc.ofC k).f=aI:=rfl;unfold fD dB;rw [er,<-ek.1,<-ek.2];generalize Mc.ofC k=c at G hf;have GF:=G.fetch;obtain ⟨fr,fs⟩:=Eh (c:=c);cases hF:c.fetch.fine
 ·have e1:c.s1=c.fetch:=by unfold Mc.s1;rw [hF];rfl
  have e2:c.s2=c.fetch:=by unfold Mc.s2;rw [e1,hF];rfl
  have eF:c.lC=c.fetch.f:=by unfold Mc.lC;rw [hF];rfl
  have hv:(c.lC.v==0)=false:=by rw [eF];exact hF
  have es:c.sp=c.fetch:=by
   unfold Mc.sp;rw [hv,eF];rfl
  rw [es,e2,hF];refine ⟨rfl,?_,GF⟩;show Cp.mk c.fetch.r c.fetch.bx c.fetch.bl c.fetch.bm c.fetch.st false=Cp.mk c.r c.fetch.bx c.fetch.bl c.fetch.bm c.st false;rw [fr,fs]
 ·obtain ⟨h1,h3,hx⟩:=Aa hF;obtain ⟨eD,eI,eN,eF⟩:=yx h1 h3 hx;have ff:c.fetch.f=⟨0,c.r.p,0,c.feW,false⟩:=by rw [eD];exact XA hf h3 h1
  have hw:=UJ G;have ew:nZ c.aF%65536=c.feW:=by rw [eI];exact He hw.1 hw.2
  have eb:(c.r.p+2*c.cZ)%65536=beh c.r.p c.aF:=by
   unfold beh;rw [eI,eN,Int.mul_comm 2];rfl
  have hx2:bP c.aF=true:=by rw [eI];exact hx
  have hv:(c.lC.v==0)=true:=by rw [eF];rfl
  have es:c.sp=c.fetch.nf.dn c.aF c.r.p:=by unfold Mc.sp;rw [hv];rfl
  rw [es];obtain ⟨x,hX⟩:∃x,c.aF=x:=⟨_,rfl⟩
  rw [hX] at ew eb hx2 ⊢;have hb:0<=beh c.r.p x∧beh c.r.p x<=65535:=by unfold beh;omega
  obtain ⟨d,hd⟩:∃d,c.fetch.nf=d:=⟨_,rfl⟩
  have gd:GM d:=by rw [<-hd];exact GF.ft aI
  have df:d.f=aI:=by rw [<-hd];rfl
  have dr:d.r=c.r:=by rw [<-hd];exact fr
  have ds:d.st=c.st:=by rw [<-hd];exact fs
  have dw:c.fetch=d.wf c.r.p c.feW:=by
   rw [<-hd];show c.fetch=Mc.mk c.fetch.r c.fetch.bx c.fetch.bl c.fetch.bm c.fetch.st ⟨0,c.r.p,0,c.feW,false⟩;rw [<-ff]
  unfold Mc.dn;rw [hd,ew];have gE:GM (d.aH (beh c.r.p x)):=gd.aH hb.1 hb.2;cases hp:jl x && !c.r.s
  ·have e1:c.s1=c.fetch:=by unfold Mc.s1;rw [hF,fr,hX,hp];rfl
   have e2:c.s2=((d.aH (beh c.r.p x)).wf c.r.p c.feW).doI x c.r.p:=by unfold Mc.s2;rw [e1,hF,eb,hX,dw];rfl
   have ec:(d.aH (beh c.r.p x)).cr x=(d.aH (beh c.r.p x)).cr' x:=by
    unfold Mc.cr;show (bif jl x && !d.r.s then _ else _)=_;rw [dr,hp];rfl
   have S:=Ot (q:=c.feW) gE df x hx2 (a:=c.r.p) rfl rfl;have GD:=GM.doI (gE.ft {(d.aH (beh c.r.p x)).f with pc:=c.r.p,wo:=c.feW}) hx2 c.r.p;have GS:=XH (c:=d.aH (beh c.r.p x)) df x;rw [e2,ec];change Same c.r.p (beh c.r.p x) c.feW (((d.aH (beh c.r.p x)).wf c.r.p c.feW).doI x c.r.p) _ at S;change GM (((d.aH (beh c.r.p x)).wf c.r.p c.feW).doI x c.r.p) at GD;generalize ((d.aH (beh c.r.p x)).wf c.r.p c.feW).doI x c.r.p=m at S GD;have GS2:((d.aH (beh c.r.p x)).cr' x).f.v≠0->((d.aH (beh c.r.p x)).cr' x).st=d.st:=GS;generalize (d.aH (beh c.r.p x)).cr' x=u at S GS2;clear GS;unfold Mc.dn';cases hu:u.f.v==0
   ·have hn:u.f.v≠0:=by simpa using hu
    have mf:=S.no hn;have mn:m.fine=false:=by unfold Mc.fine;rw [mf];exact hu
    rw [mn];refine ⟨mf.symm,?_,?_⟩
    ·show Cp.mk d.r u.bx u.bl u.bm u.st false=Cp.mk c.r m.bx m.bl m.bm c.st false
     rw [dr,S.bx,S.bl,S.bm,GS2 hn,ds]
    ·exact GM.like (d:={u with r:=d.r,f:=⟨u.f.v,bif dS u.f.v then beh c.r.p x else c.r.p,u.f.ad,c.feW,u.f.wr⟩}) GD S.bx S.bl S.bm gd.g gd.p0 gd.p1
   ·have hz:u.f.v=0:=by simpa using hu
    obtain ⟨m0,mr,uf⟩:=S.ok hz;have mn:m.fine=true:=by unfold Mc.fine;rw [m0];rfl
    rw [mn];refine ⟨uf,?_,?_⟩
    ·show Cp.mk u.r u.bx u.bl u.bm u.st false=Cp.mk m.r m.bx m.bl m.bm m.st false
     rw [mr,S.bx,S.bl,S.bm,S.st]
    ·exact GM.like (d:=u) GD S.bx S.bl S.bm (by rw [<-mr];exact GD.g) (by rw [<-mr];exact GD.p0) (by rw [<-mr];exact GD.p1)
  ·have e1:c.s1=c.fetch.vec 8:=by unfold Mc.s1;rw [hF,fr,hX,hp];rfl
   have e2:c.s2=c.fetch.vec 8:=by unfold Mc.s2;rw [e1];rfl
   have ec:(d.aH (beh c.r.p x)).cr x={d.aH (beh c.r.p x) with f:=⟨8,0,0,0,false⟩}:=by
    unfold Mc.cr;show (bif jl x && !d.r.s then _ else _)=_;rw [dr,hp];rfl
   rw [e2,ec,dw];refine ⟨?_,?_,?_⟩
   ·show Ft.mk 8 c.r.p 0 c.feW false={d.f with pc:=c.r.p,wo:=c.feW,v:=8}
    rw [df];rfl
   ·show Cp.mk d.r d.bx d.bl d.bm d.st false=Cp.mk c.r d.bx d.bl d.bm c.st false
    rw [dr,ds]
   ·exact gd.ft ⟨8,c.r.p,0,c.feW,false⟩
theorem FtW.no:FtW aI:=⟨by decide,by decide,by decide,by decide,by decide⟩
theorem FtW.fetch {c:Mc} (g:GM c) (hf:c.f=aI):FtW c.fetch.f:=by
 have h0:FtW c.fe0.f:=by
  show FtW {c.f with pc:=c.r.p}
  rw [hf];exact ⟨show (0:Int)<=0 by decide,show (0:Int)<=21 by decide,⟨g.p0,g.p1⟩,show (0:Int)<=0∧(0:Int)<=65535 by decide,show (0:Int)<=0∧(0:Int)<=65535 by decide⟩
 have g0:GM c.fe0:=g.ft _;have a1:eP 3 2 c.r.p 0=true:=dY (k:=3) (.inr rfl) g.p0 g.p1;have h1:FtW c.fe1.f:=h0.acc g.p0 g.p1;have g1:GM c.fe1:=g0.acc a1
 have hw:0<=c.feW∧c.feW<=65535:=by
  have q:=g0.gG a1;have h9:0<=c.feW∧c.feW<65536:=by simpa [okv,within,top,Mc.feW] using q
  omega
 have h2:FtW c.fe2.f:=⟨h1.v0,h1.v1,h1.p,h1.a,hw⟩
 have h3:FtW c.fe3.f:=by
  unfold Mc.fe3;cases (dW c.feW==2)
  ·exact h2
  ·exact h2.acc (by unfold Mc.feA;omega) (by unfold Mc.feA;omega)
 unfold Mc.fetch;cases c.fe1.fine
 ·exact h1
 ·cases c.fe3.fine
  ·exact h3
  ·cases bP c.feX
   ·exact ⟨show (0:Int)<=4 by decide,show (4:Int)<=21 by decide,h3.p,h3.a,h3.w⟩
   ·exact h3
theorem FtW.step {c:Cp} (h:dX c=true) (hl:c.bl.length=5*c.bm):FtW (fD c):=by
 have g:GM (Mc.ofC c):=GM.of h hl c.st;have gf:=GM.fetch g;have hf:=FtW.fetch g rfl
 have h1:FtW (Mc.ofC c).s1.f:=by
  unfold Mc.s1;cases ((Mc.ofC c).fetch.fine&&(jl (Mc.ofC c).aF && !(Mc.ofC c).fetch.r.s))
  ·exact hf
  ·exact hf.vec (by decide) (by decide)
 have g1:GM (Mc.ofC c).s1:=by
  unfold Mc.s1;cases ((Mc.ofC c).fetch.fine&&(jl (Mc.ofC c).aF && !(Mc.ofC c).fetch.r.s))
  ·exact gf
  ·exact gf.ft _
 have h2:FtW (stepM c).f:=by
  unfold stepM Mc.s2;cases hq:(Mc.ofC c).s1.fine
  ·exact h1
  ·have hk:bP (Mc.ofC c).aF=true:=by
    cases hz:(Mc.ofC c).fetch.fine
    ·exfalso
     have:(Mc.ofC c).s1=(Mc.ofC c).fetch:=by unfold Mc.s1;rw [hz];rfl
     rw [this,hz] at hq;cases hq
    ·exact (pJ hz).1
   exact FtW.doI (c:=(Mc.ofC c).s1.aH (((Mc.ofC c).r.p+2*(Mc.ofC c).cZ)%65536)) h1 (g1.aH (by omega) (by omega)) hk _
 unfold fD;cases (stepM c).fine
 ·exact h2
 ·exact FtW.no
def trF (x:Cp):Ft:=⟨9,x.r.p,0,0,false⟩
def wh1 (c:Cp):Cp:=bif (fD c).v != 0 then gZ (dB c) (fD c) (dB c).r.m else dB c
def whS (c:Cp):Bool:=c.r.t&&(!(wh1 c).ha && !((fD c).v != 0 && !dS (fD c).v))
def whC (c:Cp):Cp:=bif whS c then gZ (wh1 c) (trF (wh1 c)) (wh1 c).r.m else wh1 c
def whV (c:Cp):Int:=bif whS c && !((fD c).v != 0) then 9 else (fD c).v
theorem mF {c:Cp} (h:dX c=true) (hl:c.bl.length=5*c.bm) {f:Ft} (hf:FtW f) (k:Int):dX (gZ c f k)=true∧(gZ c f k).bl.length=5*(gZ c f k).bm:=by
 have g:GM (Mc.ofC c):=GM.of h hl c.st;have q:GM (wJ c f k):=g.ent (vS (r:=c.r) g.g hf) hf.v0 hf.v1;have hs:(wJ c f k).st=false:=by unfold wJ;rw [Lj];rfl
 have h1:=xG q.g q.p0 q.p1;refine ⟨?_,q.bl⟩;show dX ((wJ c f k).cpu _)=true;simp [dX,Mc.cpu,h1,eu,q.ac,q.bx,q.ok,q.bm,hs]
theorem xB {x:Cp} (h:dX x=true) (hl:x.bl.length=5*x.bm):FtW (trF x):=by
 have g:GM (Mc.ofC x):=GM.of h hl x.st;exact ⟨by show (0:Int)<=9;decide,by show (9:Int)<=21;decide,⟨g.p0,g.p1⟩,by show (0:Int)<=0∧(0:Int)<=65535;decide,by show (0:Int)<=0∧(0:Int)<=65535;decide⟩
theorem uI {c:Cp} (h:dX c=true) (hl:c.bl.length=5*c.bm):dX (wh1 c)=true∧(wh1 c).bl.length=5*(wh1 c).bm:=by
 have s:=rV h hl;unfold wh1;cases ((fD c).v != 0)
 ·exact s
 ·exact mF s.1 s.2 (FtW.step h hl) _
theorem yQ {c:Cp} (h:dX c=true) (hl:c.bl.length=5*c.bm):dX (whC c)=true∧(whC c).bl.length=5*(whC c).bm:=by
 have s:=uI h hl;unfold whC;cases whS c
 ·exact s
 ·exact mF s.1 s.2 (xB s.1 s.2) _
end Go.Proofs.YtgikibaajanjiaaGreatDoor.Pl
namespace Go.Proofs.YtgikibaajanjiaaGreatDoor
open Pl
open Go.RowKit Go.Proofs.Tryz
set_option linter.unusedVariables false
theorem fC {w:World} {b:Nat} {v0 v1 v2 v3 v4 v5 v6 v7 v8 v9 v10 v11:Value}:Kept b (b+1) w ((((((((((((w.setCell (aaB b 0) v0).setCell (aaB b 1) v1).setCell (aaB b 2) v2).setCell (aaB b 3) v3).setCell (aaB b 4) v4).setCell (aaB b 5) v5).setCell (aaB b 6) v6).setCell (aaB b 7) v7).setCell (aaB b 8) v8).setCell (aaB b 9) v9).setCell (aaB b 10) v10).setCell (aaB b 11) v11):=((((((((((((ak _ _ _ _).one _ _).one _ _).one _ _).one _ _).one _ _).one _ _).one _ _).one _ _).one _ _).one _ _).one _ _)
theorem Blk.Fq {w:World} {b:Nat} {ty:TypeId} {u0 u1 u2 u3 u4 u5 u6 u7 u8 u9 u10 u11:Value} (h:Blk w b #[u0,u1,u2,u3,u4,u5,u6,u7,u8,u9,u10,u11] ty) (v0 v1 v2 v3 v4 v5 v6 v7 v8 v9 v10 v11:Value):Blk ((((((((((((w.setCell (aaB b 0) v0).setCell (aaB b 1) v1).setCell (aaB b 2) v2).setCell (aaB b 3) v3).setCell (aaB b 4) v4).setCell (aaB b 5) v5).setCell (aaB b 6) v6).setCell (aaB b 7) v7).setCell (aaB b 8) v8).setCell (aaB b 9) v9).setCell (aaB b 10) v10).setCell (aaB b 11) v11) b #[v0,v1,v2,v3,v4,v5,v6,v7,v8,v9,v10,v11] ty:=by
 have q:=(Blk.set (Blk.set (Blk.set (Blk.set (Blk.set (Blk.set (Blk.set (Blk.set (Blk.set (Blk.set (Blk.set (Blk.set h 0 v0) 1 v1) 2 v2) 3 v3) 4 v4) 5 v5) 6 v6) 7 v7) 8 v8) 9 v9) 10 v10) 11 v11)
 simp only [List.setIfInBounds_toArray,List.set_cons_zero,List.set_cons_succ] at q;exact q
theorem Bd3 {w:World} {b:Nat} {cs:Array Value} {t:TypeId} (h:Blk w b cs t):Blk w.drew b cs t:=h
theorem rct {fn:Func} {p u1:Tmp} {ty:TypeId} (h:fn.results=#[.cell p ty,.tmp u1]) (tmps:Array Value) (P:Program) (w:World) :
  (results fn tmps).run P w=((asAddr (tmps.getD p undef)).run P w).andThen fun a w₁=>((loadVar ty a).run P w₁).andThen fun v w₂=>.ok (.tuple #[v,tmps.getD u1 undef]) w₂:=by
 simp only [results,h];simp [Sem.run_bind,Result.andThen]
theorem Ud (w:World) (c:Cp) (a b e q:Option Addr) (ca cb ce cq:Nat) (ha:aG w a c.r.xs) (hb:aG w b c.r.ys) (he:aG w e c.bx) (hq:aG w q c.bl) (hok:dX c=true) (hl:c.bl.length=5*c.bm) :
  Calls prog 86 #[.agg #[.slice a 4 ca,.slice b 4 cb,iv c.r.o,iv c.r.p,iv c.r.f,iv c.r.m,.bool c.r.s,.bool c.r.t,.slice e 512 ce,.slice q c.bm cq,.bool c.st,.bool c.ha]] w fun r w'=>∃gd cd ga cA g1 c1 g2 c2 mid:Nat,r=.returned (.tuple #[.agg (eG (whC c) gd cd ga cA g1 c1 g2 c2),iv (whV c)])∧CO w' w.heap.size mid (whC c) gd ga g1 g2 c2∧Kept 0 0 w w':=by
 have G6:=fun (w9:World) ra rb re rq=>Xa w9 c a b e q ca cb ce cq ra rb re rq hok hl;obtain ⟨s1,s2⟩:=rV hok hl;have FW:=aaA (FtW.step hok hl);obtain ⟨g1',g2'⟩:=uI hok hl;have HY1:=aaA g1';have HY2:=aaA g2';have TW:=aaA (xB g1' g2');have TS:=aaA (xB s1 s2);have HYm:Hid (0<=(wh1 c).r.m∧(wh1 c).r.m<=7):=aaA (by have g:=(GM.of g1' g2' true).g;exact ⟨g.m0,g.m1⟩);have HSm:Hid (0<=(dB c).r.m∧(dB c).r.m<=7):=aaA (by have g:=(GM.of s1 s2 true).g;exact ⟨g.m0,g.m1⟩);have HS1:=aaA s1;have HS2:=aaA s2;have SH:Hid ((dB c).ha=false):=aaA (by rw [<-(Du c (GM.of hok hl c.st)).2.1];rfl);obtain ⟨F,hF⟩:∃F,F=fD c:=⟨_,rfl⟩
 obtain ⟨S,hS⟩:∃S,S=dB c:=⟨_,rfl⟩
 obtain ⟨Y,hY⟩:∃Y,Y=wh1 c:=⟨_,rfl⟩
 rw [<-hF] at FW;rw [<-hS] at HS1 HS2 SH HSm TS;rw [<-hY] at HY1 HY2 TW HYm;have HS9:=SH;have WY:Hid (Y=bif F.v != 0 then gZ S F S.r.m else S):=aaA (by rw [hY,hF,hS];rfl);have WS:Hid (whS c=(c.r.t&&(!Y.ha && !(F.v != 0 && !Pl.dS F.v)))):=aaA (by rw [hY,hF];rfl);have WC:Hid (whC c=bif whS c then gZ Y (trF Y) Y.r.m else Y):=aaA (by rw [hY];rfl);have WV:Hid (whV c=bif whS c && !(F.v != 0) then 9 else F.v):=aaA (by rw [hF];rfl);have HF:=aaA hF;have HS:=aaA hS;clear hF hS hY s1 s2 g1' g2' hok hl;have K0:=aaA (ah (kept_alloc w (.cells #[.slice a 4 ca,.slice b 4 cb,iv c.r.o,iv c.r.p,iv c.r.f,iv c.r.m,.bool c.r.s,.bool c.r.t,.slice e 512 ce,.slice q c.bm cq,.bool c.st,.bool c.ha] 40)) (.cells cpZ 40));have Bc:=aaA ((Blk.new w #[.slice a 4 ca,.slice b 4 cb,iv c.r.o,iv c.r.p,iv c.r.f,iv c.r.m,.bool c.r.s,.bool c.r.t,.slice e 512 ce,.slice q c.bm cq,.bool c.st,.bool c.ha] 40).alloc (.cells cpZ 40));have Br:=Blk.new (w.alloc (.cells #[.slice a 4 ca,.slice b 4 cb,iv c.r.o,iv c.r.p,iv c.r.f,iv c.r.m,.bool c.r.s,.bool c.r.t,.slice e 512 ce,.slice q c.bm cq,.bool c.st,.bool c.ha] 40)) cpZ 40;simp only [World.size_alloc] at Br;replace Br:=aaA Br;obtain ⟨X,hX⟩:∃X:World,(w.alloc (.cells #[.slice a 4 ca,.slice b 4 cb,iv c.r.o,iv c.r.p,iv c.r.f,iv c.r.m,.bool c.r.s,.bool c.r.t,.slice e 512 ce,.slice q c.bm cq,.bool c.st,.bool c.ha] 40)).alloc (.cells cpZ 40)=X:=⟨_,rfl⟩
 rw [hX] at K0 Bc Br;have sX:w.heap.size+2<=X.heap.size∧X.heap.size<=w.heap.size+2:=by rw [<-hX];simp
 have HA:=aaA (ha.ag K0.o);have HB:=aaA (hb.ag K0.o);have HE:=aaA (he.ag K0.o);have HQ:=aaA (hq.ag K0.o);have i0:=Bc.o.all;clear ha hb he hq;cases hv:(F.v != 0)
 ·have EY:Hid (Y=S):=aaA (by rw [WY.o,hv];rfl);have hv2:(F.v==0)=true:=by simpa using hv
  rcases Bool.eq_false_or_eq_true c.r.t with ht|ht
  ·have RC:Hid (whC c=gZ S (trF S) S.r.m∧whV c=9):=aaA (by rw [WC.o,WV.o,WS.o,ht,hv,EY.o,SH.o];exact ⟨rfl,rfl⟩);have HTT:=aaA ht;clear ht;obtain ⟨T,hT⟩:∃T,T=gZ S (trF S) S.r.m:=⟨_,rfl⟩
   rw [<-hT] at RC;have ET:=aaA hT;clear hT;go_enter func86,ntmps86;go_wp2_with (first|(go_at_call 82;refine (G6 _ HA.o HB.o HE.o HQ.o).mono ?_;rw [<-HS.o,<-HF.o];unfold eG ftC;rw [SH.o];rintro e9 W1 ⟨gd1,cd1,ga1,cA1,g11,c11,g21,c21,mid1,rfl,hc9,k9⟩;have kz:=ah (kept_alloc W1 (.cells #[.slice (some (aaB gd1 0)) 4 cd1,.slice (some (aaB ga1 0)) 4 cA1,iv S.r.o,iv S.r.p,iv S.r.f,iv S.r.m,.bool S.r.s,.bool S.r.t,.slice (some (aaB g11 0)) 512 c11,.slice (some (aaB g21 0)) S.bm c21,.bool S.st,.bool false] 40)) (.cells (ftA F) 42);have Bx1:=aaA ((Blk.new W1 #[.slice (some (aaB gd1 0)) 4 cd1,.slice (some (aaB ga1 0)) 4 cA1,iv S.r.o,iv S.r.p,iv S.r.f,iv S.r.m,.bool S.r.s,.bool S.r.t,.slice (some (aaB g11 0)) 512 c11,.slice (some (aaB g21 0)) S.bm c21,.bool S.st,.bool false] 40).alloc (.cells (ftA F) 42));have Bf1:=Blk.new (W1.alloc (.cells #[.slice (some (aaB gd1 0)) 4 cd1,.slice (some (aaB ga1 0)) 4 cA1,iv S.r.o,iv S.r.p,iv S.r.f,iv S.r.m,.bool S.r.s,.bool S.r.t,.slice (some (aaB g11 0)) 512 c11,.slice (some (aaB g21 0)) S.bm c21,.bool S.st,.bool false] 40)) (ftA F) 42;simp only [World.size_alloc] at Bf1;replace Bf1:=aaA Bf1;have Bc1:=aaA ((Bc.o.ae k9).ae kz);have Br1:=aaA ((Br.o.ae k9).ae kz);have K1:=aaA ((K0.o.trans k9).trans kz);have C1:=aaA (hc9.any kz);have z1:=k9.size;obtain ⟨Z1,hZ1⟩:∃Z:World,(W1.alloc (.cells #[.slice (some (aaB gd1 0)) 4 cd1,.slice (some (aaB ga1 0)) 4 cA1,iv S.r.o,iv S.r.p,iv S.r.f,iv S.r.m,.bool S.r.s,.bool S.r.t,.slice (some (aaB g11 0)) 512 c11,.slice (some (aaB g21 0)) S.bm c21,.bool S.st,.bool false] 40)).alloc (.cells (ftA F) 42)=Z:=⟨_,rfl⟩;rw [hZ1] at Bx1 Bf1 Bc1 Br1 K1 C1;have y1:=Bf1.o.lt;have hne:w.heap.size+1<W1.heap.size:=(by omega);have px1:=Bx1.o.all;have fx1:=Bx1.o.fz;have pf1:=Bf1.o.all;have pc1:=Bc1.o.all;(try rw [HTT.o] at pc1);have pr1:=Br1.o.all;have fr1:=Br1.o.fz;clear k9 kz hc9 i0)|(go_at_call 139;have hr9:=qG Z1 S (trF S) S.r.m (some (aaB gd1 0)) (some (aaB ga1 0)) (some (aaB g11 0)) (some (aaB g21 0)) cd1 cA1 c11 c21 C1.o.d.row C1.o.a.row C1.o.b.row (bZ C1.o.l).row HS1.o HS2.o TS.o HSm.o.1 HSm.o.2;rw [HS9.o] at hr9;refine hr9.mono ?_;clear hr9;rw [<-ET.o];unfold eG;rintro e9 W2 ⟨gd2,cd2,ga2,cA2,g12,c12,g22,c22,mid2,rfl,hc9,k9⟩;have pw2:=(Bx1.o.ae k9).all;have fw2:=(Bx1.o.ae k9).fz;obtain ⟨Z2,hZ2⟩:∃Z:World,((((((((((((W2.setCell (aaB W1.heap.size 0) (.slice (some (aaB gd2 0)) 4 cd2)).setCell (aaB W1.heap.size 1) (.slice (some (aaB ga2 0)) 4 cA2)).setCell (aaB W1.heap.size 2) (iv T.r.o)).setCell (aaB W1.heap.size 3) (iv T.r.p)).setCell (aaB W1.heap.size 4) (iv T.r.f)).setCell (aaB W1.heap.size 5) (iv T.r.m)).setCell (aaB W1.heap.size 6) (.bool T.r.s)).setCell (aaB W1.heap.size 7) (.bool T.r.t)).setCell (aaB W1.heap.size 8) (.slice (some (aaB g12 0)) 512 c12)).setCell (aaB W1.heap.size 9) (.slice (some (aaB g22 0)) T.bm c22)).setCell (aaB W1.heap.size 10) (.bool T.st)).setCell (aaB W1.heap.size 11) (.bool T.ha))=Z:=⟨_,rfl⟩;have kz:Kept W1.heap.size (W1.heap.size+1) W2 Z2:=(by rw [<-hZ2];exact fC);have Bx2:Hid (Blk Z2 W1.heap.size #[.slice (some (aaB gd2 0)) 4 cd2,.slice (some (aaB ga2 0)) 4 cA2,iv T.r.o,iv T.r.p,iv T.r.f,iv T.r.m,.bool T.r.s,.bool T.r.t,.slice (some (aaB g12 0)) 512 c12,.slice (some (aaB g22 0)) T.bm c22,.bool T.st,.bool T.ha] 40):=aaA (by rw [<-hZ2];exact Blk.Fq (Bx1.o.ae k9) _ _ _ _ _ _ _ _ _ _ _ _);have Bf2:=aaA ((Bf1.o.ae k9).kept kz (by omega));have Bc2:=aaA ((Bc1.o.ae k9).kept kz (by omega));have Br2:=aaA ((Br1.o.ae k9).kept kz (by omega));have zz2:=k9.size;have C2:=aaA (hc9.pst (lo:=X.heap.size) (by omega) (by omega) kz);have K2:=aaA (aB (K1.o.trans k9) kz (by omega));have y2:=Bf2.o.lt;have px2:=Bx2.o.all;have fx2:=Bx2.o.fz;have pf2:=Bf2.o.all;have pc2:=Bc2.o.all;(try rw [HTT.o] at pc2);have pr2:=Br2.o.all;have fr2:=Br2.o.fz;have T2:True:=trivial;clear k9 kz hc9));refine bodyPost_ret (v:=.tuple #[.agg (eG (whC c) gd2 cd2 ga2 cA2 g12 c12 g22 c22),iv (whV c)]) ?_ rfl ⟨gd2,cd2,ga2,cA2,g12,c12,g22,c22,mid2,rfl,?co,?kw⟩
   case co=>
    rw [RC.o.1];refine CO.pst (x:=w.heap.size+1) (y:=w.heap.size+1+1) C2.o (by omega) (by omega) ?_;repeat (first|with_reducible exact Kept.refl _ _ _|refine af ?_ _ _ _ (.inl (by omega)))
   case kw=>repeat (first|with_reducible exact K2.o|refine af ?_ _ _ _ (.inr (by omega)))
   rw [rct rfl,RC.o.1,RC.o.2];unfold eG;go_simp
  ·have RC:Hid (whC c=S∧whV c=F.v):=aaA (by rw [WC.o,WV.o,WS.o,ht,hv,EY.o];exact ⟨rfl,rfl⟩);have HTT:=aaA ht;clear ht;go_enter func86,ntmps86;go_wp2_with (first|(go_at_call 82;refine (G6 _ HA.o HB.o HE.o HQ.o).mono ?_;rw [<-HS.o,<-HF.o];unfold eG ftC;rw [SH.o];rintro e9 W1 ⟨gd1,cd1,ga1,cA1,g11,c11,g21,c21,mid1,rfl,hc9,k9⟩;have kz:=ah (kept_alloc W1 (.cells #[.slice (some (aaB gd1 0)) 4 cd1,.slice (some (aaB ga1 0)) 4 cA1,iv S.r.o,iv S.r.p,iv S.r.f,iv S.r.m,.bool S.r.s,.bool S.r.t,.slice (some (aaB g11 0)) 512 c11,.slice (some (aaB g21 0)) S.bm c21,.bool S.st,.bool false] 40)) (.cells (ftA F) 42);have Bx1:=aaA ((Blk.new W1 #[.slice (some (aaB gd1 0)) 4 cd1,.slice (some (aaB ga1 0)) 4 cA1,iv S.r.o,iv S.r.p,iv S.r.f,iv S.r.m,.bool S.r.s,.bool S.r.t,.slice (some (aaB g11 0)) 512 c11,.slice (some (aaB g21 0)) S.bm c21,.bool S.st,.bool false] 40).alloc (.cells (ftA F) 42));have Bf1:=Blk.new (W1.alloc (.cells #[.slice (some (aaB gd1 0)) 4 cd1,.slice (some (aaB ga1 0)) 4 cA1,iv S.r.o,iv S.r.p,iv S.r.f,iv S.r.m,.bool S.r.s,.bool S.r.t,.slice (some (aaB g11 0)) 512 c11,.slice (some (aaB g21 0)) S.bm c21,.bool S.st,.bool false] 40)) (ftA F) 42;simp only [World.size_alloc] at Bf1;replace Bf1:=aaA Bf1;have Bc1:=aaA ((Bc.o.ae k9).ae kz);have Br1:=aaA ((Br.o.ae k9).ae kz);have K1:=aaA ((K0.o.trans k9).trans kz);have C1:=aaA (hc9.any kz);have z1:=k9.size;obtain ⟨Z1,hZ1⟩:∃Z:World,(W1.alloc (.cells #[.slice (some (aaB gd1 0)) 4 cd1,.slice (some (aaB ga1 0)) 4 cA1,iv S.r.o,iv S.r.p,iv S.r.f,iv S.r.m,.bool S.r.s,.bool S.r.t,.slice (some (aaB g11 0)) 512 c11,.slice (some (aaB g21 0)) S.bm c21,.bool S.st,.bool false] 40)).alloc (.cells (ftA F) 42)=Z:=⟨_,rfl⟩;rw [hZ1] at Bx1 Bf1 Bc1 Br1 K1 C1;have y1:=Bf1.o.lt;have hne:w.heap.size+1<W1.heap.size:=(by omega);have px1:=Bx1.o.all;have fx1:=Bx1.o.fz;have pf1:=Bf1.o.all;have pc1:=Bc1.o.all;(try rw [HTT.o] at pc1);have pr1:=Br1.o.all;have fr1:=Br1.o.fz;clear k9 kz hc9 i0));go_region_held3 (fun w'=>(∀i,w'.cell? ⟨W1.heap.size,i,none⟩=#[.slice (some (aaB gd1 0)) 4 cd1,.slice (some (aaB ga1 0)) 4 cA1,iv S.r.o,iv S.r.p,iv S.r.f,iv S.r.m,.bool S.r.s,.bool S.r.t,.slice (some (aaB g11 0)) 512 c11,.slice (some (aaB g21 0)) S.bm c21,.bool S.st,.bool false][i]?)∧(∀i,w'.cell? ⟨W1.heap.size+1,i,none⟩=(ftA F)[i]?)) (first|with_reducible exact ⟨(Bd3 Bx1.o).all,(Bd3 Bf1.o).all⟩|(with_reducible show (∀i,(World.setCell _ _ _).cell? _=_)∧_;refine ⟨Blk.all ((Bd3 Bx1.o).kept fC ?_),Blk.all ((Bd3 Bf1.o).kept fC ?_)⟩<;>omega)|(with_reducible show (∀i,(World.drew _).cell? _=_)∧_;refine ⟨Blk.all (Bd3 (Bx1.o.kept fC ?_)),Blk.all (Bd3 (Bf1.o.kept fC ?_))⟩<;>omega)) (fail)
   all_goals
    go_wp2_with fail;refine bodyPost_ret (v:=.tuple #[.agg (eG (whC c) gd1 cd1 ga1 cA1 g11 c11 g21 c21),iv (whV c)]) ?_ rfl ⟨gd1,cd1,ga1,cA1,g11,c11,g21,c21,mid1,rfl,?co,?kw⟩
    case co=>
     rw [RC.o.1];refine CO.pst (x:=w.heap.size+1) (y:=w.heap.size+1+1) C1.o (by omega) (by omega) ?_;first|with_reducible exact ai fC|with_reducible exact fC
    case kw=>first|with_reducible exact ai (aB K1.o fC (by omega))|with_reducible exact aB K1.o fC (by omega)
    rw [rct rfl,RC.o.1,RC.o.2];unfold eG;rw [SH.o];go_simp
 ·have EY:Hid (Y=gZ S F S.r.m):=aaA (by rw [WY.o,hv];rfl);have hv2:(F.v==0)=false:=by simpa using hv
  cases ho:Pl.dS F.v
  ·have RC:Hid (whC c=Y∧whV c=F.v):=aaA (by rw [WC.o,WV.o,WS.o,hv,ho];cases c.r.t<;>cases Y.ha<;>exact ⟨rfl,rfl⟩);obtain ⟨d18,d5⟩:decide (F.v<18)=true∧(F.v != 5)=true:=by unfold Pl.dS at ho;simp at ho ⊢;omega
   go_enter func86,ntmps86;go_wp2_with (first|(go_at_call 82;refine (G6 _ HA.o HB.o HE.o HQ.o).mono ?_;rw [<-HS.o,<-HF.o];unfold eG ftC;rw [SH.o];rintro e9 W1 ⟨gd1,cd1,ga1,cA1,g11,c11,g21,c21,mid1,rfl,hc9,k9⟩;have kz:=ah (kept_alloc W1 (.cells #[.slice (some (aaB gd1 0)) 4 cd1,.slice (some (aaB ga1 0)) 4 cA1,iv S.r.o,iv S.r.p,iv S.r.f,iv S.r.m,.bool S.r.s,.bool S.r.t,.slice (some (aaB g11 0)) 512 c11,.slice (some (aaB g21 0)) S.bm c21,.bool S.st,.bool false] 40)) (.cells (ftA F) 42);have Bx1:=aaA ((Blk.new W1 #[.slice (some (aaB gd1 0)) 4 cd1,.slice (some (aaB ga1 0)) 4 cA1,iv S.r.o,iv S.r.p,iv S.r.f,iv S.r.m,.bool S.r.s,.bool S.r.t,.slice (some (aaB g11 0)) 512 c11,.slice (some (aaB g21 0)) S.bm c21,.bool S.st,.bool false] 40).alloc (.cells (ftA F) 42));have Bf1:=Blk.new (W1.alloc (.cells #[.slice (some (aaB gd1 0)) 4 cd1,.slice (some (aaB ga1 0)) 4 cA1,iv S.r.o,iv S.r.p,iv S.r.f,iv S.r.m,.bool S.r.s,.bool S.r.t,.slice (some (aaB g11 0)) 512 c11,.slice (some (aaB g21 0)) S.bm c21,.bool S.st,.bool false] 40)) (ftA F) 42;simp only [World.size_alloc] at Bf1;replace Bf1:=aaA Bf1;have Bc1:=aaA ((Bc.o.ae k9).ae kz);have Br1:=aaA ((Br.o.ae k9).ae kz);have K1:=aaA ((K0.o.trans k9).trans kz);have C1:=aaA (hc9.any kz);have z1:=k9.size;obtain ⟨Z1,hZ1⟩:∃Z:World,(W1.alloc (.cells #[.slice (some (aaB gd1 0)) 4 cd1,.slice (some (aaB ga1 0)) 4 cA1,iv S.r.o,iv S.r.p,iv S.r.f,iv S.r.m,.bool S.r.s,.bool S.r.t,.slice (some (aaB g11 0)) 512 c11,.slice (some (aaB g21 0)) S.bm c21,.bool S.st,.bool false] 40)).alloc (.cells (ftA F) 42)=Z:=⟨_,rfl⟩;rw [hZ1] at Bx1 Bf1 Bc1 Br1 K1 C1;have y1:=Bf1.o.lt;have hne:w.heap.size+1<W1.heap.size:=(by omega);have px1:=Bx1.o.all;have fx1:=Bx1.o.fz;have pf1:=Bf1.o.all;have pc1:=Bc1.o.all;(try rw [HTT.o] at pc1);have pr1:=Br1.o.all;have fr1:=Br1.o.fz;clear k9 kz hc9 i0)|(go_at_call 139;have hr9:=qG Z1 S F S.r.m (some (aaB gd1 0)) (some (aaB ga1 0)) (some (aaB g11 0)) (some (aaB g21 0)) cd1 cA1 c11 c21 C1.o.d.row C1.o.a.row C1.o.b.row (bZ C1.o.l).row HS1.o HS2.o FW.o HSm.o.1 HSm.o.2;rw [HS9.o] at hr9;refine hr9.mono ?_;clear hr9;rw [<-EY.o];unfold eG;rintro e9 W2 ⟨gd2,cd2,ga2,cA2,g12,c12,g22,c22,mid2,rfl,hc9,k9⟩;have pw2:=(Bx1.o.ae k9).all;have fw2:=(Bx1.o.ae k9).fz;obtain ⟨Z2,hZ2⟩:∃Z:World,((((((((((((W2.setCell (aaB W1.heap.size 0) (.slice (some (aaB gd2 0)) 4 cd2)).setCell (aaB W1.heap.size 1) (.slice (some (aaB ga2 0)) 4 cA2)).setCell (aaB W1.heap.size 2) (iv Y.r.o)).setCell (aaB W1.heap.size 3) (iv Y.r.p)).setCell (aaB W1.heap.size 4) (iv Y.r.f)).setCell (aaB W1.heap.size 5) (iv Y.r.m)).setCell (aaB W1.heap.size 6) (.bool Y.r.s)).setCell (aaB W1.heap.size 7) (.bool Y.r.t)).setCell (aaB W1.heap.size 8) (.slice (some (aaB g12 0)) 512 c12)).setCell (aaB W1.heap.size 9) (.slice (some (aaB g22 0)) Y.bm c22)).setCell (aaB W1.heap.size 10) (.bool Y.st)).setCell (aaB W1.heap.size 11) (.bool Y.ha))=Z:=⟨_,rfl⟩;have kz:Kept W1.heap.size (W1.heap.size+1) W2 Z2:=(by rw [<-hZ2];exact fC);have Bx2:Hid (Blk Z2 W1.heap.size #[.slice (some (aaB gd2 0)) 4 cd2,.slice (some (aaB ga2 0)) 4 cA2,iv Y.r.o,iv Y.r.p,iv Y.r.f,iv Y.r.m,.bool Y.r.s,.bool Y.r.t,.slice (some (aaB g12 0)) 512 c12,.slice (some (aaB g22 0)) Y.bm c22,.bool Y.st,.bool Y.ha] 40):=aaA (by rw [<-hZ2];exact Blk.Fq (Bx1.o.ae k9) _ _ _ _ _ _ _ _ _ _ _ _);have Bf2:=aaA ((Bf1.o.ae k9).kept kz (by omega));have Bc2:=aaA ((Bc1.o.ae k9).kept kz (by omega));have Br2:=aaA ((Br1.o.ae k9).kept kz (by omega));have zz2:=k9.size;have C2:=aaA (hc9.pst (lo:=X.heap.size) (by omega) (by omega) kz);have K2:=aaA (aB (K1.o.trans k9) kz (by omega));have y2:=Bf2.o.lt;have px2:=Bx2.o.all;have fx2:=Bx2.o.fz;have pf2:=Bf2.o.all;have pc2:=Bc2.o.all;(try rw [HTT.o] at pc2);have pr2:=Br2.o.all;have fr2:=Br2.o.fz;have T2:True:=trivial;clear k9 kz hc9));go_region_held3 (fun w'=>(∀i,w'.cell? ⟨W1.heap.size,i,none⟩=#[.slice (some (aaB gd2 0)) 4 cd2,.slice (some (aaB ga2 0)) 4 cA2,iv Y.r.o,iv Y.r.p,iv Y.r.f,iv Y.r.m,.bool Y.r.s,.bool Y.r.t,.slice (some (aaB g12 0)) 512 c12,.slice (some (aaB g22 0)) Y.bm c22,.bool Y.st,.bool Y.ha][i]?)∧(∀i,w'.cell? ⟨W1.heap.size+1,i,none⟩=(ftA F)[i]?)) (first|with_reducible exact ⟨(Bd3 Bx2.o).all,(Bd3 Bf2.o).all⟩|(with_reducible show (∀i,(World.setCell _ _ _).cell? _=_)∧_;refine ⟨Blk.all ((Bd3 Bx2.o).kept fC ?_),Blk.all ((Bd3 Bf2.o).kept fC ?_)⟩<;>omega)|(with_reducible show (∀i,(World.drew _).cell? _=_)∧_;refine ⟨Blk.all (Bd3 (Bx2.o.kept fC ?_)),Blk.all (Bd3 (Bf2.o.kept fC ?_))⟩<;>omega)) (fail)
   all_goals
    go_wp2_with fail;refine bodyPost_ret (v:=.tuple #[.agg (eG (whC c) gd2 cd2 ga2 cA2 g12 c12 g22 c22),iv (whV c)]) ?_ rfl ⟨gd2,cd2,ga2,cA2,g12,c12,g22,c22,mid2,rfl,?co,?kw⟩
    case co=>
     rw [RC.o.1];refine CO.pst (x:=w.heap.size+1) (y:=w.heap.size+1+1) C2.o (by omega) (by omega) ?_;first|with_reducible exact ai fC|with_reducible exact fC
    case kw=>first|with_reducible exact ai (aB K2.o fC (by omega))|with_reducible exact aB K2.o fC (by omega)
    rw [rct rfl,RC.o.1,RC.o.2];unfold eG;go_simp
  ·have D:decide (F.v<18)=false∨decide (F.v<18)=true∧(F.v != 5)=false:=by unfold Pl.dS at ho;simp at ho ⊢;omega
   rcases Bool.eq_false_or_eq_true c.r.t with ht|ht
   ·rcases Bool.eq_false_or_eq_true Y.ha with hh|hh
    ·have RC:Hid (whC c=Y∧whV c=F.v):=aaA (by rw [WC.o,WV.o,WS.o,hv,ho,hh,ht];exact ⟨rfl,rfl⟩);have HTT:=aaA ht;have HY9:=aaA hh;clear ht hh;rcases D with d18|⟨d18,d5⟩
     all_goals
      go_enter func86,ntmps86;go_wp2_with (first|(go_at_call 82;refine (G6 _ HA.o HB.o HE.o HQ.o).mono ?_;rw [<-HS.o,<-HF.o];unfold eG ftC;rw [SH.o];rintro e9 W1 ⟨gd1,cd1,ga1,cA1,g11,c11,g21,c21,mid1,rfl,hc9,k9⟩;have kz:=ah (kept_alloc W1 (.cells #[.slice (some (aaB gd1 0)) 4 cd1,.slice (some (aaB ga1 0)) 4 cA1,iv S.r.o,iv S.r.p,iv S.r.f,iv S.r.m,.bool S.r.s,.bool S.r.t,.slice (some (aaB g11 0)) 512 c11,.slice (some (aaB g21 0)) S.bm c21,.bool S.st,.bool false] 40)) (.cells (ftA F) 42);have Bx1:=aaA ((Blk.new W1 #[.slice (some (aaB gd1 0)) 4 cd1,.slice (some (aaB ga1 0)) 4 cA1,iv S.r.o,iv S.r.p,iv S.r.f,iv S.r.m,.bool S.r.s,.bool S.r.t,.slice (some (aaB g11 0)) 512 c11,.slice (some (aaB g21 0)) S.bm c21,.bool S.st,.bool false] 40).alloc (.cells (ftA F) 42));have Bf1:=Blk.new (W1.alloc (.cells #[.slice (some (aaB gd1 0)) 4 cd1,.slice (some (aaB ga1 0)) 4 cA1,iv S.r.o,iv S.r.p,iv S.r.f,iv S.r.m,.bool S.r.s,.bool S.r.t,.slice (some (aaB g11 0)) 512 c11,.slice (some (aaB g21 0)) S.bm c21,.bool S.st,.bool false] 40)) (ftA F) 42;simp only [World.size_alloc] at Bf1;replace Bf1:=aaA Bf1;have Bc1:=aaA ((Bc.o.ae k9).ae kz);have Br1:=aaA ((Br.o.ae k9).ae kz);have K1:=aaA ((K0.o.trans k9).trans kz);have C1:=aaA (hc9.any kz);have z1:=k9.size;obtain ⟨Z1,hZ1⟩:∃Z:World,(W1.alloc (.cells #[.slice (some (aaB gd1 0)) 4 cd1,.slice (some (aaB ga1 0)) 4 cA1,iv S.r.o,iv S.r.p,iv S.r.f,iv S.r.m,.bool S.r.s,.bool S.r.t,.slice (some (aaB g11 0)) 512 c11,.slice (some (aaB g21 0)) S.bm c21,.bool S.st,.bool false] 40)).alloc (.cells (ftA F) 42)=Z:=⟨_,rfl⟩;rw [hZ1] at Bx1 Bf1 Bc1 Br1 K1 C1;have y1:=Bf1.o.lt;have hne:w.heap.size+1<W1.heap.size:=(by omega);have px1:=Bx1.o.all;have fx1:=Bx1.o.fz;have pf1:=Bf1.o.all;have pc1:=Bc1.o.all;(try rw [HTT.o] at pc1);have pr1:=Br1.o.all;have fr1:=Br1.o.fz;clear k9 kz hc9 i0)|(go_at_call 139;have hr9:=qG Z1 S F S.r.m (some (aaB gd1 0)) (some (aaB ga1 0)) (some (aaB g11 0)) (some (aaB g21 0)) cd1 cA1 c11 c21 C1.o.d.row C1.o.a.row C1.o.b.row (bZ C1.o.l).row HS1.o HS2.o FW.o HSm.o.1 HSm.o.2;rw [HS9.o] at hr9;refine hr9.mono ?_;clear hr9;rw [<-EY.o];unfold eG;rw [HY9.o];rintro e9 W2 ⟨gd2,cd2,ga2,cA2,g12,c12,g22,c22,mid2,rfl,hc9,k9⟩;have pw2:=(Bx1.o.ae k9).all;have fw2:=(Bx1.o.ae k9).fz;obtain ⟨Z2,hZ2⟩:∃Z:World,((((((((((((W2.setCell (aaB W1.heap.size 0) (.slice (some (aaB gd2 0)) 4 cd2)).setCell (aaB W1.heap.size 1) (.slice (some (aaB ga2 0)) 4 cA2)).setCell (aaB W1.heap.size 2) (iv Y.r.o)).setCell (aaB W1.heap.size 3) (iv Y.r.p)).setCell (aaB W1.heap.size 4) (iv Y.r.f)).setCell (aaB W1.heap.size 5) (iv Y.r.m)).setCell (aaB W1.heap.size 6) (.bool Y.r.s)).setCell (aaB W1.heap.size 7) (.bool Y.r.t)).setCell (aaB W1.heap.size 8) (.slice (some (aaB g12 0)) 512 c12)).setCell (aaB W1.heap.size 9) (.slice (some (aaB g22 0)) Y.bm c22)).setCell (aaB W1.heap.size 10) (.bool Y.st)).setCell (aaB W1.heap.size 11) (.bool true))=Z:=⟨_,rfl⟩;have kz:Kept W1.heap.size (W1.heap.size+1) W2 Z2:=(by rw [<-hZ2];exact fC);have Bx2:Hid (Blk Z2 W1.heap.size #[.slice (some (aaB gd2 0)) 4 cd2,.slice (some (aaB ga2 0)) 4 cA2,iv Y.r.o,iv Y.r.p,iv Y.r.f,iv Y.r.m,.bool Y.r.s,.bool Y.r.t,.slice (some (aaB g12 0)) 512 c12,.slice (some (aaB g22 0)) Y.bm c22,.bool Y.st,.bool true] 40):=aaA (by rw [<-hZ2];exact Blk.Fq (Bx1.o.ae k9) _ _ _ _ _ _ _ _ _ _ _ _);have Bf2:=aaA ((Bf1.o.ae k9).kept kz (by omega));have Bc2:=aaA ((Bc1.o.ae k9).kept kz (by omega));have Br2:=aaA ((Br1.o.ae k9).kept kz (by omega));have zz2:=k9.size;have C2:=aaA (hc9.pst (lo:=X.heap.size) (by omega) (by omega) kz);have K2:=aaA (aB (K1.o.trans k9) kz (by omega));have y2:=Bf2.o.lt;have px2:=Bx2.o.all;have fx2:=Bx2.o.fz;have pf2:=Bf2.o.all;have pc2:=Bc2.o.all;(try rw [HTT.o] at pc2);have pr2:=Br2.o.all;have fr2:=Br2.o.fz;have T2:True:=trivial;clear k9 kz hc9));go_region_held3 (fun w'=>(∀i,w'.cell? ⟨W1.heap.size,i,none⟩=#[.slice (some (aaB gd2 0)) 4 cd2,.slice (some (aaB ga2 0)) 4 cA2,iv Y.r.o,iv Y.r.p,iv Y.r.f,iv Y.r.m,.bool Y.r.s,.bool Y.r.t,.slice (some (aaB g12 0)) 512 c12,.slice (some (aaB g22 0)) Y.bm c22,.bool Y.st,.bool true][i]?)∧(∀i,w'.cell? ⟨W1.heap.size+1,i,none⟩=(ftA F)[i]?)) (first|with_reducible exact ⟨(Bd3 Bx2.o).all,(Bd3 Bf2.o).all⟩|(with_reducible show (∀i,(World.setCell _ _ _).cell? _=_)∧_;refine ⟨Blk.all ((Bd3 Bx2.o).kept fC ?_),Blk.all ((Bd3 Bf2.o).kept fC ?_)⟩<;>omega)|(with_reducible show (∀i,(World.drew _).cell? _=_)∧_;refine ⟨Blk.all (Bd3 (Bx2.o.kept fC ?_)),Blk.all (Bd3 (Bf2.o.kept fC ?_))⟩<;>omega)) (fail)
      all_goals
       go_wp2_with fail;refine bodyPost_ret (v:=.tuple #[.agg (eG (whC c) gd2 cd2 ga2 cA2 g12 c12 g22 c22),iv (whV c)]) ?_ rfl ⟨gd2,cd2,ga2,cA2,g12,c12,g22,c22,mid2,rfl,?co,?kw⟩
       case co=>
        rw [RC.o.1];refine CO.pst (x:=w.heap.size+1) (y:=w.heap.size+1+1) C2.o (by omega) (by omega) ?_;first|with_reducible exact ai fC|with_reducible exact fC
       case kw=>first|with_reducible exact ai (aB K2.o fC (by omega))|with_reducible exact aB K2.o fC (by omega)
       rw [rct rfl,RC.o.1,RC.o.2];unfold eG;rw [HY9.o];go_simp
    ·have RC:Hid (whC c=gZ Y (trF Y) Y.r.m∧whV c=F.v):=aaA (by rw [WC.o,WV.o,WS.o,hv,ho,hh,ht];exact ⟨rfl,rfl⟩);have HTT:=aaA ht;have HY9:=aaA hh;clear ht hh;obtain ⟨T,hT⟩:∃T,T=gZ Y (trF Y) Y.r.m:=⟨_,rfl⟩
     rw [<-hT] at RC;have ET:=aaA hT;clear hT;rcases D with d18|⟨d18,d5⟩
     all_goals
      go_enter func86,ntmps86;go_wp2_with (first|(go_at_call 82;refine (G6 _ HA.o HB.o HE.o HQ.o).mono ?_;rw [<-HS.o,<-HF.o];unfold eG ftC;rw [SH.o];rintro e9 W1 ⟨gd1,cd1,ga1,cA1,g11,c11,g21,c21,mid1,rfl,hc9,k9⟩;have kz:=ah (kept_alloc W1 (.cells #[.slice (some (aaB gd1 0)) 4 cd1,.slice (some (aaB ga1 0)) 4 cA1,iv S.r.o,iv S.r.p,iv S.r.f,iv S.r.m,.bool S.r.s,.bool S.r.t,.slice (some (aaB g11 0)) 512 c11,.slice (some (aaB g21 0)) S.bm c21,.bool S.st,.bool false] 40)) (.cells (ftA F) 42);have Bx1:=aaA ((Blk.new W1 #[.slice (some (aaB gd1 0)) 4 cd1,.slice (some (aaB ga1 0)) 4 cA1,iv S.r.o,iv S.r.p,iv S.r.f,iv S.r.m,.bool S.r.s,.bool S.r.t,.slice (some (aaB g11 0)) 512 c11,.slice (some (aaB g21 0)) S.bm c21,.bool S.st,.bool false] 40).alloc (.cells (ftA F) 42));have Bf1:=Blk.new (W1.alloc (.cells #[.slice (some (aaB gd1 0)) 4 cd1,.slice (some (aaB ga1 0)) 4 cA1,iv S.r.o,iv S.r.p,iv S.r.f,iv S.r.m,.bool S.r.s,.bool S.r.t,.slice (some (aaB g11 0)) 512 c11,.slice (some (aaB g21 0)) S.bm c21,.bool S.st,.bool false] 40)) (ftA F) 42;simp only [World.size_alloc] at Bf1;replace Bf1:=aaA Bf1;have Bc1:=aaA ((Bc.o.ae k9).ae kz);have Br1:=aaA ((Br.o.ae k9).ae kz);have K1:=aaA ((K0.o.trans k9).trans kz);have C1:=aaA (hc9.any kz);have z1:=k9.size;obtain ⟨Z1,hZ1⟩:∃Z:World,(W1.alloc (.cells #[.slice (some (aaB gd1 0)) 4 cd1,.slice (some (aaB ga1 0)) 4 cA1,iv S.r.o,iv S.r.p,iv S.r.f,iv S.r.m,.bool S.r.s,.bool S.r.t,.slice (some (aaB g11 0)) 512 c11,.slice (some (aaB g21 0)) S.bm c21,.bool S.st,.bool false] 40)).alloc (.cells (ftA F) 42)=Z:=⟨_,rfl⟩;rw [hZ1] at Bx1 Bf1 Bc1 Br1 K1 C1;have y1:=Bf1.o.lt;have hne:w.heap.size+1<W1.heap.size:=(by omega);have px1:=Bx1.o.all;have fx1:=Bx1.o.fz;have pf1:=Bf1.o.all;have pc1:=Bc1.o.all;(try rw [HTT.o] at pc1);have pr1:=Br1.o.all;have fr1:=Br1.o.fz;clear k9 kz hc9 i0)|(go_at_call 139;have z:=T2;have hr9:=qG Z2 Y (trF Y) Y.r.m (some (aaB gd2 0)) (some (aaB ga2 0)) (some (aaB g12 0)) (some (aaB g22 0)) cd2 cA2 c12 c22 C2.o.d.row C2.o.a.row C2.o.b.row (bZ C2.o.l).row HY1.o HY2.o TW.o HYm.o.1 HYm.o.2;rw [HY9.o] at hr9;refine hr9.mono ?_;clear hr9;rw [<-ET.o];unfold eG;rintro e9 W3 ⟨gd3,cd3,ga3,cA3,g13,c13,g23,c23,mid3,rfl,hc9,k9⟩;have pw3:=(Bx2.o.ae k9).all;have fw3:=(Bx2.o.ae k9).fz;obtain ⟨Z3,hZ3⟩:∃Z:World,((((((((((((W3.setCell (aaB W1.heap.size 0) (.slice (some (aaB gd3 0)) 4 cd3)).setCell (aaB W1.heap.size 1) (.slice (some (aaB ga3 0)) 4 cA3)).setCell (aaB W1.heap.size 2) (iv T.r.o)).setCell (aaB W1.heap.size 3) (iv T.r.p)).setCell (aaB W1.heap.size 4) (iv T.r.f)).setCell (aaB W1.heap.size 5) (iv T.r.m)).setCell (aaB W1.heap.size 6) (.bool T.r.s)).setCell (aaB W1.heap.size 7) (.bool T.r.t)).setCell (aaB W1.heap.size 8) (.slice (some (aaB g13 0)) 512 c13)).setCell (aaB W1.heap.size 9) (.slice (some (aaB g23 0)) T.bm c23)).setCell (aaB W1.heap.size 10) (.bool T.st)).setCell (aaB W1.heap.size 11) (.bool T.ha))=Z:=⟨_,rfl⟩;have kz:Kept W1.heap.size (W1.heap.size+1) W3 Z3:=(by rw [<-hZ3];exact fC);have Bx3:Hid (Blk Z3 W1.heap.size #[.slice (some (aaB gd3 0)) 4 cd3,.slice (some (aaB ga3 0)) 4 cA3,iv T.r.o,iv T.r.p,iv T.r.f,iv T.r.m,.bool T.r.s,.bool T.r.t,.slice (some (aaB g13 0)) 512 c13,.slice (some (aaB g23 0)) T.bm c23,.bool T.st,.bool T.ha] 40):=aaA (by rw [<-hZ3];exact Blk.Fq (Bx2.o.ae k9) _ _ _ _ _ _ _ _ _ _ _ _);have Bf3:=aaA ((Bf2.o.ae k9).kept kz (by omega));have Bc3:=aaA ((Bc2.o.ae k9).kept kz (by omega));have Br3:=aaA ((Br2.o.ae k9).kept kz (by omega));have zz3:=k9.size;have C3:=aaA (hc9.pst (lo:=X.heap.size) (by omega) (by omega) kz);have K3:=aaA (aB (K2.o.trans k9) kz (by omega));have y3:=Bf3.o.lt;have px3:=Bx3.o.all;have fx3:=Bx3.o.fz;have pf3:=Bf3.o.all;have pc3:=Bc3.o.all;(try rw [HTT.o] at pc3);have pr3:=Br3.o.all;have fr3:=Br3.o.fz;have T3:True:=trivial;clear k9 kz hc9)|(go_at_call 139;have hr9:=qG Z1 S F S.r.m (some (aaB gd1 0)) (some (aaB ga1 0)) (some (aaB g11 0)) (some (aaB g21 0)) cd1 cA1 c11 c21 C1.o.d.row C1.o.a.row C1.o.b.row (bZ C1.o.l).row HS1.o HS2.o FW.o HSm.o.1 HSm.o.2;rw [HS9.o] at hr9;refine hr9.mono ?_;clear hr9;rw [<-EY.o];unfold eG;rw [HY9.o];rintro e9 W2 ⟨gd2,cd2,ga2,cA2,g12,c12,g22,c22,mid2,rfl,hc9,k9⟩;have pw2:=(Bx1.o.ae k9).all;have fw2:=(Bx1.o.ae k9).fz;obtain ⟨Z2,hZ2⟩:∃Z:World,((((((((((((W2.setCell (aaB W1.heap.size 0) (.slice (some (aaB gd2 0)) 4 cd2)).setCell (aaB W1.heap.size 1) (.slice (some (aaB ga2 0)) 4 cA2)).setCell (aaB W1.heap.size 2) (iv Y.r.o)).setCell (aaB W1.heap.size 3) (iv Y.r.p)).setCell (aaB W1.heap.size 4) (iv Y.r.f)).setCell (aaB W1.heap.size 5) (iv Y.r.m)).setCell (aaB W1.heap.size 6) (.bool Y.r.s)).setCell (aaB W1.heap.size 7) (.bool Y.r.t)).setCell (aaB W1.heap.size 8) (.slice (some (aaB g12 0)) 512 c12)).setCell (aaB W1.heap.size 9) (.slice (some (aaB g22 0)) Y.bm c22)).setCell (aaB W1.heap.size 10) (.bool Y.st)).setCell (aaB W1.heap.size 11) (.bool false))=Z:=⟨_,rfl⟩;have kz:Kept W1.heap.size (W1.heap.size+1) W2 Z2:=(by rw [<-hZ2];exact fC);have Bx2:Hid (Blk Z2 W1.heap.size #[.slice (some (aaB gd2 0)) 4 cd2,.slice (some (aaB ga2 0)) 4 cA2,iv Y.r.o,iv Y.r.p,iv Y.r.f,iv Y.r.m,.bool Y.r.s,.bool Y.r.t,.slice (some (aaB g12 0)) 512 c12,.slice (some (aaB g22 0)) Y.bm c22,.bool Y.st,.bool false] 40):=aaA (by rw [<-hZ2];exact Blk.Fq (Bx1.o.ae k9) _ _ _ _ _ _ _ _ _ _ _ _);have Bf2:=aaA ((Bf1.o.ae k9).kept kz (by omega));have Bc2:=aaA ((Bc1.o.ae k9).kept kz (by omega));have Br2:=aaA ((Br1.o.ae k9).kept kz (by omega));have zz2:=k9.size;have C2:=aaA (hc9.pst (lo:=X.heap.size) (by omega) (by omega) kz);have K2:=aaA (aB (K1.o.trans k9) kz (by omega));have y2:=Bf2.o.lt;have px2:=Bx2.o.all;have fx2:=Bx2.o.fz;have pf2:=Bf2.o.all;have pc2:=Bc2.o.all;(try rw [HTT.o] at pc2);have pr2:=Br2.o.all;have fr2:=Br2.o.fz;have T2:True:=trivial;clear k9 kz hc9));go_region_held3 (fun w'=>(∀i,w'.cell? ⟨W1.heap.size,i,none⟩=#[.slice (some (aaB gd3 0)) 4 cd3,.slice (some (aaB ga3 0)) 4 cA3,iv T.r.o,iv T.r.p,iv T.r.f,iv T.r.m,.bool T.r.s,.bool T.r.t,.slice (some (aaB g13 0)) 512 c13,.slice (some (aaB g23 0)) T.bm c23,.bool T.st,.bool T.ha][i]?)∧(∀i,w'.cell? ⟨W1.heap.size+1,i,none⟩=(ftA F)[i]?)) (first|with_reducible exact ⟨(Bd3 Bx3.o).all,(Bd3 Bf3.o).all⟩|(with_reducible show (∀i,(World.setCell _ _ _).cell? _=_)∧_;refine ⟨Blk.all ((Bd3 Bx3.o).kept fC ?_),Blk.all ((Bd3 Bf3.o).kept fC ?_)⟩<;>omega)|(with_reducible show (∀i,(World.drew _).cell? _=_)∧_;refine ⟨Blk.all (Bd3 (Bx3.o.kept fC ?_)),Blk.all (Bd3 (Bf3.o.kept fC ?_))⟩<;>omega)) (fail)
      all_goals
       go_wp2_with fail;refine bodyPost_ret (v:=.tuple #[.agg (eG (whC c) gd3 cd3 ga3 cA3 g13 c13 g23 c23),iv (whV c)]) ?_ rfl ⟨gd3,cd3,ga3,cA3,g13,c13,g23,c23,mid3,rfl,?co,?kw⟩
       case co=>
        rw [RC.o.1];refine CO.pst (x:=w.heap.size+1) (y:=w.heap.size+1+1) C3.o (by omega) (by omega) ?_;first|with_reducible exact ai fC|with_reducible exact fC
       case kw=>first|with_reducible exact ai (aB K3.o fC (by omega))|with_reducible exact aB K3.o fC (by omega)
       rw [rct rfl,RC.o.1,RC.o.2];unfold eG;go_simp
   ·have RC:Hid (whC c=Y∧whV c=F.v):=aaA (by rw [WC.o,WV.o,WS.o,hv,ho,ht];exact ⟨rfl,rfl⟩);have HTT:=aaA ht;clear ht;rcases D with d18|⟨d18,d5⟩
    all_goals
     go_enter func86,ntmps86;go_wp2_with (first|(go_at_call 82;refine (G6 _ HA.o HB.o HE.o HQ.o).mono ?_;rw [<-HS.o,<-HF.o];unfold eG ftC;rw [SH.o];rintro e9 W1 ⟨gd1,cd1,ga1,cA1,g11,c11,g21,c21,mid1,rfl,hc9,k9⟩;have kz:=ah (kept_alloc W1 (.cells #[.slice (some (aaB gd1 0)) 4 cd1,.slice (some (aaB ga1 0)) 4 cA1,iv S.r.o,iv S.r.p,iv S.r.f,iv S.r.m,.bool S.r.s,.bool S.r.t,.slice (some (aaB g11 0)) 512 c11,.slice (some (aaB g21 0)) S.bm c21,.bool S.st,.bool false] 40)) (.cells (ftA F) 42);have Bx1:=aaA ((Blk.new W1 #[.slice (some (aaB gd1 0)) 4 cd1,.slice (some (aaB ga1 0)) 4 cA1,iv S.r.o,iv S.r.p,iv S.r.f,iv S.r.m,.bool S.r.s,.bool S.r.t,.slice (some (aaB g11 0)) 512 c11,.slice (some (aaB g21 0)) S.bm c21,.bool S.st,.bool false] 40).alloc (.cells (ftA F) 42));have Bf1:=Blk.new (W1.alloc (.cells #[.slice (some (aaB gd1 0)) 4 cd1,.slice (some (aaB ga1 0)) 4 cA1,iv S.r.o,iv S.r.p,iv S.r.f,iv S.r.m,.bool S.r.s,.bool S.r.t,.slice (some (aaB g11 0)) 512 c11,.slice (some (aaB g21 0)) S.bm c21,.bool S.st,.bool false] 40)) (ftA F) 42;simp only [World.size_alloc] at Bf1;replace Bf1:=aaA Bf1;have Bc1:=aaA ((Bc.o.ae k9).ae kz);have Br1:=aaA ((Br.o.ae k9).ae kz);have K1:=aaA ((K0.o.trans k9).trans kz);have C1:=aaA (hc9.any kz);have z1:=k9.size;obtain ⟨Z1,hZ1⟩:∃Z:World,(W1.alloc (.cells #[.slice (some (aaB gd1 0)) 4 cd1,.slice (some (aaB ga1 0)) 4 cA1,iv S.r.o,iv S.r.p,iv S.r.f,iv S.r.m,.bool S.r.s,.bool S.r.t,.slice (some (aaB g11 0)) 512 c11,.slice (some (aaB g21 0)) S.bm c21,.bool S.st,.bool false] 40)).alloc (.cells (ftA F) 42)=Z:=⟨_,rfl⟩;rw [hZ1] at Bx1 Bf1 Bc1 Br1 K1 C1;have y1:=Bf1.o.lt;have hne:w.heap.size+1<W1.heap.size:=(by omega);have px1:=Bx1.o.all;have fx1:=Bx1.o.fz;have pf1:=Bf1.o.all;have pc1:=Bc1.o.all;(try rw [HTT.o] at pc1);have pr1:=Br1.o.all;have fr1:=Br1.o.fz;clear k9 kz hc9 i0)|(go_at_call 139;have hr9:=qG Z1 S F S.r.m (some (aaB gd1 0)) (some (aaB ga1 0)) (some (aaB g11 0)) (some (aaB g21 0)) cd1 cA1 c11 c21 C1.o.d.row C1.o.a.row C1.o.b.row (bZ C1.o.l).row HS1.o HS2.o FW.o HSm.o.1 HSm.o.2;rw [HS9.o] at hr9;refine hr9.mono ?_;clear hr9;rw [<-EY.o];unfold eG;rintro e9 W2 ⟨gd2,cd2,ga2,cA2,g12,c12,g22,c22,mid2,rfl,hc9,k9⟩;have pw2:=(Bx1.o.ae k9).all;have fw2:=(Bx1.o.ae k9).fz;obtain ⟨Z2,hZ2⟩:∃Z:World,((((((((((((W2.setCell (aaB W1.heap.size 0) (.slice (some (aaB gd2 0)) 4 cd2)).setCell (aaB W1.heap.size 1) (.slice (some (aaB ga2 0)) 4 cA2)).setCell (aaB W1.heap.size 2) (iv Y.r.o)).setCell (aaB W1.heap.size 3) (iv Y.r.p)).setCell (aaB W1.heap.size 4) (iv Y.r.f)).setCell (aaB W1.heap.size 5) (iv Y.r.m)).setCell (aaB W1.heap.size 6) (.bool Y.r.s)).setCell (aaB W1.heap.size 7) (.bool Y.r.t)).setCell (aaB W1.heap.size 8) (.slice (some (aaB g12 0)) 512 c12)).setCell (aaB W1.heap.size 9) (.slice (some (aaB g22 0)) Y.bm c22)).setCell (aaB W1.heap.size 10) (.bool Y.st)).setCell (aaB W1.heap.size 11) (.bool Y.ha))=Z:=⟨_,rfl⟩;have kz:Kept W1.heap.size (W1.heap.size+1) W2 Z2:=(by rw [<-hZ2];exact fC);have Bx2:Hid (Blk Z2 W1.heap.size #[.slice (some (aaB gd2 0)) 4 cd2,.slice (some (aaB ga2 0)) 4 cA2,iv Y.r.o,iv Y.r.p,iv Y.r.f,iv Y.r.m,.bool Y.r.s,.bool Y.r.t,.slice (some (aaB g12 0)) 512 c12,.slice (some (aaB g22 0)) Y.bm c22,.bool Y.st,.bool Y.ha] 40):=aaA (by rw [<-hZ2];exact Blk.Fq (Bx1.o.ae k9) _ _ _ _ _ _ _ _ _ _ _ _);have Bf2:=aaA ((Bf1.o.ae k9).kept kz (by omega));have Bc2:=aaA ((Bc1.o.ae k9).kept kz (by omega));have Br2:=aaA ((Br1.o.ae k9).kept kz (by omega));have zz2:=k9.size;have C2:=aaA (hc9.pst (lo:=X.heap.size) (by omega) (by omega) kz);have K2:=aaA (aB (K1.o.trans k9) kz (by omega));have y2:=Bf2.o.lt;have px2:=Bx2.o.all;have fx2:=Bx2.o.fz;have pf2:=Bf2.o.all;have pc2:=Bc2.o.all;(try rw [HTT.o] at pc2);have pr2:=Br2.o.all;have fr2:=Br2.o.fz;have T2:True:=trivial;clear k9 kz hc9));go_region_held3 (fun w'=>(∀i,w'.cell? ⟨W1.heap.size,i,none⟩=#[.slice (some (aaB gd2 0)) 4 cd2,.slice (some (aaB ga2 0)) 4 cA2,iv Y.r.o,iv Y.r.p,iv Y.r.f,iv Y.r.m,.bool Y.r.s,.bool Y.r.t,.slice (some (aaB g12 0)) 512 c12,.slice (some (aaB g22 0)) Y.bm c22,.bool Y.st,.bool Y.ha][i]?)∧(∀i,w'.cell? ⟨W1.heap.size+1,i,none⟩=(ftA F)[i]?)) (first|with_reducible exact ⟨(Bd3 Bx2.o).all,(Bd3 Bf2.o).all⟩|(with_reducible show (∀i,(World.setCell _ _ _).cell? _=_)∧_;refine ⟨Blk.all ((Bd3 Bx2.o).kept fC ?_),Blk.all ((Bd3 Bf2.o).kept fC ?_)⟩<;>omega)|(with_reducible show (∀i,(World.drew _).cell? _=_)∧_;refine ⟨Blk.all (Bd3 (Bx2.o.kept fC ?_)),Blk.all (Bd3 (Bf2.o.kept fC ?_))⟩<;>omega)) (fail)
     all_goals
      go_wp2_with fail;refine bodyPost_ret (v:=.tuple #[.agg (eG (whC c) gd2 cd2 ga2 cA2 g12 c12 g22 c22),iv (whV c)]) ?_ rfl ⟨gd2,cd2,ga2,cA2,g12,c12,g22,c22,mid2,rfl,?co,?kw⟩
      case co=>
       rw [RC.o.1];refine CO.pst (x:=w.heap.size+1) (y:=w.heap.size+1+1) C2.o (by omega) (by omega) ?_;first|with_reducible exact ai fC|with_reducible exact fC
      case kw=>first|with_reducible exact ai (aB K2.o fC (by omega))|with_reducible exact aB K2.o fC (by omega)
      rw [rct rfl,RC.o.1,RC.o.2];unfold eG;go_simp
theorem Vk (w:World) (lo b g:Nat) (c:Mc) (h:Hl) (op z r m k e s:Int) (hC:CAt w lo b g c h) (G:GM c) (hf:c.f=aI) (hx:bP ⟨op,z,r,m,k,e,s⟩=true) (ht:jb w lo) :
  Calls prog 179 #[.pointer (some (aaB b 0)),.agg (inA op z r m k e s)] w fun e' w'=>∃g',e'=.returned (.agg (ftC (c.cr ⟨op,z,r,m,k,e,s⟩).f))∧CAt w' lo b g' (c.cr ⟨op,z,r,m,k,e,s⟩) h∧Since w b (b+1) g w' g':=by
 have B:=sH hx;rcases DY hx with ⟨ho,h1⟩|⟨ho,hm⟩|⟨ho,hz⟩|⟨ho,hz,hm⟩|⟨ho,hm,hs⟩|ho|⟨ho,hr,hm⟩|⟨ho,hz,hm,hs⟩|⟨ho,hz,hm⟩|⟨ho,hs⟩|⟨ho,hs,he⟩|⟨ho,hs,he⟩
 ·simp only at ho
  exact kX w lo b g c (c.tk ⟨op,z,r,m,k,e,s⟩) h op z r m k e s hC (by rcases ho with rfl|rfl|rfl|rfl|rfl|rfl|rfl<;>rfl) (by rcases ho with rfl|rfl|rfl|rfl|rfl|rfl|rfl<;>rfl) (.inl ⟨by omega,fun W g9 _ h9=>MK W lo b g9 c h op z r m k e s h9 G hf B (by omega) h1 (by omega)⟩)
 ·simp only at ho
  subst ho;exact kX w lo b g c (c.gv ⟨2,z,r,m,k,e,s⟩) h _ z r m k e s hC rfl rfl (.inr (.inl ⟨rfl,fun W g9 kk h9=>XP W lo b g9 c h _ z r m k e s h9 G hf B hm⟩))
 ·simp only at ho
  subst ho;exact kX w lo b g c (c.tk ⟨9,z,r,m,k,e,s⟩) h _ z r m k e s hC rfl rfl (.inl ⟨.inl rfl,fun W g9 kk h9=>MK W lo b g9 c h _ z r m k e s h9 G hf B (.inl rfl) (fun _=>hz) (fun _=>hz)⟩)
 ·exact QN w lo b g c h op z r m k e s hC G hf B ho
 ·simp only at ho
  subst ho;exact kX w lo b g c (c.ch ⟨11,z,r,m,k,e,s⟩) h _ z r m k e s hC rfl rfl (.inr (.inr (.inl ⟨rfl,fun W g9 kk h9=>MQ W lo b g9 c h _ z r m k e s h9 G hf B hs hm⟩)))
 ·simp only at ho
  subst ho;exact Ap w lo b g c ((c.put z r (iU s z c.r.f (c.low z r) (k+1))).aJ (nU s z c.r.f (c.low z r) (k+1))) h _ z r m k e s hC rfl rfl (by exact hf) (.inl ⟨rfl,fun W g9 kk h9=>UW W lo b g9 c h _ z r m k e s h9 G B⟩)
 ·simp only at ho
  subst ho;exact Ap w lo b g c (bif Pl.tst (s+8*r) c.r.f then c.aH ((c.r.p-2+e)%65536) else c) h _ z r m k e s hC rfl rfl (by cases Pl.tst (s+8*r) c.r.f<;>exact hf) (.inr ⟨rfl,fun W g9 kk h9=>QP W lo b g9 c h _ z r m k e s h9 G B hr⟩)
 ·simp only at ho
  subst ho;exact kX w lo b g c (c.jp ⟨14,z,r,m,k,e,s⟩) h _ z r m k e s hC rfl rfl (.inr (.inr (.inr (.inl ⟨rfl,fun W g9 kk h9=>U5 W lo b g9 c h _ z r m k e s h9 G hf B hs⟩))))
 ·simp only at ho
  exact kX w lo b g c (c.tk ⟨op,z,r,m,k,e,s⟩) h op z r m k e s hC (by rcases ho with rfl|rfl<;>rfl) (by rcases ho with rfl|rfl<;>rfl) (.inl ⟨by omega,fun W g9 _ h9=>MK W lo b g9 c h op z r m k e s h9 G hf B (by omega) (fun q=>absurd q hm) (fun _=>hz)⟩)
 ·simp only at ho
  subst ho;exact kX w lo b g c (c.bd ⟨18,z,r,m,k,e,s⟩) h _ z r m k e s hC rfl rfl (.inr (.inr (.inr (.inr ⟨rfl,fun W g9 kk h9=>XT W lo b g9 c h _ z r m k e s h9 G hf B hs (ht.any kk)⟩))))
 ·exact QM w lo b g c h op z r m k e s hC G hf B ho hs he
 ·exact QO w lo b g c h op z r m k e s hC G hf B ho hs he
theorem dS (v:Int) (w:World):Calls prog 141 #[iv v] w fun e w'=>e=.returned (.bool (Pl.dS v))∧w'=w:=by
 cases h0:(v==5)
 ·go_enter func141,ntmps141;go_wp2;go_ret;exact ⟨by unfold Pl.dS;rw [h0];rfl,rfl⟩
 ·go_enter func141,ntmps141;go_wp2;go_ret;exact ⟨by unfold Pl.dS;rw [h0];rfl,rfl⟩
theorem CAt.ZX {w:World} {lo b g:Nat} {c:Mc} {h:Hl} (a:CAt w lo b g c h) (r:Rg):CAt ((((((((((((((w.setCell (aaB b 0) ((iv (el r.xs 0)))).setCell (aaB b 1) ((iv (el r.xs 1)))).setCell (aaB b 2) ((iv (el r.xs 2)))).setCell (aaB b 3) ((iv (el r.xs 3)))).setCell (aaB b 4) ((iv (el r.ys 0)))).setCell (aaB b 5) ((iv (el r.ys 1)))).setCell (aaB b 6) ((iv (el r.ys 2)))).setCell (aaB b 7) ((iv (el r.ys 3)))).setCell (aaB b 8) ((iv r.o))).setCell (aaB b 9) ((iv r.p))).setCell (aaB b 10) ((iv r.f))).setCell (aaB b 11) ((iv r.m))).setCell (aaB b 12) ((.bool r.s))).setCell (aaB b 13) ((.bool r.t))) lo b g (c.bC r) h:=by
 obtain ⟨cu,hB,hO⟩:=a;exact ⟨cu,Blk.SC (show Blk w b (bkR c.r++_) _ from hB),hO.own (Ce _ _ _ _ _ _ _ _ _ _ _ _ _ _ _ _)⟩
theorem Pl.Pn {m:Int} (m0:0<=m) (m1:m<=7):(if lng m=true then (2:Int) else 1)=if jO m=true then 2 else 1:=by
 unfold lng;rw [show bJ m=true from by simp [bJ,within];omega];rfl
theorem cDo (w:World) (lo b g:Nat) (c:Mc) (h:Hl) (op z r m k e s a:Int) (hC:CAt w lo b g c h) (G:GM c) (hf:c.f=aI) (hx:bP ⟨op,z,r,m,k,e,s⟩=true) (ht:jb w lo) (a0:0<=a) (a1:a<=65535) :
  Calls prog 123 #[.pointer (some (aaB b 0)),.agg (inA op z r m k e s),iv a] w fun e' w'=>∃g',e'=.returned (.agg (ftC (c.dn ⟨op,z,r,m,k,e,s⟩ a).f))∧CAt w' lo b g' (c.dn ⟨op,z,r,m,k,e,s⟩ a) h∧Since w b (b+1) g w' g':=by
 have B:=sH hx;have wfm:(Lit.int .i64 m).wf=true:=qM (by have:0<=m:=B.m0;omega) (by have:m<=7:=B.m1;omega);obtain ⟨L,hL⟩:∃L,(if lng m=true then (2:Int) else 1)=L:=⟨_,rfl⟩
 have hl2:L=1∨L=2:=by rw [<-hL];split<;>simp
 obtain ⟨BH,hBH⟩:∃BH,(a+L*2)%65536=BH:=⟨_,rfl⟩
 have eb:beh a ⟨op,z,r,m,k,e,s⟩=BH:=by unfold beh Po;rw [<-hBH,<-hL,Pn B.m0 B.m1]
 have b0:0<=BH∧BH<=65535:=by omega
 obtain ⟨N,hN⟩:∃N,nZ ⟨op,z,r,m,k,e,s⟩%65536=N:=⟨_,rfl⟩
 obtain ⟨D,hD⟩:∃D,D=(c.aH BH).cr ⟨op,z,r,m,k,e,s⟩:=⟨_,rfl⟩
 obtain ⟨F,hF⟩:∃F,F=D.f:=⟨_,rfl⟩
 have ET:Hid (c.dn ⟨op,z,r,m,k,e,s⟩ a=bif F.v==0 then D else {D with r:=c.r,f:=⟨F.v,bif Pl.dS F.v then BH else a,F.ad,N,F.wr⟩}):=aaA (by unfold Mc.dn Mc.dn';rw [eb,hN,<-hD,hF]);have GP:Hid (GM (c.aH BH)):=aaA (G.aH b0.1 b0.2);have HL:=aaA hL;have HBH:=aaA hBH;have HN:=aaA hN;have HD:=aaA hD;have HF:=aaA hF;have HX:=aaA hx;have TB:=aaA ht;have gl:=G.bx;have w2:IntKind.i64.wrap (L*2)=L*2:=by rw [IntKind.wrap_i64];omega
 have w3:IntKind.i64.wrap (a+L*2)=a+L*2:=by rw [IntKind.wrap_i64];omega
 clear hL hBH hN hD hF hx ht B eb;obtain ⟨l0,l1,l2,l3,l4⟩:=hC.lt;have HG:=aaA G;obtain ⟨X,hX,K0,C0,A0,R0,sX⟩:=hC.kZ op z r m k e s;have p:=A0.o.all;clear hC G;go_enter func123,ntmps123;go_wp2_with fail;refine iy (fun A0 l A W=>∃q:Nat,FR [10,11,12,13,14,15,16,17,18,19,7,8] A0 A∧Once l 0 (A.tmps[10]? = some (.pointer (some (aaB b 0))))∧Once l 1 (A.tmps[11]? = some (.pointer (some (aaB b 0))))∧Once l 2 (A.tmps[12]? = some (.pointer (some (aaB b 0))))∧Once l 3 (A.tmps[13]? = some (.agg (bkR c.r)))∧Once l 4 (A.tmps[14]? = some (iv a))∧Once l 5 (A.tmps[15]? = some (.agg (inA op z r m k e s)))∧Once l 6 (A.tmps[16]? = some (iv L))∧Once l 7 (A.tmps[17]? = some (iv (L*2)))∧Once l 8 (A.tmps[18]? = some (iv (a+L*2)))∧Once l 9 (A.tmps[19]? = some (iv BH))∧Once l 10 (A.tmps[7]? = some (.pointer (some (aaB q 0))))∧Once l 11 (True)∧Once l 12 (A.tmps[8]? = some (iv BH))∧Once l 10 (X.heap.size<=q∧Blk W q (bif l.getD 11 true then bkR c.r else #[iv 0,iv 0,iv 0,iv 0,iv 0,iv 0,iv 0,iv 0,iv 0,iv 0,iv 0,iv 0,.bool false,.bool false]) 151)∧(l.getD 11 true=true->l.getD 10 true=true)∧Kept 0 0 X W) (by kernel_rfl) (by kernel_rfl) ?start ?fin ?step
 case start=>exact ⟨0,FR.refl _ _,au (by decide),au (by decide),au (by decide),au (by decide),au (by decide),au (by decide),au (by decide),au (by decide),au (by decide),au (by decide),au (by decide),au (by decide),au (by decide),au (by decide),(fun e=>by rw [kR (by decide)] at e;cases e),ai (Kept.refl _ _ _)⟩
 case fin=>
  intro l A W h hl;obtain ⟨q,hFR,o0,o1,o2,o3,o4,o5,o6,o7,o8,o9,o10,o11,o12,ox,o11w,hK⟩:=h;have g10:=o10 (hl 10 (by decide));have QX:=aaA (ox (hl 10 (by decide)));rw [hl 11 (by decide)] at QX;replace QX:Hid (X.heap.size<=q∧Blk W q (bkR c.r) 151):=QX;have g12:=o12 (hl 12 (by decide));have QQ:=aaA hK;have hc9:=hFR.chain;simp only [List.foldl] at hc9;rw [iV g10,iV g12] at hc9;clear ox o11w hl hK hFR g10 g12 o0 o1 o2 o3 o4 o5 o6 o7 o8 o9 o10 o11 o12;generalize A.tmps.getD 10 undef=s10 at hc9;generalize A.tmps.getD 11 undef=s11 at hc9;generalize A.tmps.getD 12 undef=s12 at hc9;generalize A.tmps.getD 13 undef=s13 at hc9;generalize A.tmps.getD 14 undef=s14 at hc9;generalize A.tmps.getD 15 undef=s15 at hc9;generalize A.tmps.getD 16 undef=s16 at hc9;generalize A.tmps.getD 17 undef=s17 at hc9;generalize A.tmps.getD 18 undef=s18 at hc9;generalize A.tmps.getD 19 undef=s19 at hc9;subst hc9;go_simp;have C1:=aaA (C0.o.any QQ.o);have A1:=aaA (A0.o.ae QQ.o);have R1:=aaA (R0.o.ae QQ.o);have K1:=aaA (K0.o.trans QQ.o);have qX:=QX.o.1;have B1:=aaA QX.o.2;clear p hX K0 C0 A0 R0 QX;have q9:=C1.o.cP;have qz:=C1.o.fz;have p2:=(A1.o.other b 9 (iv BH) (by omega)).all;go_wp2_with fail;clear q9 qz p2;have S2:=aaA (((Since.refl w b (b+1) g).any K1.o).set b 9 (iv BH) (.inl (by omega)));have A2:=aaA (A1.o.other b 9 (iv BH) (by omega));have R2:=aaA (R1.o.other b 9 (iv BH) (by omega));have B2:=aaA (B1.o.other b 9 (iv BH) (by omega));refine (Vk _ lo b g (c.aH BH) h op z r m k e s (C1.o.aH BH) GP.o hf HX.o (TB.o.since S2.o (by omega) (by omega))).mono ?_;rintro e9 W3 ⟨g',rfl,hc,hs⟩;rw [<-HD.o] at hc ⊢;rw [<-HF.o];unfold ftC;have n3:=hs.ne (b:=w.heap.size+1) R2.o.lt (by omega);have m3:=hs.ne (b:=w.heap.size) A2.o.lt (by omega);have o3:=hs.ne (b:=q) B2.o.lt (by omega);have z3:=hs.size;obtain ⟨y0,y1,y2,y3,y4⟩:=hc.lt;have C3:=aaA (hc.alloc (.cells (ftA F) 42));have A3:=aaA ((hs.blk A2.o (by omega) (by omega)).alloc (.cells (ftA F) 42));have R3:=aaA ((hs.blk R2.o (by omega) (by omega)).alloc (.cells (ftA F) 42));have B3:=aaA ((hs.blk B2.o (by omega) (by omega)).alloc (.cells (ftA F) 42));have S3:=aaA ((S2.o.trans hs).alloc (.cells (ftA F) 42));have L3:=aaA (Blk.new W3 (ftA F) 42);have u3:=B3.o.lt;have v3:w.heap.size+1<W3.heap.size:=by have:=(hs.blk R2.o (by omega) (by omega)).lt;exact this
  have x3:q<W3.heap.size:=(hs.blk B2.o (by omega) (by omega)).lt;clear hc hs C1 A1 R1 K1 B1 S2 A2 R2 B2;go_wp2_with fail;refine (bU F _).mono ?_;rintro e9 W4 ⟨rfl,kf⟩;have C4:=aaA (C3.o.any kf);have A4:=aaA (A3.o.ae kf);have R4:=aaA (R3.o.ae kf);have B4:=aaA (B3.o.ae kf);have L4:=aaA (L3.o.ae kf);have S4:=aaA (S3.o.any kf);have q4:=L4.o.all;have r4:=R4.o.all;have rf4:=R4.o.fz;clear kf C3 A3 R3 B3 L3 S3;cases hv:(F.v != 0)
  ·have E1:Hid (c.dn ⟨op,z,r,m,k,e,s⟩ a=D):=aaA (by rw [ET.o,show (F.v==0)=true from by simpa using hv];rfl);go_wp2_with fail;have KR:=(((((ak W4 (w.heap.size+1) 0 (iv F.v)).one 1 (iv F.pc)).one 2 (iv F.ad)).one 3 (iv F.wo)).one 4 (.bool F.wr))
   refine bodyPost_ret (v:=.agg (ftA F)) ?_ rfl ⟨g',?_,?_,(S4.o).mine KR (by omega)⟩
   ·rw [aj rfl];go_simp
   ·rw [E1.o,<-HF.o];rfl
   ·rw [E1.o];exact ((C4.o).kept KR (by omega) (by omega))
  ·clear r4 rf4;have b4:=B4.o.all;unfold bkR at b4;obtain ⟨y_0,y_1,y_2,y_3,y_4,y_5,y_6,y_7,y_8,y_9,Yj,Yi,Yh,Yg⟩:=C4.o.AC;have yz:=C4.o.fz;have KY:=aaA (Ce W4 b (iv (el c.r.xs 0)) (iv (el c.r.xs 1)) (iv (el c.r.xs 2)) (iv (el c.r.xs 3)) (iv (el c.r.ys 0)) (iv (el c.r.ys 1)) (iv (el c.r.ys 2)) (iv (el c.r.ys 3)) (iv c.r.o) (iv c.r.p) (iv c.r.f) (iv c.r.m) (.bool c.r.s) (.bool c.r.t));have C5:=aaA (C4.o.ZX c.r);obtain ⟨Y,hY⟩:∃Y:World,((((((((((((((W4.setCell (aaB b 0) (iv (el c.r.xs 0))).setCell (aaB b 1) (iv (el c.r.xs 1))).setCell (aaB b 2) (iv (el c.r.xs 2))).setCell (aaB b 3) (iv (el c.r.xs 3))).setCell (aaB b 4) (iv (el c.r.ys 0))).setCell (aaB b 5) (iv (el c.r.ys 1))).setCell (aaB b 6) (iv (el c.r.ys 2))).setCell (aaB b 7) (iv (el c.r.ys 3))).setCell (aaB b 8) (iv c.r.o)).setCell (aaB b 9) (iv c.r.p)).setCell (aaB b 10) (iv c.r.f)).setCell (aaB b 11) (iv c.r.m)).setCell (aaB b 12) (.bool c.r.s)).setCell (aaB b 13) (.bool c.r.t))=Y:=⟨_,rfl⟩
   rw [hY] at KY C5;have A5:=aaA (A4.o.kept KY.o (by omega));have R5:=aaA (R4.o.kept KY.o (by omega));have L5:=aaA (L4.o.kept KY.o (by omega));have S5:=aaA (S4.o.ag KY.o (Nat.le_refl _) (Nat.le_refl _));have p5:=A5.o.all;go_wp2_with fail;refine (firstWord _ op z r m k e s).mono ?_;rw [HN.o];rintro e9 W6 ⟨rfl,kf⟩;have C6:=aaA (C5.o.any kf);have R6:=aaA (R5.o.ae kf);have L6:=aaA (L5.o.ae kf);have S6:=aaA (S5.o.any kf);have l6:=L6.o.all;have lf6:=L6.o.fz;clear kf p5 C5 A5 R5 L5 S5 y_0 y_1 y_2 y_3 y_4 y_5 y_6 y_7 y_8 y_9 Yj Yi Yh Yg b4 yz q4 hY;have KZ:=aaA ((ak W6 W3.heap.size 1 (iv a)).one 3 (iv N));have L7:Hid (Blk ((W6.setCell (aaB W3.heap.size 1) (iv a)).setCell (aaB W3.heap.size 3) (iv N)) W3.heap.size #[iv F.v,iv a,iv F.ad,iv N,.bool F.wr] 42):=aaA ((L6.o.set 1 (iv a)).set 3 (iv N));obtain ⟨Z,hZ⟩:∃Z:World,(W6.setCell (aaB W3.heap.size 1) (iv a)).setCell (aaB W3.heap.size 3) (iv N)=Z:=⟨_,rfl⟩
   rw [hZ] at KZ L7;have C7:=aaA (C6.o.kept KZ.o (by omega) (by omega));have R7:=aaA (R6.o.kept KZ.o (by omega));have S7:=aaA (S6.o.mine KZ.o (by omega));have l7:=L7.o.all;cases ho:Pl.dS F.v
   ·have E1:Hid (c.dn ⟨op,z,r,m,k,e,s⟩ a={D with r:=c.r,f:=⟨F.v,a,F.ad,N,F.wr⟩}):=aaA (by rw [ET.o,show (F.v==0)=false from by simpa using hv,ho];rfl);have r7:=R7.o.all;have rf7:=R7.o.fz;go_wp2_with (go_at_call 141;refine st (dS F.v _) ?_;rw [ho]);have KR:=(((((ak Z (w.heap.size+1) 0 (iv F.v)).one 1 (iv a)).one 2 (iv F.ad)).one 3 (iv N)).one 4 (.bool F.wr))
    refine bodyPost_ret (v:=.agg #[iv F.v,iv a,iv F.ad,iv N,.bool F.wr]) ?_ rfl ⟨g',?_,?_,(S7.o).mine KR (by omega)⟩
    ·rw [aj rfl];go_simp
    ·rw [E1.o];rfl
    ·rw [E1.o];exact ((C7.o).kept KR (by omega) (by omega)).fx rfl rfl rfl rfl rfl
   ·have E1:Hid (c.dn ⟨op,z,r,m,k,e,s⟩ a={D with r:=c.r,f:=⟨F.v,BH,F.ad,N,F.wr⟩}):=aaA (by rw [ET.o,show (F.v==0)=false from by simpa using hv,ho];rfl);have lf7:=L7.o.fz;have KV:=aaA (ak Z W3.heap.size 1 (iv BH));have L8:Hid (Blk (Z.setCell (aaB W3.heap.size 1) (iv BH)) W3.heap.size #[iv F.v,iv BH,iv F.ad,iv N,.bool F.wr] 42):=aaA (L7.o.set 1 (iv BH));obtain ⟨V,hV⟩:∃V:World,Z.setCell (aaB W3.heap.size 1) (iv BH)=V:=⟨_,rfl⟩
    rw [hV] at KV L8;have C8:=aaA (C7.o.kept KV.o (by omega) (by omega));have R8:=aaA (R7.o.kept KV.o (by omega));have S8:=aaA (S7.o.mine KV.o (by omega));have l8:=L8.o.all;have r8:=R8.o.all;have rf8:=R8.o.fz;go_wp2_with (go_at_call 141;refine st (dS F.v _) ?_;rw [ho]);have KR:=(((((ak V (w.heap.size+1) 0 (iv F.v)).one 1 (iv BH)).one 2 (iv F.ad)).one 3 (iv N)).one 4 (.bool F.wr))
    refine bodyPost_ret (v:=.agg #[iv F.v,iv BH,iv F.ad,iv N,.bool F.wr]) ?_ rfl ⟨g',?_,?_,(S8.o).mine KR (by omega)⟩
    ·rw [aj rfl];go_simp
    ·rw [E1.o];rfl
    ·rw [E1.o];exact ((C8.o).kept KR (by omega) (by omega)).fx rfl rfl rfl rfl rfl
 case step=>
  intro l A W i hI hm;obtain ⟨q,hFR,o0,o1,o2,o3,o4,o5,o6,o7,o8,o9,o10,o11,o12,ox,o11w,hK⟩:=hI;obtain ⟨hi1,hi2⟩:=je hm;have hsz:Hid (19<A.tmps.size):=aaA (by rw [hFR.size];simp);have m0:A.tmps[0]? = some (.pointer (some (aaB b 0))):=(hFR.o 0 (by decide)).trans rfl;have m2:A.tmps[2]? = some (iv a):=(hFR.o 2 (by decide)).trans rfl;have m4:A.tmps[4]? = some (.pointer (some (aaB w.heap.size 0))):=(hFR.o 4 (by decide)).trans rfl;rcases i with _|_|_|_|_|_|_|_|_|_|_|_|_|i
  ·refine wpOp_step rfl (fun KK hK2 => ?_);go_simp;exact hK2 (A.put (some 10) (.pointer (some (aaB b 0)))) _ ⟨q,hFR.put (by decide) _,.now (put_eq (by have hz:=hsz.o;omega)),o1.q,o2.q,o3.q,o4.q,o5.q,o6.q,o7.q,o8.q,o9.q,o10.q,o11.n,o12.q,ox.past (by decide) (fun h=>by rw [getD_set_ne (by decide)];exact h),(fun e=>by rw [getD_set_ne (by decide)] at e ⊢;exact o11w e),hK⟩
  ·have e0:=o0 (ay hm 0 (by kernel_rfl));refine wpOp_step rfl (fun KK hK2 => ?_);go_simp;exact hK2 (A.put (some 11) (.pointer (some (aaB b 0)))) _ ⟨q,hFR.put (by decide) _,o0.q,.now (put_eq (by have hz:=hsz.o;omega)),o2.q,o3.q,o4.q,o5.q,o6.q,o7.q,o8.q,o9.q,o10.q,o11.n,o12.q,ox.past (by decide) (fun h=>by rw [getD_set_ne (by decide)];exact h),(fun e=>by rw [getD_set_ne (by decide)] at e ⊢;exact o11w e),hK⟩
  ·have e1:=o1 (ay hm 1 (by kernel_rfl));refine wpOp_step rfl (fun KK hK2 => ?_);go_simp;exact hK2 (A.put (some 12) (.pointer (some (aaB b 0)))) _ ⟨q,hFR.put (by decide) _,o0.q,o1.q,.now (put_eq (by have hz:=hsz.o;omega)),o3.q,o4.q,o5.q,o6.q,o7.q,o8.q,o9.q,o10.q,o11.n,o12.q,ox.past (by decide) (fun h=>by rw [getD_set_ne (by decide)];exact h),(fun e=>by rw [getD_set_ne (by decide)] at e ⊢;exact o11w e),hK⟩
  ·have e2:=o2 (ay hm 2 (by kernel_rfl));have y:=(C0.o.any hK).AC;obtain ⟨y0,y1,y2,y3,y4,y5,y6,y7,y8,y9,y10,y11,y12,y13⟩:=y;refine wpOp_step rfl (fun KK hK2 => ?_);go_simp;exact hK2 (A.put (some 13) (.agg (bkR c.r))) _ ⟨q,hFR.put (by decide) _,o0.q,o1.q,o2.q,.now (put_eq (by have hz:=hsz.o;omega)),o4.q,o5.q,o6.q,o7.q,o8.q,o9.q,o10.q,o11.n,o12.q,ox.past (by decide) (fun h=>by rw [getD_set_ne (by decide)];exact h),(fun e=>by rw [getD_set_ne (by decide)] at e ⊢;exact o11w e),hK⟩
  ·refine wpOp_step rfl (fun KK hK2 => ?_);go_simp;exact hK2 (A.put (some 14) (iv a)) _ ⟨q,hFR.put (by decide) _,o0.q,o1.q,o2.q,o3.q,.now (put_eq (by have hz:=hsz.o;omega)),o5.q,o6.q,o7.q,o8.q,o9.q,o10.q,o11.n,o12.q,ox.past (by decide) (fun h=>by rw [getD_set_ne (by decide)];exact h),(fun e=>by rw [getD_set_ne (by decide)] at e ⊢;exact o11w e),hK⟩
  ·have BL:=aaA (A0.o.ae hK);obtain ⟨x0,x1,x2,x3,x4,x5,x6⟩:=BL.o.c7;refine wpOp_step rfl (fun KK hK2 => ?_);go_simp;exact hK2 (A.put (some 15) (.agg (inA op z r m k e s))) _ ⟨q,hFR.put (by decide) _,o0.q,o1.q,o2.q,o3.q,o4.q,.now (put_eq (by have hz:=hsz.o;omega)),o6.q,o7.q,o8.q,o9.q,o10.q,o11.n,o12.q,ox.past (by decide) (fun h=>by rw [getD_set_ne (by decide)];exact h),(fun e=>by rw [getD_set_ne (by decide)] at e ⊢;exact o11w e),hK⟩
  ·have e5:=o5 (ay hm 5 (by kernel_rfl));refine wpOp_step rfl (fun KK hK2 => ?_);go_simp;refine (lengthOf W op z r m k e s wfm).mono ?_;rw [HL.o];rintro r9 y ⟨rfl,kd⟩;go_simp;exact hK2 (A.put (some 16) (iv L)) _ ⟨q,hFR.put (by decide) _,o0.q,o1.q,o2.q,o3.q,o4.q,o5.q,.now (put_eq (by have hz:=hsz.o;omega)),o7.q,o8.q,o9.q,o10.q,o11.n,o12.q,ox.past (by decide) (fun h=>by rw [getD_set_ne (by decide)];exact ⟨h.1,h.2.ae kd⟩),(fun e=>by rw [getD_set_ne (by decide)] at e ⊢;exact o11w e),(hK.trans kd)⟩
  ·have e6:=o6 (ay hm 6 (by kernel_rfl));refine wpOp_step rfl (fun KK hK2 => ?_);go_simp;exact hK2 (A.put (some 17) (iv (L*2))) _ ⟨q,hFR.put (by decide) _,o0.q,o1.q,o2.q,o3.q,o4.q,o5.q,o6.q,.now (put_eq (by have hz:=hsz.o;omega)),o8.q,o9.q,o10.q,o11.n,o12.q,ox.past (by decide) (fun h=>by rw [getD_set_ne (by decide)];exact h),(fun e=>by rw [getD_set_ne (by decide)] at e ⊢;exact o11w e),hK⟩
  ·have e4:=o4 (ay hm 4 (by kernel_rfl));have e7:=o7 (ay hm 7 (by kernel_rfl));refine wpOp_step rfl (fun KK hK2 => ?_);go_simp;exact hK2 (A.put (some 18) (iv (a+L*2))) _ ⟨q,hFR.put (by decide) _,o0.q,o1.q,o2.q,o3.q,o4.q,o5.q,o6.q,o7.q,.now (put_eq (by have hz:=hsz.o;omega)),o9.q,o10.q,o11.n,o12.q,ox.past (by decide) (fun h=>by rw [getD_set_ne (by decide)];exact h),(fun e=>by rw [getD_set_ne (by decide)] at e ⊢;exact o11w e),hK⟩
  ·have e8:=o8 (ay hm 8 (by kernel_rfl));refine wpOp_step rfl (fun KK hK2 => ?_);go_simp;refine (gY (a+L*2) W).mono ?_;rw [HBH.o];rintro r9 y ⟨rfl,kd⟩;rw [kd];go_simp;exact hK2 (A.put (some 19) (iv BH)) _ ⟨q,hFR.put (by decide) _,o0.q,o1.q,o2.q,o3.q,o4.q,o5.q,o6.q,o7.q,o8.q,.now (put_eq (by have hz:=hsz.o;omega)),o10.q,o11.n,o12.q,ox.past (by decide) (fun h=>by rw [getD_set_ne (by decide)];exact h),(fun e=>by rw [getD_set_ne (by decide)] at e ⊢;exact o11w e),hK⟩
  ·have n11:l.getD 11 true=false:=by cases q11:l.getD 11 true;rfl;have:=o11w q11;rw [hi2] at this;cases this
   refine wpOp_step rfl (fun KK hK2 => ?_);go_simp;exact hK2 (A.put (some 7) (.pointer (some (aaB W.heap.size 0)))) _ ⟨W.heap.size,hFR.put (by decide) _,o0.q,o1.q,o2.q,o3.q,o4.q,o5.q,o6.q,o7.q,o8.q,o9.q,.now (put_eq (by have hz:=hsz.o;omega)),o11.n,o12.q,.now ⟨hK.size,by rw [getD_set_ne (by decide),n11];exact Blk.new W _ _⟩,(fun e=>fK),(ah hK _)⟩
  ·have e10:=o10 (ay hm 10 (by kernel_rfl));have e3:=o3 (ay hm 3 (by kernel_rfl));have oq:=ox (ay hm 10 (by kernel_rfl));unfold bkR at e3;have oR2:Blk W q #[iv 0,iv 0,iv 0,iv 0,iv 0,iv 0,iv 0,iv 0,iv 0,iv 0,iv 0,iv 0,.bool false,.bool false] 151:=by have:=oq.2;rw [hi2] at this;exact this
   have OR:=aaA oR2;have qa:=OR.o.all;have qf:=OR.o.fz;refine wpOp_step rfl (fun KK hK2 => ?_);go_simp;exact hK2 A _ ⟨q,hFR,o0.n,o1.n,o2.n,o3.n,o4.n,o5.n,o6.n,o7.n,o8.n,o9.n,o10.n,.now trivial,o12.n,(fun _=>⟨oq.1,by rw [fK];exact Blk.NG oR2⟩),(fun _=>by rw [getD_set_ne (by decide)];exact ay hm 10 (by kernel_rfl)),(af (af (af (af (af (af (af (af (af (af (af (af (af (af hK _ _ _ (.inr oq.1)) _ _ _ (.inr oq.1)) _ _ _ (.inr oq.1)) _ _ _ (.inr oq.1)) _ _ _ (.inr oq.1)) _ _ _ (.inr oq.1)) _ _ _ (.inr oq.1)) _ _ _ (.inr oq.1)) _ _ _ (.inr oq.1)) _ _ _ (.inr oq.1)) _ _ _ (.inr oq.1)) _ _ _ (.inr oq.1)) _ _ _ (.inr oq.1)) _ _ _ (.inr oq.1))⟩
  ·have e9:=o9 (ay hm 9 (by kernel_rfl));refine wpOp_step rfl (fun KK hK2 => ?_);go_simp;exact hK2 (A.put (some 8) (iv BH)) _ ⟨q,hFR.put (by decide) _,o0.q,o1.q,o2.q,o3.q,o4.q,o5.q,o6.q,o7.q,o8.q,o9.q,o10.q,o11.n,.now (put_eq (by have hz:=hsz.o;omega)),ox.past (by decide) (fun h=>by rw [getD_set_ne (by decide)];exact h),(fun e=>by rw [getD_set_ne (by decide)] at e ⊢;exact o11w e),hK⟩
  ·simp at hi1
   omega
end Go.Proofs.YtgikibaajanjiaaGreatDoor
