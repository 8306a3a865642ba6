/- Part 19 of what the last text leans on. -/
import Derived.Test.YtgikibaajanjiaaGreatDoorJC16
import Derived.Test.YtgikibaajanjiaaGreatDoorJC18
import Derived.Test.YtgikibaajanjiaaGreatDoorJC15
import Derived.Test.YtgikibaajanjiaaGreatDoorJC11
import Derived.Test.YtgikibaajanjiaaGreatDoorJC12
import Derived.Test.YtgikibaajanjiaaGreatDoorJC1
import Derived.Test.YtgikibaajanjiaaGreatDoorJC13
import Derived.Test.YtgikibaajanjiaaGreatDoorJC2
import Derived.Deep.AppendLies
import Derived.Deep.RegionHeld3
set_option maxRecDepth 100000
set_option maxHeartbeats 16000000
namespace Go.Proofs.YtgikibaajanjiaaGreatDoor
open Pl
open Go.RowKit Go.Proofs.Tryz
set_option linter.unusedVariables false
namespace Pl
def Mc.lea (c:Mc) (x:In):Mc:=(c.slot x.z x.m x.k x.e).fB x.r.toNat (c.readA x.z x.m x.k x.e)
def Mc.shf (c:Mc) (x:In):Mc:=(c.put x.z x.r (iR x.s x.z c.r.f (c.low x.z x.r) (x.k+1))).aI (nM x.s x.z c.r.f (c.low x.z x.r) (x.k+1))
def Mc.brn (c:Mc) (x:In):Mc:=bif tst (x.s+8*x.r) c.r.f then c.aF ((c.r.p-2+x.e)%65536) else c
def Mc.mvs (c:Mc) (x:In):Mc:=bif x.s==0 then c.bi (aX c.r x.e) else c.bi {c.r with xs:=c.r.xs.set x.r.toNat (status c.r)}
def Mc.cr' (c:Mc) (x:In):Mc:=bif x.op==2 then c.gv x else bif x.op==10 then c.lea x else bif x.op==11 then c.ch x else bif x.op==12 then c.shf x else bif x.op==13 then c.brn x else bif x.op==14 then c.jp x else bif x.op==15 then c.fw x else bif x.op==18 then c.bd x else bif x.op==19 then c.mvs x else c.tk x
def Mc.cr (c:Mc) (x:In):Mc:=bif jh x && !c.r.s then {c with f:=⟨8,0,0,0,false⟩} else c.cr' x
end Pl
variable (w:World) (lo b g:Nat) (c:Mc) (h:Hl)
theorem MG (op z r m k e s:Int) (hC:CAt w lo b g c h) (G:GM c) (hf:c.f=aG) (B:InB ⟨op,z,r,m,k,e,s⟩) (hs:s<=3) (hm:m=0∨(2<=m∧m<=6)) :
  Calls prog 226 #[.pointer (some (aac b 0)),.agg (inA op z r m k e s)] w fun e' w'=>∃g',e'=.returned (.agg (ftC (c.ch ⟨op,z,r,m,k,e,s⟩).f))∧CAt w' lo b g' (c.ch ⟨op,z,r,m,k,e,s⟩) h∧Since w b (b+1) g w' g':=by
 have hs0:0<=s:=B.s0;by_cases q:s=0
 ·subst q;exact MI w lo b g c h op z r m k e hC G hf B hm
 ·exact MH w lo b g c h op z r m k e s hC G hf B (by omega) hm
theorem UO (op z r m k e s:Int) (hC:CAt w lo b g c h) (G:GM c) (hf:c.f=aG) (B:InB ⟨op,z,r,m,k,e,s⟩) (hs:s<=1) :
  Calls prog 230 #[.pointer (some (aac b 0)),.agg (inA op z r m k e s)] w fun e' w'=>∃g',e'=.returned (.agg (ftC (c.jp ⟨op,z,r,m,k,e,s⟩).f))∧CAt w' lo b g' (c.jp ⟨op,z,r,m,k,e,s⟩) h∧Since w b (b+1) g w' g':=by
 have hs0:0<=s:=B.s0;have hq:s=0∨s=1:=by omega
 rcases hq with rfl|rfl
 ·exact UR w lo b g c h op z r m k e hC G hf B
 ·exact UQ w lo b g c h op z r m k e hC G hf B
theorem UT (op z r m k e s:Int) (hC:CAt w lo b g c h) (G:GM c) (hf:c.f=aG) (B:InB ⟨op,z,r,m,k,e,s⟩) (hs:s<=6) (he:s=3->e<=1023) :
  Calls prog 231 #[.pointer (some (aac b 0)),.agg (inA op z r m k e s)] w fun e' w'=>∃g',e'=.returned (.agg (ftC (c.fw ⟨op,z,r,m,k,e,s⟩).f))∧CAt w' lo b g' (c.fw ⟨op,z,r,m,k,e,s⟩) h∧Since w b (b+1) g w' g':=by
 have hs0:0<=s:=B.s0;have hq:s=0∨s=1∨s=2∨s=3∨s=4∨s=5∨s=6:=by omega
 rcases hq with rfl|rfl|rfl|rfl|rfl|rfl|rfl
 ·exact U0 w lo b g c h op z r m k e hC G hf B
 ·exact UZ w lo b g c h op z r m k e hC G hf B
 ·exact UY w lo b g c h op z r m k e hC G hf B
 ·exact UX w lo b g c h op z r m k e hC G hf B (he rfl)
 ·exact UW w lo b g c h op z r m k e hC G hf B
 ·exact UV w lo b g c h op z r m k e hC G hf B
 ·exact UU w lo b g c h op z r m k e hC G hf B
theorem Xv (op z r m k e s:Int) (hC:CAt w lo b g c h) (G:GM c) (hf:c.f=aG) (B:InB ⟨op,z,r,m,k,e,s⟩) (hs:s<=1) (ht:jw w lo) :
  Calls prog 232 #[.pointer (some (aac b 0)),.agg (inA op z r m k e s)] w fun e' w'=>∃g',e'=.returned (.agg (ftC (c.bd ⟨op,z,r,m,k,e,s⟩).f))∧CAt w' lo b g' (c.bd ⟨op,z,r,m,k,e,s⟩) h∧Since w b (b+1) g w' g':=by
 have hs0:0<=s:=B.s0;have hq:s=0∨s=1:=by omega
 rcases hq with rfl|rfl
 ·exact Xx w lo b g c h op z r m k e hC G hf B ht
 ·exact Xw w lo b g c h op z r m k e hC G hf B ht
theorem UL (op z r m k e s:Int) (hC:CAt w lo b g c h) (G:GM c) (hf:c.f=aG) (B:InB ⟨op,z,r,m,k,e,s⟩) (hs:s<=1) (he:s=0->e<=1023) :
  Calls prog 233 #[.pointer (some (aac b 0)),.agg (inA op z r m k e s)] w fun e' w'=>e'=.returned (.tuple #[])∧CAt w' lo b g (c.mvs ⟨op,z,r,m,k,e,s⟩) h∧Kept b (b+1) w w':=by
 have hs0:0<=s:=B.s0;have hq:s=0∨s=1:=by omega
 rcases hq with rfl|rfl
 ·exact UN w lo b g c h op z r m k e hC G B (he rfl)
 ·exact UM w lo b g c h op z r m k e hC G B
def CTo (f:Nat) (a:Array Value) (w:World) (lo b:Nat) (c E:Mc) (h:Hl):Prop:=∀W g,Kept 0 0 w W->CAt W lo b g c h->Calls prog f a W fun e' w'=>∃g',e'=.returned (.agg (ftC E.f))∧CAt w' lo b g' E h∧Since W b (b+1) g w' g'
def CSt (f:Nat) (a:Array Value) (w:World) (lo b:Nat) (c E:Mc) (h:Hl):Prop:=∀W g,Kept 0 0 w W->CAt W lo b g c h->Calls prog f a W fun e' w'=>e'=.returned (.tuple #[])∧CAt w' lo b g E h∧Kept b (b+1) W w'
theorem kR (w:World) (lo b g:Nat) (c E:Mc) (h:Hl) (op z r m k e s:Int) (hC:CAt w lo b g c h) (hp:jh ⟨op,z,r,m,k,e,s⟩=false) (hE:c.cr ⟨op,z,r,m,k,e,s⟩=E)
  (H:((op=9∨op=1∨op=3∨op=4∨op=5∨op=6∨op=7∨op=8∨op=16∨op=17)∧CTo 224 #[.pointer (some (aac b 0)),.agg (inA op z r m k e s)] w lo b c E h)∨(op=2∧CTo 225 #[.pointer (some (aac b 0)),.agg (inA op z r m k e s)] w lo b c E h)∨(op=11∧CTo 226 #[.pointer (some (aac b 0)),.agg (inA op z r m k e s)] w lo b c E h)∨(op=14∧CTo 230 #[.pointer (some (aac b 0)),.agg (inA op z r m k e s)] w lo b c E h)∨(op=18∧CTo 232 #[.pointer (some (aac b 0)),.agg (inA op z r m k e s)] w lo b c E h)) :
  Calls prog 179 #[.pointer (some (aac b 0)),.agg (inA op z r m k e s)] w fun e' w'=>∃g',e'=.returned (.agg (ftC (c.cr ⟨op,z,r,m,k,e,s⟩).f))∧CAt w' lo b g' (c.cr ⟨op,z,r,m,k,e,s⟩) h∧Since w b (b+1) g w' g':=by
 obtain ⟨l0,l1,l2,l3,l4⟩:=hC.lt;obtain ⟨X,hX,K0,C0,A0,R0,sX⟩:=hC.kS op z r m k e s;have p:=A0.o.all;clear hC;have E1:=aab hE;have hsup:=iV;clear hE;obtain ⟨F,hF⟩:∃F,F=E.f:=⟨_,rfl⟩
 have HF:=aab hF;clear hF;rcases H with ⟨rfl|rfl|rfl|rfl|rfl|rfl|rfl|rfl|rfl|rfl,H⟩|⟨rfl,H⟩|⟨rfl,H⟩|⟨rfl,H⟩|⟨rfl,H⟩
 all_goals
  go_enter func179,ntmps179;go_wp2_with (first|((first|go_at_call 224|go_at_call 225|go_at_call 226|go_at_call 230|go_at_call 232);refine (H _ g K1.o C1.o).mono ?_;rintro e9 W2 ⟨g',rfl,hc,hs⟩;rw [<-HF.o];unfold ftC;have C2:=aab hc;have R2:=aab (hs.blk R1.o (by omega) (by omega));have n2:=hs.ne (b:=w.heap.size+1) R1.o.lt (by omega);have S2:=aab (((Since.refl w b (b+1) g).any K1.o).trans hs);have r2:=R2.o.all;have rf2:=R2.o.fz;clear hc hs)|(go_at_call 223;refine (hsup _ _ z r m k e s).mono ?_;rintro e9 W1 ⟨rfl,k1⟩;rw [hp];have C1:=aab (C0.o.any k1);have A1:=aab (A0.o.ae k1);have R1:=aab (R0.o.ae k1);have K1:=aab (K0.o.trans k1);have p1:=A1.o.all;have r1:=R1.o.all;have rf1:=R1.o.fz;have q12:=C1.o.cS;clear k1));have KR:=(((((ak W2 (w.heap.size+1) 0 (iv F.v)).one 1 (iv F.pc)).one 2 (iv F.ad)).one 3 (iv F.wo)).one 4 (.bool F.wr))
  refine bodyPost_ret (v:=.agg (ftA F)) ?_ rfl ⟨g',?_,?_,(S2.o).mine KR (by omega)⟩
  ·rw [aj rfl];go_simp
  ·rw [E1.o,<-HF.o];rfl
  ·rw [E1.o];exact ((C2.o).kept KR (by omega) (by omega))
theorem Ai (w:World) (lo b g:Nat) (c E:Mc) (h:Hl) (op z r m k e s:Int) (hC:CAt w lo b g c h) (hp:jh ⟨op,z,r,m,k,e,s⟩=false) (hE:c.cr ⟨op,z,r,m,k,e,s⟩=E) (hf:E.f=aG)
  (H:(op=12∧CSt 228 #[.pointer (some (aac b 0)),.agg (inA op z r m k e s)] w lo b c E h)∨(op=13∧CSt 229 #[.pointer (some (aac b 0)),.agg (inA op z r m k e s)] w lo b c E h)) :
  Calls prog 179 #[.pointer (some (aac b 0)),.agg (inA op z r m k e s)] w fun e' w'=>∃g',e'=.returned (.agg (ftC (c.cr ⟨op,z,r,m,k,e,s⟩).f))∧CAt w' lo b g' (c.cr ⟨op,z,r,m,k,e,s⟩) h∧Since w b (b+1) g w' g':=by
 obtain ⟨l0,l1,l2,l3,l4⟩:=hC.lt;obtain ⟨X,hX,K0,C0,A0,R0,sX⟩:=hC.kS op z r m k e s;have p:=A0.o.all;clear hC;have E1:=aab hE;have hsup:=iV;clear hE;have EF:=aab hf;rcases H with ⟨rfl,H⟩|⟨rfl,H⟩
 all_goals
  go_enter func179,ntmps179;go_wp2_with (first|((first|go_at_call 228|go_at_call 229);refine (H _ g K1.o C1.o).mono ?_;rintro e9 W2 ⟨rfl,hc,hk⟩;have C2:=aab hc;have R2:=aab (R1.o.kept hk (by omega));have S2:=aab (((Since.refl w b (b+1) g).any K1.o).ai hk (Nat.le_refl _) (Nat.le_refl _));have r2:=R2.o.all;have rf2:=R2.o.fz;clear hc hk)|(go_at_call 223;refine (hsup _ _ z r m k e s).mono ?_;rintro e9 W1 ⟨rfl,k1⟩;rw [hp];have C1:=aab (C0.o.any k1);have A1:=aab (A0.o.ae k1);have R1:=aab (R0.o.ae k1);have K1:=aab (K0.o.trans k1);have p1:=A1.o.all;have r1:=R1.o.all;have rf1:=R1.o.fz;have q12:=C1.o.cS;clear k1));have KR:=(((((ak W2 (w.heap.size+1) 0 (iv 0)).one 1 (iv 0)).one 2 (iv 0)).one 3 (iv 0)).one 4 (.bool false))
  refine bodyPost_ret (v:=.agg ftZ) ?_ rfl ⟨g,?_,?_,(S2.o).mine KR (by omega)⟩
  ·rw [aj rfl];go_simp
  ·rw [E1.o,EF.o];rfl
  ·rw [E1.o];exact ((C2.o).kept KR (by omega) (by omega))
theorem Qy (op z r m k e s:Int) (hC:CAt w lo b g c h) (G:GM c) (hf:c.f=aG) (B:InB ⟨op,z,r,m,k,e,s⟩) (hop:op=15) (hs:s<=6) (he:s=3->e<=1023) :
  Calls prog 179 #[.pointer (some (aac b 0)),.agg (inA op z r m k e s)] w fun e' w'=>∃g',e'=.returned (.agg (ftC (c.cr ⟨op,z,r,m,k,e,s⟩).f))∧CAt w' lo b g' (c.cr ⟨op,z,r,m,k,e,s⟩) h∧Since w b (b+1) g w' g':=by
 have HB:=aab B;clear B;obtain ⟨l0,l1,l2,l3,l4⟩:=hC.lt;have HG:=aab G;obtain ⟨X,hX,K0,C0,A0,R0,sX⟩:=hC.kS op z r m k e s;have p:=A0.o.all;clear hC G;obtain rfl:=hop;obtain ⟨E,hE⟩:∃E,E=c.fw ⟨15,z,r,m,k,e,s⟩:=⟨_,rfl⟩
 obtain ⟨F,hF⟩:∃F,F=E.f:=⟨_,rfl⟩
 have ET:Hid (c.cr' ⟨15,z,r,m,k,e,s⟩=E):=aab (by rw [hE];rfl);have HE:=aab hE;have HF:=aab hF;clear hE hF;rcases Bool.eq_false_or_eq_true c.r.s with hss|hss<;>cases hp:jh ⟨15,z,r,m,k,e,s⟩
 case inr.true=>
  have E1:Hid (c.cr ⟨15,z,r,m,k,e,s⟩={c with f:=⟨8,0,0,0,false⟩}):=aab (by unfold Mc.cr;rw [hp,hss];rfl);have HSS:=aab hss;clear hss;go_enter func179,ntmps179;go_wp2_with (first|(go_at_call 223;refine (iV _ _ z _ m k e s).mono ?_;rintro e9 W1 ⟨rfl,k1⟩;rw [hp];have C1:=aab (C0.o.any k1);have A1:=aab (A0.o.ae k1);have R1:=aab (R0.o.ae k1);have K1:=aab (K0.o.trans k1);have p1:=A1.o.all;have r1:=R1.o.all;have rf1:=R1.o.fz;have q12:=C1.o.cS;rw [HSS.o] at q12;clear k1));have KR:=(((((ak W1 (w.heap.size+1) 0 (iv 8)).one 1 (iv 0)).one 2 (iv 0)).one 3 (iv 0)).one 4 (.bool false))
  refine bodyPost_ret (v:=.agg #[iv 8,iv 0,iv 0,iv 0,.bool false]) ?_ rfl ⟨g,?_,?_,((Since.refl w b (b+1) g).any K1.o).mine KR (by omega)⟩
  ·rw [aj rfl];go_simp
  ·rw [E1.o];rfl
  ·rw [E1.o];exact ((C1.o).kept KR (by omega) (by omega)).fx rfl rfl rfl rfl rfl
 all_goals
  have E1:Hid (c.cr ⟨15,z,r,m,k,e,s⟩=E):=aab (by unfold Mc.cr;rw [hp,hss];exact ET.o);have HSS:=aab hss;clear hss;go_enter func179,ntmps179;go_wp2_with (first|(go_at_call 231;refine (UT _ lo b g c h _ z r m k e s C1.o HG.o hf HB.o hs he).mono ?_;rintro e9 W2 ⟨g',rfl,hc,hs⟩;rw [<-HE.o] at hc ⊢;rw [<-HF.o];unfold ftC;have C2:=aab hc;have R2:=aab (hs.blk R1.o (by omega) (by omega));have n2:=hs.ne (b:=w.heap.size+1) R1.o.lt (by omega);have S2:=aab (((Since.refl w b (b+1) g).any K1.o).trans hs);have r2:=R2.o.all;have rf2:=R2.o.fz;clear hc hs)|(go_at_call 223;refine (iV _ _ z _ m k e s).mono ?_;rintro e9 W1 ⟨rfl,k1⟩;rw [hp];have C1:=aab (C0.o.any k1);have A1:=aab (A0.o.ae k1);have R1:=aab (R0.o.ae k1);have K1:=aab (K0.o.trans k1);have p1:=A1.o.all;have r1:=R1.o.all;have rf1:=R1.o.fz;have q12:=C1.o.cS;rw [HSS.o] at q12;clear k1));have KR:=(((((ak W2 (w.heap.size+1) 0 (iv F.v)).one 1 (iv F.pc)).one 2 (iv F.ad)).one 3 (iv F.wo)).one 4 (.bool F.wr))
  refine bodyPost_ret (v:=.agg (ftA F)) ?_ rfl ⟨g',?_,?_,(S2.o).mine KR (by omega)⟩
  ·rw [aj rfl];go_simp
  ·rw [E1.o,<-HF.o];rfl
  ·rw [E1.o];exact ((C2.o).kept KR (by omega) (by omega))
theorem Qw (op z r m k e s:Int) (hC:CAt w lo b g c h) (G:GM c) (hf:c.f=aG) (B:InB ⟨op,z,r,m,k,e,s⟩) (hop:op=19) (hs:s<=1) (he:s=0->e<=1023) :
  Calls prog 179 #[.pointer (some (aac b 0)),.agg (inA op z r m k e s)] w fun e' w'=>∃g',e'=.returned (.agg (ftC (c.cr ⟨op,z,r,m,k,e,s⟩).f))∧CAt w' lo b g' (c.cr ⟨op,z,r,m,k,e,s⟩) h∧Since w b (b+1) g w' g':=by
 have HB:=aab B;clear B;obtain ⟨l0,l1,l2,l3,l4⟩:=hC.lt;have HG:=aab G;obtain ⟨X,hX,K0,C0,A0,R0,sX⟩:=hC.kS op z r m k e s;have p:=A0.o.all;clear hC G;obtain rfl:=hop;obtain ⟨E,hE⟩:∃E,E=c.mvs ⟨19,z,r,m,k,e,s⟩:=⟨_,rfl⟩
 obtain ⟨F,hF⟩:∃F,F=E.f:=⟨_,rfl⟩
 have ET:Hid (c.cr' ⟨19,z,r,m,k,e,s⟩=E):=aab (by rw [hE];rfl);have EF:Hid (E.f=aG):=aab (by rw [hE];unfold Mc.mvs;cases s==0<;>exact hf);have HE:=aab hE;have HF:=aab hF;clear hE hF;rcases Bool.eq_false_or_eq_true c.r.s with hss|hss<;>cases hp:jh ⟨19,z,r,m,k,e,s⟩
 case inr.true=>
  have E1:Hid (c.cr ⟨19,z,r,m,k,e,s⟩={c with f:=⟨8,0,0,0,false⟩}):=aab (by unfold Mc.cr;rw [hp,hss];rfl);have HSS:=aab hss;clear hss;go_enter func179,ntmps179;go_wp2_with (first|(go_at_call 223;refine (iV _ _ z _ m k e s).mono ?_;rintro e9 W1 ⟨rfl,k1⟩;rw [hp];have C1:=aab (C0.o.any k1);have A1:=aab (A0.o.ae k1);have R1:=aab (R0.o.ae k1);have K1:=aab (K0.o.trans k1);have p1:=A1.o.all;have r1:=R1.o.all;have rf1:=R1.o.fz;have q12:=C1.o.cS;rw [HSS.o] at q12;clear k1));have KR:=(((((ak W1 (w.heap.size+1) 0 (iv 8)).one 1 (iv 0)).one 2 (iv 0)).one 3 (iv 0)).one 4 (.bool false))
  refine bodyPost_ret (v:=.agg #[iv 8,iv 0,iv 0,iv 0,.bool false]) ?_ rfl ⟨g,?_,?_,((Since.refl w b (b+1) g).any K1.o).mine KR (by omega)⟩
  ·rw [aj rfl];go_simp
  ·rw [E1.o];rfl
  ·rw [E1.o];exact ((C1.o).kept KR (by omega) (by omega)).fx rfl rfl rfl rfl rfl
 all_goals
  have E1:Hid (c.cr ⟨19,z,r,m,k,e,s⟩=E):=aab (by unfold Mc.cr;rw [hp,hss];exact ET.o);have HSS:=aab hss;clear hss;go_enter func179,ntmps179;go_wp2_with (first|(go_at_call 233;refine (UL _ lo b g c h _ z r m k e s C1.o HG.o hf HB.o hs he).mono ?_;rintro e9 W2 ⟨rfl,hc,hk⟩;rw [<-HE.o] at hc;have C2:=aab hc;have R2:=aab (R1.o.kept hk (by omega));have S2:=aab (((Since.refl w b (b+1) g).any K1.o).ai hk (Nat.le_refl _) (Nat.le_refl _));have r2:=R2.o.all;have rf2:=R2.o.fz;clear hc hk)|(go_at_call 223;refine (iV _ _ z _ m k e s).mono ?_;rintro e9 W1 ⟨rfl,k1⟩;rw [hp];have C1:=aab (C0.o.any k1);have A1:=aab (A0.o.ae k1);have R1:=aab (R0.o.ae k1);have K1:=aab (K0.o.trans k1);have p1:=A1.o.all;have r1:=R1.o.all;have rf1:=R1.o.fz;have q12:=C1.o.cS;rw [HSS.o] at q12;clear k1));have KR:=(((((ak W2 (w.heap.size+1) 0 (iv 0)).one 1 (iv 0)).one 2 (iv 0)).one 3 (iv 0)).one 4 (.bool false))
  refine bodyPost_ret (v:=.agg ftZ) ?_ rfl ⟨g,?_,?_,(S2.o).mine KR (by omega)⟩
  ·rw [aj rfl];go_simp
  ·rw [E1.o,EF.o];rfl
  ·rw [E1.o];exact ((C2.o).kept KR (by omega) (by omega))
theorem Qx (op z r m k e s:Int) (hC:CAt w lo b g c h) (G:GM c) (hf:c.f=aG) (B:InB ⟨op,z,r,m,k,e,s⟩) (hop:op=10) :
  Calls prog 179 #[.pointer (some (aac b 0)),.agg (inA op z r m k e s)] w fun e' w'=>∃g',e'=.returned (.agg (ftC (c.cr ⟨op,z,r,m,k,e,s⟩).f))∧CAt w' lo b g' (c.cr ⟨op,z,r,m,k,e,s⟩) h∧Since w b (b+1) g w' g':=by
 have HB:=aab B;clear B;obtain ⟨l0,l1,l2,l3,l4⟩:=hC.lt;have HG:=aab G;obtain ⟨X,hX,K0,C0,A0,R0,sX⟩:=hC.kS op z r m k e s;have p:=A0.o.all;clear hC G;obtain rfl:=hop;have hp:jh ⟨10,z,r,m,k,e,s⟩=false:=rfl;obtain ⟨n,rfl⟩:∃n:Nat,r=(n:Int):=⟨r.toNat,by have:0<=r:=HB.o.r0;omega⟩
 have hn:n<4:=by have:(n:Int)<=3:=HB.o.r1;omega
 have i0:(0:Int)<=(n:Int):=by omega
 have i1:(n:Int)<4:=by omega
 obtain ⟨D,hD⟩:∃D,D=c.slot z m k e:=⟨_,rfl⟩
 obtain ⟨a,ha⟩:∃a,a=c.readA z m k e:=⟨_,rfl⟩
 have GD:Hid (GM D):=aab (by rw [hD];exact HG.o.slot HB.o.k0 HB.o.k1);have DF:Hid (D.f=aG):=aab (by rw [hD];unfold Mc.slot;cases Mc.gG m<;>exact hf);have E1:Hid (c.cr ⟨10,z,(n:Int),m,k,e,s⟩=D.fB n a):=aab (by unfold Mc.cr;rw [hp,hD,ha];rfl);have HA:=aab ha;obtain ⟨T,U,hW⟩:=pF m k e;have HW:=aab hW;have HD:=aab hD;have sa:=uV T U z a;clear ha hW hD;go_enter func179,ntmps179;go_wp2_with (first|(go_at_call 223;refine (iV _ _ z _ m k e s).mono ?_;rintro e9 W1 ⟨rfl,k1⟩;rw [hp];have C1:=aab (C0.o.any k1);have A1:=aab (A0.o.ae k1);have R1:=aab (R0.o.ae k1);have K1:=aab (K0.o.trans k1);have p1:=A1.o.all;have r1:=R1.o.all;have rf1:=R1.o.fz;have q12:=C1.o.cS;clear k1));obtain ⟨u0,u1,u2,u3,u4,u5,u6⟩:=A1.o.c7
 go_region_held3 (fun w'=>w'.cell? (aac w.heap.size 0)=some (iv 10)∧w'.cell? (aac w.heap.size 1)=some (iv z)∧w'.cell? (aac w.heap.size 2)=some (iv (n:Int))∧w'.cell? (aac w.heap.size 3)=some (iv m)∧w'.cell? (aac w.heap.size 4)=some (iv k)∧w'.cell? (aac w.heap.size 5)=some (iv e)∧w'.cell? (aac w.heap.size 6)=some (iv s)) (first|with_reducible exact A2.o.c7|with_reducible exact (A2.o.other b (4+n) (iv a) (by omega)).c7|exact (show Blk _ _ _ _ from A1.o).c7)
  (first|(go_at_call 227;refine (wu _ lo b g c h ⟨10,z,(n:Int),m,k,e,s⟩ C1.o.drew HG.o HB.o).mono ?_;rintro e9 W2 ⟨rfl,hc,hkd⟩;have hk:=aK hkd;rw [<-HA.o,HW.o];rw [<-HD.o] at hc;have C2:=aab hc;have A2:=aab (A1.o.kept hk (by omega));have R2:=aab (R1.o.kept hk (by omega));have S2:=aab (((Since.refl w b (b+1) g).any K1.o).ai hk (Nat.le_refl _) (Nat.le_refl _));have cy:=hc.cY hn;have cz:=hc.fz;clear hc hk hkd))
 have rr:=(R2.o.other b (4+n) (iv a) (by omega)).all;have rz:=(R2.o.other b (4+n) (iv a) (by omega)).fz;go_wp2_with fail;have KR:=(((((ak (W2.setCell ⟨b,4+n,none⟩ (iv a)) (w.heap.size+1) 0 (iv 0)).one 1 (iv 0)).one 2 (iv 0)).one 3 (iv 0)).one 4 (.bool false))
 refine bodyPost_ret (v:=.agg ftZ) ?_ rfl ⟨g,?_,?_,(S2.o.set b (4+n) (iv a) (.inl (by omega))).mine KR (by omega)⟩
 ·rw [aj rfl];go_simp
 ·rw [E1.o,show (D.fB n a).f=aG from DF.o];rfl
 ·rw [E1.o];exact ((C2.o.uZ GD.o.g.a4 hn a).kept KR (by omega) (by omega))
end Go.Proofs.YtgikibaajanjiaaGreatDoor
namespace Go.Proofs.YtgikibaajanjiaaGreatDoor.Pl
open Go.RowKit Go.Proofs.Tryz
set_option linter.unusedVariables false
def Mc.wf (c:Mc) (p q:Int):Mc:={c with f:={c.f with pc:=p,wo:=q}}
def dS (v:Int):Bool:=(v==5)||decide (18<=v)
structure Same (a b q:Int) (m d:Mc):Prop where
 bx:m.bx=d.bx
 bl:m.bl=d.bl
 bm:m.bm=d.bm
 st:m.st=d.st
 ok:d.f.v=0->m.f.v=0∧m.r=d.r∧d.f=aG
 no:d.f.v≠0->m.f=⟨d.f.v,bif dS d.f.v then b else a,d.f.ad,q,d.f.wr⟩
theorem QP (f:Ft) (p q k s a:Int):Mc.dm {f with pc:=p,wo:=q} k s a={Mc.dm f k s a with pc:=p,wo:=q}:=by
 unfold Mc.dm;cases h:(code k s a != 0)&&(f.v==0)<;>rfl
section
variable (c:Mc) (p q:Int)
theorem acc_wf (k s a v:Int):(c.wf p q).acc k s a v=(c.acc k s a v).wf p q:=by
 show Mc.mk _ _ _ _ _ (Mc.dm {c.f with pc:=p,wo:=q} k s a)=_
 rw [QP];rfl
theorem uA (z m k e:Int):(c.wf p q).read z m k e=(c.read z m k e).wf p q:=by
 unfold Mc.read;cases Mc.gG m
 ·exact acc_wf (c.plc z m k e) p q 1 z (bg c.r z m k e) 0
 ·rfl
theorem qH (z m k a v:Int):(c.wf p q).write z m k a v=(c.write z m k a v).wf p q:=by
 unfold Mc.write;cases m==0
 ·exact acc_wf c p q 2 z a v
 ·rfl
theorem qM (z m k e:Int):(c.wf p q).place z m k e=(c.place z m k e).wf p q:=by
 unfold Mc.place;cases m==0<;>rfl
theorem Oq (v:Int):(c.wf p q).push v=(c.push v).wf p q:=by
 unfold Mc.push;rw [show (c.wf p q).spA=c.spA from rfl,acc_wf];show (bif (c.acc 2 2 c.spA v).fine then _ else _)=_;cases (c.acc 2 2 c.spA v).fine<;>rfl
theorem Bz:(c.wf p q).pop=c.pop.wf p q:=by
 unfold Mc.pop;rw [show (c.wf p q).r=c.r from rfl,acc_wf];show (bif (c.acc 1 2 (el c.r.ys 3) 0).fine then _ else _)=_;cases (c.acc 1 2 (el c.r.ys 3) 0).fine<;>rfl
end
def Mc.bus (c:Mc):Prop:=c.f=aG∨c.f.v=2∨c.f.v=3
theorem mi {f:Ft} (h:f=aG∨f.v=2∨f.v=3) (k s a:Int):Mc.dm f k s a=aG∨(Mc.dm f k s a).v=2∨(Mc.dm f k s a).v=3:=by
 unfold Mc.dm;cases (code k s a != 0)&&(f.v==0)
 ·exact h
 ·cases code k s a==2
  ·exact .inr (.inl rfl)
  ·exact .inr (.inr rfl)
theorem Mc.bus.read {c:Mc} (h:c.bus) (z m k e:Int):(c.read z m k e).bus:=by
 unfold Mc.read;cases Mc.gG m
 ·exact mi h _ _ _
 ·exact h
theorem Mc.bus.write {c:Mc} (h:c.bus) (z m k a v:Int):(c.write z m k a v).bus:=by
 unfold Mc.write;cases m==0
 ·exact mi h _ _ _
 ·exact h
theorem Mc.bus.push {c:Mc} (h:c.bus) (v:Int):(c.push v).bus:=by
 unfold Mc.push;cases (c.acc 2 2 c.spA v).fine
 ·exact mi h _ _ _
 ·exact mi h _ _ _
theorem Mc.bus.pop {c:Mc} (h:c.bus):c.pop.bus:=by
 unfold Mc.pop;cases (c.acc 1 2 (el c.r.ys 3) 0).fine
 ·exact mi h _ _ _
 ·exact mi h _ _ _
theorem Same.wf {a b q:Int} {d:Mc} (h:d.bus):Same a b q (d.wf a q) d:=
 ⟨rfl,rfl,rfl,rfl,fun e=>⟨e,rfl,by rcases h with h|h|h<;>first|exact h|(rw [h] at e;cases e)⟩,fun e=>by
  have:dS d.f.v=false:=by rcases h with h|h|h<;>rw [h]<;>rfl
  rw [this];rfl⟩
theorem Same.wr {a b q:Int} {d e:Mc} (h:d.bus) (hv:d.fine=false) (bx:e.bx=d.bx) (bl:e.bl=d.bl) (bm:e.bm=d.bm) (st:e.st=d.st) (f:e.f=d.f):Same a b q (d.wf a q) e:=by
 have hv0:d.f.v≠0:=by intro k;unfold Mc.fine at hv;rw [k] at hv;cases hv
 refine ⟨bx.symm,bl.symm,bm.symm,st.symm,fun k => ?_,fun k => ?_⟩
 ·rw [f] at k;exact absurd k hv0
 ·have:dS d.f.v=false:=by rcases h with h|h|h<;>rw [h]<;>rfl
  rw [f,this];rfl
section
variable {c:Mc}
theorem kP (z m k e:Int) (hm:m=0∨(2<=m∧m<=6)):c.slot z m k e=c.place z m k e∧c.readA z m k e=c.iI z m k e:=by
 have:m=0∨m=2∨m=3∨m=4∨m=5∨m=6:=by omega
 rcases this with rfl|rfl|rfl|rfl|rfl|rfl<;>exact ⟨rfl,rfl⟩
theorem mF (z m k a v f:Int):(c.aI f).write z m k a v=(c.write z m k a v).aI f:=by
 unfold Mc.write;cases m==0<;>rfl
theorem BI (z m k e f:Int):(c.aI f).place z m k e=(c.place z m k e).aI f:=by
 unfold Mc.place;cases m==0
 ·show ({c.aI f with r:=bu (c.aI f).r z m k e}:Mc)=_
  unfold bu;by_cases h3:m=3
  ·simp only [h3,if_true];rfl
  ·by_cases h4:m=4
   ·simp only [h4,if_true];rfl
   ·simp only [h3,h4,if_false];show _=(c.bi (bu c.r z m k e)).aI f;unfold bu;simp only [h3,h4,if_false];rfl
 ·rfl
theorem Ik {xs:List Int} {k:Nat} {v:Int} (hk:k<xs.length) (h:v=el xs k):xs.set k v=xs:=by
 apply List.ext_getElem?;intro j;by_cases e:k=j
 ·subst e;rw [List.getElem?_set_self hk,h];simp [el,hk]
 ·rw [List.getElem?_set_ne e]
theorem Om (G:GM c) {z r:Int} (hz:z=1∨z=2) (r0:0<=r) (r1:r<=3):c.put z r (c.low z r)=c:=by
 have hl:r.toNat<c.r.xs.length:=by rw [G.g.d4];omega
 have hb:=G.g.dw r.toNat (by omega)
 have e:(if z=1 then el c.r.xs r.toNat/256*256+c.low z r else c.low z r)=el c.r.xs r.toNat:=by
  unfold Mc.low;rcases hz with rfl|rfl
  ·simp [top];omega
  ·simp [top];omega
 show ({c with r:={c.r with xs:=c.r.xs.set r.toNat (if z=1 then el c.r.xs r.toNat/256*256+c.low z r else c.low z r)}}:Mc)=c
 rw [Ik hl e]
end
theorem V9 {a:Int} (h0:0<=a) (h1:a<=31):bits .or .i64 a 0=a:=by
 obtain ⟨n,rfl⟩:∃n:Nat,a=(n:Int):=⟨a.toNat,by omega⟩
 have:=(bits_nat n 0 (by omega) (by omega)).2.1
 rw [show ((0:Nat):Int)=0 from rfl] at this;rw [this,Nat.or_zero]
variable {c:Mc} {a b q:Int}
theorem jr (hf:c.f=aG):c.bus:=.inl hf
theorem Og (hf:c.f=aG) (x:In) (hm:x.m=0∨(2<=x.m∧x.m<=6)):Same a b q ((c.wf a q).from' x) (c.gv x):=by
 obtain ⟨e1,e2⟩:=kP (c:=c.aI (dA x.z c.r.f (c.low x.z x.r))) x.z x.m x.k x.e hm;have e3:=(kP (c:=c) x.z x.m x.k x.e hm).2
 have e:(c.wf a q).from' x=(c.gv x).wf a q:=by
  unfold Mc.from' Mc.gv;rw [e1,e3,BI,mF,qM];show (((c.place x.z x.m x.k x.e).wf a q).write x.z x.m x.k (c.iI x.z x.m x.k x.e) (c.low x.z x.r)).aI (dA x.z c.r.f (c.low x.z x.r))=_;rw [qH];rfl
 rw [e];refine Same.wf ?_;unfold Mc.gv;refine Mc.bus.write ?_ _ _ _ _ _;unfold Mc.slot;cases Mc.gG x.m<;>exact jr hf
theorem Oc (hf:c.f=aG) (x:In) (ho:x.op=9) (hz:x.z=2):Same a b q (bif ((c.wf a q).read 2 x.m x.k x.e).fine then ((c.wf a q).read 2 x.m x.k x.e).fB x.r.toNat ((c.wf a q).bC 2 x.m x.k x.e) else (c.wf a q).read 2 x.m x.k x.e) (c.tk x):=by
 have hb:=(jr hf).read 2 x.m x.k x.e;unfold Mc.tk Mc.tk';rw [ho,hz,uA];show Same a b q (bif (c.read 2 x.m x.k x.e).fine then ((c.read 2 x.m x.k x.e).wf a q).fB x.r.toNat (c.bC 2 x.m x.k x.e) else (c.read 2 x.m x.k x.e).wf a q) _;cases (c.read 2 x.m x.k x.e).fine
 ·exact Same.wf hb
 ·exact Same.wf (d:=(c.read 2 x.m x.k x.e).fB x.r.toNat (c.bC 2 x.m x.k x.e)) hb
theorem Iw (hf:c.f=aG) (x:In) (hz:x.z=2) (hm:x.m=0∨(2<=x.m∧x.m<=6)):Same a b q (((c.wf a q).place 2 x.m x.k x.e).fB x.r.toNat ((c.wf a q).iI 2 x.m x.k x.e)) (c.lea x):=by
 obtain ⟨e1,e2⟩:=kP (c:=c) 2 x.m x.k x.e hm;unfold Mc.lea;rw [hz,e1,e2,qM];refine Same.wf (d:=(c.place 2 x.m x.k x.e).fB x.r.toNat (c.iI 2 x.m x.k x.e)) ?_;show (c.place 2 x.m x.k x.e).bus;unfold Mc.place;cases x.m==0<;>exact jr hf
theorem Sj (G:GM c) (x:In) (B:InB x) (ho:x.op=1∨x.op=3∨x.op=4∨x.op=5∨x.op=6∨x.op=7∨x.op=8) (v:Int) (hv:okv x.z v=true) :
  c.two' x (c.low x.z x.r) v=c.tk' x.op x.z x.r v:=by
 have hq:=iE G B.z B.r0 B.r1;obtain ⟨b1,b2,b3⟩:=qR hq hv
 have dat:∀u,okv x.z u=true->c.data x.z x.r u=(c.put x.z x.r u).aI (bits .or .i64 (dA x.z c.r.f u) (fl (0 != (0:Int)) 2)):=by
  intro u hu;have h:=fU x.z c.r.f u hu (di G);rw [show fl (0 != (0:Int)) 2=0 from rfl,V9 h.1 h.2];rfl
 unfold Mc.two' Mc.tk' cbV cbF cbM cbU;rcases ho with h|h|h|h|h|h|h<;>rw [h]
 ·exact dat v hv
 ·rfl
 ·rfl
 ·exact dat _ b1
 ·exact dat _ b2
 ·exact dat _ b3
 ·show c.aI (nK x.z c.r.f (c.low x.z x.r) v)=(c.put x.z x.r (c.low x.z x.r)).aI (nK x.z c.r.f (c.low x.z x.r) v)
  rw [Om G B.z B.r0 B.r1]
theorem Si (x:In) (p v:Int):(c.wf a q).two' x p v=(c.two' x p v).wf a q:=by
 unfold Mc.two';cases x.op==8<;>cases x.op==3<;>cases x.op==4<;>cases x.op==5<;>cases x.op==6<;>cases x.op==7<;>rfl
theorem NE (h:c.bus) (x:In) (p v:Int):(c.two' x p v).bus:=by
 unfold Mc.two';cases x.op==8<;>cases x.op==3<;>cases x.op==4<;>cases x.op==5<;>cases x.op==6<;>cases x.op==7<;>exact h
theorem Io (G:GM c) (hf:c.f=aG) (x:In) (B:InB x) (h1:x.m=1->x.z=2) (ho:x.op=1∨x.op=3∨x.op=4∨x.op=5∨x.op=6∨x.op=7∨x.op=8):Same a b q ((c.wf a q).two x) (c.tk x):=by
 have hb:=(jr hf).read x.z x.m x.k x.e;have hv:=fF G B.z B.k0 B.k1 B.e0 B.e1 h1 B.n7;have GR:=G.read (m:=x.m) B.z B.k0 B.k1 B.e0 B.e1;unfold Mc.two Mc.tk;rw [uA];show Same a b q (bif (c.read x.z x.m x.k x.e).fine then ((c.read x.z x.m x.k x.e).wf a q).two' x ((c.read x.z x.m x.k x.e).low x.z x.r) (c.bC x.z x.m x.k x.e) else (c.read x.z x.m x.k x.e).wf a q) _;cases (c.read x.z x.m x.k x.e).fine
 ·exact Same.wf hb
 ·show Same a b q (((c.read x.z x.m x.k x.e).wf a q).two' x ((c.read x.z x.m x.k x.e).low x.z x.r) (c.bC x.z x.m x.k x.e)) ((c.read x.z x.m x.k x.e).tk' x.op x.z x.r (c.bC x.z x.m x.k x.e))
  rw [Si,<-Sj GR x B ho _ hv];exact Same.wf (NE hb _ _ _)
theorem Tn (x:In) (ho:x.s=1∨x.s=2∨x.s=3) (d:Mc) (hd:d.r.f=c.r.f) (u v:Int):c.one' d x u v=d.ch' x.z x.m x.k u x.s v:=by
 unfold Mc.one' Mc.ch' chF chV;rw [hd];rcases ho with h|h|h<;>rw [h]
 ·exact (mF x.z x.m x.k u _ _).symm
 ·exact (mF x.z x.m x.k u _ _).symm
 ·rfl
theorem Iq (G:GM c) (hf:c.f=aG) (x:In) (B:InB x) (hm:x.m=0∨(2<=x.m∧x.m<=6)) (hs:x.s<=3):Same a b q ((c.wf a q).one x) (c.ch x):=by
 have hs0:=B.s0;have hb:=(jr hf).read x.z x.m x.k x.e;obtain ⟨e1,e2⟩:=kP (c:=c) x.z x.m x.k x.e hm;by_cases h0:x.s=0
 ·have e:(c.wf a q).one x=(c.ch x).wf a q:=by
   unfold Mc.one Mc.ch;rw [h0];show (c.wf a q).Jh x=((c.slot x.z x.m x.k x.e).ch' x.z x.m x.k (c.readA x.z x.m x.k x.e) 0 0).wf a q;unfold Mc.Jh;rw [e1,e2,qM];show (((c.place x.z x.m x.k x.e).wf a q).write x.z x.m x.k (c.iI x.z x.m x.k x.e) 0).aI (dA x.z c.r.f 0)=_;rw [qH];show _=(((c.place x.z x.m x.k x.e).aI (dA x.z (c.place x.z x.m x.k x.e).r.f 0)).write x.z x.m x.k (c.iI x.z x.m x.k x.e) 0).wf a q;rw [mF,xJ];rfl
  rw [e];refine Same.wf ?_;unfold Mc.ch Mc.ch';rw [h0];refine Mc.bus.write ?_ _ _ _ _ _;show (c.slot x.z x.m x.k x.e).bus;unfold Mc.slot;cases Mc.gG x.m<;>exact jr hf
 ·have h1:x.s=1∨x.s=2∨x.s=3:=by omega
  have hz:(x.s==0)=false:=by simpa using h0
  unfold Mc.one Mc.ch;rw [hz,uA];show Same a b q (bif (c.read x.z x.m x.k x.e).fine then (c.wf a q).one' ((c.read x.z x.m x.k x.e).wf a q) x (c.readA x.z x.m x.k x.e) (c.bC x.z x.m x.k x.e) else (c.read x.z x.m x.k x.e).wf a q) (bif (c.read x.z x.m x.k x.e).fine then (c.read x.z x.m x.k x.e).ch' x.z x.m x.k (c.readA x.z x.m x.k x.e) x.s (c.bC x.z x.m x.k x.e) else c.read x.z x.m x.k x.e);cases (c.read x.z x.m x.k x.e).fine
  ·exact Same.wf hb
  ·have e:(c.wf a q).one' ((c.read x.z x.m x.k x.e).wf a q) x (c.readA x.z x.m x.k x.e) (c.bC x.z x.m x.k x.e)=((c.read x.z x.m x.k x.e).ch' x.z x.m x.k (c.readA x.z x.m x.k x.e) x.s (c.bC x.z x.m x.k x.e)).wf a q:=by
    rw [<-Tn x h1 _ (IK c _ _ _ _)];unfold Mc.one';rw [qH,qH];cases x.s==1<;>cases x.s==2<;>rfl
   show Same a b q ((c.wf a q).one' _ _ _ _) _
   rw [e];refine Same.wf ?_;unfold Mc.ch';cases x.s==3
   ·have hb':((c.read x.z x.m x.k x.e).aI (chF x.s x.z (c.read x.z x.m x.k x.e).r.f (c.bC x.z x.m x.k x.e))).bus:=hb;exact hb'.write _ _ _ _ _
   ·exact hb
theorem Ip (hf:c.f=aG) (x:In):Same a b q (((c.wf a q).aI (nM x.s x.z c.r.f (c.low x.z x.r) (x.k+1))).put x.z x.r (iR x.s x.z c.r.f (c.low x.z x.r) (x.k+1))) (c.shf x):=
 Same.wf (d:=c.shf x) (jr (c:=c) hf)
theorem Iy (hf:c.f=aG) (x:In) (ho:x.op=13) (hp:c.r.p=(a+2*2)%65536):Same a b q ((c.wf a q).jump x a) (c.brn x):=by
 unfold Mc.jump Mc.brn;rw [ho];have e:(c.r.p-2+x.e)%65536=(a+2+x.e)%65536:=by omega
 rw [e];show Same a b q (bif tst (x.s+8*x.r) c.r.f then (c.wf a q).aF ((a+2+x.e)%65536) else c.wf a q) _;cases tst (x.s+8*x.r) c.r.f
 ·exact Same.wf (jr hf)
 ·exact Same.wf (d:=c.aF ((a+2+x.e)%65536)) (jr (c:=c) hf)
theorem Oe (hf:c.f=aG) (x:In) (ho:x.op=14) (hz:x.z=2) (hm:x.m=0∨(2<=x.m∧x.m<=6)):Same a b q ((c.wf a q).jump x a) (c.jp x):=by
 obtain ⟨e1,e2⟩:=kP (c:=c) 2 x.m x.k x.e hm
 have hb:(c.place 2 x.m x.k x.e).bus:=by
  unfold Mc.place;cases x.m==0<;>exact jr hf
 have hbp:=hb.push c.r.p;unfold Mc.jump Mc.jp;rw [ho,hz,e1,e2,qM,show (c.wf a q).r=c.r from rfl,Oq];show Same a b q (bif x.s==1 then (bif ((c.place 2 x.m x.k x.e).push c.r.p).fine then (((c.place 2 x.m x.k x.e).push c.r.p).aF (c.iI 2 x.m x.k x.e)).wf a q else ((c.place 2 x.m x.k x.e).push c.r.p).wf a q) else ((c.place 2 x.m x.k x.e).aF (c.iI 2 x.m x.k x.e)).wf a q) _;cases x.s==1
 ·exact Same.wf (d:=(c.place 2 x.m x.k x.e).aF (c.iI 2 x.m x.k x.e)) hb
 ·cases ((c.place 2 x.m x.k x.e).push c.r.p).fine
  ·exact Same.wf hbp
  ·exact Same.wf (d:=((c.place 2 x.m x.k x.e).push c.r.p).aF (c.iI 2 x.m x.k x.e)) hbp
theorem Iu (G:GM c) (hf:c.f=aG) (x:In) (B:InB x) (hz:x.z=2) (h1:x.m≠1) (ho:x.op=16∨x.op=17) (hp:c.r.p=b):Same a b q ((c.wf a q).product x) (c.tk x):=by
 have h7:x.m=7->okv 2 x.e=true:=by rw [<-hz];exact B.n7
 have hb:=(jr hf).read 2 x.m x.k x.e;have hv:=fF (c:=c) G (z:=2) (m:=x.m) (.inr rfl) B.k0 B.k1 B.e0 B.e1 (fun _=>rfl) h7;have GR:=G.read (z:=2) (m:=x.m) (.inr rfl) B.k0 B.k1 B.e0 B.e1
 have hp2:(c.read 2 x.m x.k x.e).r.p=b:=by
  rw [<-hp];unfold Mc.read;cases Mc.gG x.m
  ·exact qN c.r 2 x.m x.k x.e
  ·rfl
 unfold Mc.product Mc.tk;rw [uA,hz];show Same a b q (bif (c.read 2 x.m x.k x.e).fine then ((c.read 2 x.m x.k x.e).wf a q).jb x (c.bC 2 x.m x.k x.e) else (c.read 2 x.m x.k x.e).wf a q) _;cases hfi:(c.read 2 x.m x.k x.e).fine
 ·exact Same.wf hb
 ·show Same a b q (((c.read 2 x.m x.k x.e).wf a q).jb x (c.bC 2 x.m x.k x.e)) ((c.read 2 x.m x.k x.e).tk' x.op 2 x.r (c.bC 2 x.m x.k x.e))
  generalize hd:c.read 2 x.m x.k x.e=d at hb GR hp2 hfi ⊢;generalize hu:c.bC 2 x.m x.k x.e=u at hv ⊢;have hu2:=aQ hv;have hr:=GR.g.dw x.r.toNat (by have:=B.r1;omega);have el2:d.low 2 x.r=el d.r.xs x.r.toNat:=by unfold Mc.low;simp [top];omega
  have hu0:0<=u∧u<=65535:=by simp [top] at hu2;omega
  have hN:d.f=aG:=by rw [<-hd];refine xG hf rfl ?_;rw [hd];unfold Mc.fine at hfi;simpa using hfi
  obtain ⟨p,hE⟩:∃p,el d.r.xs x.r.toNat=p:=⟨_,rfl⟩
  rw [hE] at hr el2;rcases ho with ho|ho
  ·have k2:ok2 p u=true:=by simp [ok2,wOk];omega
   have hpu:0<=p*u:=Int.mul_nonneg hr.1 hu0.1;have eM:xP p u=p*u%65536:=by unfold xP;rw [if_pos k2]
   have eH:(Fq p u != 0)=decide (65535<p*u):=by
    unfold Fq;rw [if_pos k2];generalize p*u=w at hpu;by_cases h:65535<w
    ·rw [decide_eq_true h];simp;omega
    ·rw [decide_eq_false h];simp;omega
   have e:(d.wf a q).jb x u=(d.tk' x.op 2 x.r u).wf a q:=by
    unfold Mc.jb Mc.tk' cbV cbF cbM cbU;rw [ho,el2];show (d.wf a q).Jm x (el d.r.xs x.r.toNat*u)=((d.put 2 x.r (xP p u)).aI (bits .or .i64 (dA 2 d.r.f (xP p u)) (fl (Fq p u != 0) 2))).wf a q;rw [eM,eH,hE];rfl
   rw [e];refine Same.wf ?_;unfold Mc.tk';rw [ho];exact hb
  ·cases h0:u==0
   ·have hn:u≠0:=by simpa using h0
    have eQ:dvQ 0 p u=p/u:=by
     have hk:dOk 0 p u=true:=by simp [dOk,wOk];omega
     unfold dvQ;rw [if_pos hk];exact (yQ (by omega) (by omega) (by omega)).1
    have hq2:okv 2 (p/u)=true:=by
     have h1:0<=p/u:=Int.ediv_nonneg (by omega) (by omega);have h3:p/u<=p:=Int.ediv_le_self _ (by omega);simp [okv,top];omega
    have hL:=fU 2 d.r.f (p/u) hq2 (di GR)
    have e:(d.wf a q).jb x u=(d.tk' x.op 2 x.r u).wf a q:=by
     unfold Mc.jb Mc.tk' cbV cbF cbM cbU;rw [ho,el2,h0];show (d.wf a q).data 2 x.r (el d.r.xs x.r.toNat/u)=((d.put 2 x.r (dvQ 0 p u)).aI (bits .or .i64 (dA 2 d.r.f (dvQ 0 p u)) (fl ((0:Int) != 0) 2))).wf a q;rw [eQ,hE,show fl ((0:Int) != 0) 2=0 from rfl,V9 hL.1 hL.2];rfl
    rw [e];refine Same.wf ?_;unfold Mc.tk';rw [ho,h0];exact hb
   ·have e1:(d.wf a q).jb x u=(d.wf a q).raise 5:=by unfold Mc.jb;rw [ho,h0];rfl
    have e2:d.tk' x.op 2 x.r u={d with f:=⟨5,0,0,0,false⟩}:=by unfold Mc.tk';rw [ho,h0];rfl
    rw [e1,e2];refine ⟨rfl,rfl,rfl,rfl,fun h=>absurd (show (5:Int)=0 from h) (by decide),fun _ => ?_⟩;show ({d.f with pc:=d.r.p,wo:=q,v:=5}:Ft)=⟨5,b,0,q,false⟩;rw [hN,hp2];rfl
theorem Oh (G:GM c) (hf:c.f=aG) (x:In) (hp:c.r.p=b) (h4:0<=x.r):Same a b q ((c.wf a q).jB x) (c.fw x):=by
 have hb:=jr hf;unfold Mc.jB Mc.fw;cases h0:x.s==0
 ·cases h1:x.s==1
  ·cases h3:x.s==3
   ·cases h4:x.s==4
    ·cases h5:x.s==5
     ·cases h6:x.s==6
      ·exact Same.wf hb
      ·exact Same.wf (d:=(c.put 2 x.r (lX (c.low 1 x.r))).aI (dA 2 c.r.f (lX (c.low 1 x.r)))) hb
     ·exact Same.wf (d:=(c.put 2 x.r (lG (el c.r.xs x.r.toNat))).aI (dA 2 c.r.f (lG (el c.r.xs x.r.toNat)))) hb
    ·refine ⟨rfl,rfl,rfl,rfl,fun h => ?_,fun _ => ?_⟩
     ·exfalso
      have:18+x.r=0:=h
      omega
     ·show ({c.f with pc:=c.r.p,wo:=q,v:=18+x.r}:Ft)=⟨18+x.r,bif dS (18+x.r) then b else a,0,q,false⟩
      have:dS (18+x.r)=true:=by unfold dS;simp;omega
      rw [this,hf,hp];rfl
   ·exact Same.wf (d:={c.bi (aX c.r x.e) with st:=true}) hb
  ·show Same a b q (bif !(c.wf a q).pop.fine then (c.wf a q).pop else bif !(c.wf a q).pop.pop.fine then (c.wf a q).pop.pop else ((c.wf a q).pop.pop.aF (c.wf a q).pop.dI).bi (aX ((c.wf a q).pop.pop.aF (c.wf a q).pop.dI).r ((c.wf a q).dI%1024))) c.cb1
   rw [Bz,Bz];show Same a b q (bif !c.pop.fine then c.pop.wf a q else bif !c.pop.pop.fine then c.pop.pop.wf a q else ((c.pop.pop.aF c.pop.dI).bi (aX (c.pop.pop.aF c.pop.dI).r (c.dI%1024))).wf a q) c.cb1;unfold Mc.cb1;cases k1:c.pop.fine
   ·exact Same.wf hb.pop
   ·cases k2:c.pop.pop.fine
    ·exact Same.wr hb.pop.pop k2 rfl rfl rfl rfl rfl
    ·exact Same.wf (d:=(c.pop.pop.aF c.pop.dI).bi (aX (c.pop.pop.aF c.pop.dI).r (c.dI%1024))) hb.pop.pop
 ·show Same a b q ((c.wf a q).pop.aF c.dI) c.cb0
  rw [Bz]
  have e:c.cb0=c.pop.aF c.dI:=by
   unfold Mc.cb0;cases c.pop.fine
   ·rfl
   ·have hs:(c.pop.aF c.dI).r.s=c.r.s∧(c.pop.aF c.dI).r.t=c.r.t∧(c.pop.aF c.dI).r.m=c.r.m∧(c.pop.aF c.dI).r.f=c.r.f:=by
     unfold Mc.pop;cases (c.acc 1 2 (el c.r.ys 3) 0).fine<;>exact ⟨rfl,rfl,rfl,rfl⟩
    show (c.pop.aF c.dI).bi _=_
    rw [yL G.g hs.1 hs.2.1 hs.2.2.1 hs.2.2.2];rfl
  rw [e];exact Same.wf (d:=c.pop.aF c.dI) hb.pop
theorem Ll:∀n:Nat,n<32->∀v c:Bool,bits .or .i64 (fl v (bits .and .i64 (n:Int) 4)) (fl c 17)=fl (v&&((n:Int)/4%2==1)) 4+(if c then 1 else 0)*17:=by decide +kernel
theorem Oj (G:GM c) (hf:c.f=aG) (x:In):Same a b q ((c.wf a q).ul x) (c.bd x):=by
 have hb:=jr hf;have f0:=G.g.f0;have f1:=G.g.f1;have hx:c.xOf=c.r.f/16:=by unfold Mc.xOf;omega
 have hbit:bit (c.r.f/16)=true:=by simp [bit];omega
 have l1:c.low 1 x.r=el c.r.xs x.r.toNat%256:=rfl;have l2:c.low 1 x.k=el c.r.xs x.k.toNat%256:=rfl;unfold Mc.ul Mc.yH Mc.bd eX;rw [l1,l2,hbit,Bool.true_and];show Same a b q (bif bcd (el c.r.xs x.r.toNat%256)&&bcd (el c.r.xs x.k.toNat%256) then ((c.wf a q).aI (c.sS x.s (el c.r.xs x.r.toNat%256) (el c.r.xs x.k.toNat%256))).put 1 x.r (c.nG x.s (el c.r.xs x.r.toNat%256) (el c.r.xs x.k.toNat%256)) else (c.wf a q).vec 4) _;generalize el c.r.xs x.r.toNat%256=u;generalize el c.r.xs x.k.toNat%256=v;cases bcd u&&bcd v
 ·refine ⟨rfl,rfl,rfl,rfl,fun h=>absurd (show (4:Int)=0 from h) (by decide),fun _ => ?_⟩;show ({c.f with pc:=a,wo:=q,v:=4}:Ft)=⟨4,a,0,q,false⟩;rw [hf];rfl
 ·have eV:c.nG x.s u v=dcV x.s (c.r.f/16) u v:=by unfold Mc.nG dcV;rw [hx]
  have eC:c.qm x.s u v=dcC x.s (c.r.f/16) u v:=by unfold Mc.qm dcC;rw [hx]
  have hc:dcC x.s (c.r.f/16) u v=0∨dcC x.s (c.r.f/16) u v=1:=by
   unfold dcC;have h1:=Et (c.r.f/16) u v;have h2:=IC (c.r.f/16) u v;cases x.s==1
   ·show aC (c.r.f/16) u v=0∨aC (c.r.f/16) u v=1
    omega
   ·show sC (c.r.f/16) u v=0∨sC (c.r.f/16) u v=1
    omega
  have eF:c.sS x.s u v=dcF x.s c.r.f (c.r.f/16) u v:=by
   unfold Mc.sS dcF;rw [eV,eC];obtain ⟨n,hn⟩:∃n:Nat,c.r.f=(n:Int):=⟨c.r.f.toNat,by omega⟩
   have:=Ll n (by omega) (dcV x.s (c.r.f/16) u v==0) (dcC x.s (c.r.f/16) u v==1)
   rw [<-hn] at this;rw [this];rcases hc with h|h<;>rw [h]<;>rfl
  show Same a b q (((c.wf a q).aI (c.sS x.s u v)).put 1 x.r (c.nG x.s u v)) _
  rw [eV,eF];exact Same.wf (d:=(c.put 1 x.r (dcV x.s (c.r.f/16) u v)).aI (dcF x.s c.r.f (c.r.f/16) u v)) hb
theorem Ir (hf:c.f=aG) (x:In):Same a b q ((c.wf a q).stat x) (c.mvs x):=by
 have hb:=jr hf;unfold Mc.stat Mc.mvs;cases x.s==0
 ·exact Same.wf (d:=c.bi {c.r with xs:=c.r.xs.set x.r.toNat (status c.r)}) hb
 ·exact Same.wf (d:=c.bi (aX c.r x.e)) hb
variable {c:Mc}
theorem Dp {m:Int} (h:fD m=true):m=0∨(2<=m∧m<=6):=by
 simp only [fD,Bool.or_eq_true,beq_iff_eq] at h;omega
theorem Hq {m:Int} (h:((m==0)||jZ m)=true):m=0∨(2<=m∧m<=6):=by
 simp only [jZ,within,Bool.or_eq_true,Bool.and_eq_true,beq_iff_eq,decide_eq_true_eq] at h;omega
def O8 (x:In):Int:=if jL x.m=true then 2 else 1
theorem DR {x:In} (hx:bJ x=true) :
  ((x.op=1∨x.op=3∨x.op=4∨x.op=5∨x.op=6∨x.op=7∨x.op=8)∧(x.m=1->x.z=2))∨
  (x.op=2∧(x.m=0∨(2<=x.m∧x.m<=6)))∨(x.op=9∧x.z=2)∨
  (x.op=10∧x.z=2∧(x.m=0∨(2<=x.m∧x.m<=6)))∨
  (x.op=11∧(x.m=0∨(2<=x.m∧x.m<=6))∧x.s<=3)∨(x.op=12)∨
  (x.op=13∧x.r<=1∧x.m=7)∨(x.op=14∧x.z=2∧(x.m=0∨(2<=x.m∧x.m<=6))∧x.s<=1)∨
  ((x.op=16∨x.op=17)∧x.z=2∧x.m≠1)∨(x.op=18∧x.s<=1)∨
  (x.op=19∧x.s<=1∧(x.s=0->x.e<=1023))∨(x.op=15∧x.s<=6∧(x.s=3->x.e<=1023)):=by
 obtain ⟨o1,o2,_⟩:=Rl hx;have hk:ax x=true:=by unfold bJ at hx;rw [Bool.and_eq_true] at hx;exact hx.2
 have:x.op=1∨x.op=2∨x.op=3∨x.op=4∨x.op=5∨x.op=6∨x.op=7∨x.op=8∨x.op=9∨x.op=10∨x.op=11∨x.op=12∨x.op=13∨x.op=14∨x.op=15∨x.op=16∨x.op=17∨x.op=18∨x.op=19:=by omega
 have two:((x.s==0)&&((x.z==2) || !(x.m==1)))=true->(x.m=1->x.z=2):=by
  intro h k;rw [k] at h;simp at h;exact h.2
 unfold ax at hk;rcases this with h|h|h|h|h|h|h|h|h|h|h|h|h|h|h|h|h|h|h<;>rw [h] at hk ⊢
 ·exact .inl ⟨.inl rfl,two hk⟩
 ·refine .inr (.inl ⟨rfl,Hq ?_⟩);have q:((x.s==0)&&((x.m==0)||jZ x.m))=true:=hk;exact (Bool.and_eq_true_iff.1 q).2
 ·exact .inl ⟨.inr (.inl rfl),two hk⟩
 ·exact .inl ⟨.inr (.inr (.inl rfl)),two hk⟩
 ·exact .inl ⟨.inr (.inr (.inr (.inl rfl))),two hk⟩
 ·exact .inl ⟨.inr (.inr (.inr (.inr (.inl rfl)))),two hk⟩
 ·exact .inl ⟨.inr (.inr (.inr (.inr (.inr (.inl rfl))))),two hk⟩
 ·exact .inl ⟨.inr (.inr (.inr (.inr (.inr (.inr rfl))))),two hk⟩
 ·have q:((x.z==2)&&(x.s==0))=true:=hk;simp only [Bool.and_eq_true,beq_iff_eq] at q;exact .inr (.inr (.inl ⟨rfl,q.1⟩))
 ·have q:(((x.z==2)&&(x.s==0))&&fD x.m)=true:=hk;simp only [Bool.and_eq_true,beq_iff_eq] at q;exact .inr (.inr (.inr (.inl ⟨rfl,q.1.1,Dp q.2⟩)))
 ·have q:(((x.r==0)&&decide (x.s<=3))&&((x.m==0)||jZ x.m))=true:=hk;rw [Bool.and_eq_true,Bool.and_eq_true,decide_eq_true_eq] at q;exact .inr (.inr (.inr (.inr (.inl ⟨rfl,Hq q.2,q.1.2⟩))))
 ·exact .inr (.inr (.inr (.inr (.inr (.inl rfl)))))
 ·have q:(((x.z==2)&&decide (x.r<=1))&&(x.m==7))=true:=hk;simp only [Bool.and_eq_true,beq_iff_eq,decide_eq_true_eq] at q;exact .inr (.inr (.inr (.inr (.inr (.inr (.inl ⟨rfl,q.1.2,q.2⟩))))))
 ·have q:((((x.z==2)&&(x.r==0))&&decide (x.s<=1))&&fD x.m)=true:=hk;simp only [Bool.and_eq_true,beq_iff_eq,decide_eq_true_eq] at q;exact .inr (.inr (.inr (.inr (.inr (.inr (.inr (.inl ⟨rfl,q.1.1.1,Dp q.2,q.1.2⟩)))))))
 ·refine .inr (.inr (.inr (.inr (.inr (.inr (.inr (.inr (.inr (.inr (.inr ⟨rfl,?_⟩))))))))));have q:(bif x.s==3 then ((x.z==2)&&(x.r==0))&&ji x.m x.e else (((x.z==2)&&decide (x.s<=6))&&ig x.m x.k x.e)&&(decide (3<x.s)||(x.r==0)))=true:=hk;cases h3:x.s==3
  ·rw [h3] at q;have n3:x.s≠3:=by simpa using h3
   have q2:((((x.z==2)&&decide (x.s<=6))&&ig x.m x.k x.e)&&(decide (3<x.s)||(x.r==0)))=true:=q;simp only [Bool.and_eq_true,decide_eq_true_eq] at q2;exact ⟨q2.1.1.2,fun k=>absurd k n3⟩
  ·rw [h3] at q;have n3:x.s=3:=by simpa using h3
   have q2:(((x.z==2)&&(x.r==0))&&ji x.m x.e)=true:=q;simp only [ji,Bool.and_eq_true,decide_eq_true_eq] at q2;exact ⟨by omega,fun _=>q2.2.2⟩
 ·have q:(((x.z==2)&&(x.s==0)) && !(x.m==1))=true:=hk;simp only [Bool.and_eq_true,beq_iff_eq,Bool.not_eq_true',beq_eq_false_iff_ne] at q;exact .inr (.inr (.inr (.inr (.inr (.inr (.inr (.inr (.inl ⟨.inl rfl,q.1.1,q.2⟩))))))))
 ·have q:(((x.z==2)&&(x.s==0)) && !(x.m==1))=true:=hk;simp only [Bool.and_eq_true,beq_iff_eq,Bool.not_eq_true',beq_eq_false_iff_ne] at q;exact .inr (.inr (.inr (.inr (.inr (.inr (.inr (.inr (.inl ⟨.inr rfl,q.1.1,q.2⟩))))))))
 ·have q:(((!(x.z==2))&&decide (x.s<=1))&&(x.m==0))=true:=hk;simp only [Bool.and_eq_true,decide_eq_true_eq] at q;exact .inr (.inr (.inr (.inr (.inr (.inr (.inr (.inr (.inr (.inl ⟨rfl,q.1.2⟩)))))))))
 ·have q:((x.z==2)&&((((x.s==0)&&(x.r==0))&&ji x.m x.e)||((x.s==1)&&ig x.m x.k x.e)))=true:=hk;simp only [ji,Bool.and_eq_true,Bool.or_eq_true,beq_iff_eq,decide_eq_true_eq] at q;refine .inr (.inr (.inr (.inr (.inr (.inr (.inr (.inr (.inr (.inr (.inl ⟨rfl,?_,?_⟩))))))))))
  ·rcases q.2 with k|k
   ·have:=k.1.1;omega
   ·have:=k.1;omega
  ·intro k0;rcases q.2 with k|k
   ·exact k.2.2
   ·have:=k.1;omega
theorem Oi {a b q:Int} (G:GM c) (hf:c.f=aG) (x:In) (hx:bJ x=true) (hp:c.r.p=b) (hb:b=(a+O8 x*2)%65536):Same a b q ((c.wf a q).doI x a) (c.cr' x):=by
 have B:=sG hx;have K:=DR hx;unfold Mc.doI Mc.cr';rcases K with ⟨h,h1⟩|⟨h,hm⟩|⟨h,hz⟩|⟨h,hz,hm⟩|⟨h,hm,hs⟩|h|⟨h,hr,hm⟩|⟨h,hz,hm,hs⟩|⟨h,hz,hm⟩|⟨h,hs⟩|⟨h,hs,he⟩|⟨h,hs,he⟩
 ·have s:=Io (a:=a) (b:=b) (q:=q) G hf x B h1 h;rcases h with h|h|h|h|h|h|h<;>rw [h]<;>exact s
 ·rw [h];exact Og hf x hm
 ·rw [h];exact Oc hf x h hz
 ·rw [h];exact Iw hf x hz hm
 ·rw [h];exact Iq G hf x B hm hs
 ·rw [h];exact Ip hf x
 ·rw [h];refine Iy hf x h ?_;rw [hp,hb];unfold O8;rw [hm];rfl
 ·rw [h];exact Oe hf x h hz hm
 ·have s:=Iu (a:=a) (b:=b) (q:=q) G hf x B hz hm h hp;rcases h with h|h<;>rw [h]<;>exact s
 ·rw [h];exact Oj G hf x
 ·rw [h];exact Ir hf x
 ·rw [h];exact Oh G hf x hp B.r0
theorem Dn (z m k e:Int):(c.read z m k e).st=c.st:=by unfold Mc.read;cases Mc.gG m<;>rfl
theorem uz (z m k e:Int):(c.slot z m k e).st=c.st:=by unfold Mc.slot;cases Mc.gG m<;>rfl
theorem uK (z m k a v:Int):(c.write z m k a v).st=c.st:=by unfold Mc.write;cases m==0<;>rfl
theorem Ou (v:Int):(c.push v).st=c.st:=by unfold Mc.push;cases (c.acc 2 2 c.spA v).fine<;>rfl
theorem IM:c.pop.st=c.st:=by unfold Mc.pop;cases (c.acc 1 2 (el c.r.ys 3) 0).fine<;>rfl
theorem gy (b:Bool) (x y:Mc) (s:Bool) (hx:x.st=s) (hy:y.st=s):(bif b then x else y).st=s:=by cases b<;>assumption
theorem Vw (x:In):(c.tk x).st=c.st:=by
 unfold Mc.tk Mc.tk';have h:=Dn (c:=c) x.z x.m x.k x.e;exact gy _ _ _ _ (gy _ _ _ _ h (gy _ _ _ _ h h)) h
theorem Xm (x:In):(c.ch x).st=c.st:=by
 unfold Mc.ch Mc.ch';have h:=Dn (c:=c) x.z x.m x.k x.e;have h2:=uz (c:=c) x.z x.m x.k x.e;refine gy _ _ _ _ (gy _ _ _ _ h2 ?_) (gy _ _ _ _ (gy _ _ _ _ h ?_) h)
 ·rw [uK];exact h2
 ·rw [uK];exact h
theorem WZ (x:In):(c.jp x).st=c.st:=by
 unfold Mc.jp;have h2:=uz (c:=c) x.z x.m x.k x.e;have h3:=(Ou (c:=c.slot x.z x.m x.k x.e) c.r.p).trans h2;exact gy _ _ _ _ (gy _ _ _ _ h3 h3) h2
theorem Xc (hf:c.f=aG) (x:In):(c.fw x).f.v≠0->(c.fw x).st=c.st:=by
 unfold Mc.fw;intro h;have p1:=IM (c:=c);have p2:=(IM (c:=c.pop)).trans p1;cases h0:x.s==0<;>rw [h0] at h
 ·cases h1:x.s==1<;>rw [h1] at h
  ·cases h3:x.s==3<;>rw [h3] at h
   ·show (bif x.s==4 then _ else bif x.s==5 then _ else bif x.s==6 then _ else c:Mc).st=c.st
    exact gy _ _ _ _ rfl (gy _ _ _ _ rfl (gy _ _ _ _ rfl rfl))
   ·exact absurd (show c.f.v=0 by rw [hf];rfl) h
  ·show c.cb1.st=c.st
   unfold Mc.cb1;exact gy _ _ _ _ (gy _ _ _ _ p2 p2) p1
 ·show c.cb0.st=c.st
  unfold Mc.cb0;exact gy _ _ _ _ p1 p1
theorem Xk (hf:c.f=aG) (x:In):(c.cr' x).f.v≠0->(c.cr' x).st=c.st:=by
 unfold Mc.cr';intro h;cases h2:x.op==2<;>rw [h2] at h
 ·cases h10:x.op==10<;>rw [h10] at h
  ·cases h11:x.op==11<;>rw [h11] at h
   ·cases h12:x.op==12<;>rw [h12] at h
    ·cases h13:x.op==13<;>rw [h13] at h
     ·cases h14:x.op==14<;>rw [h14] at h
      ·cases h15:x.op==15<;>rw [h15] at h
       ·show (bif x.op==18 then c.bd x else bif x.op==19 then c.mvs x else c.tk x).st=c.st
        refine gy _ _ _ _ ?_ (gy _ _ _ _ ?_ (Vw x))
        ·unfold Mc.bd;exact gy _ _ _ _ rfl rfl
        ·unfold Mc.mvs;exact gy _ _ _ _ rfl rfl
       ·exact Xc hf x h
      ·exact WZ x
     ·show (c.brn x).st=c.st
      unfold Mc.brn;exact gy _ _ _ _ rfl rfl
    ·rfl
   ·exact Xm x
  ·show (c.slot x.z x.m x.k x.e).st=c.st
   exact uz _ _ _ _
 ·show (c.gv x).st=c.st
  unfold Mc.gv;rw [uK];exact uz (c:=c.aI _) _ _ _ _
def beh (a:Int) (x:In):Int:=(a+O8 x*2)%65536
def Mc.dn' (c d:Mc) (b a q:Int):Mc:=bif d.f.v==0 then d else {d with r:=c.r,f:=⟨d.f.v,bif dS d.f.v then b else a,d.f.ad,q,d.f.wr⟩}
def Mc.dn (c:Mc) (x:In) (a:Int):Mc:=c.dn' ((c.aF (beh a x)).cr x) (beh a x) a (nO x%65536)
def Mc.nf (c:Mc):Mc:={c with f:=aG}
def Mc.sp (c:Mc):Mc:=bif c.kV.v==0 then c.fetch.nf.dn c.aA c.r.p else {c.fetch with f:=c.kV}
theorem Ec:c.fetch.r=c.r∧c.fetch.st=c.st:=by
 unfold Mc.fetch
 have h3:c.fe3.r=c.r∧c.fe3.st=c.st:=by
  unfold Mc.fe3;cases dW c.feW==2<;>exact ⟨rfl,rfl⟩
 cases c.fe1.fine
 ·exact ⟨rfl,rfl⟩
 ·cases c.fe3.fine
  ·exact h3
  ·cases bJ c.feX
   ·exact h3
   ·exact h3
theorem zV (h:c.fetch.fine=true):c.fe1.fine=true∧c.fe3.fine=true∧bJ c.feX=true:=by
 cases h1:c.fe1.fine
 ·rw [(Ee h1).1,h1] at h;cases h
 ·cases h3:c.fe3.fine
  ·rw [(Ed h1 h3).1,h3] at h;cases h
  ·cases hx:bJ c.feX
   ·rw [(yx h1 h3 hx).1] at h;cases h
   ·exact ⟨rfl,rfl,rfl⟩
theorem Xe (hf:c.f=aG) (h3:c.fe3.fine=true) (h1:c.fe1.fine=true):c.fe3.f=⟨0,c.r.p,0,c.feW,false⟩:=by
 have e1:c.fe1.f=⟨0,c.r.p,0,0,false⟩:=by
  have e:c.fe1.f={Mc.dm aG 3 2 c.r.p with pc:=c.r.p,wo:=0}:=by
   show Mc.dm {c.f with pc:=c.r.p} 3 2 c.r.p=_
   rw [hf];exact pY c.r.p 0 3 2 c.r.p
  have:((Mc.dm aG 3 2 c.r.p).v != 0)=false:=by
   unfold Mc.fine at h1;rw [e] at h1;simpa using h1
  rw [e,(ni this).2];rfl
 have e2:c.fe2.f={aG with pc:=c.r.p,wo:=c.feW}:=by
  show ({c.fe1.f with wo:=c.feW}:Ft)=_
  rw [e1];rfl
 unfold Mc.fe3 at h3 ⊢;cases hl:dW c.feW==2
 ·exact e2
 ·rw [hl] at h3
  have e:(c.fe2.acc 3 2 c.feA 0).f={Mc.dm aG 3 2 c.feA with pc:=c.r.p,wo:=c.feW}:=by
   show Mc.dm c.fe2.f 3 2 c.feA=_
   rw [e2];exact pY _ _ _ _ _
  have:((Mc.dm aG 3 2 c.feA).v != 0)=false:=by
   have h3':(c.fe2.acc 3 2 c.feA 0).fine=true:=h3;unfold Mc.fine at h3';rw [e] at h3';simpa using h3'
  show (c.fe2.acc 3 2 c.feA 0).f=_
  rw [e,(ni this).2];rfl
theorem Uw {c:Mc} (G:GM c):0<=c.feW∧c.feW<=65535:=by
 have h:=(G.ft {c.f with pc:=c.r.p}).gz (k:=3) (s:=2) (a:=c.r.p) (v:=0) (dX (.inr rfl) G.p0 G.p1);have t:=aQ h;have e:c.feW=lv c.bx 3 2 c.r.p 0:=rfl;have e2:({c with f:={c.f with pc:=c.r.p}}:Mc).gz 3 2 c.r.p 0=lv c.bx 3 2 c.r.p 0:=rfl;rw [e2] at t;rw [e];simp [top] at t;omega
theorem G5 {w v:Int} (h0:0<=w) (h1:w<=65535):nO (decode w v)%65536=w:=by
 unfold nO decode;simp only;omega
theorem GM.like {m d:Mc} (h:GM m) (bx:m.bx=d.bx) (bl:m.bl=d.bl) (bm:m.bm=d.bm) (g:Good d.r) (p0:0<=d.r.p) (p1:d.r.p<=65535):GM d:=
 ⟨g,p0,p1,by rw [<-bx];exact h.bx,by rw [<-bx];exact h.ok,by rw [<-bl,<-bm];exact h.bl,by rw [<-bm];exact h.bm,by rw [<-bl,<-bm];exact h.ac⟩
theorem Dk (k:Cp) (G:GM (Mc.ofC k)):(Mc.ofC k).sp.f=fC k∧(Mc.ofC k).sp.cpu false=dB k∧GM (Mc.ofC k).sp:=by
 have er:stepM k=(Mc.ofC k).s2:=rfl;have ek:(Mc.ofC k).r=k.r∧(Mc.ofC k).st=k.st:=⟨rfl,rfl⟩
 have hf:(Mc.ofC k).f=aG:=rfl;unfold fC dB;rw [er,<-ek.1,<-ek.2];generalize Mc.ofC k=c at G hf;have GF:=G.fetch;obtain ⟨fr,fs⟩:=Ec (c:=c);cases hF:c.fetch.fine
 ·have e1:c.s1=c.fetch:=by unfold Mc.s1;rw [hF];rfl
  have e2:c.s2=c.fetch:=by unfold Mc.s2;rw [e1,hF];rfl
  have eF:c.kV=c.fetch.f:=by unfold Mc.kV;rw [hF];rfl
  have hv:(c.kV.v==0)=false:=by rw [eF];exact hF
  have es:c.sp=c.fetch:=by
   unfold Mc.sp;rw [hv,eF];rfl
  rw [es,e2,hF];refine ⟨rfl,?_,GF⟩;show Cp.mk c.fetch.r c.fetch.bx c.fetch.bl c.fetch.bm c.fetch.st false=Cp.mk c.r c.fetch.bx c.fetch.bl c.fetch.bm c.st false;rw [fr,fs]
 ·obtain ⟨h1,h3,hx⟩:=zV hF;obtain ⟨eD,eI,eN,eF⟩:=yw h1 h3 hx;have ff:c.fetch.f=⟨0,c.r.p,0,c.feW,false⟩:=by rw [eD];exact Xe hf h3 h1
  have hw:=Uw G;have ew:nO c.aA%65536=c.feW:=by rw [eI];exact G5 hw.1 hw.2
  have eb:(c.r.p+2*c.cZ)%65536=beh c.r.p c.aA:=by
   unfold beh;rw [eI,eN,Int.mul_comm 2];rfl
  have hx2:bJ c.aA=true:=by rw [eI];exact hx
  have hv:(c.kV.v==0)=true:=by rw [eF];rfl
  have es:c.sp=c.fetch.nf.dn c.aA c.r.p:=by unfold Mc.sp;rw [hv];rfl
  rw [es];obtain ⟨x,hX⟩:∃x,c.aA=x:=⟨_,rfl⟩
  rw [hX] at ew eb hx2 ⊢;have hb:0<=beh c.r.p x∧beh c.r.p x<=65535:=by unfold beh;omega
  obtain ⟨d,hd⟩:∃d,c.fetch.nf=d:=⟨_,rfl⟩
  have gd:GM d:=by rw [<-hd];exact GF.ft aG
  have df:d.f=aG:=by rw [<-hd];rfl
  have dr:d.r=c.r:=by rw [<-hd];exact fr
  have ds:d.st=c.st:=by rw [<-hd];exact fs
  have dw:c.fetch=d.wf c.r.p c.feW:=by
   rw [<-hd];show c.fetch=Mc.mk c.fetch.r c.fetch.bx c.fetch.bl c.fetch.bm c.fetch.st ⟨0,c.r.p,0,c.feW,false⟩;rw [<-ff]
  unfold Mc.dn;rw [hd,ew];have gE:GM (d.aF (beh c.r.p x)):=gd.aF hb.1 hb.2;cases hp:jh x && !c.r.s
  ·have e1:c.s1=c.fetch:=by unfold Mc.s1;rw [hF,fr,hX,hp];rfl
   have e2:c.s2=((d.aF (beh c.r.p x)).wf c.r.p c.feW).doI x c.r.p:=by unfold Mc.s2;rw [e1,hF,eb,hX,dw];rfl
   have ec:(d.aF (beh c.r.p x)).cr x=(d.aF (beh c.r.p x)).cr' x:=by
    unfold Mc.cr;show (bif jh x && !d.r.s then _ else _)=_;rw [dr,hp];rfl
   have S:=Oi (q:=c.feW) gE df x hx2 (a:=c.r.p) rfl rfl;have GD:=GM.doI (gE.ft {(d.aF (beh c.r.p x)).f with pc:=c.r.p,wo:=c.feW}) hx2 c.r.p;have GS:=Xk (c:=d.aF (beh c.r.p x)) df x;rw [e2,ec];change Same c.r.p (beh c.r.p x) c.feW (((d.aF (beh c.r.p x)).wf c.r.p c.feW).doI x c.r.p) _ at S;change GM (((d.aF (beh c.r.p x)).wf c.r.p c.feW).doI x c.r.p) at GD;generalize ((d.aF (beh c.r.p x)).wf c.r.p c.feW).doI x c.r.p=m at S GD;have GS2:((d.aF (beh c.r.p x)).cr' x).f.v≠0->((d.aF (beh c.r.p x)).cr' x).st=d.st:=GS;generalize (d.aF (beh c.r.p x)).cr' x=u at S GS2;clear GS;unfold Mc.dn';cases hu:u.f.v==0
   ·have hn:u.f.v≠0:=by simpa using hu
    have mf:=S.no hn;have mn:m.fine=false:=by unfold Mc.fine;rw [mf];exact hu
    rw [mn];refine ⟨mf.symm,?_,?_⟩
    ·show Cp.mk d.r u.bx u.bl u.bm u.st false=Cp.mk c.r m.bx m.bl m.bm c.st false
     rw [dr,S.bx,S.bl,S.bm,GS2 hn,ds]
    ·exact GM.like (d:={u with r:=d.r,f:=⟨u.f.v,bif dS u.f.v then beh c.r.p x else c.r.p,u.f.ad,c.feW,u.f.wr⟩}) GD S.bx S.bl S.bm gd.g gd.p0 gd.p1
   ·have hz:u.f.v=0:=by simpa using hu
    obtain ⟨m0,mr,uf⟩:=S.ok hz;have mn:m.fine=true:=by unfold Mc.fine;rw [m0];rfl
    rw [mn];refine ⟨uf,?_,?_⟩
    ·show Cp.mk u.r u.bx u.bl u.bm u.st false=Cp.mk m.r m.bx m.bl m.bm m.st false
     rw [mr,S.bx,S.bl,S.bm,S.st]
    ·exact GM.like (d:=u) GD S.bx S.bl S.bm (by rw [<-mr];exact GD.g) (by rw [<-mr];exact GD.p0) (by rw [<-mr];exact GD.p1)
  ·have e1:c.s1=c.fetch.vec 8:=by unfold Mc.s1;rw [hF,fr,hX,hp];rfl
   have e2:c.s2=c.fetch.vec 8:=by unfold Mc.s2;rw [e1];rfl
   have ec:(d.aF (beh c.r.p x)).cr x={d.aF (beh c.r.p x) with f:=⟨8,0,0,0,false⟩}:=by
    unfold Mc.cr;show (bif jh x && !d.r.s then _ else _)=_;rw [dr,hp];rfl
   rw [e2,ec,dw];refine ⟨?_,?_,?_⟩
   ·show Ft.mk 8 c.r.p 0 c.feW false={d.f with pc:=c.r.p,wo:=c.feW,v:=8}
    rw [df];rfl
   ·show Cp.mk d.r d.bx d.bl d.bm d.st false=Cp.mk c.r d.bx d.bl d.bm c.st false
    rw [dr,ds]
   ·exact gd.ft ⟨8,c.r.p,0,c.feW,false⟩
end Go.Proofs.YtgikibaajanjiaaGreatDoor.Pl
namespace Go.Proofs.YtgikibaajanjiaaGreatDoor
open Pl
open Go.RowKit Go.Proofs.Tryz
set_option linter.unusedVariables false
variable (w:World) (lo b g:Nat) (c:Mc) (h:Hl)
theorem U3 (op z r m k e s:Int) (hC:CAt w lo b g c h) (G:GM c) (hf:c.f=aG) (hx:bJ ⟨op,z,r,m,k,e,s⟩=true) (ht:jw w lo) :
  Calls prog 179 #[.pointer (some (aac b 0)),.agg (inA op z r m k e s)] w fun e' w'=>∃g',e'=.returned (.agg (ftC (c.cr ⟨op,z,r,m,k,e,s⟩).f))∧CAt w' lo b g' (c.cr ⟨op,z,r,m,k,e,s⟩) h∧Since w b (b+1) g w' g':=by
 have B:=sG hx;rcases DR hx with ⟨ho,h1⟩|⟨ho,hm⟩|⟨ho,hz⟩|⟨ho,hz,hm⟩|⟨ho,hm,hs⟩|ho|⟨ho,hr,hm⟩|⟨ho,hz,hm,hs⟩|⟨ho,hz,hm⟩|⟨ho,hs⟩|⟨ho,hs,he⟩|⟨ho,hs,he⟩
 ·simp only at ho
  exact kR w lo b g c (c.tk ⟨op,z,r,m,k,e,s⟩) h op z r m k e s hC (by rcases ho with rfl|rfl|rfl|rfl|rfl|rfl|rfl<;>rfl) (by rcases ho with rfl|rfl|rfl|rfl|rfl|rfl|rfl<;>rfl) (.inl ⟨by omega,fun W g9 _ h9=>L9 W lo b g9 c h op z r m k e s h9 G hf B (by omega) h1 (by omega)⟩)
 ·simp only at ho
  subst ho;exact kR w lo b g c (c.gv ⟨2,z,r,m,k,e,s⟩) h _ z r m k e s hC rfl rfl (.inr (.inl ⟨rfl,fun W g9 kk h9=>Xr W lo b g9 c h _ z r m k e s h9 G hf B hm⟩))
 ·simp only at ho
  subst ho;exact kR w lo b g c (c.tk ⟨9,z,r,m,k,e,s⟩) h _ z r m k e s hC rfl rfl (.inl ⟨.inl rfl,fun W g9 kk h9=>L9 W lo b g9 c h _ z r m k e s h9 G hf B (.inl rfl) (fun _=>hz) (fun _=>hz)⟩)
 ·exact Qx w lo b g c h op z r m k e s hC G hf B ho
 ·simp only at ho
  subst ho;exact kR w lo b g c (c.ch ⟨11,z,r,m,k,e,s⟩) h _ z r m k e s hC rfl rfl (.inr (.inr (.inl ⟨rfl,fun W g9 kk h9=>MG W lo b g9 c h _ z r m k e s h9 G hf B hs hm⟩)))
 ·simp only at ho
  subst ho;exact Ai w lo b g c ((c.put z r (iR s z c.r.f (c.low z r) (k+1))).aI (nM s z c.r.f (c.low z r) (k+1))) h _ z r m k e s hC rfl rfl (by exact hf) (.inl ⟨rfl,fun W g9 kk h9=>UF W lo b g9 c h _ z r m k e s h9 G B⟩)
 ·simp only at ho
  subst ho;exact Ai w lo b g c (bif Pl.tst (s+8*r) c.r.f then c.aF ((c.r.p-2+e)%65536) else c) h _ z r m k e s hC rfl rfl (by cases Pl.tst (s+8*r) c.r.f<;>exact hf) (.inr ⟨rfl,fun W g9 kk h9=>Qz W lo b g9 c h _ z r m k e s h9 G B hr⟩)
 ·simp only at ho
  subst ho;exact kR w lo b g c (c.jp ⟨14,z,r,m,k,e,s⟩) h _ z r m k e s hC rfl rfl (.inr (.inr (.inr (.inl ⟨rfl,fun W g9 kk h9=>UO W lo b g9 c h _ z r m k e s h9 G hf B hs⟩))))
 ·simp only at ho
  exact kR w lo b g c (c.tk ⟨op,z,r,m,k,e,s⟩) h op z r m k e s hC (by rcases ho with rfl|rfl<;>rfl) (by rcases ho with rfl|rfl<;>rfl) (.inl ⟨by omega,fun W g9 _ h9=>L9 W lo b g9 c h op z r m k e s h9 G hf B (by omega) (fun q=>absurd q hm) (fun _=>hz)⟩)
 ·simp only at ho
  subst ho;exact kR w lo b g c (c.bd ⟨18,z,r,m,k,e,s⟩) h _ z r m k e s hC rfl rfl (.inr (.inr (.inr (.inr ⟨rfl,fun W g9 kk h9=>Xv W lo b g9 c h _ z r m k e s h9 G hf B hs (ht.any kk)⟩))))
 ·exact Qw w lo b g c h op z r m k e s hC G hf B ho hs he
 ·exact Qy w lo b g c h op z r m k e s hC G hf B ho hs he
theorem dS (v:Int) (w:World):Calls prog 141 #[iv v] w fun e w'=>e=.returned (.bool (Pl.dS v))∧w'=w:=by
 cases h0:(v==5)
 ·go_enter func141,ntmps141;go_wp2;go_ret;exact ⟨by unfold Pl.dS;rw [h0];rfl,rfl⟩
 ·go_enter func141,ntmps141;go_wp2;go_ret;exact ⟨by unfold Pl.dS;rw [h0];rfl,rfl⟩
theorem CAt.Zw {w:World} {lo b g:Nat} {c:Mc} {h:Hl} (a:CAt w lo b g c h) (r:Rg):CAt ((((((((((((((w.setCell (aac b 0) ((iv (el r.xs 0)))).setCell (aac b 1) ((iv (el r.xs 1)))).setCell (aac b 2) ((iv (el r.xs 2)))).setCell (aac b 3) ((iv (el r.xs 3)))).setCell (aac b 4) ((iv (el r.ys 0)))).setCell (aac b 5) ((iv (el r.ys 1)))).setCell (aac b 6) ((iv (el r.ys 2)))).setCell (aac b 7) ((iv (el r.ys 3)))).setCell (aac b 8) ((iv r.o))).setCell (aac b 9) ((iv r.p))).setCell (aac b 10) ((iv r.f))).setCell (aac b 11) ((iv r.m))).setCell (aac b 12) ((.bool r.s))).setCell (aac b 13) ((.bool r.t))) lo b g (c.bi r) h:=by
 obtain ⟨cu,hB,hO⟩:=a;exact ⟨cu,Blk.RP (show Blk w b (bkR c.r++_) _ from hB),hO.own (JZ _ _ _ _ _ _ _ _ _ _ _ _ _ _ _ _)⟩
theorem Pl.O6 {m:Int} (m0:0<=m) (m1:m<=7):(if lng m=true then (2:Int) else 1)=if jL m=true then 2 else 1:=by
 unfold lng;rw [show bI m=true from by simp [bI,within];omega];rfl
theorem cDo (op z r m k e s a:Int) (hC:CAt w lo b g c h) (G:GM c) (hf:c.f=aG) (hx:bJ ⟨op,z,r,m,k,e,s⟩=true) (ht:jw w lo) (a0:0<=a) (a1:a<=65535) :
  Calls prog 123 #[.pointer (some (aac b 0)),.agg (inA op z r m k e s),iv a] w fun e' w'=>∃g',e'=.returned (.agg (ftC (c.dn ⟨op,z,r,m,k,e,s⟩ a).f))∧CAt w' lo b g' (c.dn ⟨op,z,r,m,k,e,s⟩ a) h∧Since w b (b+1) g w' g':=by
 have B:=sG hx;have wfm:(Lit.int .i64 m).wf=true:=qK (by have:0<=m:=B.m0;omega) (by have:m<=7:=B.m1;omega);obtain ⟨L,hL⟩:∃L,(if lng m=true then (2:Int) else 1)=L:=⟨_,rfl⟩
 have hl2:L=1∨L=2:=by rw [<-hL];split<;>simp
 obtain ⟨BH,hBH⟩:∃BH,(a+L*2)%65536=BH:=⟨_,rfl⟩
 have eb:beh a ⟨op,z,r,m,k,e,s⟩=BH:=by unfold beh O8;rw [<-hBH,<-hL,O6 B.m0 B.m1]
 have b0:0<=BH∧BH<=65535:=by omega
 obtain ⟨N,hN⟩:∃N,nO ⟨op,z,r,m,k,e,s⟩%65536=N:=⟨_,rfl⟩
 obtain ⟨D,hD⟩:∃D,D=(c.aF BH).cr ⟨op,z,r,m,k,e,s⟩:=⟨_,rfl⟩
 obtain ⟨F,hF⟩:∃F,F=D.f:=⟨_,rfl⟩
 have ET:Hid (c.dn ⟨op,z,r,m,k,e,s⟩ a=bif F.v==0 then D else {D with r:=c.r,f:=⟨F.v,bif Pl.dS F.v then BH else a,F.ad,N,F.wr⟩}):=aab (by unfold Mc.dn Mc.dn';rw [eb,hN,<-hD,hF]);have GP:Hid (GM (c.aF BH)):=aab (G.aF b0.1 b0.2);have HL:=aab hL;have HBH:=aab hBH;have HN:=aab hN;have HD:=aab hD;have HF:=aab hF;have HX:=aab hx;have TB:=aab ht;have gl:=G.bx;have w2:IntKind.i64.wrap (L*2)=L*2:=by rw [IntKind.wrap_i64];omega
 have w3:IntKind.i64.wrap (a+L*2)=a+L*2:=by rw [IntKind.wrap_i64];omega
 clear hL hBH hN hD hF hx ht B eb;obtain ⟨l0,l1,l2,l3,l4⟩:=hC.lt;have HG:=aab G;obtain ⟨X,hX,K0,C0,A0,R0,sX⟩:=hC.kS op z r m k e s;have p:=A0.o.all;clear hC G;go_enter func123,ntmps123;go_wp2_with fail;refine iq (fun A0 l A W=>∃q:Nat,FR [10,11,12,13,14,15,16,17,18,19,7,8] A0 A∧Once l 0 (A.tmps[10]? = some (.pointer (some (aac b 0))))∧Once l 1 (A.tmps[11]? = some (.pointer (some (aac b 0))))∧Once l 2 (A.tmps[12]? = some (.pointer (some (aac b 0))))∧Once l 3 (A.tmps[13]? = some (.agg (bkR c.r)))∧Once l 4 (A.tmps[14]? = some (iv a))∧Once l 5 (A.tmps[15]? = some (.agg (inA op z r m k e s)))∧Once l 6 (A.tmps[16]? = some (iv L))∧Once l 7 (A.tmps[17]? = some (iv (L*2)))∧Once l 8 (A.tmps[18]? = some (iv (a+L*2)))∧Once l 9 (A.tmps[19]? = some (iv BH))∧Once l 10 (A.tmps[7]? = some (.pointer (some (aac q 0))))∧Once l 11 (True)∧Once l 12 (A.tmps[8]? = some (iv BH))∧Once l 10 (X.heap.size<=q∧Blk W q (bif l.getD 11 true then bkR c.r else #[iv 0,iv 0,iv 0,iv 0,iv 0,iv 0,iv 0,iv 0,iv 0,iv 0,iv 0,iv 0,.bool false,.bool false]) 151)∧(l.getD 11 true=true->l.getD 10 true=true)∧Kept 0 0 X W) (by kernel_rfl) (by kernel_rfl) ?start ?fin ?step
 case start=>exact ⟨0,FR.refl _ _,ay (by decide),ay (by decide),ay (by decide),ay (by decide),ay (by decide),ay (by decide),ay (by decide),ay (by decide),ay (by decide),ay (by decide),ay (by decide),ay (by decide),ay (by decide),ay (by decide),(fun e=>by rw [lS (by decide)] at e;cases e),ah (Kept.refl _ _ _)⟩
 case fin=>
  intro l A W h hl;obtain ⟨q,hFR,o0,o1,o2,o3,o4,o5,o6,o7,o8,o9,o10,o11,o12,ox,o11w,hK⟩:=h;have g10:=o10 (hl 10 (by decide));have QX:=aab (ox (hl 10 (by decide)));rw [hl 11 (by decide)] at QX;replace QX:Hid (X.heap.size<=q∧Blk W q (bkR c.r) 151):=QX;have g12:=o12 (hl 12 (by decide));have QQ:=aab hK;have hc9:=hFR.chain;simp only [List.foldl] at hc9;rw [mY g10,mY g12] at hc9;clear ox o11w hl hK hFR g10 g12 o0 o1 o2 o3 o4 o5 o6 o7 o8 o9 o10 o11 o12;generalize A.tmps.getD 10 undef=s10 at hc9;generalize A.tmps.getD 11 undef=s11 at hc9;generalize A.tmps.getD 12 undef=s12 at hc9;generalize A.tmps.getD 13 undef=s13 at hc9;generalize A.tmps.getD 14 undef=s14 at hc9;generalize A.tmps.getD 15 undef=s15 at hc9;generalize A.tmps.getD 16 undef=s16 at hc9;generalize A.tmps.getD 17 undef=s17 at hc9;generalize A.tmps.getD 18 undef=s18 at hc9;generalize A.tmps.getD 19 undef=s19 at hc9;subst hc9;go_simp;have C1:=aab (C0.o.any QQ.o);have A1:=aab (A0.o.ae QQ.o);have R1:=aab (R0.o.ae QQ.o);have K1:=aab (K0.o.trans QQ.o);have qX:=QX.o.1;have B1:=aab QX.o.2;clear p hX K0 C0 A0 R0 QX;have q9:=C1.o.cP;have qz:=C1.o.fz;have p2:=(A1.o.other b 9 (iv BH) (by omega)).all;go_wp2_with fail;clear q9 qz p2;have S2:=aab (((Since.refl w b (b+1) g).any K1.o).set b 9 (iv BH) (.inl (by omega)));have A2:=aab (A1.o.other b 9 (iv BH) (by omega));have R2:=aab (R1.o.other b 9 (iv BH) (by omega));have B2:=aab (B1.o.other b 9 (iv BH) (by omega));refine (U3 _ lo b g (c.aF BH) h op z r m k e s (C1.o.aF BH) GP.o hf HX.o (TB.o.since S2.o (by omega) (by omega))).mono ?_;rintro e9 W3 ⟨g',rfl,hc,hs⟩;rw [<-HD.o] at hc ⊢;rw [<-HF.o];unfold ftC;have n3:=hs.ne (b:=w.heap.size+1) R2.o.lt (by omega);have m3:=hs.ne (b:=w.heap.size) A2.o.lt (by omega);have o3:=hs.ne (b:=q) B2.o.lt (by omega);have z3:=hs.size;obtain ⟨y0,y1,y2,y3,y4⟩:=hc.lt;have C3:=aab (hc.alloc (.cells (ftA F) 42));have A3:=aab ((hs.blk A2.o (by omega) (by omega)).alloc (.cells (ftA F) 42));have R3:=aab ((hs.blk R2.o (by omega) (by omega)).alloc (.cells (ftA F) 42));have B3:=aab ((hs.blk B2.o (by omega) (by omega)).alloc (.cells (ftA F) 42));have S3:=aab ((S2.o.trans hs).alloc (.cells (ftA F) 42));have L3:=aab (Blk.new W3 (ftA F) 42);have u3:=B3.o.lt;have v3:w.heap.size+1<W3.heap.size:=by have:=(hs.blk R2.o (by omega) (by omega)).lt;exact this
  have x3:q<W3.heap.size:=(hs.blk B2.o (by omega) (by omega)).lt;clear hc hs C1 A1 R1 K1 B1 S2 A2 R2 B2;go_wp2_with fail;refine (bQ F _).mono ?_;rintro e9 W4 ⟨rfl,kf⟩;have C4:=aab (C3.o.any kf);have A4:=aab (A3.o.ae kf);have R4:=aab (R3.o.ae kf);have B4:=aab (B3.o.ae kf);have L4:=aab (L3.o.ae kf);have S4:=aab (S3.o.any kf);have q4:=L4.o.all;have r4:=R4.o.all;have rf4:=R4.o.fz;clear kf C3 A3 R3 B3 L3 S3;cases hv:(F.v != 0)
  ·have E1:Hid (c.dn ⟨op,z,r,m,k,e,s⟩ a=D):=aab (by rw [ET.o,show (F.v==0)=true from by simpa using hv];rfl);go_wp2_with fail;have KR:=(((((ak W4 (w.heap.size+1) 0 (iv F.v)).one 1 (iv F.pc)).one 2 (iv F.ad)).one 3 (iv F.wo)).one 4 (.bool F.wr))
   refine bodyPost_ret (v:=.agg (ftA F)) ?_ rfl ⟨g',?_,?_,(S4.o).mine KR (by omega)⟩
   ·rw [aj rfl];go_simp
   ·rw [E1.o,<-HF.o];rfl
   ·rw [E1.o];exact ((C4.o).kept KR (by omega) (by omega))
  ·clear r4 rf4;have b4:=B4.o.all;unfold bkR at b4;obtain ⟨y_0,y_1,y_2,y_3,y_4,y_5,y_6,y_7,y_8,y_9,XQ,XP,XN,XM⟩:=C4.o.Aw;have yz:=C4.o.fz;have KY:=aab (JZ W4 b (iv (el c.r.xs 0)) (iv (el c.r.xs 1)) (iv (el c.r.xs 2)) (iv (el c.r.xs 3)) (iv (el c.r.ys 0)) (iv (el c.r.ys 1)) (iv (el c.r.ys 2)) (iv (el c.r.ys 3)) (iv c.r.o) (iv c.r.p) (iv c.r.f) (iv c.r.m) (.bool c.r.s) (.bool c.r.t));have C5:=aab (C4.o.Zw c.r);obtain ⟨Y,hY⟩:∃Y:World,((((((((((((((W4.setCell (aac b 0) (iv (el c.r.xs 0))).setCell (aac b 1) (iv (el c.r.xs 1))).setCell (aac b 2) (iv (el c.r.xs 2))).setCell (aac b 3) (iv (el c.r.xs 3))).setCell (aac b 4) (iv (el c.r.ys 0))).setCell (aac b 5) (iv (el c.r.ys 1))).setCell (aac b 6) (iv (el c.r.ys 2))).setCell (aac b 7) (iv (el c.r.ys 3))).setCell (aac b 8) (iv c.r.o)).setCell (aac b 9) (iv c.r.p)).setCell (aac b 10) (iv c.r.f)).setCell (aac b 11) (iv c.r.m)).setCell (aac b 12) (.bool c.r.s)).setCell (aac b 13) (.bool c.r.t))=Y:=⟨_,rfl⟩
   rw [hY] at KY C5;have A5:=aab (A4.o.kept KY.o (by omega));have R5:=aab (R4.o.kept KY.o (by omega));have L5:=aab (L4.o.kept KY.o (by omega));have S5:=aab (S4.o.ai KY.o (Nat.le_refl _) (Nat.le_refl _));have p5:=A5.o.all;go_wp2_with fail;refine (firstWord _ op z r m k e s).mono ?_;rw [HN.o];rintro e9 W6 ⟨rfl,kf⟩;have C6:=aab (C5.o.any kf);have R6:=aab (R5.o.ae kf);have L6:=aab (L5.o.ae kf);have S6:=aab (S5.o.any kf);have l6:=L6.o.all;have lf6:=L6.o.fz;clear kf p5 C5 A5 R5 L5 S5 y_0 y_1 y_2 y_3 y_4 y_5 y_6 y_7 y_8 y_9 XQ XP XN XM b4 yz q4 hY;have KZ:=aab ((ak W6 W3.heap.size 1 (iv a)).one 3 (iv N));have L7:Hid (Blk ((W6.setCell (aac W3.heap.size 1) (iv a)).setCell (aac W3.heap.size 3) (iv N)) W3.heap.size #[iv F.v,iv a,iv F.ad,iv N,.bool F.wr] 42):=aab ((L6.o.set 1 (iv a)).set 3 (iv N));obtain ⟨Z,hZ⟩:∃Z:World,(W6.setCell (aac W3.heap.size 1) (iv a)).setCell (aac W3.heap.size 3) (iv N)=Z:=⟨_,rfl⟩
   rw [hZ] at KZ L7;have C7:=aab (C6.o.kept KZ.o (by omega) (by omega));have R7:=aab (R6.o.kept KZ.o (by omega));have S7:=aab (S6.o.mine KZ.o (by omega));have l7:=L7.o.all;cases ho:Pl.dS F.v
   ·have E1:Hid (c.dn ⟨op,z,r,m,k,e,s⟩ a={D with r:=c.r,f:=⟨F.v,a,F.ad,N,F.wr⟩}):=aab (by rw [ET.o,show (F.v==0)=false from by simpa using hv,ho];rfl);have r7:=R7.o.all;have rf7:=R7.o.fz;go_wp2_with (go_at_call 141;refine st (dS F.v _) ?_;rw [ho]);have KR:=(((((ak Z (w.heap.size+1) 0 (iv F.v)).one 1 (iv a)).one 2 (iv F.ad)).one 3 (iv N)).one 4 (.bool F.wr))
    refine bodyPost_ret (v:=.agg #[iv F.v,iv a,iv F.ad,iv N,.bool F.wr]) ?_ rfl ⟨g',?_,?_,(S7.o).mine KR (by omega)⟩
    ·rw [aj rfl];go_simp
    ·rw [E1.o];rfl
    ·rw [E1.o];exact ((C7.o).kept KR (by omega) (by omega)).fx rfl rfl rfl rfl rfl
   ·have E1:Hid (c.dn ⟨op,z,r,m,k,e,s⟩ a={D with r:=c.r,f:=⟨F.v,BH,F.ad,N,F.wr⟩}):=aab (by rw [ET.o,show (F.v==0)=false from by simpa using hv,ho];rfl);have lf7:=L7.o.fz;have KV:=aab (ak Z W3.heap.size 1 (iv BH));have L8:Hid (Blk (Z.setCell (aac W3.heap.size 1) (iv BH)) W3.heap.size #[iv F.v,iv BH,iv F.ad,iv N,.bool F.wr] 42):=aab (L7.o.set 1 (iv BH));obtain ⟨V,hV⟩:∃V:World,Z.setCell (aac W3.heap.size 1) (iv BH)=V:=⟨_,rfl⟩
    rw [hV] at KV L8;have C8:=aab (C7.o.kept KV.o (by omega) (by omega));have R8:=aab (R7.o.kept KV.o (by omega));have S8:=aab (S7.o.mine KV.o (by omega));have l8:=L8.o.all;have r8:=R8.o.all;have rf8:=R8.o.fz;go_wp2_with (go_at_call 141;refine st (dS F.v _) ?_;rw [ho]);have KR:=(((((ak V (w.heap.size+1) 0 (iv F.v)).one 1 (iv BH)).one 2 (iv F.ad)).one 3 (iv N)).one 4 (.bool F.wr))
    refine bodyPost_ret (v:=.agg #[iv F.v,iv BH,iv F.ad,iv N,.bool F.wr]) ?_ rfl ⟨g',?_,?_,(S8.o).mine KR (by omega)⟩
    ·rw [aj rfl];go_simp
    ·rw [E1.o];rfl
    ·rw [E1.o];exact ((C8.o).kept KR (by omega) (by omega)).fx rfl rfl rfl rfl rfl
 case step=>
  intro l A W i hI hm;obtain ⟨q,hFR,o0,o1,o2,o3,o4,o5,o6,o7,o8,o9,o10,o11,o12,ox,o11w,hK⟩:=hI;obtain ⟨hi1,hi2⟩:=jG hm;have hsz:Hid (19<A.tmps.size):=aab (by rw [hFR.size];simp);have m0:A.tmps[0]? = some (.pointer (some (aac b 0))):=(hFR.o 0 (by decide)).trans rfl;have m2:A.tmps[2]? = some (iv a):=(hFR.o 2 (by decide)).trans rfl;have m4:A.tmps[4]? = some (.pointer (some (aac w.heap.size 0))):=(hFR.o 4 (by decide)).trans rfl;rcases i with _|_|_|_|_|_|_|_|_|_|_|_|_|i
  ·refine wpOp_step rfl (fun KK hK2 => ?_);go_simp;exact hK2 (A.put (some 10) (.pointer (some (aac b 0)))) _ ⟨q,hFR.put (by decide) _,.now (put_eq (by have hz:=hsz.o;omega)),o1.q,o2.q,o3.q,o4.q,o5.q,o6.q,o7.q,o8.q,o9.q,o10.q,o11.n,o12.q,ox.past (by decide) (fun h=>by rw [getD_set_ne (by decide)];exact h),(fun e=>by rw [getD_set_ne (by decide)] at e ⊢;exact o11w e),hK⟩
  ·have e0:=o0 (az hm 0 (by kernel_rfl));refine wpOp_step rfl (fun KK hK2 => ?_);go_simp;exact hK2 (A.put (some 11) (.pointer (some (aac b 0)))) _ ⟨q,hFR.put (by decide) _,o0.q,.now (put_eq (by have hz:=hsz.o;omega)),o2.q,o3.q,o4.q,o5.q,o6.q,o7.q,o8.q,o9.q,o10.q,o11.n,o12.q,ox.past (by decide) (fun h=>by rw [getD_set_ne (by decide)];exact h),(fun e=>by rw [getD_set_ne (by decide)] at e ⊢;exact o11w e),hK⟩
  ·have e1:=o1 (az hm 1 (by kernel_rfl));refine wpOp_step rfl (fun KK hK2 => ?_);go_simp;exact hK2 (A.put (some 12) (.pointer (some (aac b 0)))) _ ⟨q,hFR.put (by decide) _,o0.q,o1.q,.now (put_eq (by have hz:=hsz.o;omega)),o3.q,o4.q,o5.q,o6.q,o7.q,o8.q,o9.q,o10.q,o11.n,o12.q,ox.past (by decide) (fun h=>by rw [getD_set_ne (by decide)];exact h),(fun e=>by rw [getD_set_ne (by decide)] at e ⊢;exact o11w e),hK⟩
  ·have e2:=o2 (az hm 2 (by kernel_rfl));have y:=(C0.o.any hK).Aw;obtain ⟨y0,y1,y2,y3,y4,y5,y6,y7,y8,y9,y10,y11,y12,y13⟩:=y;refine wpOp_step rfl (fun KK hK2 => ?_);go_simp;exact hK2 (A.put (some 13) (.agg (bkR c.r))) _ ⟨q,hFR.put (by decide) _,o0.q,o1.q,o2.q,.now (put_eq (by have hz:=hsz.o;omega)),o4.q,o5.q,o6.q,o7.q,o8.q,o9.q,o10.q,o11.n,o12.q,ox.past (by decide) (fun h=>by rw [getD_set_ne (by decide)];exact h),(fun e=>by rw [getD_set_ne (by decide)] at e ⊢;exact o11w e),hK⟩
  ·refine wpOp_step rfl (fun KK hK2 => ?_);go_simp;exact hK2 (A.put (some 14) (iv a)) _ ⟨q,hFR.put (by decide) _,o0.q,o1.q,o2.q,o3.q,.now (put_eq (by have hz:=hsz.o;omega)),o5.q,o6.q,o7.q,o8.q,o9.q,o10.q,o11.n,o12.q,ox.past (by decide) (fun h=>by rw [getD_set_ne (by decide)];exact h),(fun e=>by rw [getD_set_ne (by decide)] at e ⊢;exact o11w e),hK⟩
  ·have BL:=aab (A0.o.ae hK);obtain ⟨x0,x1,x2,x3,x4,x5,x6⟩:=BL.o.c7;refine wpOp_step rfl (fun KK hK2 => ?_);go_simp;exact hK2 (A.put (some 15) (.agg (inA op z r m k e s))) _ ⟨q,hFR.put (by decide) _,o0.q,o1.q,o2.q,o3.q,o4.q,.now (put_eq (by have hz:=hsz.o;omega)),o6.q,o7.q,o8.q,o9.q,o10.q,o11.n,o12.q,ox.past (by decide) (fun h=>by rw [getD_set_ne (by decide)];exact h),(fun e=>by rw [getD_set_ne (by decide)] at e ⊢;exact o11w e),hK⟩
  ·have e5:=o5 (az hm 5 (by kernel_rfl));refine wpOp_step rfl (fun KK hK2 => ?_);go_simp;refine (lengthOf W op z r m k e s wfm).mono ?_;rw [HL.o];rintro r9 y ⟨rfl,kd⟩;go_simp;exact hK2 (A.put (some 16) (iv L)) _ ⟨q,hFR.put (by decide) _,o0.q,o1.q,o2.q,o3.q,o4.q,o5.q,.now (put_eq (by have hz:=hsz.o;omega)),o7.q,o8.q,o9.q,o10.q,o11.n,o12.q,ox.past (by decide) (fun h=>by rw [getD_set_ne (by decide)];exact ⟨h.1,h.2.ae kd⟩),(fun e=>by rw [getD_set_ne (by decide)] at e ⊢;exact o11w e),(hK.trans kd)⟩
  ·have e6:=o6 (az hm 6 (by kernel_rfl));refine wpOp_step rfl (fun KK hK2 => ?_);go_simp;exact hK2 (A.put (some 17) (iv (L*2))) _ ⟨q,hFR.put (by decide) _,o0.q,o1.q,o2.q,o3.q,o4.q,o5.q,o6.q,.now (put_eq (by have hz:=hsz.o;omega)),o8.q,o9.q,o10.q,o11.n,o12.q,ox.past (by decide) (fun h=>by rw [getD_set_ne (by decide)];exact h),(fun e=>by rw [getD_set_ne (by decide)] at e ⊢;exact o11w e),hK⟩
  ·have e4:=o4 (az hm 4 (by kernel_rfl));have e7:=o7 (az hm 7 (by kernel_rfl));refine wpOp_step rfl (fun KK hK2 => ?_);go_simp;exact hK2 (A.put (some 18) (iv (a+L*2))) _ ⟨q,hFR.put (by decide) _,o0.q,o1.q,o2.q,o3.q,o4.q,o5.q,o6.q,o7.q,.now (put_eq (by have hz:=hsz.o;omega)),o9.q,o10.q,o11.n,o12.q,ox.past (by decide) (fun h=>by rw [getD_set_ne (by decide)];exact h),(fun e=>by rw [getD_set_ne (by decide)] at e ⊢;exact o11w e),hK⟩
  ·have e8:=o8 (az hm 8 (by kernel_rfl));refine wpOp_step rfl (fun KK hK2 => ?_);go_simp;refine (gX (a+L*2) W).mono ?_;rw [HBH.o];rintro r9 y ⟨rfl,kd⟩;rw [kd];go_simp;exact hK2 (A.put (some 19) (iv BH)) _ ⟨q,hFR.put (by decide) _,o0.q,o1.q,o2.q,o3.q,o4.q,o5.q,o6.q,o7.q,o8.q,.now (put_eq (by have hz:=hsz.o;omega)),o10.q,o11.n,o12.q,ox.past (by decide) (fun h=>by rw [getD_set_ne (by decide)];exact h),(fun e=>by rw [getD_set_ne (by decide)] at e ⊢;exact o11w e),hK⟩
  ·have n11:l.getD 11 true=false:=by cases q11:l.getD 11 true;rfl;have:=o11w q11;rw [hi2] at this;cases this
   refine wpOp_step rfl (fun KK hK2 => ?_);go_simp;exact hK2 (A.put (some 7) (.pointer (some (aac W.heap.size 0)))) _ ⟨W.heap.size,hFR.put (by decide) _,o0.q,o1.q,o2.q,o3.q,o4.q,o5.q,o6.q,o7.q,o8.q,o9.q,.now (put_eq (by have hz:=hsz.o;omega)),o11.n,o12.q,.now ⟨hK.size,by rw [getD_set_ne (by decide),n11];exact Blk.new W _ _⟩,(fun e=>gI),(ag hK _)⟩
  ·have e10:=o10 (az hm 10 (by kernel_rfl));have e3:=o3 (az hm 3 (by kernel_rfl));have oq:=ox (az hm 10 (by kernel_rfl));unfold bkR at e3;have oR2:Blk W q #[iv 0,iv 0,iv 0,iv 0,iv 0,iv 0,iv 0,iv 0,iv 0,iv 0,iv 0,iv 0,.bool false,.bool false] 151:=by have:=oq.2;rw [hi2] at this;exact this
   have OR:=aab oR2;have qa:=OR.o.all;have qf:=OR.o.fz;refine wpOp_step rfl (fun KK hK2 => ?_);go_simp;exact hK2 A _ ⟨q,hFR,o0.n,o1.n,o2.n,o3.n,o4.n,o5.n,o6.n,o7.n,o8.n,o9.n,o10.n,.now trivial,o12.n,(fun _=>⟨oq.1,by rw [gI];exact Blk.Ny oR2⟩),(fun _=>by rw [getD_set_ne (by decide)];exact az hm 10 (by kernel_rfl)),(af (af (af (af (af (af (af (af (af (af (af (af (af (af hK _ _ _ (.inr oq.1)) _ _ _ (.inr oq.1)) _ _ _ (.inr oq.1)) _ _ _ (.inr oq.1)) _ _ _ (.inr oq.1)) _ _ _ (.inr oq.1)) _ _ _ (.inr oq.1)) _ _ _ (.inr oq.1)) _ _ _ (.inr oq.1)) _ _ _ (.inr oq.1)) _ _ _ (.inr oq.1)) _ _ _ (.inr oq.1)) _ _ _ (.inr oq.1)) _ _ _ (.inr oq.1))⟩
  ·have e9:=o9 (az hm 9 (by kernel_rfl));refine wpOp_step rfl (fun KK hK2 => ?_);go_simp;exact hK2 (A.put (some 8) (iv BH)) _ ⟨q,hFR.put (by decide) _,o0.q,o1.q,o2.q,o3.q,o4.q,o5.q,o6.q,o7.q,o8.q,o9.q,o10.q,o11.n,.now (put_eq (by have hz:=hsz.o;omega)),ox.past (by decide) (fun h=>by rw [getD_set_ne (by decide)];exact h),(fun e=>by rw [getD_set_ne (by decide)] at e ⊢;exact o11w e),hK⟩
  ·simp at hi1
   omega
theorem Pl.PV {c:Mc} (h:(c.kV.v==0)=true):bJ c.aA=true:=by
 cases hf:c.fetch.fine
 ·have e:c.kV=c.fetch.f:=by unfold Mc.kV;rw [hf];rfl
  rw [e] at h;unfold Mc.fine at hf;rw [h] at hf;cases hf
 ·exact (oZ hf).1
theorem xq (hC:CAt w lo b g c h) (G:GM c) (hf:c.f=aG) (ht:jw w lo) :
  Calls prog 83 #[.pointer (some (aac b 0))] w fun e' w'=>∃g',e'=.returned (.agg (ftC c.sp.f))∧CAt w' lo b g' (c.sp) h∧Since w b (b+1) g w' g':=by
 obtain ⟨l0,l1,l2,l3,l4⟩:=hC.lt;obtain ⟨F,hF⟩:∃F,F=c.kV:=⟨_,rfl⟩
 obtain ⟨x,hx⟩:∃x,x=c.aA:=⟨_,rfl⟩
 obtain ⟨N,hN⟩:∃N,N=c.cZ:=⟨_,rfl⟩
 obtain ⟨E,hE⟩:∃E,E=c.fetch:=⟨_,rfl⟩
 have ES:Hid (c.sp=bif F.v==0 then E.nf.dn x c.r.p else {E with f:=F}):=aab (by unfold Mc.sp;rw [hF,hx,hE]);have XO:Hid ((F.v==0)=true->bJ x=true):=aab (by rw [hF,hx];exact PV);have GE:Hid (GM E):=aab (by rw [hE];exact G.fetch);have ER:Hid (E.r=c.r):=aab (by rw [hE];exact Ec.1);have HG:=aab G;have HF:=aab hF;have HX:=aab hx;have HN:=aab hN;have HE:=aab hE;have TB:=aab ht;have K0:=aab (kept_alloc w (.cells ftZ 42));have C0:=aab (hC.alloc (.cells ftZ 42));have R0:=aab (Blk.new w ftZ 42);obtain ⟨X,hX⟩:∃X:World,w.alloc (.cells ftZ 42)=X:=⟨_,rfl⟩
 rw [hX] at K0 C0 R0;have sX:w.heap.size<X.heap.size:=R0.o.lt;clear hC G hF hx hN hE ht;go_enter func83,ntmps83;go_wp2_with fail;refine (U1 _ lo b g c h C0.o HG.o hf).mono ?_;rintro e9 W1 ⟨g1,rfl,hc,hs⟩;rw [<-HE.o] at hc;rw [<-HX.o,<-HN.o,<-HF.o];unfold ftC mW;have n1:=hs.ne (b:=w.heap.size) R0.o.lt (by omega);have z1:=hs.size;obtain ⟨y0,y1,y2,y3,y4⟩:=hc.lt;have C1:=aab ((hc.alloc (.cells (inX x) 48)).alloc (.cells (ftA F) 42));have R1:=aab (((hs.blk R0.o (by omega) (by omega)).alloc (.cells (inX x) 48)).alloc (.cells (ftA F) 42));have S1:=aab (((((Since.refl w b (b+1) g).any K0.o).trans hs).alloc (.cells (inX x) 48)).alloc (.cells (ftA F) 42));have A1:=aab ((Blk.new W1 (inX x) 48).alloc (.cells (ftA F) 42));have L1:=Blk.new (W1.alloc (.cells (inX x) 48)) (ftA F) 42;simp only [World.size_alloc] at L1;replace L1:=aab L1;clear hc hs hX;go_wp2_with fail;refine (bQ F _).mono ?_;rintro e9 W2 ⟨rfl,kf⟩;have C2:=aab (C1.o.any kf);have R2:=aab (R1.o.ae kf);have A2:=aab (A1.o.ae kf);have L2:=aab (L1.o.ae kf);have S2:=aab (S1.o.any kf);clear kf C1 R1 A1 L1 S1;cases hv:(F.v != 0)
 ·have h0:(F.v==0)=true:=by simpa using hv
  have XK:=aab (XO.o h0);have E1:Hid (c.sp=E.nf.dn x c.r.p):=aab (by rw [ES.o,h0];rfl);clear h0;go_wp2_with fail;refine wp_region_still_tail 7 (by kernel_rfl) (by kernel_rfl) ?_;simp only [List.take_succ_cons,List.take_zero,List.drop_succ_cons,List.drop_zero];obtain ⟨Y,hY⟩:∃Y:World,Y={W2 with drawn:=W2.drawn+1}:=⟨_,rfl⟩
  rw [<-hY];have kY:Kept 0 0 W2 Y:=by rw [hY];exact ah (Kept.refl _ _ _)
  have C3:=aab (C2.o.any kY);have R3:=aab (R2.o.ae kY);have A3:=aab (A2.o.ae kY);have S3:=aab (S2.o.any kY);clear hY kY C2 R2 A2 L2 S2;have p9:=C3.o.cP;rw [ER.o] at p9;have q:=A3.o.all
  iterate 7 still_step
  refine wpStill_nil ?_;have C4:Hid (CAt Y lo b g1 E.nf h):=aab (C3.o.fx rfl rfl rfl rfl rfl);clear p9 q;go_wp2_with (go_at_call 123;refine (cDo _ lo b g1 E.nf h x.op x.z x.r x.m x.k x.e x.s c.r.p C4.o (GE.o.ft aG) rfl XK.o (TB.o.since S3.o (by omega) (by omega)) HG.o.p0 HG.o.p1).mono ?_;rintro e9 W5 ⟨g',rfl,hc,hs⟩;rw [<-show _=E.nf.dn x c.r.p from E1.o] at hc ⊢;obtain ⟨Q,hQ⟩:∃Q,Q=c.sp.f:=⟨_,rfl⟩;rw [<-hQ];unfold ftC;have HQ:=aab hQ;clear hQ;have C5:=aab hc;have n5:=hs.ne (b:=w.heap.size) R3.o.lt (by omega);have R5:=aab (hs.blk R3.o (by omega) (by omega));have S5:=aab (S3.o.trans hs);have r5:=R5.o.all;have rf5:=R5.o.fz;clear hc hs);have KR:=(((((ak W5 w.heap.size 0 (iv Q.v)).one 1 (iv Q.pc)).one 2 (iv Q.ad)).one 3 (iv Q.wo)).one 4 (.bool Q.wr))
  refine bodyPost_ret (v:=.agg (ftA Q)) ?_ rfl ⟨g',?_,(C5.o).kept KR (by omega) (by omega),(S5.o).mine KR (by omega)⟩
  ·rw [aj rfl];go_simp
  ·rw [<-HQ.o];rfl
 ·have E1:Hid (c.sp={E with f:=F}):=aab (by rw [ES.o,show (F.v==0)=false from by simpa using hv];rfl);have l2:=L2.o.all;have r2:=R2.o.all;have rf2:=R2.o.fz;go_wp2_with fail;have KR:=(((((ak W2 w.heap.size 0 (iv F.v)).one 1 (iv F.pc)).one 2 (iv F.ad)).one 3 (iv F.wo)).one 4 (.bool F.wr))
  refine bodyPost_ret (v:=.agg (ftA F)) ?_ rfl ⟨g1,?_,?_,(S2.o).mine KR (by omega)⟩
  ·rw [aj rfl];go_simp
  ·rw [E1.o];rfl
  ·rw [E1.o];exact ((C2.o).kept KR (by omega) (by omega)).fx rfl rfl rfl rfl rfl
theorem Xp (hC:CAt w lo b g c h) (l:c.bx.length=512):Calls prog 85 #[.pointer (some (aac b 0))] w fun e' w'=>e'=.returned (.bool (!c.st && !h.a))∧w'=w:=by
 have q1:=hC.cSt l;have q2:=hC.cH l;rcases Bool.eq_false_or_eq_true c.st with hst|hst<;>rw [hst] at q1 ⊢
 ·go_enter func85,ntmps85;go_wp2;go_ret;exact ⟨rfl,rfl⟩
 ·go_enter func85,ntmps85;go_wp2;go_ret;exact ⟨rfl,rfl⟩
def brd (xs:List Int) (u:Value):Array Value:=(cellsOf xs).push u
theorem U7 {xs:List Int} {u:Value} {i:Nat} (hi:i<xs.length):(brd xs u)[i]? = some (iv (el xs i)):=by
 simp [brd,cellsOf,el,hi];rw [List.getElem?_append_left (by simpa using hi)];simp [hi]
theorem QH {xs:List Int} {u:Value} (hl:xs.length=512):(brd xs u)[512]? = some u:=by
 simp [brd,cellsOf,hl]
theorem zQ (off:Nat):∀(l:List Value) (k:Nat) (A:Array Value) (i:Nat),off+k+l.length<=A.size->
  ((l.zipIdx k).foldl (fun a (x:Value × Nat)=>a.setIfInBounds (off+x.2) x.1) A)[i]? = if off+k<=i∧i<off+k+l.length then l[i-(off+k)]? else A[i]?
 | [],k,A,i,h=>by
  simp only [List.zipIdx_nil,List.foldl_nil,List.length_nil];rw [if_neg (by omega)]
 | v :: r,k,A,i,h=>by
  simp only [List.length_cons] at h;simp only [List.zipIdx_cons,List.foldl_cons,List.length_cons];rw [zQ off r (k+1) _ i (by simp;omega)];by_cases h1:off+(k+1)<=i∧i<off+(k+1)+r.length
  ·rw [if_pos h1,if_pos (by omega),show i-(off+k)=(i-(off+(k+1)))+1 by omega,List.getElem?_cons_succ]
  ·rw [if_neg h1,Array.getElem?_setIfInBounds];by_cases h2:off+k=i
   ·rw [if_pos h2,if_pos (by omega),if_pos (by omega),show i-(off+k)=0 by omega];rfl
   ·rw [if_neg h2,if_neg (by omega)]
theorem Tryz.sF:(prog.info? 156).map (fun i=>(i.zero,i.size))=some (some (.agg (brd zeros (.slice none 0 0))),513):=by kernel_rfl
theorem Tryz.Gz:∀w,(zeroValue 156).run prog w=.ok (.agg (brd zeros (.slice none 0 0))) w:=(zero_of_info Tryz.sF).1
theorem Tryz.GG:(prog.info? 156).map (·.size)=some 513:=(zero_of_info Tryz.sF).2
theorem jW (xs:List Int) (u:Value):(brd xs u).size=xs.length+1:=by simp [brd,cellsOf]
theorem fold_size (off:Nat):∀(l:List (Value × Nat)) (A:Array Value),(l.foldl (fun a (x:Value × Nat)=>a.setIfInBounds (off+x.2) x.1) A).size=A.size
 | [],A=>rfl
 | v :: r,A=>by rw [List.foldl_cons,fold_size off r];simp
def laid (off:Nat) (cs A:Array Value):Array Value:=cs.zipIdx.foldl (fun a (x:Value × Nat)=>a.setIfInBounds (off+x.2) x.1) A
theorem jd (off:Nat) (cs A:Array Value):(laid off cs A).size=A.size:=by
 unfold laid;rw [<-Array.foldl_toList];exact fold_size off _ A
theorem pO (off:Nat) (cs A:Array Value) (h:off+cs.size<=A.size) (i:Nat):(laid off cs A)[i]? = if off<=i∧i<off+cs.size then cs[i-off]? else A[i]? := by
 unfold laid;rw [<-Array.foldl_toList,Array.toList_zipIdx];have:=zQ off cs.toList 0 A i (by simpa using h);simpa using this
theorem KN (cs A:Array Value) (u:Value) (hu:u.cells=#[u]) (hc:cs.size=512) (hA:A.size=513) :
  Instr.fill (#[(0,512),(512,1)][·]?) A [(0,.agg cs),(1,u)]=some (laid 512 #[u] (laid 0 cs A)):=by
 have h1:((laid 0 cs A)).size=513:=by rw [jd,hA]
 have e1:cs.zipIdx.foldl (fun a (x:Value × Nat)=>a.setIfInBounds (0+x.2) x.1) A=laid 0 cs A:=rfl;unfold Instr.fill;simp only [Value.cells,List.getElem?_toArray,List.getElem?_cons_zero];rw [if_neg (by simp [hc,hA])];rw [e1];unfold Instr.fill;simp only [hu,List.getElem?_cons_succ,List.getElem?_cons_zero];rw [if_neg (by simp [h1])];unfold Instr.fill;rfl
theorem QG (xs:List Int) (u:Value) (h:u.oneCell'=true):(brd xs u).all (·.oneCell')=true:=by
 rw [Array.all_eq_true_iff_forall_mem];intro v hv;simp only [brd,Array.mem_push] at hv;rcases hv with hv|rfl
 ·exact Array.all_eq_true_iff_forall_mem.1 (uh xs) v hv
 ·exact h
theorem Gy {P:Program} {ops:Array Oper} {rest:List Oper} {o:Oper} {a:Act} {w:World} {Q:Exit->Act->World->Prop} (hg:o.guard=none) (t:TypeId) (x y:Operand) (ho:o.op=.build t #[(0,x),(1,y)])
  (v u:Value) (hx:a.eval x=v) (hy:a.eval y=u) (cells:Array Value) (hf:P.built t [(0,v),(1,u)]=some cells)
  (h:wpList P ops Q rest (a.put o.dst (.agg cells)) w):wpList P ops Q (o :: rest) a w:=by
 have e:P.built t (#[(0,x),(1,y)].map fun (p:Nat × Operand)=>(p.1,a.eval p.2)).toList=some cells:=by
  simp [hx,hy,hf]
 refine wpList_build hg t #[(0,x),(1,y)] ho (by rw [e];rfl) ?_;rw [e];exact h
theorem CQ (xs:List Int) (b:Option Addr) (n c:Nat) (lx:xs.length=512) :
  prog.built 156 [(0,.agg (cellsOf xs)),(1,.slice b n c)]=some (brd xs (.slice b n c)):=by
 have hp:(match prog.underlying 156 with|some (.struct fields)=>fields.toList.mapM (fun f=>(prog.info? f.type).map fun i=>(f.offset,i.size))|_=>none)=some [(0,512),(512,1)]:=by kernel_rfl
 have e:prog.built 156 [(0,.agg (cellsOf xs)),(1,.slice b n c)]=Instr.fill (#[(0,512),(512,1)][·]?) (brd zeros (.slice none 0 0)) [(0,.agg (cellsOf xs)),(1,.slice b n c)]:=by
  have hi:=Tryz.sF;unfold Program.built;cases h1:prog.info? 156 with
  | none=>rw [h1] at hi;cases hi
  | some it=>
   rw [h1] at hi;have hz:it.zero=some (.agg (brd zeros (.slice none 0 0))):=congrArg (fun o=>(o.map Prod.fst).getD none) hi;cases h2:prog.underlying 156 with
   | none=>rw [h2] at hp;cases hp
   | some d=>
    rw [h2] at hp;cases d
    case struct fields=>
     have hp':fields.toList.mapM (fun f=>(prog.info? f.type).map fun i=>(f.offset,i.size))=some [(0,512),(512,1)]:=hp;simp only [hz,hp'];rfl
    all_goals cases hp
 rw [e,KN (cellsOf xs) (brd zeros (.slice none 0 0)) (.slice b n c) rfl (by rw [cellsOf_size,lx]) (by rw [jW,fE])];refine congrArg some ?_;apply Array.ext_getElem?;intro i;rw [pO 512 #[.slice b n c] _ (by rw [jd,jW,fE];simp),pO 0 _ _ (by rw [jW,fE,cellsOf_size,lx];decide),cellsOf_size,lx];simp only [brd,Array.getElem?_push,cellsOf_size,lx];by_cases h:i<512
 ·rw [if_neg (by simp;omega),if_pos (by omega),if_neg (by omega)];rfl
 ·by_cases h2:i=512
  ·subst h2;rfl
  ·have h3:¬i<513:=by omega
   rw [if_neg (by simp;omega),if_neg (by omega)];simp only [fE];rw [if_neg h2,if_neg h2];rw [Array.getElem?_eq_none (by rw [cellsOf_size,fE];omega),Array.getElem?_eq_none (by rw [cellsOf_size,lx];omega)]
theorem LP (W:World) (g m sCap:Nat) (sp:Option Addr) (ys:List Int) (cur:List Value) (t:TypeId) (hB:Blk W g cur.toArray t) (hr:aB W sp ys) (hl:ys.length=5*m) (hc:cur.length=5*m) :
  ∃W',(Builtin.copy_ #[36,36] 3 #[.slice (some (aac g 0)) m m,.slice sp m sCap]).run prog W=.ok (iv m) W'∧Blk W' g (cellsOf ys) t∧Kept g (g+1) W W':=by
 obtain ⟨i,hi,hz0,hz1,hz2⟩:=info_parts Tryz.jR;have hmin:Nat.min m m=m:=Nat.min_self m;by_cases h0:m=0
 ·subst h0;obtain rfl:ys=[]:=List.eq_nil_of_length_eq_zero (by omega);obtain rfl:cur=[]:=List.eq_nil_of_length_eq_zero (by omega);refine ⟨W,?_,hB,Kept.refl _ _ _⟩;have hl0:∀(x:Addr),(loadCells x 0).run prog W=.ok #[] W:=fun x=>by simpa using run_loadCells_list (P:=prog) W x [] (by simp)
  cases sp<;>simp [Builtin.copy_,run_underlying underlying36,Builtin.lenOf,Builtin.firstCells,sizeOf,typeInfo,hi,storeCells,hl0]<;>rfl
 ·obtain ⟨ga,oa,rfl,_⟩:=hr 0 (by omega);have hld:=run_loadCells_list (P:=prog) W ⟨ga,oa,none⟩ (ys.map (Value.int .i64)) (iJ hr);have hst:=run_storeCells_at prog g 0 t (ys.map (Value.int .i64)) 0 cur.toArray W hB (by simp [hl,hc]) iD;have e5:(ys.map (Value.int .i64)).length=m*5:=by rw [List.length_map,hl];omega
  rw [e5] at hld
  have e:(List.take (0+0) cur.toArray.toList++ys.map (Value.int .i64)++List.drop (0+0+(ys.map (Value.int .i64)).length) cur.toArray.toList)=ys.map (Value.int .i64):=by
   rw [List.drop_eq_nil_of_le (by simp [hl,hc])];simp
  rw [e] at hst;refine ⟨W.setRow g (cellsOf ys),?_,hB.setRow,⟨rfl,rfl,rfl,by simp,fun k hk hn=>setRow_other W g k _ (by omega)⟩⟩;simp [Builtin.copy_,run_underlying underlying36,Builtin.lenOf,Builtin.firstCells,sizeOf,typeInfo,hi,hz1,hmin,hld];have hst':(storeCells (aac g 0) (ys.map (Value.int .i64))).run prog W=.ok () (W.setRow g (cellsOf ys)):=hst;rw [hst'];rfl
theorem zl {w:World} {base g m:Nat} {ys:List Int} (h:Blk w g (cellsOf ys) 179) (hl:ys.length=5*m) (hb:base<=g) (bm:m<=2000000):w.ownsRow base 179 5 (.slice (some (aac g 0)) m m) m (ys.map (Value.int .i64)):=by
 refine ⟨by simp [hl];omega,.inr ⟨g,m,cellsOf ys,rfl,hb,h,Nat.le_refl _,by unfold maxLen;omega,by rw [cellsOf_size,hl];omega,?_⟩⟩;rw [List.take_of_length_le (by simp [cellsOf,hl];omega)];simp [cellsOf]
theorem QI (w:World) (a b:Option Addr) (ca cb m:Nat) (xs ys:List Int) (ha:aB w a xs) (hb:aB w b ys) (lx:xs.length=512) (ly:ys.length=5*m) (bm:m<=400) :
  Calls prog 122 #[.agg #[.slice a xs.length ca,.slice b m cb]] w fun e w'=>∃g:Nat,e=.returned (.agg (brd xs (.slice (some (aac g 0)) m m)))∧Blk w' g (cellsOf ys) 179∧w.heap.size<=g∧Kept 0 0 w w':=by
 obtain ⟨i,hi,hz0,hz1,hz2⟩:=info_parts Tryz.jR;have HA:=aab ha;have HB:=aab hb;have HX:=aab lx;have HY:=aab ly;have bz:=Tryz.Gz;have hbuilt:=aab (CQ xs (some (aac (w.heap.size+1+1) 0)) m m lx);have K0:=aab (ag (kept_alloc w (.cells #[.slice a xs.length ca,.slice b m cb] 38)) (.cells (brd zeros (.slice none 0 0)) 156));have B0:=aab ((Blk.new w #[.slice a xs.length ca,.slice b m cb] 38).alloc (.cells (brd zeros (.slice none 0 0)) 156));have B1:=Blk.new (w.alloc (.cells #[.slice a xs.length ca,.slice b m cb] 38)) (brd zeros (.slice none 0 0)) 156;simp only [World.size_alloc] at B1;replace B1:=aab B1;clear ha hb lx ly;go_enter func122,ntmps122;go_wp2_with (at_make;refine wpList_make_full _ rfl _ _ 36 rfl w.heap.size 179 i (.agg #[iv 0,iv 0,iv 0,iv 0,iv 0]) 5 underlying36 hi hz0 hz1 _ _ _ _ m rfl rfl rfl rfl ?c1 ?c2 ?c3 ?_)
 case c1=>rw [hz2];omega
 case c2=>unfold maxLen;omega
 case c3=>simp;omega
 intro w1 hown hg;have k1:=aT hg;have C0:=B0.o.ae k1;have C1:=B1.o.ae k1;have K1:=K0.o.trans k1;obtain ⟨W2,hcopy,E2,k2⟩:=LP w1 (w.heap.size+1+1) m cb b ys _ _ (wB hown) (HB.o.ai K1) HY.o (by rw [hown.1];omega);have D0:=aab (C0.kept k2 (by omega));have D1:=aab (C1.kept k2 (by omega));have K2:=aab (aH K1 k2 (by omega));have H2:=aab E2;have HZ:∀u,Hid ((prog.info? 156).map (·.size)=some (brd xs u).size):=fun u=>aab (by rw [jW,HX.o];exact Tryz.GG);have HZ2:∀u,Hid ((brd zeros (.slice none 0 0)).size=(brd xs u).size):=fun u=>aab (by rw [jW,jW,HX.o,fE]);have p1:=C0.cell (i:=1) rfl;have d0:=D0.o.cell (i:=0) rfl;have d1:=D0.o.cell (i:=1) rfl;clear hown hg k1 C0 C1 K1 E2 k2
 go_wp2_with (first
  | (go_at_call 177;refine (Jo _ a b ca cb m xs (HA.o.ai K2.o) HX.o).mono ?_;rintro e w3 ⟨rfl,k3⟩;have D3:=aab (D1.o.ae k3);have H3:=aab (H2.o.ae k3);have K3:=aab (K2.o.trans k3);clear k3)
  | (refine Gy rfl 156 (.tmp 13) (.tmp 14) rfl (.agg (cellsOf xs)) (.slice (some (aac (w.heap.size+1+1) 0)) m m) rfl rfl (brd xs (.slice (some (aac (w.heap.size+1+1) 0)) m m)) hbuilt.o ?_)
  | (refine wpList_store_row rfl 156 (.tmp 2) (.tmp 15) rfl (w.heap.size+1) (brd xs (.slice (some (aac (w.heap.size+1+1) 0)) m m)) rfl rfl 156 (brd zeros (.slice none 0 0)) D3.o (HZ _).o (HZ2 _).o (QG _ _ rfl) ?_))
 refine bodyPost_ret (v:=.agg (brd xs (.slice (some (aac (w.heap.size+1+1) 0)) m m))) ?_ rfl ⟨w.heap.size+1+1,rfl,H3.o.yT (by omega),by omega,lC K3.o _ _ (by omega)⟩;exact results_cell_row rfl _ _ _ _ _ (0,0) _ rfl D3.o.setRow underlying156 rfl (HZ _).o
theorem Tryz.J6:(prog.info? 159).map (fun i=>(i.zero,i.size))=some (some (.agg (cor ⟨[0,0,0,0],[0,0,0,0],0,0,0,0,false,false⟩ zeros (.slice none 0 0) false ⟨false,tl0⟩)),529):=by kernel_rfl
theorem LH (r:Rg) (xs:List Int) (u:Value) (st ha:Bool) (A:Array Value) (hA:A.size=529) (lx:xs.length=512):laid 528 #[.bool ha] (laid 527 #[.bool st] (laid 14 (brd xs u) (laid 0 (bkR r) A)))=cor r xs u st ⟨ha,tl0⟩:=by
 have hb:(brd xs u).size=513:=by rw [jW,lx]
 have hr:(bkR r).size=14:=rfl;apply Array.ext_getElem?;intro i;rw [pO 528 _ _ (by simp only [jd,hA];exact Nat.le_refl 529),pO 527 _ _ (by simp only [jd,hA];exact Nat.le_succ 528),pO 14 _ _ (by rw [jd,hA,hb];decide),pO 0 _ _ (by rw [hA,hr];decide),hb,hr];by_cases h1:i<14
 ·rw [if_neg (by simp;omega),if_neg (by simp;omega),if_neg (by omega),if_pos (by omega),yB h1];rfl
 ·by_cases h2:i<526
  ·rw [if_neg (by simp;omega),if_neg (by simp;omega),if_pos (by omega)];obtain ⟨n,rfl⟩:∃n,i=14+n:=⟨i-14,by omega⟩
   rw [vY (by omega),Nat.add_sub_cancel_left,U7 (by omega)]
  ·by_cases h3:i<529
   ·have:i=526∨i=527∨i=528:=by omega
    rcases this with rfl|rfl|rfl
    ·rw [if_neg (by simp),if_neg (by simp),if_pos (by omega),kH lx];exact QH lx
    ·rw [if_neg (by simp),if_pos (by simp),Lr lx];rfl
    ·rw [if_pos (by simp),LK lx];rfl
   ·rw [if_neg (by simp;omega),if_neg (by simp;omega),if_neg (by omega),if_neg (by omega),Array.getElem?_eq_none (by omega),Array.getElem?_eq_none (by rw [Af lx];omega)]
theorem zG (k:Nat) (v:Value) (A:Array Value):laid k #[v] A=A.setIfInBounds k v:=rfl
theorem Lp (r:Rg) (xs:List Int) (m:Nat) (st ha:Bool) (lx:xs.length=512):∃(Z L:Array Value) (M:Option Addr->Array Value),(∀w,(zeroValue 159).run prog w=.ok (.agg Z) w)∧Z.size=529∧(bkR r).size=14∧(∀d,(brd xs (.slice d m m)).size=513)∧
  (bkR r).zipIdx.foldl (fun cs x=>cs.setIfInBounds x.2 x.1) Z 0 14=L∧L.size=529∧(∀d,(brd xs (.slice d m m)).zipIdx.foldl (fun cs x=>cs.setIfInBounds (14+x.2) x.1) L 0 513=M d)∧(∀d,(M d).size=529)∧
  ∀d,((M d).setIfInBounds 527 (.bool st)).setIfInBounds 528 (.bool ha)=cor r xs (.slice d m m) st ⟨ha,tl0⟩:=by
 have hr:(bkR r).size=14:=rfl;have hd:∀d,(brd xs (.slice d m m)).size=513:=fun d=>by rw [jW,lx]
 obtain ⟨Z,hz,hs⟩:∃Z:Array Value,(∀w,(zeroValue 159).run prog w=.ok (.agg Z) w)∧Z.size=529:=⟨_,(zero_of_info Tryz.J6).1,Af fE⟩
 refine ⟨Z,laid 0 (bkR r) Z,fun d=>laid 14 (brd xs (.slice d m m)) (laid 0 (bkR r) Z),hz,hs,hr,hd,?_,?_,?_,?_,?_⟩
 ·unfold laid;simp [hr]
 ·rw [jd];exact hs
 ·intro d;unfold laid;simp [hr,hd]
 ·intro d;rw [jd,jd];exact hs
 ·intro d;have:=LH r xs (.slice d m m) st ha Z hs lx;rw [zG,zG] at this;exact this
theorem Ae {w:World} {x:Nat} {c:Cp} {a b e q:Option Addr} {ca cb ce cq:Nat} {ty:TypeId} (h:Blk w x (cpA c a b e q ca cb ce cq) ty):w.cell? (aac x 0)=some (.slice a c.r.xs.length ca)∧w.cell? (aac x 1)=some (.slice b c.r.ys.length cb)∧w.cell? (aac x 2)=some (.int .i64 c.r.o)∧w.cell? (aac x 3)=some (.int .i64 c.r.p)∧w.cell? (aac x 4)=some (.int .i64 c.r.f)∧w.cell? (aac x 5)=some (.int .i64 c.r.m)∧w.cell? (aac x 6)=some (.bool c.r.s)∧w.cell? (aac x 7)=some (.bool c.r.t)∧w.cell? (aac x 8)=some (.slice e c.bx.length ce)∧w.cell? (aac x 9)=some (.slice q c.bm cq)∧w.cell? (aac x 10)=some (.bool c.st)∧w.cell? (aac x 11)=some (.bool c.ha):=
 ⟨h.cell (i:=0) rfl,h.cell (i:=1) rfl,h.cell (i:=2) rfl,h.cell (i:=3) rfl,h.cell (i:=4) rfl,h.cell (i:=5) rfl,h.cell (i:=6) rfl,h.cell (i:=7) rfl,h.cell (i:=8) rfl,h.cell (i:=9) rfl,h.cell (i:=10) rfl,h.cell (i:=11) rfl⟩
theorem UA (w:World) (c:Cp) (a b e q:Option Addr) (ca cb ce cq:Nat) (ha:aB w a c.r.xs) (hb:aB w b c.r.ys) (he:aB w e c.bx) (hq:aB w q c.bl) (lx:c.r.xs.length=4) (ly:c.r.ys.length=4) (lb:c.bx.length=512) (ll:c.bl.length=5*c.bm) (lm:c.bm<=400) :
  Calls prog 65 #[.agg (cpA c a b e q ca cb ce cq)] w fun r w'=>∃p g:Nat,r=.returned (.pointer (some (aac p 0)))∧CAt w' w.heap.size p g (Mc.ofC c) ⟨c.ha,tl0⟩∧Kept 0 0 w w':=by
 have K0:=aab (kept_alloc w (.cells (cpA c a b e q ca cb ce cq) 40));have HBA:=aab (Blk.new w (cpA c a b e q ca cb ce cq) 40);obtain ⟨X,hX⟩:∃X:World,w.alloc (.cells (cpA c a b e q ca cb ce cq) 40)=X:=⟨_,rfl⟩
 rw [hX] at K0 HBA;have HA:=aab (ha.ai K0.o);have HB:=aab (hb.ai K0.o);have HE:=aab (he.ai K0.o);have HQ:=aab (hq.ai K0.o);obtain ⟨CZ,L1,L2,bz,z1,z2,z3,z4,z5,z6,z7,z8⟩:=Lp c.r c.bx c.bm c.st c.ha lb;have LX:=aab lx;have LY:=aab ly;have LB:=aab lb;have LL:=aab ll;have LM:=aab lm;clear ha hb he hq lx ly lb ll lm;obtain ⟨i0,i1,i2,i3,i4,i5,i6,i7,i8,i9,i10,i11⟩:=Ae HBA.o;go_enter func65,ntmps65;go_wp2_with fail;clear hX
 go_region_held3 (fun w'=>w'.cell? (aac w.heap.size 0)=some (.slice a c.r.xs.length ca)∧w'.cell? (aac w.heap.size 1)=some (.slice b c.r.ys.length cb)∧w'.cell? (aac w.heap.size 2)=some (.int .i64 c.r.o)∧w'.cell? (aac w.heap.size 3)=some (.int .i64 c.r.p)∧w'.cell? (aac w.heap.size 4)=some (.int .i64 c.r.f)∧w'.cell? (aac w.heap.size 5)=some (.int .i64 c.r.m)∧w'.cell? (aac w.heap.size 6)=some (.bool c.r.s)∧w'.cell? (aac w.heap.size 7)=some (.bool c.r.t)∧w'.cell? (aac w.heap.size 8)=some (.slice e c.bx.length ce)∧w'.cell? (aac w.heap.size 9)=some (.slice q c.bm cq)∧w'.cell? (aac w.heap.size 10)=some (.bool c.st)∧w'.cell? (aac w.heap.size 11)=some (.bool c.ha)) (first|exact Ae B4.o|exact Ae B3.o|exact Ae (show Blk _ _ _ _ from HBA.o)|exact Ae (B4.o.alloc _))
  (first|(go_at_call 122;have z9:=B3;refine (QI _ e q ce cq c.bm c.bx c.bl (HE.o.ai K3.o) (HQ.o.ai K3.o) LB.o LL.o LM.o).mono ?_;rintro e9 w4 ⟨g,rfl,hb4,hg4,k4⟩;have B4:=aab (B3.o.ae k4);have G4:=aab hb4;have L4:=aab hg4;have K4:=aab (K3.o.trans k4);clear hb4 hg4 k4)|(go_at_call 121;refine (Vb _ c.r a b ca cb (HA.o.ai (ah (Kept.refl _ _ _))) (HB.o.ai (ah (Kept.refl _ _ _))) LX.o LY.o).mono ?_;rintro e9 w3 ⟨rfl,kd⟩;have k3:=aK kd;have B3:=aab (HBA.o.ae k3);have K3:=aab k3;clear kd k3))
 go_wp2_with fail;go_ret;have s0:=K0.o.size;have s3:=K3.o.size;have l4:=L4.o;have g4:=G4.o.lt;refine ⟨w4.heap.size,g,rfl,⟨c.bm,Blk.new w4 _ _,⟨zl (G4.o.alloc _) LL.o (by omega) (show c.bm<=2000000 by have:=LM.o;omega),?_,?_⟩⟩,K0.o.trans (ag K4.o _)⟩
 ·have:=K4.o.size;omega
 ·omega
theorem CAt.Au {w:World} {lo b g:Nat} {c:Mc} {h:Hl} (a:CAt w lo b g c h) (l:c.bx.length=512):w.cell? (aac b 0)=some (.int .i64 (el c.r.xs 0))∧w.cell? (aac b 1)=some (.int .i64 (el c.r.xs 1))∧w.cell? (aac b 2)=some (.int .i64 (el c.r.xs 2))∧w.cell? (aac b 3)=some (.int .i64 (el c.r.xs 3))∧w.cell? (aac b 4)=some (.int .i64 (el c.r.ys 0))∧w.cell? (aac b 5)=some (.int .i64 (el c.r.ys 1))∧w.cell? (aac b 6)=some (.int .i64 (el c.r.ys 2))∧w.cell? (aac b 7)=some (.int .i64 (el c.r.ys 3))∧w.cell? (aac b 8)=some (.int .i64 c.r.o)∧w.cell? (aac b 9)=some (.int .i64 c.r.p)∧w.cell? (aac b 10)=some (.int .i64 c.r.f)∧w.cell? (aac b 11)=some (.int .i64 c.r.m)∧w.cell? (aac b 12)=some (.bool c.r.s)∧w.cell? (aac b 13)=some (.bool c.r.t)∧w.cell? (aac b 527)=some (.bool c.st)∧w.cell? (aac b 528)=some (.bool h.a):=
 ⟨a.cX (by omega),a.cX (by omega),a.cX (by omega),a.cX (by omega),a.cY (k:=0) (by omega),a.cY (k:=1) (by omega),a.cY (k:=2) (by omega),a.cY (k:=3) (by omega),a.cO,a.cP,a.cF,a.cM,a.cS,a.cT,a.cSt l,a.cH l⟩
theorem Zr (w:World) {r:Rg} {st:Bool} {ha:Hl} (b:Nat) (xs:List Int) (d:Option Addr) (n c:Nat) (hB:Blk w b (cor r xs (.slice d n c) st ha) ha.t.y) (lx:xs.length=512) :
  Calls prog 125 #[.pointer (some (aac b 14))] w fun e w'=>∃g:Nat,e=.returned (.agg #[.slice (some (aac g 0)) 512 512,.slice d n c])∧Blk w' g (cellsOf xs) 3∧w.heap.size<=g∧Kept 0 0 w w':=by
 have HX:=aab lx;have HB:=aab hB;have hu:=underlying154;have hcs:(xs.map (Value.int .i64)).length=512:=by rw [List.length_map,lx]
 have hi:(prog.info? 154).map (·.size)=some (xs.map (Value.int .i64)).length:=by rw [hcs];exact Tryz.xQ
 have h1:∀v∈xs.map (Value.int .i64),v.oneCell'=true:=iD;have hlt:=hB.lt;have HR:=aab ((Blk.new w #[.slice none 0 0,.slice none 0 0] 38));have K0:=aab (kept_alloc w (.cells #[.slice none 0 0,.slice none 0 0] 38));have B0:=aab (hB.alloc (.cells #[.slice none 0 0,.slice none 0 0] 38));clear hB lx;go_enter func125,ntmps125;go_wp2_with fail;obtain ⟨W,hW⟩:∃W:World,W=w.alloc (.cells #[.slice none 0 0,.slice none 0 0] 38):=⟨_,rfl⟩
 rw [<-hW] at HR K0 B0 ⊢;clear hW;obtain ⟨r1,r2⟩:=Gl B0.o HX.o
 go_region_held3 (fun w'=>w'.rangeAt b 14 (xs.map (Value.int .i64))∧w'.cell? (aac b 526)=some (.slice d n c)) (first|exact Gl B3.o HX.o|exact Gl ((B3.o.other _ _ _ (by omega)).other _ _ _ (by omega)) HX.o|go_keep_ranges|go_keep)
  (first|(go_at_call 181;refine (OI _ xs HX.o).mono ?_;rintro e w3 ⟨g,rfl,hb3,hg3,kd⟩;have k3:=aK kd;have B3:=aab (B0.o.ae k3);have R3:=aab (HR.o.ae k3);have q0:=R3.o.cell (i:=0) rfl;have q1:=R3.o.cell (i:=1) rfl;have f0:=R3.o.frozen 0;have f1:=R3.o.frozen 1;have G3:=aab hb3;have L3:=aab hg3;have K3:=aab (K0.o.trans k3);clear hb3 hg3 kd k3))
 go_wp2_with fail;have l3:W.heap.size<=g:=L3.o;have k0:=K0.o.size;have k1:=HR.o.lt;refine bodyPost_ret (v:=.agg #[.slice (some (aac g 0)) 512 512,.slice d n c]) ?_ rfl ⟨g,rfl,?_,by omega,?_⟩
 ·rw [aj rfl];go_simp
 ·exact (G3.o.other _ _ _ (by omega)).other _ _ _ (by omega)
 ·exact af (af K3.o _ _ _ (.inr (by omega))) _ _ _ (.inr (by omega))
theorem Xu (hC:CAt w lo b g c h) (G:GM c) :
  Calls prog 67 #[.pointer (some (aac b 0))] w fun r w'=>∃(a' b' e' q':Option Addr) (ca' cb' ce' cq':Nat),r=.returned (.agg (Ad (c.cpu h.a) a' b' e' q' ca' cb' ce' cq'))∧qw w' lo (c.cpu h.a) a' b' e' q'∧Kept 0 0 w w'∧(∀z,blk a'=some z∨blk b'=some z∨blk e'=some z∨blk q'=some z->z=g∨w.heap.size<=z):=by
 obtain ⟨l0,l1,l2,l3,l4⟩:=hC.lt;have K0:=aab (kept_alloc w (.cells cpZ 40));have R0:=aab (Blk.new w cpZ 40);have C0:=aab (hC.alloc (.cells cpZ 40));have LX:=aab G.g.d4;have LY:=aab G.g.a4;have LB:=aab G.bx;clear hC G;obtain ⟨X,hX⟩:∃X:World,w.alloc (.cells cpZ 40)=X:=⟨_,rfl⟩
 rw [hX] at K0 R0 C0;obtain ⟨i0,i1,i2,i3,i4,i5,i6,i7,i8,i9,i10,i11,i12,i13,j1,j2⟩:=C0.o.Au LB.o;go_enter func67,ntmps67;go_wp2_with fail;clear hX
 go_region_held3 (fun w'=>w'.cell? (aac b 0)=some (.int .i64 (el c.r.xs 0))∧w'.cell? (aac b 1)=some (.int .i64 (el c.r.xs 1))∧w'.cell? (aac b 2)=some (.int .i64 (el c.r.xs 2))∧w'.cell? (aac b 3)=some (.int .i64 (el c.r.xs 3))∧w'.cell? (aac b 4)=some (.int .i64 (el c.r.ys 0))∧w'.cell? (aac b 5)=some (.int .i64 (el c.r.ys 1))∧w'.cell? (aac b 6)=some (.int .i64 (el c.r.ys 2))∧w'.cell? (aac b 7)=some (.int .i64 (el c.r.ys 3))∧w'.cell? (aac b 8)=some (.int .i64 c.r.o)∧w'.cell? (aac b 9)=some (.int .i64 c.r.p)∧w'.cell? (aac b 10)=some (.int .i64 c.r.f)∧w'.cell? (aac b 11)=some (.int .i64 c.r.m)∧w'.cell? (aac b 12)=some (.bool c.r.s)∧w'.cell? (aac b 13)=some (.bool c.r.t)∧w'.cell? (aac b 527)=some (.bool c.st)∧w'.cell? (aac b 528)=some (.bool h.a)) (first|with_reducible exact C4.o.Au LB.o|with_reducible exact C3.o.Au LB.o|with_reducible exact C0.o.drew.Au LB.o|exact (C4.o.kept ((((((((((((ak _ w.heap.size _ _).one _ _).one _ _).one _ _).one _ _).one _ _).one _ _).one _ _).one _ _).one _ _).one _ _).one _ _) (by omega) (by omega)).Au LB.o)
  (first|(go_at_call 125;have z9:=C3;obtain ⟨cu,hb9,ho9⟩:=C3.o;refine (Zr _ b c.bx _ _ _ hb9 LB.o).mono ?_;rintro e9 w4 ⟨gb,rfl,hb4,hg4,k4⟩;have C4:=aab (C3.o.any k4);have B4:=aab hb4;have L4:=aab hg4;have RI4:=aab (RI3.o.kept k4);have R4:=aab (R3.o.ae k4);have p:=R4.o.all;have pf:=R4.o.fz;have O4:=aab (ho9.any k4);have K4:=aab (K3.o.trans k4);clear hb4 hg4 k4 hb9 ho9)|(go_at_call 124;refine (MP c.r _ LX.o LY.o).mono ?_;rintro e9 w3 ⟨a',b',ca',cb',rfl,hr3,kd⟩;have k3:=aK kd;have C3:=aab (C0.o.any k3);have R3:=aab (R0.o.ae k3);have RI3:=aab hr3;have K3:=aab k3;clear kd k3 hr3))
 go_wp2_with fail;have K5:=((((((((((((ak w4 w.heap.size 0 (.slice a' c.r.xs.length ca')).one 1 (.slice b' c.r.ys.length cb')).one 2 (.int .i64 c.r.o)).one 3 (.int .i64 c.r.p)).one 4 (.int .i64 c.r.f)).one 5 (.int .i64 c.r.m)).one 6 (.bool c.r.s)).one 7 (.bool c.r.t)).one 8 (.slice (some (aac gb 0)) 512 512)).one 9 (.slice (some (aac g 0)) c.bm cu)).one 10 (.bool c.st)).one 11 (.bool h.a))
 have s0:w.heap.size<X.heap.size:=R0.o.lt;have s3:X.heap.size<=w3.heap.size:=K3.o.size;have s4:w3.heap.size<=w4.heap.size:=by have:=K4.o.size;have:=L4.o;have:=B4.o.lt;omega
 have l4:=L4.o;have b4:=B4.o.lt;have s5:=K5.size
 have ra:∀x,blk a'=some x->X.heap.size<=x∧x<w3.heap.size:=by
  intro x hx;rcases RI3.o.1 with ⟨e1,_⟩|⟨y,e1,y0,y1,_⟩
  ·rw [e1] at hx;cases hx
  ·rw [e1] at hx;have hx':y=x:=Option.some.inj hx;subst hx';exact ⟨y0,y1⟩
 have rb:∀x,blk b'=some x->X.heap.size<=x∧x<w3.heap.size:=by
  intro x hx;rcases RI3.o.2.1 with ⟨e1,_⟩|⟨y,e1,y0,y1,_⟩
  ·rw [e1] at hx;cases hx
  ·rw [e1] at hx;have hx':y=x:=Option.some.inj hx;subst hx';exact ⟨y0,y1⟩
 refine bodyPost_ret (v:=.agg #[.slice a' c.r.xs.length ca',.slice b' c.r.ys.length cb',.int .i64 c.r.o,.int .i64 c.r.p,.int .i64 c.r.f,.int .i64 c.r.m,.bool c.r.s,.bool c.r.t,.slice (some (aac gb 0)) 512 512,.slice (some (aac g 0)) c.bm cu,.bool c.st,.bool h.a]) ?_ rfl ⟨a',b',some (aac gb 0),some (aac g 0),ca',cb',512,cu,?_,⟨?_,?_,?_,?_,RI3.o.2.2,?_,?_,?_,?_,?_⟩,?_,?_⟩
 ·rw [aj rfl];go_simp
 ·unfold Ad Mc.cpu;dsimp only;rw [LB.o]
 ·exact (aP.kept RI4.o.1 K5 (.inr (.inl (show w.heap.size+1<=X.heap.size by omega)))).wide (show lo<=X.heap.size by omega) s5
 ·exact (aP.kept RI4.o.2.1 K5 (.inr (.inl (show w.heap.size+1<=X.heap.size by omega)))).wide (show lo<=X.heap.size by omega) s5
 ·exact .inr ⟨gb,rfl,by omega,by omega,iC (B4.o.kept K5 (by omega))⟩
 ·exact .inr ⟨g,rfl,l2,by omega,dh (bH O4.o.l K5 (by omega))⟩
 ·intro x h1 h2;have h3:gb=x:=Option.some.inj h2;have:=ra x h1;omega
 ·intro x h1 h2;have h3:g=x:=Option.some.inj h2;have:=ra x h1;omega
 ·intro x h1 h2;have h3:gb=x:=Option.some.inj h2;have:=rb x h1;omega
 ·intro x h1 h2;have h3:g=x:=Option.some.inj h2;have:=rb x h1;omega
 ·intro x h1 h2;have h3:gb=x:=Option.some.inj h1;have h4:g=x:=Option.some.inj h2;omega
 ·exact aH (K0.o.trans K4.o) K5 (by omega)
 ·intro z hz;rcases hz with hz|hz|hz|hz
  ·exact .inr (by have:=ra z hz;omega)
  ·exact .inr (by have:=rb z hz;omega)
  ·have:gb=z:=Option.some.inj hz
   exact .inr (by omega)
  ·have:g=z:=Option.some.inj hz
   exact .inl this.symm
theorem qw.mvs {w w':World} {base base' x y:Nat} {c:Cp} {a b e q:Option Addr} (h:qw w base c a b e q) (k:Kept x y w w') (hy:y<=base) (hb:base'<=base):qw w' base' c a b e q:=
 ⟨(aP.kept h.d k (.inr (.inl hy))).wide hb k.size,(aP.kept h.a' k (.inr (.inl hy))).wide hb k.size,(aP.kept h.b' k (.inr (.inl hy))).wide hb k.size,(aP.kept h.l k (.inr (.inl hy))).wide hb k.size,h.n1,h.n2,h.n3,h.n4,h.n5,h.n6⟩
theorem zI {w a b:World} {lo hi g g':Nat} (k:Kept 0 0 w a) (h:Since a lo hi g b g') (hl:w.heap.size<=lo) (hg:w.heap.size<=g):Kept 0 0 w b:=
 ⟨h.2.os.trans k.os,h.2.tape.trans k.tape,h.2.output.trans k.output,Nat.le_trans k.size h.2.size,fun i hi _=>(h.2.block i (Nat.lt_of_lt_of_le hi k.size) (by unfold own;omega)).trans (k.block i hi (by omega))⟩
theorem uH {w:World} {p:Nat} {v0 v1 v2 v3 v4 v5 v6 v7 v8 v9 v10 v11:Value}:Kept p (p+1) w ((((((((((((w.setCell (aac p 0) (v0)).setCell (aac p 1) (v1)).setCell (aac p 2) (v2)).setCell (aac p 3) (v3)).setCell (aac p 4) (v4)).setCell (aac p 5) (v5)).setCell (aac p 6) (v6)).setCell (aac p 7) (v7)).setCell (aac p 8) (v8)).setCell (aac p 9) (v9)).setCell (aac p 10) (v10)).setCell (aac p 11) (v11)):=((((((((((((ak w p 0 (v0)).one 1 (v1)).one 2 (v2)).one 3 (v3)).one 4 (v4)).one 5 (v5)).one 6 (v6)).one 7 (v7)).one 8 (v8)).one 9 (v9)).one 10 (v10)).one 11 (v11))
theorem ug (w:World) (c:Cp) (a b e q:Option Addr) (ca cb ce cq:Nat) (ha:Came w a c.r.xs) (hb:Came w b c.r.ys) (he:Came w e c.bx) (hq:Came w q c.bl) (lx:c.r.xs.length<=2000000) (ly:c.r.ys.length<=2000000) (lb:c.bx.length<=2000000) (ll:c.bl.length=5*c.bm) (lm:c.bm<=2000000) (wf:WfR c.r) :
  Calls prog 84 #[.agg #[.slice a c.r.xs.length ca,.slice b c.r.ys.length cb,iv c.r.o,iv c.r.p,iv c.r.f,iv c.r.m,.bool c.r.s,.bool c.r.t,.slice e c.bx.length ce,.slice q c.bm cq,.bool c.st,.bool c.ha]] w fun r w'=>r=.returned (.bool (dJ c))∧Kept 0 0 w w':=by
 have K0:=aab (kept_alloc w (.cells #[.slice a c.r.xs.length ca,.slice b c.r.ys.length cb,iv c.r.o,iv c.r.p,iv c.r.f,iv c.r.m,.bool c.r.s,.bool c.r.t,.slice e c.bx.length ce,.slice q c.bm cq,.bool c.st,.bool c.ha] 40));have HBA:=aab (Blk.new w #[.slice a c.r.xs.length ca,.slice b c.r.ys.length cb,iv c.r.o,iv c.r.p,iv c.r.f,iv c.r.m,.bool c.r.s,.bool c.r.t,.slice e c.bx.length ce,.slice q c.bm cq,.bool c.st,.bool c.ha] 40);obtain ⟨X,hX⟩:∃X:World,w.alloc (.cells #[.slice a c.r.xs.length ca,.slice b c.r.ys.length cb,iv c.r.o,iv c.r.p,iv c.r.f,iv c.r.m,.bool c.r.s,.bool c.r.t,.slice e c.bx.length ce,.slice q c.bm cq,.bool c.st,.bool c.ha] 40)=X:=⟨_,rfl⟩
 rw [hX] at K0 HBA;have HA:=aab (ha.ai K0.o);have HB:=aab (hb.ai K0.o);have HE:=aab (he.ai K0.o);have HQ:=aab (hq.ai K0.o);clear ha hb he hq;have p:=HBA.o.all;cases h1:rW c.r
 ·go_enter func84,ntmps84;go_wp2_with (go_at_call 137;refine (mX _ c.r a b ca cb HA.o HB.o lx ly wf).mono ?_;rintro e9 W ⟨rfl,k9⟩;rw [h1];have HK1:=aab k9;have HB1:=aab (HBA.o.ae k9);have HE1:=aab (HE.o.ai k9);have HQ1:=aab (HQ.o.ai k9);clear k9 p;have p:=HB1.o.all);go_ret;exact ⟨rB (by unfold dJ;simp [h1]),K0.o.trans HK1.o⟩
 ·cases h2:Pl.eu c.bx c.bl c.bm
  ·go_enter func84,ntmps84;go_wp2_with (first|(go_at_call 138;have z9:=HB1;refine (eu _ e q ce cq c.bm c.bx c.bl HE1.o HQ1.o lb ll lm).mono ?_;rintro e9 W2 ⟨rfl,k9⟩;rw [h2];have HK2:=aab k9;have HB2:=aab (HB1.o.ae k9);clear k9 p;have p:=HB2.o.all)|(go_at_call 137;refine (mX _ c.r a b ca cb HA.o HB.o lx ly wf).mono ?_;rintro e9 W ⟨rfl,k9⟩;rw [h1];have HK1:=aab k9;have HB1:=aab (HBA.o.ae k9);have HE1:=aab (HE.o.ai k9);have HQ1:=aab (HQ.o.ai k9);clear k9 p;have p:=HB1.o.all));go_ret;exact ⟨rB (by unfold dJ;simp [h1,h2]),(K0.o.trans HK1.o).trans HK2.o⟩
  ·rcases Bool.eq_false_or_eq_true c.st with h3|h3
   all_goals
    have H3:=aab h3;clear h3;go_enter func84,ntmps84;go_wp2_with (first|(go_at_call 138;have z9:=HB1;refine (eu _ e q ce cq c.bm c.bx c.bl HE1.o HQ1.o lb ll lm).mono ?_;rintro e9 W2 ⟨rfl,k9⟩;rw [h2];have HK2:=aab k9;have HB2:=aab (HB1.o.ae k9);clear k9 p;have p:=HB2.o.all;rw [H3.o] at p)|(go_at_call 137;refine (mX _ c.r a b ca cb HA.o HB.o lx ly wf).mono ?_;rintro e9 W ⟨rfl,k9⟩;rw [h1];have HK1:=aab k9;have HB1:=aab (HBA.o.ae k9);have HE1:=aab (HE.o.ai k9);have HQ1:=aab (HQ.o.ai k9);clear k9 p;have p:=HB1.o.all));go_ret;exact ⟨rB (by unfold dJ;simp [h1,h2,H3.o]),(K0.o.trans HK1.o).trans HK2.o⟩
theorem EK {w W:World} {lo:Nat} (hs:ny w) (hn:qG w) (k:Kept 0 0 w W) (h:w.heap.size<=lo):jw W lo:=by
 have h1:=World.block_lt_of_cell? _ _ (hs 0 (by omega));have h2:=World.block_lt_of_cell? _ _ (hn 0 (by omega));exact ⟨hs.below k.below,hn.below k.below,Nat.lt_of_lt_of_le h1 h,Nat.lt_of_lt_of_le h2 h⟩
theorem Blk.gb {w w':World} {b:Nat} {cs:Array Value} {ty:TypeId} {row:Option Nat} (h:Blk w b cs ty) (k:w.grownBy w' row) (hn:row≠some b):Blk w' b cs ty:=(k.block b h.lt (fun e=>hn e.symm)).trans h
theorem xM (d:Option Addr) (n c:Nat):(Value.slice d n c).ownBlock=blk d:=by cases d<;>rfl
theorem qy {w w':World} {base n m cap size:Nat} {e:TypeId} {d:Option Addr} {xs:List Value} (h:w.ownsRow base e size (.slice d n cap) m xs) (hb:∀g,blk d=some g->w'.heap[g]? = w.heap[g]?):w'.ownsRow base e size (.slice d n cap) m xs:=by
 rcases h with ⟨hl,⟨e1,e0⟩|⟨g',cap',cur,e1,h1,hgg,rest⟩⟩
 ·exact ⟨hl,.inl ⟨e1,e0⟩⟩
 ·cases e1;exact ⟨hl,.inr ⟨g',_,cur,rfl,h1,(hb g' rfl).trans hgg,rest⟩⟩
def Tld (w:World) (base:Nat) (d:Option Addr) (cap:Nat) (vs:List Int):Prop:=w.ownsRow base 3 1 (.slice d vs.length cap) vs.length (vs.map (Value.int .i64))
section
variable {w w':World} {base:Nat} {d:Option Addr} {cap:Nat} {vs:List Int}
theorem Tld.nil (w:World) (base:Nat):Tld w base none 0 []:=World.ownsRow_nil _ _ _ _
theorem Tld.lt (h:Tld w base d cap vs):∀g,blk d=some g->base<=g∧g<w.heap.size:=fun g e=>World.ownsRow.lt h g (by rw [xM];exact e)
theorem Tld.kept {x y:Nat} (h:Tld w base d cap vs) (k:Kept x y w w') (hn:∀g,blk d=some g->¬(x<=g∧g<y)):Tld w' base d cap vs:=qy h (fun g e=>k.block g (h.lt g e).2 (hn g e))
theorem Tld.any (h:Tld w base d cap vs) (k:Kept 0 0 w w'):Tld w' base d cap vs:=h.kept k (by omega)
theorem Tld.since {lo hi g g':Nat} (h:Tld w base d cap vs) (k:Since w lo hi g w' g') (hn:∀z,blk d=some z->¬own lo hi g z):Tld w' base d cap vs:=qy h (fun z e=>k.2.block z (h.lt z e).2 (hn z e))
theorem Tld.slot (h:Tld w base d cap vs):aP w base w.heap.size d vs:=by
 rcases h.2 with ⟨e,e0⟩|⟨g,c,cur,e,hb,hr⟩
 ·injection e with e1 e2 e3
  exact .inl ⟨e1,List.eq_nil_of_length_eq_zero e2⟩
 ·injection e with e1 e2 e3
  subst e1;exact yR h
theorem CW {ops:Array Oper} {rest:List Oper} {o:Oper} {a:Act} {Q:Exit->Act->World->Prop} (hgd:o.guard=none) (s x:Operand) (ho:o.op=.call {callee:=.builtin .append,args:=#[s,x],argTypes:=#[22,22]}) (V:Int)
  (hs:a.eval s=.slice d vs.length cap) (h:Tld w base d cap vs) (B:Nat) (hB:w.heap.size=B) (hx:a.eval x=.slice (some (aac B 0)) 1 1) (hb:base<=B) (hl:vs.length<=100000)
  (K:∀g c w',Tld w' base (some (aac g 0)) c (vs++[V])->(w.alloc (.cells #[iv V] 3)).grownBy w' (blk d)->(blk d=some g∨g=B+1)->g<w'.heap.size->wpList prog ops Q rest (a.put o.dst (.slice (some (aac g 0)) (vs++[V]).length c)) w') :
  wpList prog ops Q (o :: rest) a (w.alloc (.cells #[iv V] 3)):=by
 subst hB;obtain ⟨i0,hi0,hz0,hz1,hz2⟩:=info_parts Tryz.info3;refine wpList_append_lies _ hgd s x _ ho base 3 i0 (.int .i64 0) 1 8 underlying22 hi0 hz0 hz1 hz2 rfl (by decide) _ vs.length _ hs (h.any (kept_alloc w _)) (aac w.heap.size 0) 1 1 [iv V] hx rfl (World.news_of_block (cs:=#[iv V]) (t:=3) (fr:=(0,0)) (heap_alloc_new w _)) (by simp [Value.oneCell']) (by decide) (by unfold maxLen;omega) (by omega) (by simp;omega) (w.heap.size+1) (by simp) ?_;intro g c w' o5 k5 hg5 l5;have el:(vs++[V]).length=vs.length+1:=by simp
 have em:(vs++[V]).map (Value.int .i64)=vs.map (Value.int .i64)++[iv V]:=by simp
 have:=K g c w' (by unfold Tld;rw [el,em];exact o5) (by rw [<-xM d vs.length cap];exact k5) (by rw [<-xM d vs.length cap];exact hg5) l5
 rw [el] at this;exact this
end
theorem CpO.gb {w w':World} {base O gd ga g1 g2:Nat} {c:Cp} {row:Option Nat} (h:CpO w base O c gd ga g1 g2) (k:w.grownBy w' row) (hn:∀z,row=some z->z≠gd∧z≠ga∧z≠g1∧z≠g2):CpO w' base O c gd ga g1 g2:=by
 have:=k.size
 have h1:=h.d1;have h2:=h.a1;have h3:=h.b1;have h4:=h.l1;exact ⟨h.d.kept k (fun e=>(hn _ e.symm).1 rfl),h.a.kept k (fun e=>(hn _ e.symm).2.1 rfl),h.b.kept k (fun e=>(hn _ e.symm).2.2.1 rfl),h.l.kept k (fun e=>(hn _ e.symm).2.2.2 rfl),h.d0,by omega,h.a0,by omega,h.b0,by omega,h.l0,by omega,h.dO,h.aO,h.bO,h.lO,h.n1,h.n2,h.n3,h.n4,h.n5,h.n6⟩
theorem CAt.gb {w w':World} {lo b g:Nat} {c:Mc} {h:Hl} {row:Option Nat} (a:CAt w lo b g c h) (k:w.grownBy w' row) (h1:row≠some b) (h2:row≠some g):CAt w' lo b g c h:=by
 obtain ⟨cu,hB,hO⟩:=a;exact ⟨cu,Blk.gb hB k h1,⟨qy hO.l (fun z e=>k.block z (by have:g=z:=Option.some.inj e;have:=hO.lt;omega) (fun e2=>h2 (e2.symm.trans e.symm))),hO.lo',hO.ne⟩⟩
theorem DT {w W w':World} {row:Option Nat} (h:Kept 0 0 w W) (k:W.grownBy w' row) (hn:∀z,row=some z->w.heap.size<=z):Kept 0 0 w w':=
 ⟨k.os.trans h.os,k.tape.trans h.tape,k.output.trans h.output,Nat.le_trans h.size k.size,fun i hi hh=>(k.block i (Nat.lt_of_lt_of_le hi h.size) (fun e=>by have:=hn i e.symm;omega)).trans (h.block i hi hh)⟩
structure MR (w wr:World) (O:Nat) (cs rz:Array Value) (ty:TypeId) (X:Cp) (gd ga g1 g2:Nat) (d:Option Addr):Prop where
 o:Blk wr O cs ty
 c:CpO wr (w.heap.size+2) O X gd ga g1 g2
 r:Blk wr (w.heap.size+1) rz ty
 k:Kept 0 0 w wr
 lo:w.heap.size+2<=O
 n:∀z,blk d=some z->z≠O∧z≠gd∧z≠ga∧z≠g1∧z≠g2∧w.heap.size+2<=z∧z<wr.heap.size
section
variable {w wr:World} {O:Nat} {cs rz:Array Value} {ty:TypeId} {X:Cp} {gd ga g1 g2:Nat} {d:Option Addr}
theorem MR.step {Y Z:World} {N:Cp} {cs':Array Value} {mid hd ha h1 h2 c2:Nat} (h:MR w wr O cs rz ty X gd ga g1 g2 d) (k:Kept 0 0 wr Y) (hc:CO Y wr.heap.size mid N hd ha h1 h2 c2) (k2:Kept O (O+1) Y Z) (hb:Blk Z O cs' ty):MR w Z O cs' rz ty N hd ha h1 h2 d:=by
 have hO:=h.o.lt;have hl:=h.lo;have hs:=h.k.size;have hz:=k2.size;have hy:=k.size;have q:=hc.l.lt h2 rfl;have:=hc.d0;have:=hc.d1;have:=hc.a0;have:=hc.a1;have:=hc.b0;have:=hc.b1;refine ⟨hb,(hc.cpO (base:=w.heap.size+2) (O:=O) (by omega) (.inl hO)).kept k2 (by omega),(h.r.ae k).kept k2 (by omega),aH (h.k.trans k) k2 (by omega),hl,fun z e => ?_⟩;have:=h.n z e;omega
theorem MR.any {Y:World} (h:MR w wr O cs rz ty X gd ga g1 g2 d) (k:Kept 0 0 wr Y):MR w Y O cs rz ty X gd ga g1 g2 d:=
 ⟨h.o.ae k,h.c.kept k (by omega),h.r.ae k,h.k.trans k,h.lo,fun z e=>by have:=h.n z e;have:=k.size;omega⟩
theorem MR.grow {w5:World} {o:Obj} {g B:Nat} (h:MR w wr O cs rz ty X gd ga g1 g2 d) (k:(wr.alloc o).grownBy w5 (blk d)) (hB:wr.heap.size=B) (hg:blk d=some g∨g=B+1) (hl:g<w5.heap.size):MR w w5 O cs rz ty X gd ga g1 g2 (some (aac g 0)):=by
 subst hB;have h':=h.any (kept_alloc wr o);have hs:=h.k.size;have hlo:=h.lo;refine ⟨h'.o.gb k (fun e=>(h.n _ e).1 rfl),h'.c.gb k (fun z e=>by have:=h.n z e;omega),h'.r.gb k (fun e=>by have:=h.n _ e;omega),DT h'.k k (fun z e=>by have:=h.n z e;omega),hlo,fun z e => ?_⟩;have e:g=z:=Option.some.inj e;subst e;have hO:=h.o.lt;have:=h.c.d1;have:=h.c.a1;have:=h.c.b1;have:=h.c.l1;rcases hg with hg|hg
 ·have:=h.n _ hg;omega
 ·omega
end
structure PR (w wr:World) (lo P g:Nat) (X:Cp) (h:Hl) (rz:Array Value) (ty:TypeId) (d:Option Addr):Prop where
 c:CAt wr lo P g (Mc.ofC X) h
 r:Blk wr (w.heap.size+1) rz ty
 k:Kept 0 0 w wr
 lo:w.heap.size+2<=lo
 n:∀z,blk d=some z->z≠P∧z≠g∧w.heap.size+2<=z∧z<wr.heap.size
section
variable {w wr:World} {lo P g:Nat} {X:Cp} {h:Hl} {rz:Array Value} {ty:TypeId} {d:Option Addr}
theorem PR.any {Y:World} (a:PR w wr lo P g X h rz ty d) (k:Kept 0 0 wr Y):PR w Y lo P g X h rz ty d:=
 ⟨a.c.any k,a.r.ae k,a.k.trans k,a.lo,fun z e=>by have:=a.n z e;have:=k.size;omega⟩
theorem PR.step {Y:World} {g':Nat} {N:Cp} {h':Hl} (a:PR w wr lo P g X h rz ty d) (hc:CAt Y lo P g' (Mc.ofC N) h') (hs:Since wr P (P+1) g Y g'):PR w Y lo P g' N h' rz ty d:=by
 obtain ⟨l0,l1,l2,l3,l4⟩:=a.c.lt;have hl:=a.lo;have hw:=a.k.size;have:=hs.size;refine ⟨hc,hs.2.blk a.r (by unfold own;omega),zI a.k hs (by omega) (by omega),hl,fun z e => ?_⟩;have:=a.n z e;rcases hs.1 with e1|e1<;>omega
theorem PR.grow {w5:World} {o:Obj} {q B:Nat} (a:PR w wr lo P g X h rz ty d) (k:(wr.alloc o).grownBy w5 (blk d)) (hB:wr.heap.size=B) (hg:blk d=some q∨q=B+1) (hl:q<w5.heap.size):PR w w5 lo P g X h rz ty (some (aac q 0)):=by
 subst hB;have h':=a.any (kept_alloc wr o);have hs:=a.k.size;have hlo:=a.lo;obtain ⟨l0,l1,l2,l3,l4⟩:=a.c.lt;refine ⟨h'.c.gb k (fun e=>(a.n _ e).1 rfl) (fun e=>(a.n _ e).2.1 rfl),h'.r.gb k (fun e=>by have:=a.n _ e;omega),DT h'.k k (fun z e=>by have:=a.n z e;omega),hlo,fun z e => ?_⟩;have e:q=z:=Option.some.inj e;subst e;rcases hg with hg|hg
 ·have:=a.n _ hg;omega
 ·omega
end
def RunIn (w w':World) (C:Cp) (L:List Int) (a b e q d:Option Addr):Prop:=
 qw w' w.heap.size C a b e q∧aP w' w.heap.size w'.heap.size d L∧(∀z,blk d=some z->blk a≠some z∧blk b≠some z∧blk e≠some z∧blk q≠some z)∧Kept 0 0 w w'
theorem yY {w w':World} (k:Kept 0 0 w w'):RunIn w w' Gj [] none none none none none:=⟨Lm _ _,.inl ⟨rfl,rfl⟩,(fun z e=>by cases e),k⟩
theorem MR.IJ {w wr Z:World} {O:Nat} {cs rz:Array Value} {ty:TypeId} {X:Cp} {gd ga g1 g2 cap:Nat} {d:Option Addr} {vs:List Int} (h:MR w wr O cs rz ty X gd ga g1 g2 d) (t:Tld wr (w.heap.size+2) d cap vs) (k:Kept (w.heap.size+1) (w.heap.size+2) wr Z):RunIn w Z X vs (some (aac gd 0)) (some (aac ga 0)) (some (aac g1 0)) (some (aac g2 0)) d:=by
 refine ⟨(h.c.kept k (fun i a b=>.inl b)).Xl (by omega),(t.kept k (fun z e=>by have:=h.n z e;omega)).slot.wide (by omega) (Nat.le_refl _),fun z e => ?_,aH h.k k (by omega)⟩;have:=h.n z e;refine ⟨?_,?_,?_,?_⟩<;>(intro e2;have e3:=Option.some.inj e2;simp at e3;omega)
theorem PR.IJ {w wr Y Z:World} {lo P g cap:Nat} {X:Cp} {h:Hl} {rz:Array Value} {ty:TypeId} {d a b e q:Option Addr} {vs:List Int} (p:PR w wr lo P g X h rz ty d) (t:Tld wr (w.heap.size+2) d cap vs) (hi:qw Y lo X a b e q) (k6:Kept 0 0 wr Y) (hn:∀z,blk a=some z∨blk b=some z∨blk e=some z∨blk q=some z->z=g∨wr.heap.size<=z) (k:Kept (w.heap.size+1) (w.heap.size+2) Y Z):RunIn w Z X vs a b e q d:=by
 have hl:=p.lo;refine ⟨hi.mvs k (by omega) (by omega),((t.any k6).kept k (fun z e=>by have:=p.n z e;omega)).slot.wide (by omega) (Nat.le_refl _),fun z e1 => ?_,aH (p.k.trans k6) k (by omega)⟩;have:=p.n z e1;refine ⟨?_,?_,?_,?_⟩
 ·intro e2;have:=hn z (.inl e2);omega
 ·intro e2;have:=hn z (.inr (.inl e2));omega
 ·intro e2;have:=hn z (.inr (.inr (.inl e2)));omega
 ·intro e2;have:=hn z (.inr (.inr (.inr e2)));omega
end Go.Proofs.YtgikibaajanjiaaGreatDoor
namespace Go.Proofs.YtgikibaajanjiaaGreatDoor.Pl
set_option linter.unusedVariables false
def oW (v:Int):Bool:=v==2||v==3
def gZ (s:Bool) (f:Ft):Int:=fl1 f.wr 1+fl1 s 2
def iG (r:Rg) (f:Ft):List Int:=if oW f.v then [f.pc,status r,f.wo,f.ad,gZ r.s f] else [f.pc,status r]
namespace Mc
def ps (c:Mc) (v:Int):Mc:=bif c.fine then c.push v else c
def pushes (c:Mc) (xs:List Int):Mc:=xs.foldl ps c
def qi (d:Mc) (v:Int):Mc:=bif d.fine then (bif (d.acc 1 2 (2*v) 0).fine then (d.acc 1 2 (2*v) 0).aF (d.gz 1 2 (2*v) 0) else d.acc 1 2 (2*v) 0) else d
def lL (c:Mc) (n:Int):Mc:={c.bi (aX c.r n) with st:=false}
def ent (c:Mc) (n:Int) (xs:List Int) (v:Int):Mc:=((c.lL n).pushes xs).qi v
end Mc
def qC (r:Rg):Int:=r.f+32*r.m+256
theorem zg (c:Mc) (xs:List Int) (v:Int):c.pushes (xs++[v])=(c.pushes xs).ps v:=by simp [Mc.pushes]
theorem jT (c:Mc) (xs:List Int) {k:Nat} (h:k<xs.length):c.pushes (xs.take (k+1))=(c.pushes (xs.take k)).ps (el xs k):=by
 rw [List.take_succ_eq_append_getElem h,zg];simp [el,h]
theorem zf {c:Mc} (h:c.fine=false) (xs:List Int):c.pushes xs=c:=by
 induction xs with
 | nil=>rfl
 | cons v xs ih=>show Mc.pushes (c.ps v) xs=c;rw [show c.ps v=c from by unfold Mc.ps;rw [h];rfl];exact ih
theorem xI (c:Mc) (xs:List Int) (k:Nat):c.pushes xs=(c.pushes (xs.take k)).pushes (xs.drop k):=by
 unfold Mc.pushes;rw [<-List.foldl_append,List.take_append_drop]
theorem Bv {c:Mc} {xs:List Int} {k:Nat} (h:(c.pushes (xs.take k)).fine=false):c.pushes xs=c.pushes (xs.take k):=by
 rw [xI c xs k,zf h]
def xx (xs:List Int):Prop:=∀i,i<xs.length->0<=el xs i∧el xs i<=65535
theorem GM.psh {c:Mc} (h:GM c) {v:Int} (v0:0<=v) (v1:v<=65535):GM (c.push v):=by
 have q:=h.acc (rG (c:=c) v0 v1);unfold Mc.push;cases (c.acc 2 2 c.spA v).fine
 ·exact q
 ·exact q.fB 3 (by unfold Mc.spA;omega) (by unfold Mc.spA;omega)
theorem GM.ps {c:Mc} (h:GM c) {v:Int} (v0:0<=v) (v1:v<=65535):GM (c.ps v):=by
 unfold Mc.ps;cases c.fine
 ·exact h
 ·exact h.psh v0 v1
theorem GM.pushes {c:Mc} (h:GM c) {xs:List Int} (hx:xx xs) (k:Nat) (hk:k<=xs.length):GM (c.pushes (xs.take k)):=by
 induction k with
 | zero=>exact h
 | succ k ih=>rw [jT c xs hk];exact (ih (by omega)).ps (hx k hk).1 (hx k hk).2
theorem QS {f:Ft} {k s a:Int} (h:f=aG) (hf:(Mc.dm f k s a).v=0):Mc.dm f k s a=aG:=by
 subst h;unfold Mc.dm at hf ⊢;cases hc:(code k s a != 0)
 ·rfl
 ·rw [hc] at hf;simp only [Bool.true_and] at hf;exfalso;revert hf;cases (code k s a==2)<;>simp [aG]
theorem Ox {c:Mc} {v:Int} (h:c.f=aG) (hf:(c.push v).fine=true):(c.push v).f=aG:=by
 have e:(c.push v).f=Mc.dm c.f 2 2 c.spA:=by unfold Mc.push;cases (c.acc 2 2 c.spA v).fine<;>rfl
 unfold Mc.fine at hf;rw [e] at hf ⊢;exact QS h (by simpa using hf)
theorem IL {c:Mc} (h:c.f=aG) {xs:List Int} {k:Nat} (hk:k<=xs.length) (hf:(c.pushes (xs.take k)).fine=true):(c.pushes (xs.take k)).f=aG:=by
 induction k with
 | zero=>exact h
 | succ k ih=>
  rw [jT c xs hk] at hf ⊢;cases hb:(c.pushes (xs.take k)).fine
  ·unfold Mc.ps at hf;rw [hb] at hf;simp only [cond_false] at hf;rw [hb] at hf;cases hf
  ·have e:(c.pushes (xs.take k)).ps (el xs k)=(c.pushes (xs.take k)).push (el xs k):=by unfold Mc.ps;rw [hb];rfl
   rw [e] at hf ⊢;exact Ox (ih (by omega) hb) hf
theorem GM.lL {c:Mc} (h:GM c) (n:Int):GM (c.lL n):=by
 have q:=h.with n;exact ⟨q.g,q.p0,q.p1,q.bx,q.ok,q.bl,q.bm,q.ac⟩
structure FtW (f:Ft):Prop where
 v0:0<=f.v
 v1:f.v<=21
 p:0<=f.pc∧f.pc<=65535
 a:0<=f.ad∧f.ad<=65535
 w:0<=f.wo∧f.wo<=65535
theorem vT {r:Rg} {f:Ft} (h:Good r) (hf:FtW f):xx (iG r f):=by
 have h2:=hf.p;have h3:=hf.a;have h4:=hf.w;obtain ⟨s0,s1⟩:=pG h;have hi:0<=gZ r.s f∧gZ r.s f<=3:=by unfold gZ fl1;cases f.wr<;>cases r.s<;>decide
 intro i hi';unfold iG at hi' ⊢;cases hl:oW f.v<;>rw [hl] at hi'<;>simp only [Bool.false_eq_true,if_false,if_true] at hi' ⊢
 ·rcases i with _|_|i
  ·exact h2
  ·exact ⟨s0,by show status r<=_;omega⟩
  ·simp at hi';omega
 ·rcases i with _|_|_|_|_|i
  ·exact h2
  ·exact ⟨s0,by show status r<=_;omega⟩
  ·exact h4
  ·exact h3
  ·exact ⟨hi.1,by show gZ r.s f<=_;omega⟩
  ·simp at hi';omega
theorem GM.ent {c:Mc} (h:GM c) {n v:Int} {xs:List Int} (hx:xx xs) (v0:0<=v) (v1:v<=21):GM (c.ent n xs v):=by
 have q:GM ((c.lL n).pushes xs):=by have:=(h.lL n).pushes hx xs.length (Nat.le_refl _);rwa [List.take_length] at this
 have ha:eP 1 2 (2*v) 0=true:=dX (k:=1) (.inl rfl) (by omega) (by omega);have hv:=q.gz ha;unfold Mc.ent Mc.qi;cases ((c.lL n).pushes xs).fine
 ·exact q
 ·cases (((c.lL n).pushes xs).acc 1 2 (2*v) 0).fine
  ·exact q.acc ha
  ·have hw:0<=((c.lL n).pushes xs).gz 1 2 (2*v) 0∧((c.lL n).pushes xs).gz 1 2 (2*v) 0<=65535:=by
    have h9:0<=((c.lL n).pushes xs).gz 1 2 (2*v) 0∧((c.lL n).pushes xs).gz 1 2 (2*v) 0<65536:=by simpa [okv,within,top] using hv
    omega
   exact (q.acc ha).aF hw.1 hw.2
theorem FtW.dm {f:Ft} (h:FtW f) {k s a:Int} (a0:0<=a) (a1:a<=65535):FtW (Mc.dm f k s a):=by
 unfold Mc.dm;cases (code k s a != 0)&&(f.v==0)
 ·exact h
 ·cases (code k s a==2)
  ·exact ⟨show (0:Int)<=2 by decide,show (2:Int)<=21 by decide,h.p,⟨a0,a1⟩,h.w⟩
  ·exact ⟨show (0:Int)<=3 by decide,show (3:Int)<=21 by decide,h.p,⟨a0,a1⟩,h.w⟩
theorem FtW.acc {c:Mc} (h:FtW c.f) {k s a v:Int} (a0:0<=a) (a1:a<=65535):FtW (c.acc k s a v).f:=h.dm a0 a1
theorem FtW.push {c:Mc} (h:FtW c.f) (v:Int):FtW (c.push v).f:=by
 have q:=h.acc (k:=2) (s:=2) (a:=c.spA) (v:=v) (by unfold Mc.spA;omega) (by unfold Mc.spA;omega);unfold Mc.push;cases (c.acc 2 2 c.spA v).fine<;>exact q
theorem FtW.pop {c:Mc} (h:FtW c.f) (g:GM c):FtW c.pop.f:=by
 obtain ⟨y0,y1⟩:=g.g.aw 3 (by omega);have q:=h.acc (k:=1) (s:=2) (a:=el c.r.ys 3) (v:=0) y0 y1;unfold Mc.pop;cases (c.acc 1 2 (el c.r.ys 3) 0).fine<;>exact q
theorem FtW.read {c:Mc} (h:FtW c.f) (g:GM c) {z m k e:Int} (k0:0<=k) (k1:k<=3) (e0:0<=e) (e1:e<=65535):FtW (c.read z m k e).f:=by
 have q:=jc (z:=z) (m:=m) g.g k0 k1 e0 e1;unfold Mc.read;cases Mc.gG m
 ·exact FtW.acc (c:=c.plc z m k e) h q.1 q.2
 ·exact h
theorem FtW.write {c:Mc} (h:FtW c.f) {z m k a v:Int} (a0:0<=a) (a1:a<=65535):FtW (c.write z m k a v).f:=by
 unfold Mc.write;cases (m==0)
 ·exact h.acc a0 a1
 ·exact h
theorem vk (c:Mc) (z m k e:Int):(c.place z m k e).f=c.f:=by unfold Mc.place;cases (m==0)<;>rfl
theorem Vt (d:Mc) (x:In) (q v:Int):(d.two' x q v).f=d.f:=by
 unfold Mc.two';cases (x.op==8)<;>cases (x.op==3)<;>cases (x.op==4)<;>cases (x.op==5)<;>cases (x.op==6)<;>cases (x.op==7)<;>rfl
theorem FtW.vec {c:Mc} (h:FtW c.f) {v:Int} (v0:0<=v) (v1:v<=21):FtW (c.vec v).f:=⟨v0,v1,h.p,h.a,h.w⟩
theorem FtW.raise {c:Mc} (h:FtW c.f) (g:GM c) {v:Int} (v0:0<=v) (v1:v<=21):FtW (c.raise v).f:=⟨v0,v1,⟨g.p0,g.p1⟩,h.a,h.w⟩
theorem FtW.doI {c:Mc} (h:FtW c.f) (g:GM c) {x:In} (hx:bJ x=true) (t:Int):FtW (c.doI x t).f:=by
 have B:=sG hx;have rd:=fun z=>h.read (z:=z) (m:=x.m) g B.k0 B.k1 B.e0 B.e1;have grd:=g.read (z:=2) (m:=x.m) (.inr rfl) B.k0 B.k1 B.e0 B.e1;have hp2:=fun z=>mP (m:=x.m) (z:=z) g B.k0 B.k1 B.e0 B.e1;have wr:=fun z v=>FtW.write (c:=c.place z x.m x.k x.e) (z:=z) (m:=x.m) (k:=x.k) (a:=c.iI z x.m x.k x.e) (v:=v) (by rw [vk];exact h) (hp2 z).1 (hp2 z).2;unfold Mc.doI;cases (x.op==9)
 ·cases (x.op==10)
  ·cases (x.op==2)
   ·cases (x.op==11)
    ·cases (x.op==12)
     ·cases ((x.op==13)||(x.op==14))
      ·cases (x.op==15)
       ·cases ((x.op==16)||(x.op==17))
        ·cases (x.op==18)
         ·cases (x.op==19)
          ·show FtW (c.two x).f
           unfold Mc.two;cases (c.read x.z x.m x.k x.e).fine
           ·exact rd _
           ·show FtW (Mc.two' _ _ _ _).f
            rw [Vt];exact rd _
          ·show FtW (c.stat x).f
           unfold Mc.stat;cases (x.s==0)<;>exact h
         ·show FtW (c.ul x).f
          unfold Mc.ul Mc.yH;cases (bcd (el c.r.xs x.r.toNat%256)&&bcd (el c.r.xs x.k.toNat%256))
          ·exact h.vec (by decide) (by decide)
          ·exact h
        ·show FtW (c.product x).f
         unfold Mc.product;cases (c.read 2 x.m x.k x.e).fine
         ·exact rd 2
         ·show FtW (Mc.jb _ _ _).f
          unfold Mc.jb;cases (x.op==16)
          ·cases (c.bC 2 x.m x.k x.e==0)
           ·exact rd 2
           ·exact (rd 2).raise grd (by decide) (by decide)
          ·exact rd 2
       ·show FtW (c.jB x).f
        have q1:=h.pop g;have gp:=g.pop;have q2:=q1.pop gp;have r0:=B.r0;have r1:=B.r1;unfold Mc.jB;cases (x.s==0)
        ·cases (x.s==1)
         ·cases (x.s==3)
          ·cases (x.s==4)
           ·cases (x.s==5)
            ·cases (x.s==6)<;>exact h
            ·exact h
           ·exact h.raise g (by omega) (by omega)
          ·exact h
         ·cases c.pop.fine
          ·exact q1
          ·cases c.pop.pop.fine
           ·exact q2
           ·exact q2
        ·exact q1
      ·show FtW (c.jump x t).f
       have gp:GM (c.place 2 x.m x.k x.e):=g.place B.k0 B.k1;have pf:FtW (c.place 2 x.m x.k x.e).f:=by rw [vk];exact h
       have q:=pf.push c.r.p;unfold Mc.jump;cases (x.op==13)
       ·cases (x.s==1)
        ·exact pf
        ·cases ((c.place 2 x.m x.k x.e).push c.r.p).fine
         ·exact q
         ·exact q
       ·cases (tst (x.s+8*x.r) c.r.f)<;>exact h
     ·exact h
    ·show FtW (c.one x).f
     have ra:=oH (z:=x.z) (m:=x.m) g B.k0 B.k1 B.e0 B.e1;unfold Mc.one;cases (x.s==0)
     ·cases (c.read x.z x.m x.k x.e).fine
      ·exact rd _
      ·show FtW (Mc.one' _ _ _ _ _).f
       unfold Mc.one';cases (x.s==1)
       ·cases (x.s==2)
        ·exact rd _
        ·exact (rd x.z).write ra.1 ra.2
       ·exact (rd x.z).write ra.1 ra.2
     ·exact wr x.z 0
   ·exact wr x.z _
  ·show FtW ((c.place 2 x.m x.k x.e).fB _ _).f
   show FtW (c.place 2 x.m x.k x.e).f
   rw [vk];exact h
 ·show FtW (bif (c.read 2 x.m x.k x.e).fine then _ else _:Mc).f
  cases (c.read 2 x.m x.k x.e).fine<;>exact rd 2
end Go.Proofs.YtgikibaajanjiaaGreatDoor.Pl
namespace Go.Proofs.YtgikibaajanjiaaGreatDoor
open Pl
open Go.RowKit Go.Proofs.Tryz
set_option linter.unusedVariables false
theorem DN (v:Int) (w:World):Calls prog 238 #[iv v] w fun e w'=>e=.returned (.bool (oW v))∧w'=w:=by
 have H:v=2∨¬v=2∧(v=3∨¬v=3):=by omega
 rcases H with rfl|⟨h2,rfl|h3⟩
 all_goals
  go_enter func238,ntmps238;go_wp2;go_ret;exact ⟨rB (by simp [oW, *]),rfl⟩
theorem Fj {w:World} {g:Nat} {x y:Int} (h:Blk w g #[iv x,iv y] 3):w.ownsRow g 3 1 (.slice (some (aac g 0)) 2 2) 2 [iv x,iv y]:=
 ⟨by simp,.inr ⟨g,2,#[iv x,iv y],rfl,Nat.le_refl _,h,Nat.le_refl _,by unfold maxLen;omega,by simp,by simp⟩⟩
theorem Pm (s:Bool) (f:Ft) (w:World):Calls prog 239 #[.bool s,.agg (ftA f)] w fun e w'=>e=.returned (iv (gZ s f))∧Kept 0 0 w w':=by
 have K0:=aab (kept_alloc w (.cells (ftA f) 42));obtain ⟨v,pc,ad,wo,wr⟩:=f;cases s<;>cases wr
 all_goals
  go_enter func239,ntmps239;go_wp2_with (go_at_call 208;refine st (DL _ _ _) ?_;simp only [fl1,if_true,if_false,Bool.false_eq_true]);go_ret;exact ⟨rI (by unfold gZ fl1;simp only [if_true,if_false,Bool.false_eq_true];decide),K0.o⟩
theorem E8 (w:World) (r:Rg) (f:Ft) (a b:Option Addr) (ca cb:Nat) (hg:Pl.Good r) :
  Calls prog 194 #[.agg #[.slice a r.xs.length ca,.slice b r.ys.length cb,iv r.o,iv r.p,iv r.f,iv r.m,.bool r.s,.bool r.t],.agg (ftA f)] w fun e w'=>∃(g c:Nat),e=.returned (.slice (some (aac g 0)) (iG r f).length c)∧w.heap.size<=g∧g<w'.heap.size∧Own w' g (iG r f)∧Kept 0 0 w w':=by
 have HG:=aab hg;clear hg;have K0:=aab (ag (kept_alloc w (.cells #[.slice a r.xs.length ca,.slice b r.ys.length cb,iv r.o,iv r.p,iv r.f,iv r.m,.bool r.s,.bool r.t] 35)) (.cells (ftA f) 42));have BC0:=aab ((Blk.new w #[.slice a r.xs.length ca,.slice b r.ys.length cb,iv r.o,iv r.p,iv r.f,iv r.m,.bool r.s,.bool r.t] 35).alloc (.cells (ftA f) 42));have BF0:=Blk.new (w.alloc (.cells #[.slice a r.xs.length ca,.slice b r.ys.length cb,iv r.o,iv r.p,iv r.f,iv r.m,.bool r.s,.bool r.t] 35)) (ftA f) 42;simp only [World.size_alloc] at BF0;replace BF0:=aab BF0;obtain ⟨X,hX⟩:∃X:World,(w.alloc (.cells #[.slice a r.xs.length ca,.slice b r.ys.length cb,iv r.o,iv r.p,iv r.f,iv r.m,.bool r.s,.bool r.t] 35)).alloc (.cells (ftA f) 42)=X:=⟨_,rfl⟩
 rw [hX] at K0 BC0 BF0;have nX:X.heap.size=w.heap.size+2:=by simp [<-hX]
 obtain ⟨i,hi0,hz0,hz1,hz2⟩:=info_parts Tryz.info3;have H63:Hid (2+3<=maxLen):=aab (by unfold maxLen;omega);go_enter func194,ntmps194;go_wp2_with fail;go_region_held3 (fun w'=>(∀i,w'.cell? ⟨w.heap.size,i,none⟩=(#[.slice a r.xs.length ca,.slice b r.ys.length cb,iv r.o,iv r.p,iv r.f,iv r.m,.bool r.s,.bool r.t])[i]?)∧(∀i,w'.cell? ⟨w.heap.size+1,i,none⟩=(ftA f)[i]?)) (first|exact ⟨BC3.o.all,BF3.o.all⟩|exact ⟨(BC3.o.alloc _).all,(BF3.o.alloc _).all⟩|exact ⟨(show Blk _ _ _ _ from BC0.o).all,(show Blk _ _ _ _ from BF0.o).all⟩) (first|(go_at_call 163;refine (uQ _ r a b ca cb HG.o).mono ?_;rintro e9 w3 ⟨rfl,k3⟩;have K3:=aab (K0.o.trans (aK k3));have BC3:=aab (BC0.o.ae (aK k3));have BF3:=aab (BF0.o.ae (aK k3));clear k3));have BC4:=aab (BC3.o.alloc (.cells #[iv f.pc,iv (Pl.status r)] 3));have BF4:=aab (BF3.o.alloc (.cells #[iv f.pc,iv (Pl.status r)] 3));have BR4:=aab (Blk.new w3 #[iv f.pc,iv (Pl.status r)] 3);have K4:=aab (ag K3.o (.cells #[iv f.pc,iv (Pl.status r)] 3));have n3:=BF3.o.lt;have hs3:w.heap.size<=w3.heap.size:=by omega
 obtain ⟨X4,hX4⟩:∃X:World,w3.alloc (.cells #[iv f.pc,iv (Pl.status r)] 3)=X:=⟨_,rfl⟩
 rw [hX4] at BC4 BF4 BR4 K4;have p:=BF4.o.all;have p2:=BC4.o.all;cases h:oW f.v
 ·have E:Hid (iG r f=[f.pc,Pl.status r]):=aab (by simp [iG,h]);go_wp2_with (first|(go_at_call 238;refine st (DN _ _) ?_;rw [h]));go_ret;exact ⟨_,_,by rw [E.o];rfl,hs3,BR4.o.lt,by rw [E.o];exact iC (xs:=[f.pc,Pl.status r]) BR4.o,K4.o⟩
 ·have E:Hid (iG r f=[f.pc,Pl.status r,f.wo,f.ad,gZ r.s f]):=aab (by simp [iG,h]);go_wp2_with (first|(go_at_call 238;refine st (DN _ _) ?_;rw [h]));clear p p2;go_region_held3 (fun w'=>(∀i,w'.cell? ⟨w.heap.size,i,none⟩=(#[.slice a r.xs.length ca,.slice b r.ys.length cb,iv r.o,iv r.p,iv r.f,iv r.m,.bool r.s,.bool r.t])[i]?)∧(∀i,w'.cell? ⟨w.heap.size+1,i,none⟩=(ftA f)[i]?)) (first|exact ⟨BC7.o.all,BF7.o.all⟩|exact ⟨BC6.o.all,BF6.o.all⟩|exact ⟨(BC6.o.alloc _).all,(BF6.o.alloc _).all⟩|exact ⟨(show Blk _ _ _ _ from BC4.o).all,(show Blk _ _ _ _ from BF4.o).all⟩) (first|(go_at_call 239;refine (Pm r.s f _).mono ?_;rintro e9 w5 ⟨rfl,k5⟩;have K6:=aab (K4.o.trans (aK k5));have BC6:=aab (BC4.o.ae (aK k5));have BF6:=aab (BF4.o.ae (aK k5));have BR6:=aab (BR4.o.ae (aK k5));clear k5)|(refine step_append_lies _ (by rfl) _ _ _ (by rfl) w3.heap.size 3 i (iv 0) 1 8 underlying22 hi0 hz0 hz1 hz2 rfl (by decide) (.slice (some (aac w3.heap.size 0)) 2 2) 2 [iv f.pc,iv (Pl.status r)] (by rfl) (Fj (BR6.o.alloc _)) (aac w5.heap.size 0) 3 3 [iv f.wo,iv f.ad,iv (gZ r.s f)] (by rfl) (by rfl) (World.news_of_block (cs:=#[iv f.wo,iv f.ad,iv (gZ r.s f)]) (t:=3) (fr:=(0,0)) (heap_alloc_new w5 _)) (by simp [Value.oneCell']) (by decide) H63.o (by decide) (by have:=BR6.o.lt;simp;omega) (w5.heap.size+1) (by simp) ?_;intro g3 c3 w7 hown hgrow hat hlt;have O7:=aab hown;have G7:=aab hgrow;have hl6:=BR6.o.lt;have BC7:Hid (Blk w7 w.heap.size #[.slice a r.xs.length ca,.slice b r.ys.length cb,iv r.o,iv r.p,iv r.f,iv r.m,.bool r.s,.bool r.t] 35):=aab ((hgrow.block w.heap.size (by have:=BC6.o.lt;simp;omega) (by simp [Value.ownBlock];omega)).trans (BC6.o.alloc _));have BF7:Hid (Blk w7 (w.heap.size+1) (ftA f) 42):=aab ((hgrow.block (w.heap.size+1) (by have:=BF6.o.lt;simp;omega) (by simp [Value.ownBlock];omega)).trans (BF6.o.alloc _));clear hown hgrow));go_wp2_with fail;go_ret;have kk:=jU G7.o (lo:=w3.heap.size) (hi:=w3.heap.size+1) (by intro j hj;have h5:w3.heap.size=j:=Option.some.inj hj;omega);obtain ⟨p3,p4⟩:=O7.o.lt g3 rfl;exact ⟨g3,c3,by rw [E.o];rfl,by omega,p4,by rw [E.o];exact iU (xs:=[f.pc,Pl.status r,f.wo,f.ad,gZ r.s f]) O7.o,aH (ag K6.o (.cells #[iv f.wo,iv f.ad,iv (gZ r.s f)] 3)) kk (by omega)⟩
end Go.Proofs.YtgikibaajanjiaaGreatDoor
