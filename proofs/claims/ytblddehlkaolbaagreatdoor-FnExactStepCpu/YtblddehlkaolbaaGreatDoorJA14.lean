/- Part 14 of what the last text leans on. -/
import Derived.Test.YtblddehlkaolbaaGreatDoorJA12
import Derived.Test.YtblddehlkaolbaaGreatDoorJA13
import Derived.Test.YtblddehlkaolbaaGreatDoorJA11
import Derived.Test.YtblddehlkaolbaaGreatDoorJA7
import Derived.Test.YtblddehlkaolbaaGreatDoorJA1
import Derived.Test.YtblddehlkaolbaaGreatDoorJA10
import Derived.Test.YtblddehlkaolbaaGreatDoorJA9
set_option maxRecDepth 100000
set_option maxHeartbeats 16000000
namespace Go.Proofs.YtblddehlkaolbaaGreatDoor
open Go.RowKit Go.Proofs.Tryz
set_option linter.unusedVariables false
namespace Pl
def Mc.lea (c:Mc) (x:In):Mc:=(c.slot x.z x.m x.k x.e).fM x.r.toNat (c.readA x.z x.m x.k x.e)
def Mc.shf (c:Mc) (x:In):Mc:=(c.put x.z x.r (jc x.s x.z c.r.f (c.low x.z x.r) (x.k+1))).aB (oI x.s x.z c.r.f (c.low x.z x.r) (x.k+1))
def Mc.brn (c:Mc) (x:In):Mc:=bif tst (x.s+8*x.r) c.r.f then c.aJ ((c.r.p-2+x.e)%65536) else c
def Mc.mvs (c:Mc) (x:In):Mc:=bif x.s==0 then c.dh (bJ c.r x.e) else c.dh {c.r with xs:=c.r.xs.set x.r.toNat (status c.r)}
def Mc.cr' (c:Mc) (x:In):Mc:=bif x.op==2 then c.gv x else bif x.op==10 then c.lea x else bif x.op==11 then c.ch x else bif x.op==12 then c.shf x else bif x.op==13 then c.brn x else bif x.op==14 then c.jp x else bif x.op==15 then c.fw x else bif x.op==18 then c.bd x else bif x.op==19 then c.mvs x else c.tk x
def Mc.cr (c:Mc) (x:In):Mc:=bif iR x && !c.r.s then {c with f:=⟨8,0,0,0,false⟩} else c.cr' x
end Pl
theorem Lt (w:World) (lo b g:Nat) (c:Pl.Mc) (h:Bool) (op z r m k e s:Int) (hC:CAt w lo b g c h) (G:Pl.GM c) (hf:c.f=Pl.aH) (B:Pl.InB ⟨op,z,r,m,k,e,s⟩) (hs:s≤3) (hm:m=0∨(2≤m∧m≤6)) :
  Calls prog 143 #[.pointer (some ⟨b,0,none⟩),.agg (inA op z r m k e s)] w fun e' w'=>∃g',e'=.returned (.agg (ftC (c.ch ⟨op,z,r,m,k,e,s⟩).f))∧CAt w' lo b g' (c.ch ⟨op,z,r,m,k,e,s⟩) h∧Since w b (b+1) g w' g':=by
 have hs0:0≤s:=B.s0
 have hq:s=0∨s=1∨s=2∨s=3:=by omega
 rcases hq with rfl|rfl|rfl|rfl
 ·exact LG w lo b g c h op z r m k e hC G hf B hm
 ·exact LD w lo b g c h op z r m k e hC G hf B hm
 ·exact LC w lo b g c h op z r m k e hC G hf B hm
 ·exact Lu w lo b g c h op z r m k e hC G hf B hm
theorem TN (w:World) (lo b g:Nat) (c:Pl.Mc) (h:Bool) (op z r m k e s:Int) (hC:CAt w lo b g c h) (G:Pl.GM c) (hf:c.f=Pl.aH) (B:Pl.InB ⟨op,z,r,m,k,e,s⟩) (hs:s≤1) :
  Calls prog 147 #[.pointer (some ⟨b,0,none⟩),.agg (inA op z r m k e s)] w fun e' w'=>∃g',e'=.returned (.agg (ftC (c.jp ⟨op,z,r,m,k,e,s⟩).f))∧CAt w' lo b g' (c.jp ⟨op,z,r,m,k,e,s⟩) h∧Since w b (b+1) g w' g':=by
 have hs0:0≤s:=B.s0
 have hq:s=0∨s=1:=by omega
 rcases hq with rfl|rfl
 ·exact TQ w lo b g c h op z r m k e hC G hf B
 ·exact TP w lo b g c h op z r m k e hC G hf B
theorem TR (w:World) (lo b g:Nat) (c:Pl.Mc) (h:Bool) (op z r m k e s:Int) (hC:CAt w lo b g c h) (G:Pl.GM c) (hf:c.f=Pl.aH) (B:Pl.InB ⟨op,z,r,m,k,e,s⟩) (hs:s≤6) (he:s=3→e≤1023) :
  Calls prog 148 #[.pointer (some ⟨b,0,none⟩),.agg (inA op z r m k e s)] w fun e' w'=>∃g',e'=.returned (.agg (ftC (c.fw ⟨op,z,r,m,k,e,s⟩).f))∧CAt w' lo b g' (c.fw ⟨op,z,r,m,k,e,s⟩) h∧Since w b (b+1) g w' g':=by
 have hs0:0≤s:=B.s0
 have hq:s=0∨s=1∨s=2∨s=3∨s=4∨s=5∨s=6:=by omega
 rcases hq with rfl|rfl|rfl|rfl|rfl|rfl|rfl
 ·exact TZ w lo b g c h op z r m k e hC G hf B
 ·exact TY w lo b g c h op z r m k e hC G hf B
 ·exact TW w lo b g c h op z r m k e hC G hf B
 ·exact TV w lo b g c h op z r m k e hC G hf B (he rfl)
 ·exact TU w lo b g c h op z r m k e hC G hf B
 ·exact TT w lo b g c h op z r m k e hC G hf B
 ·exact TS w lo b g c h op z r m k e hC G hf B
theorem We (w:World) (lo b g:Nat) (c:Pl.Mc) (h:Bool) (op z r m k e s:Int) (hC:CAt w lo b g c h) (G:Pl.GM c) (hf:c.f=Pl.aH) (B:Pl.InB ⟨op,z,r,m,k,e,s⟩) (hs:s≤1) (ht:jF w lo) :
  Calls prog 149 #[.pointer (some ⟨b,0,none⟩),.agg (inA op z r m k e s)] w fun e' w'=>∃g',e'=.returned (.agg (ftC (c.bd ⟨op,z,r,m,k,e,s⟩).f))∧CAt w' lo b g' (c.bd ⟨op,z,r,m,k,e,s⟩) h∧Since w b (b+1) g w' g':=by
 have hs0:0≤s:=B.s0
 have hq:s=0∨s=1:=by omega
 rcases hq with rfl|rfl
 ·exact Wi w lo b g c h op z r m k e hC G hf B ht
 ·exact Wh w lo b g c h op z r m k e hC G hf B ht
theorem TK (w:World) (lo b g:Nat) (c:Pl.Mc) (h:Bool) (op z r m k e s:Int) (hC:CAt w lo b g c h) (G:Pl.GM c) (hf:c.f=Pl.aH) (B:Pl.InB ⟨op,z,r,m,k,e,s⟩) (hs:s≤1) (he:s=0→e≤1023) :
  Calls prog 150 #[.pointer (some ⟨b,0,none⟩),.agg (inA op z r m k e s)] w fun e' w'=>e'=.returned (.tuple #[])∧CAt w' lo b g (c.mvs ⟨op,z,r,m,k,e,s⟩) h∧Kept b (b+1) w w':=by
 have hs0:0≤s:=B.s0
 have hq:s=0∨s=1:=by omega
 rcases hq with rfl|rfl
 ·exact TM w lo b g c h op z r m k e hC G B (he rfl)
 ·exact TL w lo b g c h op z r m k e hC G B
theorem Ec (w:World) (lo b g:Nat) (c:Pl.Mc) (h:Bool) (op z r m k e s:Int) (hC:CAt w lo b g c h) (G:Pl.GM c) (hf:c.f=Pl.aH) (B:Pl.InB ⟨op,z,r,m,k,e,s⟩) (hop:op=9∨op=1∨op=3∨op=4∨op=5∨op=6∨op=7∨op=8) (h1:m=1→z=2) :
  Calls prog 99 #[.pointer (some ⟨b,0,none⟩),.agg (inA op z r m k e s)] w fun e' w'=>∃g',e'=.returned (.agg (ftC (c.cr ⟨op,z,r,m,k,e,s⟩).f))∧CAt w' lo b g' (c.cr ⟨op,z,r,m,k,e,s⟩) h∧Since w b (b+1) g w' g':=by
 have HB:=hide B
 clear B
 obtain ⟨l0,l1,l2,l3,l4⟩:=hC.lt
 have HG:=hide G
 obtain ⟨X,hX,K0,C0,A0,R0,sX⟩:=hC.jh op z r m k e s
 have p:=A0.o.all
 clear hC G
 obtain ⟨E,hE⟩:∃E,E=c.tk ⟨op,z,r,m,k,e,s⟩:=⟨_,rfl⟩
 obtain ⟨F,hF⟩:∃F,F=E.f:=⟨_,rfl⟩
 have hp:Pl.iR ⟨op,z,r,m,k,e,s⟩=false:=by rcases hop with rfl|rfl|rfl|rfl|rfl|rfl|rfl|rfl<;>rfl
 have E1:Hid (c.cr ⟨op,z,r,m,k,e,s⟩=E):=hide (by unfold Pl.Mc.cr;rw [hp,hE];rcases hop with rfl|rfl|rfl|rfl|rfl|rfl|rfl|rfl<;>rfl)
 have H1:=hide h1
 clear h1
 have HE:=hide hE
 have HF:=hide hF
 have hsup:=dO
 clear hE hF
 rcases hop with rfl|rfl|rfl|rfl|rfl|rfl|rfl|rfl
 all_goals
  go_enter func99,ntmps99
  go_wp2_with (first|(go_at_call 141;refine (QM _ lo b g c h _ z r m k e s C1.o HG.o hf HB.o (by decide) H1.o (fun h9=>absurd h9 (by decide))).mono ?_;rintro e9 W2 ⟨g',rfl,hc,hs⟩;rw [←HE.o] at hc ⊢;rw [←HF.o];unfold ftC;have C2:=hide hc;have R2:=hide (hs.blk R1.o (by omega) (by omega));have n2:=hs.ne (b:=w.heap.size+1) R1.o.lt (by omega);have S2:=hide (((Since.refl w b (b+1) g).any K1.o).trans hs);have r2:=R2.o.all;have rf2:=R2.o.fz;clear hc hs)|(go_at_call 140;refine (hsup _ _ z r m k e s).mono ?_;rintro e9 W1 ⟨rfl,k1⟩;rw [hp];have C1:=hide (C0.o.any k1);have A1:=hide (A0.o.af k1);have R1:=hide (R0.o.af k1);have K1:=hide (K0.o.trans k1);have p1:=A1.o.all;have r1:=R1.o.all;have rf1:=R1.o.fz;have q12:=C1.o.cS;clear k1))
  have KR:=(((((ak W2 (w.heap.size+1) 0 (iv F.v)).one 1 (iv F.pc)).one 2 (iv F.ad)).one 3 (iv F.wo)).one 4 (.bool F.wr))
  refine bodyPost_ret (v:=.agg (ftA F)) ?_ rfl ⟨g',?_,?_,(S2.o).mine KR (by omega)⟩
  ·rw [aj rfl];go_simp
  ·rw [E1.o,←HF.o];rfl
  ·rw [E1.o];exact ((C2.o).kept KR (by omega) (by omega))
theorem LH (w:World) (lo b g:Nat) (c:Pl.Mc) (h:Bool) (op z r m k e s:Int) (hC:CAt w lo b g c h) (G:Pl.GM c) (hf:c.f=Pl.aH) (B:Pl.InB ⟨op,z,r,m,k,e,s⟩) (hop:op=16∨op=17) (h1:m=1→z=2) (h2:z=2) :
  Calls prog 99 #[.pointer (some ⟨b,0,none⟩),.agg (inA op z r m k e s)] w fun e' w'=>∃g',e'=.returned (.agg (ftC (c.cr ⟨op,z,r,m,k,e,s⟩).f))∧CAt w' lo b g' (c.cr ⟨op,z,r,m,k,e,s⟩) h∧Since w b (b+1) g w' g':=by
 have HB:=hide B
 clear B
 obtain ⟨l0,l1,l2,l3,l4⟩:=hC.lt
 have HG:=hide G
 obtain ⟨X,hX,K0,C0,A0,R0,sX⟩:=hC.jh op z r m k e s
 have p:=A0.o.all
 clear hC G
 obtain ⟨E,hE⟩:∃E,E=c.tk ⟨op,z,r,m,k,e,s⟩:=⟨_,rfl⟩
 obtain ⟨F,hF⟩:∃F,F=E.f:=⟨_,rfl⟩
 have hp:Pl.iR ⟨op,z,r,m,k,e,s⟩=false:=by rcases hop with rfl|rfl<;>rfl
 have E1:Hid (c.cr ⟨op,z,r,m,k,e,s⟩=E):=hide (by unfold Pl.Mc.cr;rw [hp,hE];rcases hop with rfl|rfl<;>rfl)
 have H1:=hide h1
 have HZ:=hide h2
 clear h1 h2
 have HE:=hide hE
 have HF:=hide hF
 have hsup:=dO
 clear hE hF
 rcases hop with rfl|rfl
 all_goals
  go_enter func99,ntmps99
  go_wp2_with (first|(go_at_call 141;refine (QM _ lo b g c h _ z r m k e s C1.o HG.o hf HB.o (by decide) H1.o (fun _=>HZ.o)).mono ?_;rintro e9 W2 ⟨g',rfl,hc,hs⟩;rw [←HE.o] at hc ⊢;rw [←HF.o];unfold ftC;have C2:=hide hc;have R2:=hide (hs.blk R1.o (by omega) (by omega));have n2:=hs.ne (b:=w.heap.size+1) R1.o.lt (by omega);have S2:=hide (((Since.refl w b (b+1) g).any K1.o).trans hs);have r2:=R2.o.all;have rf2:=R2.o.fz;clear hc hs)|(go_at_call 140;refine (hsup _ _ z r m k e s).mono ?_;rintro e9 W1 ⟨rfl,k1⟩;rw [hp];have C1:=hide (C0.o.any k1);have A1:=hide (A0.o.af k1);have R1:=hide (R0.o.af k1);have K1:=hide (K0.o.trans k1);have p1:=A1.o.all;have r1:=R1.o.all;have rf1:=R1.o.fz;have q12:=C1.o.cS;clear k1))
  have KR:=(((((ak W2 (w.heap.size+1) 0 (iv F.v)).one 1 (iv F.pc)).one 2 (iv F.ad)).one 3 (iv F.wo)).one 4 (.bool F.wr))
  refine bodyPost_ret (v:=.agg (ftA F)) ?_ rfl ⟨g',?_,?_,(S2.o).mine KR (by omega)⟩
  ·rw [aj rfl];go_simp
  ·rw [E1.o,←HF.o];rfl
  ·rw [E1.o];exact ((C2.o).kept KR (by omega) (by omega))
theorem PP (w:World) (lo b g:Nat) (c:Pl.Mc) (h:Bool) (op z r m k e s:Int) (hC:CAt w lo b g c h) (G:Pl.GM c) (hf:c.f=Pl.aH) (B:Pl.InB ⟨op,z,r,m,k,e,s⟩) (hop:op=2) (hm:m=0∨(2≤m∧m≤6)) :
  Calls prog 99 #[.pointer (some ⟨b,0,none⟩),.agg (inA op z r m k e s)] w fun e' w'=>∃g',e'=.returned (.agg (ftC (c.cr ⟨op,z,r,m,k,e,s⟩).f))∧CAt w' lo b g' (c.cr ⟨op,z,r,m,k,e,s⟩) h∧Since w b (b+1) g w' g':=by
 have HB:=hide B
 clear B
 obtain ⟨l0,l1,l2,l3,l4⟩:=hC.lt
 have HG:=hide G
 obtain ⟨X,hX,K0,C0,A0,R0,sX⟩:=hC.jh op z r m k e s
 have p:=A0.o.all
 clear hC G
 obtain ⟨E,hE⟩:∃E,E=c.gv ⟨op,z,r,m,k,e,s⟩:=⟨_,rfl⟩
 obtain ⟨F,hF⟩:∃F,F=E.f:=⟨_,rfl⟩
 have hp:Pl.iR ⟨op,z,r,m,k,e,s⟩=false:=by rw [hop];rfl
 have E1:Hid (c.cr ⟨op,z,r,m,k,e,s⟩=E):=hide (by unfold Pl.Mc.cr;rw [hp,hE];rw [hop];rfl)
 have HE:=hide hE
 have HF:=hide hF
 have hsup:=dO
 clear hE hF
 obtain rfl:=hop
 all_goals
  go_enter func99,ntmps99
  go_wp2_with (first|(go_at_call 142;refine (V8 _ lo b g c h _ z r m k e s C1.o HG.o hf HB.o hm).mono ?_;rintro e9 W2 ⟨g',rfl,hc,hs⟩;rw [←HE.o] at hc ⊢;rw [←HF.o];unfold ftC;have C2:=hide hc;have R2:=hide (hs.blk R1.o (by omega) (by omega));have n2:=hs.ne (b:=w.heap.size+1) R1.o.lt (by omega);have S2:=hide (((Since.refl w b (b+1) g).any K1.o).trans hs);have r2:=R2.o.all;have rf2:=R2.o.fz;clear hc hs)|(go_at_call 140;refine (hsup _ _ z r m k e s).mono ?_;rintro e9 W1 ⟨rfl,k1⟩;rw [hp];have C1:=hide (C0.o.any k1);have A1:=hide (A0.o.af k1);have R1:=hide (R0.o.af k1);have K1:=hide (K0.o.trans k1);have p1:=A1.o.all;have r1:=R1.o.all;have rf1:=R1.o.fz;have q12:=C1.o.cS;clear k1))
  have KR:=(((((ak W2 (w.heap.size+1) 0 (iv F.v)).one 1 (iv F.pc)).one 2 (iv F.ad)).one 3 (iv F.wo)).one 4 (.bool F.wr))
  refine bodyPost_ret (v:=.agg (ftA F)) ?_ rfl ⟨g',?_,?_,(S2.o).mine KR (by omega)⟩
  ·rw [aj rfl];go_simp
  ·rw [E1.o,←HF.o];rfl
  ·rw [E1.o];exact ((C2.o).kept KR (by omega) (by omega))
theorem PS (w:World) (lo b g:Nat) (c:Pl.Mc) (h:Bool) (op z r m k e s:Int) (hC:CAt w lo b g c h) (G:Pl.GM c) (hf:c.f=Pl.aH) (B:Pl.InB ⟨op,z,r,m,k,e,s⟩) (hop:op=11) (hm:m=0∨(2≤m∧m≤6)) (hs:s≤3) :
  Calls prog 99 #[.pointer (some ⟨b,0,none⟩),.agg (inA op z r m k e s)] w fun e' w'=>∃g',e'=.returned (.agg (ftC (c.cr ⟨op,z,r,m,k,e,s⟩).f))∧CAt w' lo b g' (c.cr ⟨op,z,r,m,k,e,s⟩) h∧Since w b (b+1) g w' g':=by
 have HB:=hide B
 clear B
 obtain ⟨l0,l1,l2,l3,l4⟩:=hC.lt
 have HG:=hide G
 obtain ⟨X,hX,K0,C0,A0,R0,sX⟩:=hC.jh op z r m k e s
 have p:=A0.o.all
 clear hC G
 obtain ⟨E,hE⟩:∃E,E=c.ch ⟨op,z,r,m,k,e,s⟩:=⟨_,rfl⟩
 obtain ⟨F,hF⟩:∃F,F=E.f:=⟨_,rfl⟩
 have hp:Pl.iR ⟨op,z,r,m,k,e,s⟩=false:=by rw [hop];rfl
 have E1:Hid (c.cr ⟨op,z,r,m,k,e,s⟩=E):=hide (by unfold Pl.Mc.cr;rw [hp,hE];rw [hop];rfl)
 have HE:=hide hE
 have HF:=hide hF
 have hsup:=dO
 clear hE hF
 obtain rfl:=hop
 all_goals
  go_enter func99,ntmps99
  go_wp2_with (first|(go_at_call 143;refine (Lt _ lo b g c h _ z r m k e s C1.o HG.o hf HB.o hs hm).mono ?_;rintro e9 W2 ⟨g',rfl,hc,hs⟩;rw [←HE.o] at hc ⊢;rw [←HF.o];unfold ftC;have C2:=hide hc;have R2:=hide (hs.blk R1.o (by omega) (by omega));have n2:=hs.ne (b:=w.heap.size+1) R1.o.lt (by omega);have S2:=hide (((Since.refl w b (b+1) g).any K1.o).trans hs);have r2:=R2.o.all;have rf2:=R2.o.fz;clear hc hs)|(go_at_call 140;refine (hsup _ _ z r m k e s).mono ?_;rintro e9 W1 ⟨rfl,k1⟩;rw [hp];have C1:=hide (C0.o.any k1);have A1:=hide (A0.o.af k1);have R1:=hide (R0.o.af k1);have K1:=hide (K0.o.trans k1);have p1:=A1.o.all;have r1:=R1.o.all;have rf1:=R1.o.fz;have q12:=C1.o.cS;clear k1))
  have KR:=(((((ak W2 (w.heap.size+1) 0 (iv F.v)).one 1 (iv F.pc)).one 2 (iv F.ad)).one 3 (iv F.wo)).one 4 (.bool F.wr))
  refine bodyPost_ret (v:=.agg (ftA F)) ?_ rfl ⟨g',?_,?_,(S2.o).mine KR (by omega)⟩
  ·rw [aj rfl];go_simp
  ·rw [E1.o,←HF.o];rfl
  ·rw [E1.o];exact ((C2.o).kept KR (by omega) (by omega))
theorem PL (w:World) (lo b g:Nat) (c:Pl.Mc) (h:Bool) (op z r m k e s:Int) (hC:CAt w lo b g c h) (G:Pl.GM c) (hf:c.f=Pl.aH) (B:Pl.InB ⟨op,z,r,m,k,e,s⟩) (hop:op=12) :
  Calls prog 99 #[.pointer (some ⟨b,0,none⟩),.agg (inA op z r m k e s)] w fun e' w'=>∃g',e'=.returned (.agg (ftC (c.cr ⟨op,z,r,m,k,e,s⟩).f))∧CAt w' lo b g' (c.cr ⟨op,z,r,m,k,e,s⟩) h∧Since w b (b+1) g w' g':=by
 have HB:=hide B
 clear B
 obtain ⟨l0,l1,l2,l3,l4⟩:=hC.lt
 have HG:=hide G
 obtain ⟨X,hX,K0,C0,A0,R0,sX⟩:=hC.jh op z r m k e s
 have p:=A0.o.all
 clear hC G
 obtain ⟨E,hE⟩:∃E,E=(c.put z r (Pl.jc s z c.r.f (c.low z r) (k+1))).aB (Pl.oI s z c.r.f (c.low z r) (k+1)):=⟨_,rfl⟩
 obtain ⟨F,hF⟩:∃F,F=E.f:=⟨_,rfl⟩
 have hp:Pl.iR ⟨op,z,r,m,k,e,s⟩=false:=by rw [hop];rfl
 have E1:Hid (c.cr ⟨op,z,r,m,k,e,s⟩=E):=hide (by unfold Pl.Mc.cr;rw [hp,hE];rw [hop];rfl)
 have EF:Hid (E.f=Pl.aH):=hide (by rw [hE];exact hf)
 have HE:=hide hE
 have HF:=hide hF
 have hsup:=dO
 clear hE hF
 obtain rfl:=hop
 all_goals
  go_enter func99,ntmps99
  go_wp2_with (first|(go_at_call 145;refine (TD _ lo b g c h _ z r m k e s C1.o HG.o HB.o).mono ?_;rintro e9 W2 ⟨rfl,hc,hk⟩;rw [←HE.o] at hc;have C2:=hide hc;have R2:=hide (R1.o.kept hk (by omega));have S2:=hide (((Since.refl w b (b+1) g).any K1.o).ai hk (Nat.le_refl _) (Nat.le_refl _));have r2:=R2.o.all;have rf2:=R2.o.fz;clear hc hk)|(go_at_call 140;refine (hsup _ _ z r m k e s).mono ?_;rintro e9 W1 ⟨rfl,k1⟩;rw [hp];have C1:=hide (C0.o.any k1);have A1:=hide (A0.o.af k1);have R1:=hide (R0.o.af k1);have K1:=hide (K0.o.trans k1);have p1:=A1.o.all;have r1:=R1.o.all;have rf1:=R1.o.fz;have q12:=C1.o.cS;clear k1))
  have KR:=(((((ak W2 (w.heap.size+1) 0 (iv 0)).one 1 (iv 0)).one 2 (iv 0)).one 3 (iv 0)).one 4 (.bool false))
  refine bodyPost_ret (v:=.agg ftZ) ?_ rfl ⟨g,?_,?_,(S2.o).mine KR (by omega)⟩
  ·rw [aj rfl];go_simp
  ·rw [E1.o,EF.o];rfl
  ·rw [E1.o];exact ((C2.o).kept KR (by omega) (by omega))
theorem PT (w:World) (lo b g:Nat) (c:Pl.Mc) (h:Bool) (op z r m k e s:Int) (hC:CAt w lo b g c h) (G:Pl.GM c) (hf:c.f=Pl.aH) (B:Pl.InB ⟨op,z,r,m,k,e,s⟩) (hop:op=13) (hr:r≤1) :
  Calls prog 99 #[.pointer (some ⟨b,0,none⟩),.agg (inA op z r m k e s)] w fun e' w'=>∃g',e'=.returned (.agg (ftC (c.cr ⟨op,z,r,m,k,e,s⟩).f))∧CAt w' lo b g' (c.cr ⟨op,z,r,m,k,e,s⟩) h∧Since w b (b+1) g w' g':=by
 have HB:=hide B
 clear B
 obtain ⟨l0,l1,l2,l3,l4⟩:=hC.lt
 have HG:=hide G
 obtain ⟨X,hX,K0,C0,A0,R0,sX⟩:=hC.jh op z r m k e s
 have p:=A0.o.all
 clear hC G
 obtain ⟨E,hE⟩:∃E,E=bif Pl.tst (s+8*r) c.r.f then c.aJ ((c.r.p-2+e)%65536) else c:=⟨_,rfl⟩
 obtain ⟨F,hF⟩:∃F,F=E.f:=⟨_,rfl⟩
 have hp:Pl.iR ⟨op,z,r,m,k,e,s⟩=false:=by rw [hop];rfl
 have E1:Hid (c.cr ⟨op,z,r,m,k,e,s⟩=E):=hide (by unfold Pl.Mc.cr;rw [hp,hE];rw [hop];rfl)
 have EF:Hid (E.f=Pl.aH):=hide (by rw [hE];cases Pl.tst (s+8*r) c.r.f<;>exact hf)
 have HE:=hide hE
 have HF:=hide hF
 have hsup:=dO
 clear hE hF
 obtain rfl:=hop
 all_goals
  go_enter func99,ntmps99
  go_wp2_with (first|(go_at_call 146;refine (PU _ lo b g c h _ z r m k e s C1.o HG.o HB.o hr).mono ?_;rintro e9 W2 ⟨rfl,hc,hk⟩;rw [←HE.o] at hc;have C2:=hide hc;have R2:=hide (R1.o.kept hk (by omega));have S2:=hide (((Since.refl w b (b+1) g).any K1.o).ai hk (Nat.le_refl _) (Nat.le_refl _));have r2:=R2.o.all;have rf2:=R2.o.fz;clear hc hk)|(go_at_call 140;refine (hsup _ _ z r m k e s).mono ?_;rintro e9 W1 ⟨rfl,k1⟩;rw [hp];have C1:=hide (C0.o.any k1);have A1:=hide (A0.o.af k1);have R1:=hide (R0.o.af k1);have K1:=hide (K0.o.trans k1);have p1:=A1.o.all;have r1:=R1.o.all;have rf1:=R1.o.fz;have q12:=C1.o.cS;clear k1))
  have KR:=(((((ak W2 (w.heap.size+1) 0 (iv 0)).one 1 (iv 0)).one 2 (iv 0)).one 3 (iv 0)).one 4 (.bool false))
  refine bodyPost_ret (v:=.agg ftZ) ?_ rfl ⟨g,?_,?_,(S2.o).mine KR (by omega)⟩
  ·rw [aj rfl];go_simp
  ·rw [E1.o,EF.o];rfl
  ·rw [E1.o];exact ((C2.o).kept KR (by omega) (by omega))
theorem PO (w:World) (lo b g:Nat) (c:Pl.Mc) (h:Bool) (op z r m k e s:Int) (hC:CAt w lo b g c h) (G:Pl.GM c) (hf:c.f=Pl.aH) (B:Pl.InB ⟨op,z,r,m,k,e,s⟩) (hop:op=14) (hs:s≤1) :
  Calls prog 99 #[.pointer (some ⟨b,0,none⟩),.agg (inA op z r m k e s)] w fun e' w'=>∃g',e'=.returned (.agg (ftC (c.cr ⟨op,z,r,m,k,e,s⟩).f))∧CAt w' lo b g' (c.cr ⟨op,z,r,m,k,e,s⟩) h∧Since w b (b+1) g w' g':=by
 have HB:=hide B
 clear B
 obtain ⟨l0,l1,l2,l3,l4⟩:=hC.lt
 have HG:=hide G
 obtain ⟨X,hX,K0,C0,A0,R0,sX⟩:=hC.jh op z r m k e s
 have p:=A0.o.all
 clear hC G
 obtain ⟨E,hE⟩:∃E,E=c.jp ⟨op,z,r,m,k,e,s⟩:=⟨_,rfl⟩
 obtain ⟨F,hF⟩:∃F,F=E.f:=⟨_,rfl⟩
 have hp:Pl.iR ⟨op,z,r,m,k,e,s⟩=false:=by rw [hop];rfl
 have E1:Hid (c.cr ⟨op,z,r,m,k,e,s⟩=E):=hide (by unfold Pl.Mc.cr;rw [hp,hE];rw [hop];rfl)
 have HE:=hide hE
 have HF:=hide hF
 have hsup:=dO
 clear hE hF
 obtain rfl:=hop
 all_goals
  go_enter func99,ntmps99
  go_wp2_with (first|(go_at_call 147;refine (TN _ lo b g c h _ z r m k e s C1.o HG.o hf HB.o hs).mono ?_;rintro e9 W2 ⟨g',rfl,hc,hs⟩;rw [←HE.o] at hc ⊢;rw [←HF.o];unfold ftC;have C2:=hide hc;have R2:=hide (hs.blk R1.o (by omega) (by omega));have n2:=hs.ne (b:=w.heap.size+1) R1.o.lt (by omega);have S2:=hide (((Since.refl w b (b+1) g).any K1.o).trans hs);have r2:=R2.o.all;have rf2:=R2.o.fz;clear hc hs)|(go_at_call 140;refine (hsup _ _ z r m k e s).mono ?_;rintro e9 W1 ⟨rfl,k1⟩;rw [hp];have C1:=hide (C0.o.any k1);have A1:=hide (A0.o.af k1);have R1:=hide (R0.o.af k1);have K1:=hide (K0.o.trans k1);have p1:=A1.o.all;have r1:=R1.o.all;have rf1:=R1.o.fz;have q12:=C1.o.cS;clear k1))
  have KR:=(((((ak W2 (w.heap.size+1) 0 (iv F.v)).one 1 (iv F.pc)).one 2 (iv F.ad)).one 3 (iv F.wo)).one 4 (.bool F.wr))
  refine bodyPost_ret (v:=.agg (ftA F)) ?_ rfl ⟨g',?_,?_,(S2.o).mine KR (by omega)⟩
  ·rw [aj rfl];go_simp
  ·rw [E1.o,←HF.o];rfl
  ·rw [E1.o];exact ((C2.o).kept KR (by omega) (by omega))
theorem PR (w:World) (lo b g:Nat) (c:Pl.Mc) (h:Bool) (op z r m k e s:Int) (hC:CAt w lo b g c h) (G:Pl.GM c) (hf:c.f=Pl.aH) (B:Pl.InB ⟨op,z,r,m,k,e,s⟩) (hop:op=18) (hs:s≤1) (ht:jF w lo) :
  Calls prog 99 #[.pointer (some ⟨b,0,none⟩),.agg (inA op z r m k e s)] w fun e' w'=>∃g',e'=.returned (.agg (ftC (c.cr ⟨op,z,r,m,k,e,s⟩).f))∧CAt w' lo b g' (c.cr ⟨op,z,r,m,k,e,s⟩) h∧Since w b (b+1) g w' g':=by
 have HB:=hide B
 clear B
 obtain ⟨l0,l1,l2,l3,l4⟩:=hC.lt
 have HG:=hide G
 obtain ⟨X,hX,K0,C0,A0,R0,sX⟩:=hC.jh op z r m k e s
 have p:=A0.o.all
 clear hC G
 obtain ⟨E,hE⟩:∃E,E=c.bd ⟨op,z,r,m,k,e,s⟩:=⟨_,rfl⟩
 obtain ⟨F,hF⟩:∃F,F=E.f:=⟨_,rfl⟩
 have hp:Pl.iR ⟨op,z,r,m,k,e,s⟩=false:=by rw [hop];rfl
 have E1:Hid (c.cr ⟨op,z,r,m,k,e,s⟩=E):=hide (by unfold Pl.Mc.cr;rw [hp,hE];rw [hop];rfl)
 have TB:=hide ht
 have HE:=hide hE
 have HF:=hide hF
 have hsup:=dO
 clear hE hF
 obtain rfl:=hop
 all_goals
  go_enter func99,ntmps99
  go_wp2_with (first|(go_at_call 149;refine (We _ lo b g c h _ z r m k e s C1.o HG.o hf HB.o hs (TB.o.any K1.o)).mono ?_;rintro e9 W2 ⟨g',rfl,hc,hs⟩;rw [←HE.o] at hc ⊢;rw [←HF.o];unfold ftC;have C2:=hide hc;have R2:=hide (hs.blk R1.o (by omega) (by omega));have n2:=hs.ne (b:=w.heap.size+1) R1.o.lt (by omega);have S2:=hide (((Since.refl w b (b+1) g).any K1.o).trans hs);have r2:=R2.o.all;have rf2:=R2.o.fz;clear hc hs)|(go_at_call 140;refine (hsup _ _ z r m k e s).mono ?_;rintro e9 W1 ⟨rfl,k1⟩;rw [hp];have C1:=hide (C0.o.any k1);have A1:=hide (A0.o.af k1);have R1:=hide (R0.o.af k1);have K1:=hide (K0.o.trans k1);have p1:=A1.o.all;have r1:=R1.o.all;have rf1:=R1.o.fz;have q12:=C1.o.cS;clear k1))
  have KR:=(((((ak W2 (w.heap.size+1) 0 (iv F.v)).one 1 (iv F.pc)).one 2 (iv F.ad)).one 3 (iv F.wo)).one 4 (.bool F.wr))
  refine bodyPost_ret (v:=.agg (ftA F)) ?_ rfl ⟨g',?_,?_,(S2.o).mine KR (by omega)⟩
  ·rw [aj rfl];go_simp
  ·rw [E1.o,←HF.o];rfl
  ·rw [E1.o];exact ((C2.o).kept KR (by omega) (by omega))
theorem PQ (w:World) (lo b g:Nat) (c:Pl.Mc) (h:Bool) (op z r m k e s:Int) (hC:CAt w lo b g c h) (G:Pl.GM c) (hf:c.f=Pl.aH) (B:Pl.InB ⟨op,z,r,m,k,e,s⟩) (hop:op=15) (hs:s≤6) (he:s=3→e≤1023) :
  Calls prog 99 #[.pointer (some ⟨b,0,none⟩),.agg (inA op z r m k e s)] w fun e' w'=>∃g',e'=.returned (.agg (ftC (c.cr ⟨op,z,r,m,k,e,s⟩).f))∧CAt w' lo b g' (c.cr ⟨op,z,r,m,k,e,s⟩) h∧Since w b (b+1) g w' g':=by
 have HB:=hide B
 clear B
 obtain ⟨l0,l1,l2,l3,l4⟩:=hC.lt
 have HG:=hide G
 obtain ⟨X,hX,K0,C0,A0,R0,sX⟩:=hC.jh op z r m k e s
 have p:=A0.o.all
 clear hC G
 obtain rfl:=hop
 obtain ⟨E,hE⟩:∃E,E=c.fw ⟨15,z,r,m,k,e,s⟩:=⟨_,rfl⟩
 obtain ⟨F,hF⟩:∃F,F=E.f:=⟨_,rfl⟩
 have ET:Hid (c.cr' ⟨15,z,r,m,k,e,s⟩=E):=hide (by rw [hE];rfl)
 have HE:=hide hE
 have HF:=hide hF
 clear hE hF
 rcases Bool.eq_false_or_eq_true c.r.s with hss|hss<;>cases hp:Pl.iR ⟨15,z,r,m,k,e,s⟩
 case inr.true=>
  have E1:Hid (c.cr ⟨15,z,r,m,k,e,s⟩={c with f:=⟨8,0,0,0,false⟩}):=hide (by unfold Pl.Mc.cr;rw [hp,hss];rfl)
  have HSS:=hide hss
  clear hss
  go_enter func99,ntmps99
  go_wp2_with (first|(go_at_call 140;refine (dO _ _ z _ m k e s).mono ?_;rintro e9 W1 ⟨rfl,k1⟩;rw [hp];have C1:=hide (C0.o.any k1);have A1:=hide (A0.o.af k1);have R1:=hide (R0.o.af k1);have K1:=hide (K0.o.trans k1);have p1:=A1.o.all;have r1:=R1.o.all;have rf1:=R1.o.fz;have q12:=C1.o.cS;rw [HSS.o] at q12;clear k1))
  have KR:=(((((ak W1 (w.heap.size+1) 0 (iv 8)).one 1 (iv 0)).one 2 (iv 0)).one 3 (iv 0)).one 4 (.bool false))
  refine bodyPost_ret (v:=.agg #[iv 8,iv 0,iv 0,iv 0,.bool false]) ?_ rfl ⟨g,?_,?_,((Since.refl w b (b+1) g).any K1.o).mine KR (by omega)⟩
  ·rw [aj rfl];go_simp
  ·rw [E1.o];rfl
  ·rw [E1.o];exact ((C1.o).kept KR (by omega) (by omega)).fx rfl rfl rfl rfl rfl
 all_goals
  have E1:Hid (c.cr ⟨15,z,r,m,k,e,s⟩=E):=hide (by unfold Pl.Mc.cr;rw [hp,hss];exact ET.o)
  have HSS:=hide hss
  clear hss
  go_enter func99,ntmps99
  go_wp2_with (first|(go_at_call 148;refine (TR _ lo b g c h _ z r m k e s C1.o HG.o hf HB.o hs he).mono ?_;rintro e9 W2 ⟨g',rfl,hc,hs⟩;rw [←HE.o] at hc ⊢;rw [←HF.o];unfold ftC;have C2:=hide hc;have R2:=hide (hs.blk R1.o (by omega) (by omega));have n2:=hs.ne (b:=w.heap.size+1) R1.o.lt (by omega);have S2:=hide (((Since.refl w b (b+1) g).any K1.o).trans hs);have r2:=R2.o.all;have rf2:=R2.o.fz;clear hc hs)|(go_at_call 140;refine (dO _ _ z _ m k e s).mono ?_;rintro e9 W1 ⟨rfl,k1⟩;rw [hp];have C1:=hide (C0.o.any k1);have A1:=hide (A0.o.af k1);have R1:=hide (R0.o.af k1);have K1:=hide (K0.o.trans k1);have p1:=A1.o.all;have r1:=R1.o.all;have rf1:=R1.o.fz;have q12:=C1.o.cS;rw [HSS.o] at q12;clear k1))
  have KR:=(((((ak W2 (w.heap.size+1) 0 (iv F.v)).one 1 (iv F.pc)).one 2 (iv F.ad)).one 3 (iv F.wo)).one 4 (.bool F.wr))
  refine bodyPost_ret (v:=.agg (ftA F)) ?_ rfl ⟨g',?_,?_,(S2.o).mine KR (by omega)⟩
  ·rw [aj rfl];go_simp
  ·rw [E1.o,←HF.o];rfl
  ·rw [E1.o];exact ((C2.o).kept KR (by omega) (by omega))
theorem PM (w:World) (lo b g:Nat) (c:Pl.Mc) (h:Bool) (op z r m k e s:Int) (hC:CAt w lo b g c h) (G:Pl.GM c) (hf:c.f=Pl.aH) (B:Pl.InB ⟨op,z,r,m,k,e,s⟩) (hop:op=19) (hs:s≤1) (he:s=0→e≤1023) :
  Calls prog 99 #[.pointer (some ⟨b,0,none⟩),.agg (inA op z r m k e s)] w fun e' w'=>∃g',e'=.returned (.agg (ftC (c.cr ⟨op,z,r,m,k,e,s⟩).f))∧CAt w' lo b g' (c.cr ⟨op,z,r,m,k,e,s⟩) h∧Since w b (b+1) g w' g':=by
 have HB:=hide B
 clear B
 obtain ⟨l0,l1,l2,l3,l4⟩:=hC.lt
 have HG:=hide G
 obtain ⟨X,hX,K0,C0,A0,R0,sX⟩:=hC.jh op z r m k e s
 have p:=A0.o.all
 clear hC G
 obtain rfl:=hop
 obtain ⟨E,hE⟩:∃E,E=c.mvs ⟨19,z,r,m,k,e,s⟩:=⟨_,rfl⟩
 obtain ⟨F,hF⟩:∃F,F=E.f:=⟨_,rfl⟩
 have ET:Hid (c.cr' ⟨19,z,r,m,k,e,s⟩=E):=hide (by rw [hE];rfl)
 have EF:Hid (E.f=Pl.aH):=hide (by rw [hE];unfold Pl.Mc.mvs;cases s==0<;>exact hf)
 have HE:=hide hE
 have HF:=hide hF
 clear hE hF
 rcases Bool.eq_false_or_eq_true c.r.s with hss|hss<;>cases hp:Pl.iR ⟨19,z,r,m,k,e,s⟩
 case inr.true=>
  have E1:Hid (c.cr ⟨19,z,r,m,k,e,s⟩={c with f:=⟨8,0,0,0,false⟩}):=hide (by unfold Pl.Mc.cr;rw [hp,hss];rfl)
  have HSS:=hide hss
  clear hss
  go_enter func99,ntmps99
  go_wp2_with (first|(go_at_call 140;refine (dO _ _ z _ m k e s).mono ?_;rintro e9 W1 ⟨rfl,k1⟩;rw [hp];have C1:=hide (C0.o.any k1);have A1:=hide (A0.o.af k1);have R1:=hide (R0.o.af k1);have K1:=hide (K0.o.trans k1);have p1:=A1.o.all;have r1:=R1.o.all;have rf1:=R1.o.fz;have q12:=C1.o.cS;rw [HSS.o] at q12;clear k1))
  have KR:=(((((ak W1 (w.heap.size+1) 0 (iv 8)).one 1 (iv 0)).one 2 (iv 0)).one 3 (iv 0)).one 4 (.bool false))
  refine bodyPost_ret (v:=.agg #[iv 8,iv 0,iv 0,iv 0,.bool false]) ?_ rfl ⟨g,?_,?_,((Since.refl w b (b+1) g).any K1.o).mine KR (by omega)⟩
  ·rw [aj rfl];go_simp
  ·rw [E1.o];rfl
  ·rw [E1.o];exact ((C1.o).kept KR (by omega) (by omega)).fx rfl rfl rfl rfl rfl
 all_goals
  have E1:Hid (c.cr ⟨19,z,r,m,k,e,s⟩=E):=hide (by unfold Pl.Mc.cr;rw [hp,hss];exact ET.o)
  have HSS:=hide hss
  clear hss
  go_enter func99,ntmps99
  go_wp2_with (first|(go_at_call 150;refine (TK _ lo b g c h _ z r m k e s C1.o HG.o hf HB.o hs he).mono ?_;rintro e9 W2 ⟨rfl,hc,hk⟩;rw [←HE.o] at hc;have C2:=hide hc;have R2:=hide (R1.o.kept hk (by omega));have S2:=hide (((Since.refl w b (b+1) g).any K1.o).ai hk (Nat.le_refl _) (Nat.le_refl _));have r2:=R2.o.all;have rf2:=R2.o.fz;clear hc hk)|(go_at_call 140;refine (dO _ _ z _ m k e s).mono ?_;rintro e9 W1 ⟨rfl,k1⟩;rw [hp];have C1:=hide (C0.o.any k1);have A1:=hide (A0.o.af k1);have R1:=hide (R0.o.af k1);have K1:=hide (K0.o.trans k1);have p1:=A1.o.all;have r1:=R1.o.all;have rf1:=R1.o.fz;have q12:=C1.o.cS;rw [HSS.o] at q12;clear k1))
  have KR:=(((((ak W2 (w.heap.size+1) 0 (iv 0)).one 1 (iv 0)).one 2 (iv 0)).one 3 (iv 0)).one 4 (.bool false))
  refine bodyPost_ret (v:=.agg ftZ) ?_ rfl ⟨g,?_,?_,(S2.o).mine KR (by omega)⟩
  ·rw [aj rfl];go_simp
  ·rw [E1.o,EF.o];rfl
  ·rw [E1.o];exact ((C2.o).kept KR (by omega) (by omega))
theorem PN (w:World) (lo b g:Nat) (c:Pl.Mc) (h:Bool) (op z r m k e s:Int) (hC:CAt w lo b g c h) (G:Pl.GM c) (hf:c.f=Pl.aH) (B:Pl.InB ⟨op,z,r,m,k,e,s⟩) (hop:op=10) :
  Calls prog 99 #[.pointer (some ⟨b,0,none⟩),.agg (inA op z r m k e s)] w fun e' w'=>∃g',e'=.returned (.agg (ftC (c.cr ⟨op,z,r,m,k,e,s⟩).f))∧CAt w' lo b g' (c.cr ⟨op,z,r,m,k,e,s⟩) h∧Since w b (b+1) g w' g':=by
 have HB:=hide B
 clear B
 obtain ⟨l0,l1,l2,l3,l4⟩:=hC.lt
 have HG:=hide G
 obtain ⟨X,hX,K0,C0,A0,R0,sX⟩:=hC.jh op z r m k e s
 have p:=A0.o.all
 clear hC G
 obtain rfl:=hop
 have hp:Pl.iR ⟨10,z,r,m,k,e,s⟩=false:=rfl
 obtain ⟨n,rfl⟩:∃n:Nat,r=(n:Int):=⟨r.toNat,by have:0≤r:=HB.o.r0;omega⟩
 have hn:n<4:=by have:(n:Int)≤3:=HB.o.r1;omega
 have i0:(0:Int)≤(n:Int):=by omega
 have i1:(n:Int)<4:=by omega
 obtain ⟨D,hD⟩:∃D,D=c.slot z m k e:=⟨_,rfl⟩
 obtain ⟨a,ha⟩:∃a,a=c.readA z m k e:=⟨_,rfl⟩
 have GD:Hid (Pl.GM D):=hide (by rw [hD];exact HG.o.slot HB.o.k0 HB.o.k1)
 have DF:Hid (D.f=Pl.aH):=hide (by rw [hD];unfold Pl.Mc.slot;cases Pl.Mc.gI m<;>exact hf)
 have E1:Hid (c.cr ⟨10,z,(n:Int),m,k,e,s⟩=D.fM n a):=hide (by unfold Pl.Mc.cr;rw [hp,hD,ha];rfl)
 have HA:=hide ha
 obtain ⟨T,U,hW⟩:=lh m k e
 have HW:=hide hW
 have HD:=hide hD
 have sa:=uT T U z a
 clear ha hW hD
 go_enter func99,ntmps99
 go_wp2_with (first|(go_at_call 140;refine (dO _ _ z _ m k e s).mono ?_;rintro e9 W1 ⟨rfl,k1⟩;rw [hp];have C1:=hide (C0.o.any k1);have A1:=hide (A0.o.af k1);have R1:=hide (R0.o.af k1);have K1:=hide (K0.o.trans k1);have p1:=A1.o.all;have r1:=R1.o.all;have rf1:=R1.o.fz;have q12:=C1.o.cS;clear k1))
 obtain ⟨u0,u1,u2,u3,u4,u5,u6⟩:=A1.o.c7
 go_region_held3 (fun w'=>w'.cell? ⟨w.heap.size,0,none⟩=some (iv 10)∧w'.cell? ⟨w.heap.size,1,none⟩=some (iv z)∧w'.cell? ⟨w.heap.size,2,none⟩=some (iv (n:Int))∧w'.cell? ⟨w.heap.size,3,none⟩=some (iv m)∧w'.cell? ⟨w.heap.size,4,none⟩=some (iv k)∧w'.cell? ⟨w.heap.size,5,none⟩=some (iv e)∧w'.cell? ⟨w.heap.size,6,none⟩=some (iv s)) (first|with_reducible exact A2.o.c7|with_reducible exact (A2.o.other b (4+n) (iv a) (by omega)).c7|exact (show Blk _ _ _ _ from A1.o).c7)
  (first|(go_at_call 144;refine (rU _ lo b g c h ⟨10,z,(n:Int),m,k,e,s⟩ C1.o.drew HG.o HB.o).mono ?_;rintro e9 W2 ⟨rfl,hc,hkd⟩;have hk:=bW hkd;rw [←HA.o,HW.o];rw [←HD.o] at hc;have C2:=hide hc;have A2:=hide (A1.o.kept hk (by omega));have R2:=hide (R1.o.kept hk (by omega));have S2:=hide (((Since.refl w b (b+1) g).any K1.o).ai hk (Nat.le_refl _) (Nat.le_refl _));have cy:=hc.cY hn;have cz:=hc.fz;clear hc hk hkd))
 have rr:=(R2.o.other b (4+n) (iv a) (by omega)).all
 have rz:=(R2.o.other b (4+n) (iv a) (by omega)).fz
 go_wp2_with fail
 have KR:=(((((ak (W2.setCell ⟨b,4+n,none⟩ (iv a)) (w.heap.size+1) 0 (iv 0)).one 1 (iv 0)).one 2 (iv 0)).one 3 (iv 0)).one 4 (.bool false))
 refine bodyPost_ret (v:=.agg ftZ) ?_ rfl ⟨g,?_,?_,(S2.o.set b (4+n) (iv a) (.inl (by omega))).mine KR (by omega)⟩
 ·rw [aj rfl];go_simp
 ·rw [E1.o,show (D.fM n a).f=Pl.aH from DF.o];rfl
 ·rw [E1.o];exact ((C2.o.uX GD.o.g.a4 hn a).kept KR (by omega) (by omega))
end Go.Proofs.YtblddehlkaolbaaGreatDoor
namespace Go.Proofs.YtblddehlkaolbaaGreatDoor.Pl
open Go.RowKit Go.Proofs.Tryz
set_option linter.unusedVariables false
def Mc.wf (c:Mc) (p q:Int):Mc:={c with f:={c.f with pc:=p,wo:=q}}
def iW (v:Int):Bool:=(v==5)||decide (18≤v)
structure Same (a b q:Int) (m d:Mc):Prop where
 bx:m.bx=d.bx
 bl:m.bl=d.bl
 bm:m.bm=d.bm
 st:m.st=d.st
 ok:d.f.v=0→m.f.v=0∧m.r=d.r∧d.f=aH
 no:d.f.v≠0→m.f=⟨d.f.v,bif iW d.f.v then b else a,d.f.ad,q,d.f.wr⟩
theorem Qj (f:Ft) (p q k s a:Int):Mc.fA {f with pc:=p,wo:=q} k s a={Mc.fA f k s a with pc:=p,wo:=q}:=by
 unfold Mc.fA
 cases h:(code k s a != 0)&&(f.v==0)<;>rfl
section
variable (c:Mc) (p q:Int)
theorem acc_wf (k s a v:Int):(c.wf p q).acc k s a v=(c.acc k s a v).wf p q:=by
 show Mc.mk _ _ _ _ _ (Mc.fA {c.f with pc:=p,wo:=q} k s a)=_
 rw [Qj];rfl
theorem uA (z m k e:Int):(c.wf p q).read z m k e=(c.read z m k e).wf p q:=by
 unfold Mc.read
 cases Mc.gI m
 ·exact acc_wf (c.plc z m k e) p q 1 z (bZ c.r z m k e) 0
 ·rfl
theorem qR (z m k a v:Int):(c.wf p q).write z m k a v=(c.write z m k a v).wf p q:=by
 unfold Mc.write
 cases m==0
 ·exact acc_wf c p q 2 z a v
 ·rfl
theorem qZ (z m k e:Int):(c.wf p q).place z m k e=(c.place z m k e).wf p q:=by
 unfold Mc.place
 cases m==0<;>rfl
theorem NM (v:Int):(c.wf p q).push v=(c.push v).wf p q:=by
 unfold Mc.push
 rw [show (c.wf p q).spA=c.spA from rfl,acc_wf]
 show (bif (c.acc 2 2 c.spA v).fine then _ else _)=_
 cases (c.acc 2 2 c.spA v).fine<;>rfl
theorem AU:(c.wf p q).pop=c.pop.wf p q:=by
 unfold Mc.pop
 rw [show (c.wf p q).r=c.r from rfl,acc_wf]
 show (bif (c.acc 1 2 (el c.r.ys 3) 0).fine then _ else _)=_
 cases (c.acc 1 2 (el c.r.ys 3) 0).fine<;>rfl
end
def Mc.bus (c:Mc):Prop:=c.f=aH∨c.f.v=2∨c.f.v=3
theorem nD {f:Ft} (h:f=aH∨f.v=2∨f.v=3) (k s a:Int):Mc.fA f k s a=aH∨(Mc.fA f k s a).v=2∨(Mc.fA f k s a).v=3:=by
 unfold Mc.fA
 cases (code k s a != 0)&&(f.v==0)
 ·exact h
 ·cases code k s a==2
  ·exact .inr (.inl rfl)
  ·exact .inr (.inr rfl)
theorem Mc.bus.read {c:Mc} (h:c.bus) (z m k e:Int):(c.read z m k e).bus:=by
 unfold Mc.read
 cases Mc.gI m
 ·exact nD h _ _ _
 ·exact h
theorem Mc.bus.write {c:Mc} (h:c.bus) (z m k a v:Int):(c.write z m k a v).bus:=by
 unfold Mc.write
 cases m==0
 ·exact nD h _ _ _
 ·exact h
theorem Mc.bus.push {c:Mc} (h:c.bus) (v:Int):(c.push v).bus:=by
 unfold Mc.push
 cases (c.acc 2 2 c.spA v).fine
 ·exact nD h _ _ _
 ·exact nD h _ _ _
theorem Mc.bus.pop {c:Mc} (h:c.bus):c.pop.bus:=by
 unfold Mc.pop
 cases (c.acc 1 2 (el c.r.ys 3) 0).fine
 ·exact nD h _ _ _
 ·exact nD h _ _ _
theorem Same.wf {a b q:Int} {d:Mc} (h:d.bus):Same a b q (d.wf a q) d:=
 ⟨rfl,rfl,rfl,rfl,fun e=>⟨e,rfl,by rcases h with h|h|h<;>first|exact h|(rw [h] at e;cases e)⟩,fun e=>by
  have:iW d.f.v=false:=by rcases h with h|h|h<;>rw [h]<;>rfl
  rw [this];rfl⟩
theorem Same.wr {a b q:Int} {d e:Mc} (h:d.bus) (hv:d.fine=false) (bx:e.bx=d.bx) (bl:e.bl=d.bl) (bm:e.bm=d.bm) (st:e.st=d.st) (f:e.f=d.f):Same a b q (d.wf a q) e:=by
 have hv0:d.f.v≠0:=by intro k;unfold Mc.fine at hv;rw [k] at hv;cases hv
 refine ⟨bx.symm,bl.symm,bm.symm,st.symm,fun k => ?_,fun k => ?_⟩
 ·rw [f] at k;exact absurd k hv0
 ·have:iW d.f.v=false:=by rcases h with h|h|h<;>rw [h]<;>rfl
  rw [f,this];rfl
section
variable {c:Mc}
theorem kU (z m k e:Int) (hm:m=0∨(2≤m∧m≤6)):c.slot z m k e=c.place z m k e∧c.readA z m k e=c.iL z m k e:=by
 have:m=0∨m=2∨m=3∨m=4∨m=5∨m=6:=by omega
 rcases this with rfl|rfl|rfl|rfl|rfl|rfl<;>exact ⟨rfl,rfl⟩
theorem nH (z m k a v f:Int):(c.aB f).write z m k a v=(c.write z m k a v).aB f:=by
 unfold Mc.write
 cases m==0<;>rfl
theorem Ba (z m k e f:Int):(c.aB f).place z m k e=(c.place z m k e).aB f:=by
 unfold Mc.place
 cases m==0
 ·show ({c.aB f with r:=cZ (c.aB f).r z m k e}:Mc)=_
  unfold cZ
  by_cases h3:m=3
  ·simp only [h3,if_true];rfl
  ·by_cases h4:m=4
   ·simp only [h4,if_true];rfl
   ·simp only [h3,h4,if_false]
    show _=(c.dh (cZ c.r z m k e)).aB f
    unfold cZ
    simp only [h3,h4,if_false];rfl
 ·rfl
theorem Hq {xs:List Int} {k:Nat} {v:Int} (hk:k<xs.length) (h:v=el xs k):xs.set k v=xs:=by
 apply List.ext_getElem?
 intro j
 by_cases e:k=j
 ·subst e
  rw [List.getElem?_set_self hk,h]
  simp [el,hk]
 ·rw [List.getElem?_set_ne e]
theorem NK (G:GM c) {z r:Int} (hz:z=1∨z=2) (r0:0≤r) (r1:r≤3):c.put z r (c.low z r)=c:=by
 have hl:r.toNat<c.r.xs.length:=by rw [G.g.d4];omega
 have hb:=G.g.dw r.toNat (by omega)
 have e:(if z=1 then el c.r.xs r.toNat/256*256+c.low z r else c.low z r)=el c.r.xs r.toNat:=by
  unfold Mc.low
  rcases hz with rfl|rfl
  ·simp [top];omega
  ·simp [top];omega
 show ({c with r:={c.r with xs:=c.r.xs.set r.toNat (if z=1 then el c.r.xs r.toNat/256*256+c.low z r else c.low z r)}}:Mc)=c
 rw [Hq hl e]
end
theorem Vf {a:Int} (h0:0≤a) (h1:a≤31):bits .or .i64 a 0=a:=by
 obtain ⟨n,rfl⟩:∃n:Nat,a=(n:Int):=⟨a.toNat,by omega⟩
 have:=(bits_nat n 0 (by omega) (by omega)).2.1
 rw [show ((0:Nat):Int)=0 from rfl] at this
 rw [this,Nat.or_zero]
variable {c:Mc} {a b q:Int}
theorem jC (hf:c.f=aH):c.bus:=.inl hf
theorem NF (hf:c.f=aH) (x:In) (hm:x.m=0∨(2≤x.m∧x.m≤6)):Same a b q ((c.wf a q).from' x) (c.gv x):=by
 obtain ⟨e1,e2⟩:=kU (c:=c.aB (aQ x.z c.r.f (c.low x.z x.r))) x.z x.m x.k x.e hm
 have e3:=(kU (c:=c) x.z x.m x.k x.e hm).2
 have e:(c.wf a q).from' x=(c.gv x).wf a q:=by
  unfold Mc.from' Mc.gv
  rw [e1,e3,Ba,nH,qZ]
  show (((c.place x.z x.m x.k x.e).wf a q).write x.z x.m x.k (c.iL x.z x.m x.k x.e) (c.low x.z x.r)).aB (aQ x.z c.r.f (c.low x.z x.r))=_
  rw [qR];rfl
 rw [e]
 refine Same.wf ?_
 unfold Mc.gv
 refine Mc.bus.write ?_ _ _ _ _ _
 unfold Mc.slot
 cases Mc.gI x.m<;>exact jC hf
theorem ND (hf:c.f=aH) (x:In) (ho:x.op=9) (hz:x.z=2):Same a b q (bif ((c.wf a q).read 2 x.m x.k x.e).fine then ((c.wf a q).read 2 x.m x.k x.e).fM x.r.toNat ((c.wf a q).aY 2 x.m x.k x.e) else (c.wf a q).read 2 x.m x.k x.e) (c.tk x):=by
 have hb:=(jC hf).read 2 x.m x.k x.e
 unfold Mc.tk Mc.tk'
 rw [ho,hz,uA]
 show Same a b q (bif (c.read 2 x.m x.k x.e).fine then ((c.read 2 x.m x.k x.e).wf a q).fM x.r.toNat (c.aY 2 x.m x.k x.e) else (c.read 2 x.m x.k x.e).wf a q) _
 cases (c.read 2 x.m x.k x.e).fine
 ·exact Same.wf hb
 ·exact Same.wf (d:=(c.read 2 x.m x.k x.e).fM x.r.toNat (c.aY 2 x.m x.k x.e)) hb
theorem H6 (hf:c.f=aH) (x:In) (hz:x.z=2) (hm:x.m=0∨(2≤x.m∧x.m≤6)):Same a b q (((c.wf a q).place 2 x.m x.k x.e).fM x.r.toNat ((c.wf a q).iL 2 x.m x.k x.e)) (c.lea x):=by
 obtain ⟨e1,e2⟩:=kU (c:=c) 2 x.m x.k x.e hm
 unfold Mc.lea
 rw [hz,e1,e2,qZ]
 refine Same.wf (d:=(c.place 2 x.m x.k x.e).fM x.r.toNat (c.iL 2 x.m x.k x.e)) ?_
 show (c.place 2 x.m x.k x.e).bus
 unfold Mc.place
 cases x.m==0<;>exact jC hf
theorem Q8 (G:GM c) (x:In) (B:InB x) (ho:x.op=1∨x.op=3∨x.op=4∨x.op=5∨x.op=6∨x.op=7∨x.op=8) (v:Int) (hv:okv x.z v=true) :
  c.two' x (c.low x.z x.r) v=c.tk' x.op x.z x.r v:=by
 have hq:=fJ G B.z B.r0 B.r1
 obtain ⟨b1,b2,b3⟩:=mV hq hv
 have dat:∀u,okv x.z u=true→c.data x.z x.r u=(c.put x.z x.r u).aB (bits .or .i64 (aQ x.z c.r.f u) (fl (0 != (0:Int)) 2)):=by
  intro u hu
  have h:=dX x.z c.r.f u hu (bG G)
  rw [show fl (0 != (0:Int)) 2=0 from rfl,Vf h.1 h.2]
  rfl
 unfold Mc.two' Mc.tk' cbV cbF cbM cbU
 rcases ho with h|h|h|h|h|h|h<;>rw [h]
 ·exact dat v hv
 ·rfl
 ·rfl
 ·exact dat _ b1
 ·exact dat _ b2
 ·exact dat _ b3
 ·show c.aB (oH x.z c.r.f (c.low x.z x.r) v)=(c.put x.z x.r (c.low x.z x.r)).aB (oH x.z c.r.f (c.low x.z x.r) v)
  rw [NK G B.z B.r0 B.r1]
theorem Q7 (x:In) (p v:Int):(c.wf a q).two' x p v=(c.two' x p v).wf a q:=by
 unfold Mc.two'
 cases x.op==8<;>cases x.op==3<;>cases x.op==4<;>cases x.op==5<;>cases x.op==6<;>cases x.op==7<;>rfl
theorem MZ (h:c.bus) (x:In) (p v:Int):(c.two' x p v).bus:=by
 unfold Mc.two'
 cases x.op==8<;>cases x.op==3<;>cases x.op==4<;>cases x.op==5<;>cases x.op==6<;>cases x.op==7<;>exact h
theorem Ht (G:GM c) (hf:c.f=aH) (x:In) (B:InB x) (h1:x.m=1→x.z=2) (ho:x.op=1∨x.op=3∨x.op=4∨x.op=5∨x.op=6∨x.op=7∨x.op=8):Same a b q ((c.wf a q).two x) (c.tk x):=by
 have hb:=(jC hf).read x.z x.m x.k x.e
 have hv:=di G B.z B.k0 B.k1 B.e0 B.e1 h1 B.n7
 have GR:=G.read (m:=x.m) B.z B.k0 B.k1 B.e0 B.e1
 unfold Mc.two Mc.tk
 rw [uA]
 show Same a b q (bif (c.read x.z x.m x.k x.e).fine then ((c.read x.z x.m x.k x.e).wf a q).two' x ((c.read x.z x.m x.k x.e).low x.z x.r) (c.aY x.z x.m x.k x.e) else (c.read x.z x.m x.k x.e).wf a q) _
 cases (c.read x.z x.m x.k x.e).fine
 ·exact Same.wf hb
 ·show Same a b q (((c.read x.z x.m x.k x.e).wf a q).two' x ((c.read x.z x.m x.k x.e).low x.z x.r) (c.aY x.z x.m x.k x.e)) ((c.read x.z x.m x.k x.e).tk' x.op x.z x.r (c.aY x.z x.m x.k x.e))
  rw [Q7,←Q8 GR x B ho _ hv]
  exact Same.wf (MZ hb _ _ _)
theorem RJ (x:In) (ho:x.s=1∨x.s=2∨x.s=3) (d:Mc) (hd:d.r.f=c.r.f) (u v:Int):c.one' d x u v=d.ch' x.z x.m x.k u x.s v:=by
 unfold Mc.one' Mc.ch' chF chV
 rw [hd]
 rcases ho with h|h|h<;>rw [h]
 ·exact (nH x.z x.m x.k u _ _).symm
 ·exact (nH x.z x.m x.k u _ _).symm
 ·rfl
theorem Hw (G:GM c) (hf:c.f=aH) (x:In) (B:InB x) (hm:x.m=0∨(2≤x.m∧x.m≤6)) (hs:x.s≤3):Same a b q ((c.wf a q).one x) (c.ch x):=by
 have hs0:=B.s0
 have hb:=(jC hf).read x.z x.m x.k x.e
 obtain ⟨e1,e2⟩:=kU (c:=c) x.z x.m x.k x.e hm
 by_cases h0:x.s=0
 ·have e:(c.wf a q).one x=(c.ch x).wf a q:=by
   unfold Mc.one Mc.ch
   rw [h0]
   show (c.wf a q).IC x=((c.slot x.z x.m x.k x.e).ch' x.z x.m x.k (c.readA x.z x.m x.k x.e) 0 0).wf a q
   unfold Mc.IC
   rw [e1,e2,qZ]
   show (((c.place x.z x.m x.k x.e).wf a q).write x.z x.m x.k (c.iL x.z x.m x.k x.e) 0).aB (aQ x.z c.r.f 0)=_
   rw [qR]
   show _=(((c.place x.z x.m x.k x.e).aB (aQ x.z (c.place x.z x.m x.k x.e).r.f 0)).write x.z x.m x.k (c.iL x.z x.m x.k x.e) 0).wf a q
   rw [nH,xJ];rfl
  rw [e]
  refine Same.wf ?_
  unfold Mc.ch Mc.ch'
  rw [h0]
  refine Mc.bus.write ?_ _ _ _ _ _
  show (c.slot x.z x.m x.k x.e).bus
  unfold Mc.slot
  cases Mc.gI x.m<;>exact jC hf
 ·have h1:x.s=1∨x.s=2∨x.s=3:=by omega
  have hz:(x.s==0)=false:=by simpa using h0
  unfold Mc.one Mc.ch
  rw [hz,uA]
  show Same a b q (bif (c.read x.z x.m x.k x.e).fine then (c.wf a q).one' ((c.read x.z x.m x.k x.e).wf a q) x (c.readA x.z x.m x.k x.e) (c.aY x.z x.m x.k x.e) else (c.read x.z x.m x.k x.e).wf a q) (bif (c.read x.z x.m x.k x.e).fine then (c.read x.z x.m x.k x.e).ch' x.z x.m x.k (c.readA x.z x.m x.k x.e) x.s (c.aY x.z x.m x.k x.e) else c.read x.z x.m x.k x.e)
  cases (c.read x.z x.m x.k x.e).fine
  ·exact Same.wf hb
  ·have e:(c.wf a q).one' ((c.read x.z x.m x.k x.e).wf a q) x (c.readA x.z x.m x.k x.e) (c.aY x.z x.m x.k x.e)=((c.read x.z x.m x.k x.e).ch' x.z x.m x.k (c.readA x.z x.m x.k x.e) x.s (c.aY x.z x.m x.k x.e)).wf a q:=by
    rw [←RJ x h1 _ (xG c _ _ _ _)]
    unfold Mc.one'
    rw [qR,qR]
    cases x.s==1<;>cases x.s==2<;>rfl
   show Same a b q ((c.wf a q).one' _ _ _ _) _
   rw [e]
   refine Same.wf ?_
   unfold Mc.ch'
   cases x.s==3
   ·have hb':((c.read x.z x.m x.k x.e).aB (chF x.s x.z (c.read x.z x.m x.k x.e).r.f (c.aY x.z x.m x.k x.e))).bus:=hb
    exact hb'.write _ _ _ _ _
   ·exact hb
theorem Hu (hf:c.f=aH) (x:In):Same a b q (((c.wf a q).aB (oI x.s x.z c.r.f (c.low x.z x.r) (x.k+1))).put x.z x.r (jc x.s x.z c.r.f (c.low x.z x.r) (x.k+1))) (c.shf x):=
 Same.wf (d:=c.shf x) (jC (c:=c) hf)
theorem H7 (hf:c.f=aH) (x:In) (ho:x.op=13) (hp:c.r.p=(a+2*2)%65536):Same a b q ((c.wf a q).jump x a) (c.brn x):=by
 unfold Mc.jump Mc.brn
 rw [ho]
 have e:(c.r.p-2+x.e)%65536=(a+2+x.e)%65536:=by omega
 rw [e]
 show Same a b q (bif tst (x.s+8*x.r) c.r.f then (c.wf a q).aJ ((a+2+x.e)%65536) else c.wf a q) _
 cases tst (x.s+8*x.r) c.r.f
 ·exact Same.wf (jC hf)
 ·exact Same.wf (d:=c.aJ ((a+2+x.e)%65536)) (jC (c:=c) hf)
theorem NE (hf:c.f=aH) (x:In) (ho:x.op=14) (hz:x.z=2) (hm:x.m=0∨(2≤x.m∧x.m≤6)):Same a b q ((c.wf a q).jump x a) (c.jp x):=by
 obtain ⟨e1,e2⟩:=kU (c:=c) 2 x.m x.k x.e hm
 have hb:(c.place 2 x.m x.k x.e).bus:=by
  unfold Mc.place
  cases x.m==0<;>exact jC hf
 have hbp:=hb.push c.r.p
 unfold Mc.jump Mc.jp
 rw [ho,hz,e1,e2,qZ,show (c.wf a q).r=c.r from rfl,NM]
 show Same a b q (bif x.s==1 then (bif ((c.place 2 x.m x.k x.e).push c.r.p).fine then (((c.place 2 x.m x.k x.e).push c.r.p).aJ (c.iL 2 x.m x.k x.e)).wf a q else ((c.place 2 x.m x.k x.e).push c.r.p).wf a q) else ((c.place 2 x.m x.k x.e).aJ (c.iL 2 x.m x.k x.e)).wf a q) _
 cases x.s==1
 ·exact Same.wf (d:=(c.place 2 x.m x.k x.e).aJ (c.iL 2 x.m x.k x.e)) hb
 ·cases ((c.place 2 x.m x.k x.e).push c.r.p).fine
  ·exact Same.wf hbp
  ·exact Same.wf (d:=((c.place 2 x.m x.k x.e).push c.r.p).aJ (c.iL 2 x.m x.k x.e)) hbp
theorem Hz (G:GM c) (hf:c.f=aH) (x:In) (B:InB x) (hz:x.z=2) (h1:x.m≠1) (ho:x.op=16∨x.op=17) (hp:c.r.p=b):Same a b q ((c.wf a q).product x) (c.tk x):=by
 have h7:x.m=7→okv 2 x.e=true:=by rw [←hz];exact B.n7
 have hb:=(jC hf).read 2 x.m x.k x.e
 have hv:=di (c:=c) G (z:=2) (m:=x.m) (.inr rfl) B.k0 B.k1 B.e0 B.e1 (fun _=>rfl) h7
 have GR:=G.read (z:=2) (m:=x.m) (.inr rfl) B.k0 B.k1 B.e0 B.e1
 have hp2:(c.read 2 x.m x.k x.e).r.p=b:=by
  rw [←hp];unfold Mc.read;cases Mc.gI x.m
  ·exact ru c.r 2 x.m x.k x.e
  ·rfl
 unfold Mc.product Mc.tk
 rw [uA,hz]
 show Same a b q (bif (c.read 2 x.m x.k x.e).fine then ((c.read 2 x.m x.k x.e).wf a q).jm x (c.aY 2 x.m x.k x.e) else (c.read 2 x.m x.k x.e).wf a q) _
 cases hfi:(c.read 2 x.m x.k x.e).fine
 ·exact Same.wf hb
 ·show Same a b q (((c.read 2 x.m x.k x.e).wf a q).jm x (c.aY 2 x.m x.k x.e)) ((c.read 2 x.m x.k x.e).tk' x.op 2 x.r (c.aY 2 x.m x.k x.e))
  generalize hd:c.read 2 x.m x.k x.e=d at hb GR hp2 hfi ⊢
  generalize hu:c.aY 2 x.m x.k x.e=u at hv ⊢
  have hu2:=aP hv
  have hr:=GR.g.dw x.r.toNat (by have:=B.r1;omega)
  have el2:d.low 2 x.r=el d.r.xs x.r.toNat:=by unfold Mc.low;simp [top];omega
  have hu0:0≤u∧u≤65535:=by simp [top] at hu2;omega
  have hN:d.f=aH:=by rw [←hd];refine qY hf rfl ?_;rw [hd];unfold Mc.fine at hfi;simpa using hfi
  obtain ⟨p,hE⟩:∃p,el d.r.xs x.r.toNat=p:=⟨_,rfl⟩
  rw [hE] at hr el2
  rcases ho with ho|ho
  ·have k2:ok2 p u=true:=by simp [ok2,wOk];omega
   have hpu:0≤p*u:=Int.mul_nonneg hr.1 hu0.1
   have eM:xO p u=p*u%65536:=by unfold xO;rw [if_pos k2]
   have eH:(EL p u != 0)=decide (65535<p*u):=by
    unfold EL;rw [if_pos k2]
    generalize p*u=w at hpu
    by_cases h:65535<w
    ·rw [decide_eq_true h];simp;omega
    ·rw [decide_eq_false h];simp;omega
   have e:(d.wf a q).jm x u=(d.tk' x.op 2 x.r u).wf a q:=by
    unfold Mc.jm Mc.tk' cbV cbF cbM cbU
    rw [ho,el2]
    show (d.wf a q).IK x (el d.r.xs x.r.toNat*u)=((d.put 2 x.r (xO p u)).aB (bits .or .i64 (aQ 2 d.r.f (xO p u)) (fl (EL p u != 0) 2))).wf a q
    rw [eM,eH,hE]
    rfl
   rw [e]
   refine Same.wf ?_
   unfold Mc.tk';rw [ho];exact hb
  ·cases h0:u==0
   ·have hn:u≠0:=by simpa using h0
    have eQ:dvQ 0 p u=p/u:=by
     have hk:dOk 0 p u=true:=by simp [dOk,wOk];omega
     unfold dvQ
     rw [if_pos hk]
     exact (yV (by omega) (by omega) (by omega)).1
    have hq2:okv 2 (p/u)=true:=by
     have h1:0≤p/u:=Int.ediv_nonneg (by omega) (by omega)
     have h3:p/u≤p:=Int.ediv_le_self _ (by omega)
     simp [okv,top];omega
    have hL:=dX 2 d.r.f (p/u) hq2 (bG GR)
    have e:(d.wf a q).jm x u=(d.tk' x.op 2 x.r u).wf a q:=by
     unfold Mc.jm Mc.tk' cbV cbF cbM cbU
     rw [ho,el2,h0]
     show (d.wf a q).data 2 x.r (el d.r.xs x.r.toNat/u)=((d.put 2 x.r (dvQ 0 p u)).aB (bits .or .i64 (aQ 2 d.r.f (dvQ 0 p u)) (fl ((0:Int) != 0) 2))).wf a q
     rw [eQ,hE,show fl ((0:Int) != 0) 2=0 from rfl,Vf hL.1 hL.2]
     rfl
    rw [e]
    refine Same.wf ?_
    unfold Mc.tk';rw [ho,h0];exact hb
   ·have e1:(d.wf a q).jm x u=(d.wf a q).raise 5:=by unfold Mc.jm;rw [ho,h0];rfl
    have e2:d.tk' x.op 2 x.r u={d with f:=⟨5,0,0,0,false⟩}:=by unfold Mc.tk';rw [ho,h0];rfl
    rw [e1,e2]
    refine ⟨rfl,rfl,rfl,rfl,fun h=>absurd (show (5:Int)=0 from h) (by decide),fun _ => ?_⟩
    show ({d.f with pc:=d.r.p,wo:=q,v:=5}:Ft)=⟨5,b,0,q,false⟩
    rw [hN,hp2];rfl
theorem NG (G:GM c) (hf:c.f=aH) (x:In) (hp:c.r.p=b) (h4:0≤x.r):Same a b q ((c.wf a q).iD x) (c.fw x):=by
 have hb:=jC hf
 unfold Mc.iD Mc.fw
 cases h0:x.s==0
 ·cases h1:x.s==1
  ·cases h3:x.s==3
   ·cases h4:x.s==4
    ·cases h5:x.s==5
     ·cases h6:x.s==6
      ·exact Same.wf hb
      ·exact Same.wf (d:=(c.put 2 x.r (mZ (c.low 1 x.r))).aB (aQ 2 c.r.f (mZ (c.low 1 x.r)))) hb
     ·exact Same.wf (d:=(c.put 2 x.r (lU (el c.r.xs x.r.toNat))).aB (aQ 2 c.r.f (lU (el c.r.xs x.r.toNat)))) hb
    ·refine ⟨rfl,rfl,rfl,rfl,fun h => ?_,fun _ => ?_⟩
     ·exfalso
      have:18+x.r=0:=h
      omega
     ·show ({c.f with pc:=c.r.p,wo:=q,v:=18+x.r}:Ft)=⟨18+x.r,bif iW (18+x.r) then b else a,0,q,false⟩
      have:iW (18+x.r)=true:=by unfold iW;simp;omega
      rw [this,hf,hp];rfl
   ·exact Same.wf (d:={c.dh (bJ c.r x.e) with st:=true}) hb
  ·show Same a b q (bif !(c.wf a q).pop.fine then (c.wf a q).pop else bif !(c.wf a q).pop.pop.fine then (c.wf a q).pop.pop else ((c.wf a q).pop.pop.aJ (c.wf a q).pop.dV).dh (bJ ((c.wf a q).pop.pop.aJ (c.wf a q).pop.dV).r ((c.wf a q).dV%1024))) c.cb1
   rw [AU,AU]
   show Same a b q (bif !c.pop.fine then c.pop.wf a q else bif !c.pop.pop.fine then c.pop.pop.wf a q else ((c.pop.pop.aJ c.pop.dV).dh (bJ (c.pop.pop.aJ c.pop.dV).r (c.dV%1024))).wf a q) c.cb1
   unfold Mc.cb1
   cases k1:c.pop.fine
   ·exact Same.wf hb.pop
   ·cases k2:c.pop.pop.fine
    ·exact Same.wr hb.pop.pop k2 rfl rfl rfl rfl rfl
    ·exact Same.wf (d:=(c.pop.pop.aJ c.pop.dV).dh (bJ (c.pop.pop.aJ c.pop.dV).r (c.dV%1024))) hb.pop.pop
 ·show Same a b q ((c.wf a q).pop.aJ c.dV) c.cb0
  rw [AU]
  have e:c.cb0=c.pop.aJ c.dV:=by
   unfold Mc.cb0
   cases c.pop.fine
   ·rfl
   ·have hs:(c.pop.aJ c.dV).r.s=c.r.s∧(c.pop.aJ c.dV).r.t=c.r.t∧(c.pop.aJ c.dV).r.m=c.r.m∧(c.pop.aJ c.dV).r.f=c.r.f:=by
     unfold Mc.pop
     cases (c.acc 1 2 (el c.r.ys 3) 0).fine<;>exact ⟨rfl,rfl,rfl,rfl⟩
    show (c.pop.aJ c.dV).dh _=_
    rw [yR G.g hs.1 hs.2.1 hs.2.2.1 hs.2.2.2]
    rfl
  rw [e]
  exact Same.wf (d:=c.pop.aJ c.dV) hb.pop
theorem KH:∀n:Nat,n<32→∀v c:Bool,bits .or .i64 (fl v (bits .and .i64 (n:Int) 4)) (fl c 17)=fl (v&&((n:Int)/4%2==1)) 4+(if c then 1 else 0)*17:=by decide +kernel
theorem NI (G:GM c) (hf:c.f=aH) (x:In):Same a b q ((c.wf a q).jw x) (c.bd x):=by
 have hb:=jC hf
 have f0:=G.g.f0
 have f1:=G.g.f1
 have hx:c.xOf=c.r.f/16:=by unfold Mc.xOf;omega
 have hbit:bit (c.r.f/16)=true:=by simp [bit];omega
 have l1:c.low 1 x.r=el c.r.xs x.r.toNat%256:=rfl
 have l2:c.low 1 x.k=el c.r.xs x.k.toNat%256:=rfl
 unfold Mc.jw Mc.kL Mc.bd fB
 rw [l1,l2,hbit,Bool.true_and]
 show Same a b q (bif bcd (el c.r.xs x.r.toNat%256)&&bcd (el c.r.xs x.k.toNat%256) then ((c.wf a q).aB (c.nC x.s (el c.r.xs x.r.toNat%256) (el c.r.xs x.k.toNat%256))).put 1 x.r (c.kF x.s (el c.r.xs x.r.toNat%256) (el c.r.xs x.k.toNat%256)) else (c.wf a q).vec 4) _
 generalize el c.r.xs x.r.toNat%256=u
 generalize el c.r.xs x.k.toNat%256=v
 cases bcd u&&bcd v
 ·refine ⟨rfl,rfl,rfl,rfl,fun h=>absurd (show (4:Int)=0 from h) (by decide),fun _ => ?_⟩
  show ({c.f with pc:=a,wo:=q,v:=4}:Ft)=⟨4,a,0,q,false⟩
  rw [hf];rfl
 ·have eV:c.kF x.s u v=dcV x.s (c.r.f/16) u v:=by unfold Mc.kF dcV;rw [hx]
  have eC:c.lQ x.s u v=dcC x.s (c.r.f/16) u v:=by unfold Mc.lQ dcC;rw [hx]
  have hc:dcC x.s (c.r.f/16) u v=0∨dcC x.s (c.r.f/16) u v=1:=by
   unfold dcC
   have h1:=Ag (c.r.f/16) u v
   have h2:=Dc (c.r.f/16) u v
   cases x.s==1
   ·show aC (c.r.f/16) u v=0∨aC (c.r.f/16) u v=1
    omega
   ·show sC (c.r.f/16) u v=0∨sC (c.r.f/16) u v=1
    omega
  have eF:c.nC x.s u v=dcF x.s c.r.f (c.r.f/16) u v:=by
   unfold Mc.nC dcF
   rw [eV,eC]
   obtain ⟨n,hn⟩:∃n:Nat,c.r.f=(n:Int):=⟨c.r.f.toNat,by omega⟩
   have:=KH n (by omega) (dcV x.s (c.r.f/16) u v==0) (dcC x.s (c.r.f/16) u v==1)
   rw [←hn] at this
   rw [this]
   rcases hc with h|h<;>rw [h]<;>rfl
  show Same a b q (((c.wf a q).aB (c.nC x.s u v)).put 1 x.r (c.kF x.s u v)) _
  rw [eV,eF]
  exact Same.wf (d:=(c.put 1 x.r (dcV x.s (c.r.f/16) u v)).aB (dcF x.s c.r.f (c.r.f/16) u v)) hb
theorem Hy (hf:c.f=aH) (x:In):Same a b q ((c.wf a q).stat x) (c.mvs x):=by
 have hb:=jC hf
 unfold Mc.stat Mc.mvs
 cases x.s==0
 ·exact Same.wf (d:=c.dh {c.r with xs:=c.r.xs.set x.r.toNat (status c.r)}) hb
 ·exact Same.wf (d:=c.dh (bJ c.r x.e)) hb
variable {c:Mc}
theorem Di {m:Int} (h:fH m=true):m=0∨(2≤m∧m≤6):=by
 simp only [fH,Bool.or_eq_true,beq_iff_eq] at h;omega
theorem G5 {m:Int} (h:((m==0)||kD m)=true):m=0∨(2≤m∧m≤6):=by
 simp only [kD,within,Bool.or_eq_true,Bool.and_eq_true,beq_iff_eq,decide_eq_true_eq] at h;omega
def Om (x:In):Int:=if jS x.m=true then 2 else 1
theorem DD {x:In} (hx:dF x=true) :
  ((x.op=1∨x.op=3∨x.op=4∨x.op=5∨x.op=6∨x.op=7∨x.op=8)∧(x.m=1→x.z=2))∨
  (x.op=2∧(x.m=0∨(2≤x.m∧x.m≤6)))∨(x.op=9∧x.z=2)∨
  (x.op=10∧x.z=2∧(x.m=0∨(2≤x.m∧x.m≤6)))∨
  (x.op=11∧(x.m=0∨(2≤x.m∧x.m≤6))∧x.s≤3)∨(x.op=12)∨
  (x.op=13∧x.r≤1∧x.m=7)∨(x.op=14∧x.z=2∧(x.m=0∨(2≤x.m∧x.m≤6))∧x.s≤1)∨
  ((x.op=16∨x.op=17)∧x.z=2∧x.m≠1)∨(x.op=18∧x.s≤1)∨
  (x.op=19∧x.s≤1∧(x.s=0→x.e≤1023))∨(x.op=15∧x.s≤6∧(x.s=3→x.e≤1023)):=by
 obtain ⟨o1,o2,_⟩:=QA hx
 have hk:ax x=true:=by unfold dF at hx;rw [Bool.and_eq_true] at hx;exact hx.2
 have:x.op=1∨x.op=2∨x.op=3∨x.op=4∨x.op=5∨x.op=6∨x.op=7∨x.op=8∨x.op=9∨x.op=10∨x.op=11∨x.op=12∨x.op=13∨x.op=14∨x.op=15∨x.op=16∨x.op=17∨x.op=18∨x.op=19:=by omega
 have two:((x.s==0)&&((x.z==2) || !(x.m==1)))=true→(x.m=1→x.z=2):=by
  intro h k
  rw [k] at h
  simp at h
  exact h.2
 unfold ax at hk
 rcases this with h|h|h|h|h|h|h|h|h|h|h|h|h|h|h|h|h|h|h<;>rw [h] at hk ⊢
 ·exact .inl ⟨.inl rfl,two hk⟩
 ·refine .inr (.inl ⟨rfl,G5 ?_⟩)
  have q:((x.s==0)&&((x.m==0)||kD x.m))=true:=hk
  exact (Bool.and_eq_true_iff.1 q).2
 ·exact .inl ⟨.inr (.inl rfl),two hk⟩
 ·exact .inl ⟨.inr (.inr (.inl rfl)),two hk⟩
 ·exact .inl ⟨.inr (.inr (.inr (.inl rfl))),two hk⟩
 ·exact .inl ⟨.inr (.inr (.inr (.inr (.inl rfl)))),two hk⟩
 ·exact .inl ⟨.inr (.inr (.inr (.inr (.inr (.inl rfl))))),two hk⟩
 ·exact .inl ⟨.inr (.inr (.inr (.inr (.inr (.inr rfl))))),two hk⟩
 ·have q:((x.z==2)&&(x.s==0))=true:=hk
  simp only [Bool.and_eq_true,beq_iff_eq] at q
  exact .inr (.inr (.inl ⟨rfl,q.1⟩))
 ·have q:(((x.z==2)&&(x.s==0))&&fH x.m)=true:=hk
  simp only [Bool.and_eq_true,beq_iff_eq] at q
  exact .inr (.inr (.inr (.inl ⟨rfl,q.1.1,Di q.2⟩)))
 ·have q:(((x.r==0)&&decide (x.s≤3))&&((x.m==0)||kD x.m))=true:=hk
  rw [Bool.and_eq_true,Bool.and_eq_true,decide_eq_true_eq] at q
  exact .inr (.inr (.inr (.inr (.inl ⟨rfl,G5 q.2,q.1.2⟩))))
 ·exact .inr (.inr (.inr (.inr (.inr (.inl rfl)))))
 ·have q:(((x.z==2)&&decide (x.r≤1))&&(x.m==7))=true:=hk
  simp only [Bool.and_eq_true,beq_iff_eq,decide_eq_true_eq] at q
  exact .inr (.inr (.inr (.inr (.inr (.inr (.inl ⟨rfl,q.1.2,q.2⟩))))))
 ·have q:((((x.z==2)&&(x.r==0))&&decide (x.s≤1))&&fH x.m)=true:=hk
  simp only [Bool.and_eq_true,beq_iff_eq,decide_eq_true_eq] at q
  exact .inr (.inr (.inr (.inr (.inr (.inr (.inr (.inl ⟨rfl,q.1.1.1,Di q.2,q.1.2⟩)))))))
 ·refine .inr (.inr (.inr (.inr (.inr (.inr (.inr (.inr (.inr (.inr (.inr ⟨rfl,?_⟩))))))))))
  have q:(bif x.s==3 then ((x.z==2)&&(x.r==0))&&jv x.m x.e else (((x.z==2)&&decide (x.s≤6))&&iw x.m x.k x.e)&&(decide (3<x.s)||(x.r==0)))=true:=hk
  cases h3:x.s==3
  ·rw [h3] at q
   have n3:x.s≠3:=by simpa using h3
   have q2:((((x.z==2)&&decide (x.s≤6))&&iw x.m x.k x.e)&&(decide (3<x.s)||(x.r==0)))=true:=q
   simp only [Bool.and_eq_true,decide_eq_true_eq] at q2
   exact ⟨q2.1.1.2,fun k=>absurd k n3⟩
  ·rw [h3] at q
   have n3:x.s=3:=by simpa using h3
   have q2:(((x.z==2)&&(x.r==0))&&jv x.m x.e)=true:=q
   simp only [jv,Bool.and_eq_true,decide_eq_true_eq] at q2
   exact ⟨by omega,fun _=>q2.2.2⟩
 ·have q:(((x.z==2)&&(x.s==0)) && !(x.m==1))=true:=hk
  simp only [Bool.and_eq_true,beq_iff_eq,Bool.not_eq_true',beq_eq_false_iff_ne] at q
  exact .inr (.inr (.inr (.inr (.inr (.inr (.inr (.inr (.inl ⟨.inl rfl,q.1.1,q.2⟩))))))))
 ·have q:(((x.z==2)&&(x.s==0)) && !(x.m==1))=true:=hk
  simp only [Bool.and_eq_true,beq_iff_eq,Bool.not_eq_true',beq_eq_false_iff_ne] at q
  exact .inr (.inr (.inr (.inr (.inr (.inr (.inr (.inr (.inl ⟨.inr rfl,q.1.1,q.2⟩))))))))
 ·have q:(((!(x.z==2))&&decide (x.s≤1))&&(x.m==0))=true:=hk
  simp only [Bool.and_eq_true,decide_eq_true_eq] at q
  exact .inr (.inr (.inr (.inr (.inr (.inr (.inr (.inr (.inr (.inl ⟨rfl,q.1.2⟩)))))))))
 ·have q:((x.z==2)&&((((x.s==0)&&(x.r==0))&&jv x.m x.e)||((x.s==1)&&iw x.m x.k x.e)))=true:=hk
  simp only [jv,Bool.and_eq_true,Bool.or_eq_true,beq_iff_eq,decide_eq_true_eq] at q
  refine .inr (.inr (.inr (.inr (.inr (.inr (.inr (.inr (.inr (.inr (.inl ⟨rfl,?_,?_⟩))))))))))
  ·rcases q.2 with k|k
   ·have:=k.1.1;omega
   ·have:=k.1;omega
  ·intro k0
   rcases q.2 with k|k
   ·exact k.2.2
   ·have:=k.1;omega
theorem NH {a b q:Int} (G:GM c) (hf:c.f=aH) (x:In) (hx:dF x=true) (hp:c.r.p=b) (hb:b=(a+Om x*2)%65536):Same a b q ((c.wf a q).doI x a) (c.cr' x):=by
 have B:=vK hx
 have K:=DD hx
 unfold Mc.doI Mc.cr'
 rcases K with ⟨h,h1⟩|⟨h,hm⟩|⟨h,hz⟩|⟨h,hz,hm⟩|⟨h,hm,hs⟩|h|⟨h,hr,hm⟩|⟨h,hz,hm,hs⟩|⟨h,hz,hm⟩|⟨h,hs⟩|⟨h,hs,he⟩|⟨h,hs,he⟩
 ·have s:=Ht (a:=a) (b:=b) (q:=q) G hf x B h1 h
  rcases h with h|h|h|h|h|h|h<;>rw [h]<;>exact s
 ·rw [h];exact NF hf x hm
 ·rw [h];exact ND hf x h hz
 ·rw [h];exact H6 hf x hz hm
 ·rw [h];exact Hw G hf x B hm hs
 ·rw [h];exact Hu hf x
 ·rw [h]
  refine H7 hf x h ?_
  rw [hp,hb]
  unfold Om
  rw [hm];rfl
 ·rw [h];exact NE hf x h hz hm
 ·have s:=Hz (a:=a) (b:=b) (q:=q) G hf x B hz hm h hp
  rcases h with h|h<;>rw [h]<;>exact s
 ·rw [h];exact NI G hf x
 ·rw [h];exact Hy hf x
 ·rw [h];exact NG G hf x hp B.r0
theorem Dh (z m k e:Int):(c.read z m k e).st=c.st:=by unfold Mc.read;cases Mc.gI m<;>rfl
theorem uz (z m k e:Int):(c.slot z m k e).st=c.st:=by unfold Mc.slot;cases Mc.gI m<;>rfl
theorem uK (z m k a v:Int):(c.write z m k a v).st=c.st:=by unfold Mc.write;cases m==0<;>rfl
theorem NP (v:Int):(c.push v).st=c.st:=by unfold Mc.push;cases (c.acc 2 2 c.spA v).fine<;>rfl
theorem Ie:c.pop.st=c.st:=by unfold Mc.pop;cases (c.acc 1 2 (el c.r.ys 3) 0).fine<;>rfl
theorem gJ (b:Bool) (x y:Mc) (s:Bool) (hx:x.st=s) (hy:y.st=s):(bif b then x else y).st=s:=by cases b<;>assumption
theorem UD (x:In):(c.tk x).st=c.st:=by
 unfold Mc.tk Mc.tk'
 have h:=Dh (c:=c) x.z x.m x.k x.e
 exact gJ _ _ _ _ (gJ _ _ _ _ h (gJ _ _ _ _ h h)) h
theorem VZ (x:In):(c.ch x).st=c.st:=by
 unfold Mc.ch Mc.ch'
 have h:=Dh (c:=c) x.z x.m x.k x.e
 have h2:=uz (c:=c) x.z x.m x.k x.e
 refine gJ _ _ _ _ (gJ _ _ _ _ h2 ?_) (gJ _ _ _ _ (gJ _ _ _ _ h ?_) h)
 ·rw [uK];exact h2
 ·rw [uK];exact h
theorem VL (x:In):(c.jp x).st=c.st:=by
 unfold Mc.jp
 have h2:=uz (c:=c) x.z x.m x.k x.e
 have h3:=(NP (c:=c.slot x.z x.m x.k x.e) c.r.p).trans h2
 exact gJ _ _ _ _ (gJ _ _ _ _ h3 h3) h2
theorem VP (hf:c.f=aH) (x:In):(c.fw x).f.v≠0→(c.fw x).st=c.st:=by
 unfold Mc.fw
 intro h
 have p1:=Ie (c:=c)
 have p2:=(Ie (c:=c.pop)).trans p1
 cases h0:x.s==0<;>rw [h0] at h
 ·cases h1:x.s==1<;>rw [h1] at h
  ·cases h3:x.s==3<;>rw [h3] at h
   ·show (bif x.s==4 then _ else bif x.s==5 then _ else bif x.s==6 then _ else c:Mc).st=c.st
    exact gJ _ _ _ _ rfl (gJ _ _ _ _ rfl (gJ _ _ _ _ rfl rfl))
   ·exact absurd (show c.f.v=0 by rw [hf];rfl) h
  ·show c.cb1.st=c.st
   unfold Mc.cb1
   exact gJ _ _ _ _ (gJ _ _ _ _ p2 p2) p1
 ·show c.cb0.st=c.st
  unfold Mc.cb0
  exact gJ _ _ _ _ p1 p1
theorem VX (hf:c.f=aH) (x:In):(c.cr' x).f.v≠0→(c.cr' x).st=c.st:=by
 unfold Mc.cr'
 intro h
 cases h2:x.op==2<;>rw [h2] at h
 ·cases h10:x.op==10<;>rw [h10] at h
  ·cases h11:x.op==11<;>rw [h11] at h
   ·cases h12:x.op==12<;>rw [h12] at h
    ·cases h13:x.op==13<;>rw [h13] at h
     ·cases h14:x.op==14<;>rw [h14] at h
      ·cases h15:x.op==15<;>rw [h15] at h
       ·show (bif x.op==18 then c.bd x else bif x.op==19 then c.mvs x else c.tk x).st=c.st
        refine gJ _ _ _ _ ?_ (gJ _ _ _ _ ?_ (UD x))
        ·unfold Mc.bd;exact gJ _ _ _ _ rfl rfl
        ·unfold Mc.mvs;exact gJ _ _ _ _ rfl rfl
       ·exact VP hf x h
      ·exact VL x
     ·show (c.brn x).st=c.st
      unfold Mc.brn;exact gJ _ _ _ _ rfl rfl
    ·rfl
   ·exact VZ x
  ·show (c.slot x.z x.m x.k x.e).st=c.st
   exact uz _ _ _ _
 ·show (c.gv x).st=c.st
  unfold Mc.gv
  rw [uK];exact uz (c:=c.aB _) _ _ _ _
def beh (a:Int) (x:In):Int:=(a+Om x*2)%65536
def Mc.dn' (c d:Mc) (b a q:Int):Mc:=bif d.f.v==0 then d else {d with r:=c.r,f:=⟨d.f.v,bif iW d.f.v then b else a,d.f.ad,q,d.f.wr⟩}
def Mc.dn (c:Mc) (x:In) (a:Int):Mc:=c.dn' ((c.aJ (beh a x)).cr x) (beh a x) a (oL x%65536)
def Mc.nf (c:Mc):Mc:={c with f:=aH}
def Mc.sp (c:Mc):Mc:=bif c.kZ.v==0 then c.fetch.nf.dn c.ay c.r.p else {c.fetch with f:=c.kZ}
theorem DR:c.fetch.r=c.r∧c.fetch.st=c.st:=by
 unfold Mc.fetch
 have h3:c.fe3.r=c.r∧c.fe3.st=c.st:=by
  unfold Mc.fe3
  cases fD c.feW==2<;>exact ⟨rfl,rfl⟩
 cases c.fe1.fine
 ·exact ⟨rfl,rfl⟩
 ·cases c.fe3.fine
  ·exact h3
  ·cases dF c.feX
   ·exact h3
   ·exact h3
theorem zS (h:c.fetch.fine=true):c.fe1.fine=true∧c.fe3.fine=true∧dF c.feX=true:=by
 cases h1:c.fe1.fine
 ·rw [(DU h1).1,h1] at h;cases h
 ·cases h3:c.fe3.fine
  ·rw [(DT h1 h3).1,h3] at h;cases h
  ·cases hx:dF c.feX
   ·rw [(yh h1 h3 hx).1] at h;cases h
   ·exact ⟨rfl,rfl,rfl⟩
theorem VR (hf:c.f=aH) (h3:c.fe3.fine=true) (h1:c.fe1.fine=true):c.fe3.f=⟨0,c.r.p,0,c.feW,false⟩:=by
 have e1:c.fe1.f=⟨0,c.r.p,0,0,false⟩:=by
  have e:c.fe1.f={Mc.fA aH 3 2 c.r.p with pc:=c.r.p,wo:=0}:=by
   show Mc.fA {c.f with pc:=c.r.p} 3 2 c.r.p=_
   rw [hf]
   exact qF c.r.p 0 3 2 c.r.p
  have:((Mc.fA aH 3 2 c.r.p).v != 0)=false:=by
   unfold Mc.fine at h1;rw [e] at h1;simpa using h1
  rw [e,(nV this).2];rfl
 have e2:c.fe2.f={aH with pc:=c.r.p,wo:=c.feW}:=by
  show ({c.fe1.f with wo:=c.feW}:Ft)=_
  rw [e1];rfl
 unfold Mc.fe3 at h3 ⊢
 cases hl:fD c.feW==2
 ·exact e2
 ·rw [hl] at h3
  have e:(c.fe2.acc 3 2 c.feA 0).f={Mc.fA aH 3 2 c.feA with pc:=c.r.p,wo:=c.feW}:=by
   show Mc.fA c.fe2.f 3 2 c.feA=_
   rw [e2];exact qF _ _ _ _ _
  have:((Mc.fA aH 3 2 c.feA).v != 0)=false:=by
   have h3':(c.fe2.acc 3 2 c.feA 0).fine=true:=h3
   unfold Mc.fine at h3';rw [e] at h3';simpa using h3'
  show (c.fe2.acc 3 2 c.feA 0).f=_
  rw [e,(nV this).2];rfl
theorem Tq {c:Mc} (G:GM c):0≤c.feW∧c.feW≤65535:=by
 have h:=(G.ft {c.f with pc:=c.r.p}).jE (k:=3) (s:=2) (a:=c.r.p) (v:=0) (iJ (.inr rfl) G.p0 G.p1)
 have t:=aP h
 have e:c.feW=lv c.bx 3 2 c.r.p 0:=rfl
 have e2:({c with f:={c.f with pc:=c.r.p}}:Mc).jE 3 2 c.r.p 0=lv c.bx 3 2 c.r.p 0:=rfl
 rw [e2] at t
 rw [e]
 simp [top] at t
 omega
theorem GG {w v:Int} (h0:0≤w) (h1:w≤65535):oL (decode w v)%65536=w:=by
 unfold oL decode
 simp only
 omega
theorem GM.like {m d:Mc} (h:GM m) (bx:m.bx=d.bx) (bl:m.bl=d.bl) (bm:m.bm=d.bm) (g:Good d.r) (p0:0≤d.r.p) (p1:d.r.p≤65535):GM d:=
 ⟨g,p0,p1,by rw [←bx];exact h.bx,by rw [←bx];exact h.ok,by rw [←bl,←bm];exact h.bl,by rw [←bm];exact h.bm,by rw [←bl,←bm];exact h.ac⟩
theorem Nv (k:Cp) (G:GM (Mc.ofC k)):(Mc.ofC k).sp.f=dA k∧(Mc.ofC k).sp.cpu false=aO k∧GM (Mc.ofC k).sp:=by
 have er:stepM k=(Mc.ofC k).s2:=rfl
 have ek:(Mc.ofC k).r=k.r∧(Mc.ofC k).st=k.st:=⟨rfl,rfl⟩
 have hf:(Mc.ofC k).f=aH:=rfl
 unfold dA aO
 rw [er,←ek.1,←ek.2]
 generalize Mc.ofC k=c at G hf
 have GF:=G.fetch
 obtain ⟨fr,fs⟩:=DR (c:=c)
 cases hF:c.fetch.fine
 ·have e1:c.s1=c.fetch:=by unfold Mc.s1;rw [hF];rfl
  have e2:c.s2=c.fetch:=by unfold Mc.s2;rw [e1,hF];rfl
  have eF:c.kZ=c.fetch.f:=by unfold Mc.kZ;rw [hF];rfl
  have hv:(c.kZ.v==0)=false:=by rw [eF];exact hF
  have es:c.sp=c.fetch:=by
   unfold Mc.sp
   rw [hv,eF];rfl
  rw [es,e2,hF]
  refine ⟨rfl,?_,GF⟩
  show Cp.mk c.fetch.r c.fetch.bx c.fetch.bl c.fetch.bm c.fetch.st false=Cp.mk c.r c.fetch.bx c.fetch.bl c.fetch.bm c.st false
  rw [fr,fs]
 ·obtain ⟨h1,h3,hx⟩:=zS hF
  obtain ⟨eD,eI,eN,eF⟩:=yg h1 h3 hx
  have ff:c.fetch.f=⟨0,c.r.p,0,c.feW,false⟩:=by rw [eD];exact VR hf h3 h1
  have hw:=Tq G
  have ew:oL c.ay%65536=c.feW:=by rw [eI];exact GG hw.1 hw.2
  have eb:(c.r.p+2*c.bC)%65536=beh c.r.p c.ay:=by
   unfold beh
   rw [eI,eN,Int.mul_comm 2];rfl
  have hx2:dF c.ay=true:=by rw [eI];exact hx
  have hv:(c.kZ.v==0)=true:=by rw [eF];rfl
  have es:c.sp=c.fetch.nf.dn c.ay c.r.p:=by unfold Mc.sp;rw [hv];rfl
  rw [es]
  obtain ⟨x,hX⟩:∃x,c.ay=x:=⟨_,rfl⟩
  rw [hX] at ew eb hx2 ⊢
  have hb:0≤beh c.r.p x∧beh c.r.p x≤65535:=by unfold beh;omega
  obtain ⟨d,hd⟩:∃d,c.fetch.nf=d:=⟨_,rfl⟩
  have gd:GM d:=by rw [←hd];exact GF.ft aH
  have df:d.f=aH:=by rw [←hd];rfl
  have dr:d.r=c.r:=by rw [←hd];exact fr
  have ds:d.st=c.st:=by rw [←hd];exact fs
  have dw:c.fetch=d.wf c.r.p c.feW:=by
   rw [←hd]
   show c.fetch=Mc.mk c.fetch.r c.fetch.bx c.fetch.bl c.fetch.bm c.fetch.st ⟨0,c.r.p,0,c.feW,false⟩
   rw [←ff]
  unfold Mc.dn
  rw [hd,ew]
  have gE:GM (d.aJ (beh c.r.p x)):=gd.aJ hb.1 hb.2
  cases hp:iR x && !c.r.s
  ·have e1:c.s1=c.fetch:=by unfold Mc.s1;rw [hF,fr,hX,hp];rfl
   have e2:c.s2=((d.aJ (beh c.r.p x)).wf c.r.p c.feW).doI x c.r.p:=by unfold Mc.s2;rw [e1,hF,eb,hX,dw];rfl
   have ec:(d.aJ (beh c.r.p x)).cr x=(d.aJ (beh c.r.p x)).cr' x:=by
    unfold Mc.cr
    show (bif iR x && !d.r.s then _ else _)=_
    rw [dr,hp];rfl
   have S:=NH (q:=c.feW) gE df x hx2 (a:=c.r.p) rfl rfl
   have GD:=GM.doI (gE.ft {(d.aJ (beh c.r.p x)).f with pc:=c.r.p,wo:=c.feW}) hx2 c.r.p
   have GS:=VX (c:=d.aJ (beh c.r.p x)) df x
   rw [e2,ec]
   change Same c.r.p (beh c.r.p x) c.feW (((d.aJ (beh c.r.p x)).wf c.r.p c.feW).doI x c.r.p) _ at S
   change GM (((d.aJ (beh c.r.p x)).wf c.r.p c.feW).doI x c.r.p) at GD
   generalize ((d.aJ (beh c.r.p x)).wf c.r.p c.feW).doI x c.r.p=m at S GD
   have GS2:((d.aJ (beh c.r.p x)).cr' x).f.v≠0→((d.aJ (beh c.r.p x)).cr' x).st=d.st:=GS
   generalize (d.aJ (beh c.r.p x)).cr' x=u at S GS2
   clear GS
   unfold Mc.dn'
   cases hu:u.f.v==0
   ·have hn:u.f.v≠0:=by simpa using hu
    have mf:=S.no hn
    have mn:m.fine=false:=by unfold Mc.fine;rw [mf];exact hu
    rw [mn]
    refine ⟨mf.symm,?_,?_⟩
    ·show Cp.mk d.r u.bx u.bl u.bm u.st false=Cp.mk c.r m.bx m.bl m.bm c.st false
     rw [dr,S.bx,S.bl,S.bm,GS2 hn,ds]
    ·exact GM.like (d:={u with r:=d.r,f:=⟨u.f.v,bif iW u.f.v then beh c.r.p x else c.r.p,u.f.ad,c.feW,u.f.wr⟩}) GD S.bx S.bl S.bm gd.g gd.p0 gd.p1
   ·have hz:u.f.v=0:=by simpa using hu
    obtain ⟨m0,mr,uf⟩:=S.ok hz
    have mn:m.fine=true:=by unfold Mc.fine;rw [m0];rfl
    rw [mn]
    refine ⟨uf,?_,?_⟩
    ·show Cp.mk u.r u.bx u.bl u.bm u.st false=Cp.mk m.r m.bx m.bl m.bm m.st false
     rw [mr,S.bx,S.bl,S.bm,S.st]
    ·exact GM.like (d:=u) GD S.bx S.bl S.bm (by rw [←mr];exact GD.g) (by rw [←mr];exact GD.p0) (by rw [←mr];exact GD.p1)
  ·have e1:c.s1=c.fetch.vec 8:=by unfold Mc.s1;rw [hF,fr,hX,hp];rfl
   have e2:c.s2=c.fetch.vec 8:=by unfold Mc.s2;rw [e1];rfl
   have ec:(d.aJ (beh c.r.p x)).cr x={d.aJ (beh c.r.p x) with f:=⟨8,0,0,0,false⟩}:=by
    unfold Mc.cr
    show (bif iR x && !d.r.s then _ else _)=_
    rw [dr,hp];rfl
   rw [e2,ec,dw]
   refine ⟨?_,?_,?_⟩
   ·show Ft.mk 8 c.r.p 0 c.feW false={d.f with pc:=c.r.p,wo:=c.feW,v:=8}
    rw [df];rfl
   ·show Cp.mk d.r d.bx d.bl d.bm d.st false=Cp.mk c.r d.bx d.bl d.bm c.st false
    rw [dr,ds]
   ·exact gd.ft ⟨8,c.r.p,0,c.feW,false⟩
end Go.Proofs.YtblddehlkaolbaaGreatDoor.Pl
namespace Go.Proofs.YtblddehlkaolbaaGreatDoor
open Go.RowKit Go.Proofs.Tryz
set_option linter.unusedVariables false
theorem Ub (w:World) (lo b g:Nat) (c:Pl.Mc) (h:Bool) (op z r m k e s:Int) (hC:CAt w lo b g c h) (G:Pl.GM c) (hf:c.f=Pl.aH) (hx:Pl.dF ⟨op,z,r,m,k,e,s⟩=true) (ht:jF w lo) :
  Calls prog 99 #[.pointer (some ⟨b,0,none⟩),.agg (inA op z r m k e s)] w fun e' w'=>∃g',e'=.returned (.agg (ftC (c.cr ⟨op,z,r,m,k,e,s⟩).f))∧CAt w' lo b g' (c.cr ⟨op,z,r,m,k,e,s⟩) h∧Since w b (b+1) g w' g':=by
 have B:=Pl.vK hx
 rcases Pl.DD hx with ⟨ho,h1⟩|⟨ho,hm⟩|⟨ho,hz⟩|⟨ho,hz,hm⟩|⟨ho,hm,hs⟩|ho|⟨ho,hr,hm⟩|⟨ho,hz,hm,hs⟩|⟨ho,hz,hm⟩|⟨ho,hs⟩|⟨ho,hs,he⟩|⟨ho,hs,he⟩
 ·simp only at ho
  exact Ec w lo b g c h op z r m k e s hC G hf B (by omega) h1
 ·exact PP w lo b g c h op z r m k e s hC G hf B ho hm
 ·exact Ec w lo b g c h op z r m k e s hC G hf B (.inl ho) (fun _=>hz)
 ·exact PN w lo b g c h op z r m k e s hC G hf B ho
 ·exact PS w lo b g c h op z r m k e s hC G hf B ho hm hs
 ·exact PL w lo b g c h op z r m k e s hC G hf B ho
 ·exact PT w lo b g c h op z r m k e s hC G hf B ho hr
 ·exact PO w lo b g c h op z r m k e s hC G hf B ho hs
 ·exact LH w lo b g c h op z r m k e s hC G hf B ho (fun q=>absurd q hm) hz
 ·exact PR w lo b g c h op z r m k e s hC G hf B ho hs ht
 ·exact PM w lo b g c h op z r m k e s hC G hf B ho hs he
 ·exact PQ w lo b g c h op z r m k e s hC G hf B ho hs he
theorem iW (v:Int) (w:World):Calls prog 101 #[iv v] w fun e w'=>e=.returned (.bool (Pl.iW v))∧w'=w:=by
 cases h0:(v==5)
 ·go_enter func101,ntmps101
  go_wp2
  go_ret
  exact ⟨by unfold Pl.iW;rw [h0];rfl,rfl⟩
 ·go_enter func101,ntmps101
  go_wp2
  go_ret
  exact ⟨by unfold Pl.iW;rw [h0];rfl,rfl⟩
theorem Blk.QP {w:World} {b:Nat} {u0 u1 u2 u3 u4 u5 u6 u7 u8 u9 u10 u11 u12 u13 v0 v1 v2 v3 v4 v5 v6 v7 v8 v9 v10 v11 v12 v13:Value} {B:Array Value} {ty:TypeId} (h:Blk w b (#[u0,u1,u2,u3,u4,u5,u6,u7,u8,u9,u10,u11,u12,u13]++B) ty):Blk ((((((((((((((w.setCell ⟨b,0,none⟩ (v0)).setCell ⟨b,1,none⟩ (v1)).setCell ⟨b,2,none⟩ (v2)).setCell ⟨b,3,none⟩ (v3)).setCell ⟨b,4,none⟩ (v4)).setCell ⟨b,5,none⟩ (v5)).setCell ⟨b,6,none⟩ (v6)).setCell ⟨b,7,none⟩ (v7)).setCell ⟨b,8,none⟩ (v8)).setCell ⟨b,9,none⟩ (v9)).setCell ⟨b,10,none⟩ (v10)).setCell ⟨b,11,none⟩ (v11)).setCell ⟨b,12,none⟩ (v12)).setCell ⟨b,13,none⟩ (v13)) b (#[v0,v1,v2,v3,v4,v5,v6,v7,v8,v9,v10,v11,v12,v13]++B) ty:=by
 have h0:Blk (w.setCell ⟨b,0,none⟩ v0) b (#[v0,u1,u2,u3,u4,u5,u6,u7,u8,u9,u10,u11,u12,u13]++B) ty:=by have q:=Blk.set h 0 v0;rw [set_left (by simp)] at q;exact q
 have h1:Blk ((w.setCell ⟨b,0,none⟩ v0).setCell ⟨b,1,none⟩ v1) b (#[v0,v1,u2,u3,u4,u5,u6,u7,u8,u9,u10,u11,u12,u13]++B) ty:=by have q:=Blk.set h0 1 v1;rw [set_left (by simp)] at q;exact q
 have h2:Blk (((w.setCell ⟨b,0,none⟩ v0).setCell ⟨b,1,none⟩ v1).setCell ⟨b,2,none⟩ v2) b (#[v0,v1,v2,u3,u4,u5,u6,u7,u8,u9,u10,u11,u12,u13]++B) ty:=by have q:=Blk.set h1 2 v2;rw [set_left (by simp)] at q;exact q
 have h3:Blk ((((w.setCell ⟨b,0,none⟩ v0).setCell ⟨b,1,none⟩ v1).setCell ⟨b,2,none⟩ v2).setCell ⟨b,3,none⟩ v3) b (#[v0,v1,v2,v3,u4,u5,u6,u7,u8,u9,u10,u11,u12,u13]++B) ty:=by have q:=Blk.set h2 3 v3;rw [set_left (by simp)] at q;exact q
 have h4:Blk (((((w.setCell ⟨b,0,none⟩ v0).setCell ⟨b,1,none⟩ v1).setCell ⟨b,2,none⟩ v2).setCell ⟨b,3,none⟩ v3).setCell ⟨b,4,none⟩ v4) b (#[v0,v1,v2,v3,v4,u5,u6,u7,u8,u9,u10,u11,u12,u13]++B) ty:=by have q:=Blk.set h3 4 v4;rw [set_left (by simp)] at q;exact q
 have h5:Blk ((((((w.setCell ⟨b,0,none⟩ v0).setCell ⟨b,1,none⟩ v1).setCell ⟨b,2,none⟩ v2).setCell ⟨b,3,none⟩ v3).setCell ⟨b,4,none⟩ v4).setCell ⟨b,5,none⟩ v5) b (#[v0,v1,v2,v3,v4,v5,u6,u7,u8,u9,u10,u11,u12,u13]++B) ty:=by have q:=Blk.set h4 5 v5;rw [set_left (by simp)] at q;exact q
 have h6:Blk (((((((w.setCell ⟨b,0,none⟩ v0).setCell ⟨b,1,none⟩ v1).setCell ⟨b,2,none⟩ v2).setCell ⟨b,3,none⟩ v3).setCell ⟨b,4,none⟩ v4).setCell ⟨b,5,none⟩ v5).setCell ⟨b,6,none⟩ v6) b (#[v0,v1,v2,v3,v4,v5,v6,u7,u8,u9,u10,u11,u12,u13]++B) ty:=by have q:=Blk.set h5 6 v6;rw [set_left (by simp)] at q;exact q
 have h7:Blk ((((((((w.setCell ⟨b,0,none⟩ v0).setCell ⟨b,1,none⟩ v1).setCell ⟨b,2,none⟩ v2).setCell ⟨b,3,none⟩ v3).setCell ⟨b,4,none⟩ v4).setCell ⟨b,5,none⟩ v5).setCell ⟨b,6,none⟩ v6).setCell ⟨b,7,none⟩ v7) b (#[v0,v1,v2,v3,v4,v5,v6,v7,u8,u9,u10,u11,u12,u13]++B) ty:=by have q:=Blk.set h6 7 v7;rw [set_left (by simp)] at q;exact q
 have h8:Blk (((((((((w.setCell ⟨b,0,none⟩ v0).setCell ⟨b,1,none⟩ v1).setCell ⟨b,2,none⟩ v2).setCell ⟨b,3,none⟩ v3).setCell ⟨b,4,none⟩ v4).setCell ⟨b,5,none⟩ v5).setCell ⟨b,6,none⟩ v6).setCell ⟨b,7,none⟩ v7).setCell ⟨b,8,none⟩ v8) b (#[v0,v1,v2,v3,v4,v5,v6,v7,v8,u9,u10,u11,u12,u13]++B) ty:=by have q:=Blk.set h7 8 v8;rw [set_left (by simp)] at q;exact q
 have h9:Blk ((((((((((w.setCell ⟨b,0,none⟩ v0).setCell ⟨b,1,none⟩ v1).setCell ⟨b,2,none⟩ v2).setCell ⟨b,3,none⟩ v3).setCell ⟨b,4,none⟩ v4).setCell ⟨b,5,none⟩ v5).setCell ⟨b,6,none⟩ v6).setCell ⟨b,7,none⟩ v7).setCell ⟨b,8,none⟩ v8).setCell ⟨b,9,none⟩ v9) b (#[v0,v1,v2,v3,v4,v5,v6,v7,v8,v9,u10,u11,u12,u13]++B) ty:=by have q:=Blk.set h8 9 v9;rw [set_left (by simp)] at q;exact q
 have h10:Blk (((((((((((w.setCell ⟨b,0,none⟩ v0).setCell ⟨b,1,none⟩ v1).setCell ⟨b,2,none⟩ v2).setCell ⟨b,3,none⟩ v3).setCell ⟨b,4,none⟩ v4).setCell ⟨b,5,none⟩ v5).setCell ⟨b,6,none⟩ v6).setCell ⟨b,7,none⟩ v7).setCell ⟨b,8,none⟩ v8).setCell ⟨b,9,none⟩ v9).setCell ⟨b,10,none⟩ v10) b (#[v0,v1,v2,v3,v4,v5,v6,v7,v8,v9,v10,u11,u12,u13]++B) ty:=by have q:=Blk.set h9 10 v10;rw [set_left (by simp)] at q;exact q
 have h11:Blk ((((((((((((w.setCell ⟨b,0,none⟩ v0).setCell ⟨b,1,none⟩ v1).setCell ⟨b,2,none⟩ v2).setCell ⟨b,3,none⟩ v3).setCell ⟨b,4,none⟩ v4).setCell ⟨b,5,none⟩ v5).setCell ⟨b,6,none⟩ v6).setCell ⟨b,7,none⟩ v7).setCell ⟨b,8,none⟩ v8).setCell ⟨b,9,none⟩ v9).setCell ⟨b,10,none⟩ v10).setCell ⟨b,11,none⟩ v11) b (#[v0,v1,v2,v3,v4,v5,v6,v7,v8,v9,v10,v11,u12,u13]++B) ty:=by have q:=Blk.set h10 11 v11;rw [set_left (by simp)] at q;exact q
 have h12:Blk (((((((((((((w.setCell ⟨b,0,none⟩ v0).setCell ⟨b,1,none⟩ v1).setCell ⟨b,2,none⟩ v2).setCell ⟨b,3,none⟩ v3).setCell ⟨b,4,none⟩ v4).setCell ⟨b,5,none⟩ v5).setCell ⟨b,6,none⟩ v6).setCell ⟨b,7,none⟩ v7).setCell ⟨b,8,none⟩ v8).setCell ⟨b,9,none⟩ v9).setCell ⟨b,10,none⟩ v10).setCell ⟨b,11,none⟩ v11).setCell ⟨b,12,none⟩ v12) b (#[v0,v1,v2,v3,v4,v5,v6,v7,v8,v9,v10,v11,v12,u13]++B) ty:=by have q:=Blk.set h11 12 v12;rw [set_left (by simp)] at q;exact q
 have h13:Blk ((((((((((((((w.setCell ⟨b,0,none⟩ v0).setCell ⟨b,1,none⟩ v1).setCell ⟨b,2,none⟩ v2).setCell ⟨b,3,none⟩ v3).setCell ⟨b,4,none⟩ v4).setCell ⟨b,5,none⟩ v5).setCell ⟨b,6,none⟩ v6).setCell ⟨b,7,none⟩ v7).setCell ⟨b,8,none⟩ v8).setCell ⟨b,9,none⟩ v9).setCell ⟨b,10,none⟩ v10).setCell ⟨b,11,none⟩ v11).setCell ⟨b,12,none⟩ v12).setCell ⟨b,13,none⟩ v13) b (#[v0,v1,v2,v3,v4,v5,v6,v7,v8,v9,v10,v11,v12,v13]++B) ty:=by have q:=Blk.set h12 13 v13;rw [set_left (by simp)] at q;exact q
 exact h13
theorem Blk.MR {w:World} {b:Nat} {u0 u1 u2 u3 u4 u5 u6 u7 u8 u9 u10 u11 u12 u13 v0 v1 v2 v3 v4 v5 v6 v7 v8 v9 v10 v11 v12 v13:Value} {ty:TypeId} (h:Blk w b #[u0,u1,u2,u3,u4,u5,u6,u7,u8,u9,u10,u11,u12,u13] ty):Blk ((((((((((((((w.setCell ⟨b,0,none⟩ (v0)).setCell ⟨b,1,none⟩ (v1)).setCell ⟨b,2,none⟩ (v2)).setCell ⟨b,3,none⟩ (v3)).setCell ⟨b,4,none⟩ (v4)).setCell ⟨b,5,none⟩ (v5)).setCell ⟨b,6,none⟩ (v6)).setCell ⟨b,7,none⟩ (v7)).setCell ⟨b,8,none⟩ (v8)).setCell ⟨b,9,none⟩ (v9)).setCell ⟨b,10,none⟩ (v10)).setCell ⟨b,11,none⟩ (v11)).setCell ⟨b,12,none⟩ (v12)).setCell ⟨b,13,none⟩ (v13)) b #[v0,v1,v2,v3,v4,v5,v6,v7,v8,v9,v10,v11,v12,v13] ty:=by
 have q:=Blk.QP (u0:=u0) (u1:=u1) (u2:=u2) (u3:=u3) (u4:=u4) (u5:=u5) (u6:=u6) (u7:=u7) (u8:=u8) (u9:=u9) (u10:=u10) (u11:=u11) (u12:=u12) (u13:=u13) (v0:=v0) (v1:=v1) (v2:=v2) (v3:=v3) (v4:=v4) (v5:=v5) (v6:=v6) (v7:=v7) (v8:=v8) (v9:=v9) (v10:=v10) (v11:=v11) (v12:=v12) (v13:=v13) (B:=#[]) (w:=w) (b:=b) (ty:=ty) (by rw [Array.append_empty];exact h)
 rw [Array.append_empty] at q
 exact q
theorem JM (w:World) (b:Nat) (v0 v1 v2 v3 v4 v5 v6 v7 v8 v9 v10 v11 v12 v13:Value):Kept b (b+1) w ((((((((((((((w.setCell ⟨b,0,none⟩ (v0)).setCell ⟨b,1,none⟩ (v1)).setCell ⟨b,2,none⟩ (v2)).setCell ⟨b,3,none⟩ (v3)).setCell ⟨b,4,none⟩ (v4)).setCell ⟨b,5,none⟩ (v5)).setCell ⟨b,6,none⟩ (v6)).setCell ⟨b,7,none⟩ (v7)).setCell ⟨b,8,none⟩ (v8)).setCell ⟨b,9,none⟩ (v9)).setCell ⟨b,10,none⟩ (v10)).setCell ⟨b,11,none⟩ (v11)).setCell ⟨b,12,none⟩ (v12)).setCell ⟨b,13,none⟩ (v13)):=((((((((((((((ak w b 0 (v0)).one 1 (v1)).one 2 (v2)).one 3 (v3)).one 4 (v4)).one 5 (v5)).one 6 (v6)).one 7 (v7)).one 8 (v8)).one 9 (v9)).one 10 (v10)).one 11 (v11)).one 12 (v12)).one 13 (v13))
theorem CAt.X8 {w:World} {lo b g:Nat} {c:Pl.Mc} {h:Bool} (a:CAt w lo b g c h) (r:Pl.Rg):CAt ((((((((((((((w.setCell ⟨b,0,none⟩ ((iv (el r.xs 0)))).setCell ⟨b,1,none⟩ ((iv (el r.xs 1)))).setCell ⟨b,2,none⟩ ((iv (el r.xs 2)))).setCell ⟨b,3,none⟩ ((iv (el r.xs 3)))).setCell ⟨b,4,none⟩ ((iv (el r.ys 0)))).setCell ⟨b,5,none⟩ ((iv (el r.ys 1)))).setCell ⟨b,6,none⟩ ((iv (el r.ys 2)))).setCell ⟨b,7,none⟩ ((iv (el r.ys 3)))).setCell ⟨b,8,none⟩ ((iv r.o))).setCell ⟨b,9,none⟩ ((iv r.p))).setCell ⟨b,10,none⟩ ((iv r.f))).setCell ⟨b,11,none⟩ ((iv r.m))).setCell ⟨b,12,none⟩ ((.bool r.s))).setCell ⟨b,13,none⟩ ((.bool r.t))) lo b g (c.dh r) h:=by
 obtain ⟨cu,hB,hO⟩:=a
 exact ⟨cu,Blk.QP (show Blk w b (bkR c.r++_) _ from hB),hO.own (JM _ _ _ _ _ _ _ _ _ _ _ _ _ _ _ _)⟩
theorem Pl.Ol {m:Int} (m0:0≤m) (m1:m≤7):(if Pl.lng m=true then (2:Int) else 1)=if Pl.jS m=true then 2 else 1:=by
 unfold Pl.lng
 rw [show Pl.dB m=true from by simp [Pl.dB,Pl.within];omega]
 rfl
theorem cDo (w:World) (lo b g:Nat) (c:Pl.Mc) (h:Bool) (op z r m k e s a:Int) (hC:CAt w lo b g c h) (G:Pl.GM c) (hf:c.f=Pl.aH) (hx:Pl.dF ⟨op,z,r,m,k,e,s⟩=true) (ht:jF w lo) (a0:0≤a) (a1:a≤65535) :
  Calls prog 53 #[.pointer (some ⟨b,0,none⟩),.agg (inA op z r m k e s),iv a] w fun e' w'=>∃g',e'=.returned (.agg (ftC (c.dn ⟨op,z,r,m,k,e,s⟩ a).f))∧CAt w' lo b g' (c.dn ⟨op,z,r,m,k,e,s⟩ a) h∧Since w b (b+1) g w' g':=by
 have B:=Pl.vK hx
 have wfm:(Lit.int .i64 m).wf=true:=qW (by have:0≤m:=B.m0;omega) (by have:m≤7:=B.m1;omega)
 obtain ⟨L,hL⟩:∃L,(if Pl.lng m=true then (2:Int) else 1)=L:=⟨_,rfl⟩
 have hl2:L=1∨L=2:=by rw [←hL];split<;>simp
 obtain ⟨BH,hBH⟩:∃BH,(a+L*2)%65536=BH:=⟨_,rfl⟩
 have eb:Pl.beh a ⟨op,z,r,m,k,e,s⟩=BH:=by unfold Pl.beh Pl.Om;rw [←hBH,←hL,Pl.Ol B.m0 B.m1]
 have b0:0≤BH∧BH≤65535:=by omega
 obtain ⟨N,hN⟩:∃N,Pl.oL ⟨op,z,r,m,k,e,s⟩%65536=N:=⟨_,rfl⟩
 obtain ⟨D,hD⟩:∃D,D=(c.aJ BH).cr ⟨op,z,r,m,k,e,s⟩:=⟨_,rfl⟩
 obtain ⟨F,hF⟩:∃F,F=D.f:=⟨_,rfl⟩
 have ET:Hid (c.dn ⟨op,z,r,m,k,e,s⟩ a=bif F.v==0 then D else {D with r:=c.r,f:=⟨F.v,bif Pl.iW F.v then BH else a,F.ad,N,F.wr⟩}):=hide (by unfold Pl.Mc.dn Pl.Mc.dn';rw [eb,hN,←hD,hF])
 have GP:Hid (Pl.GM (c.aJ BH)):=hide (G.aJ b0.1 b0.2)
 have HL:=hide hL
 have HBH:=hide hBH
 have HN:=hide hN
 have HD:=hide hD
 have HF:=hide hF
 have HX:=hide hx
 have TB:=hide ht
 have gl:=G.bx
 have w2:IntKind.i64.wrap (L*2)=L*2:=by rw [IntKind.wrap_i64];omega
 have w3:IntKind.i64.wrap (a+L*2)=a+L*2:=by rw [IntKind.wrap_i64];omega
 clear hL hBH hN hD hF hx ht B eb
 obtain ⟨l0,l1,l2,l3,l4⟩:=hC.lt
 have HG:=hide G
 obtain ⟨X,hX,K0,C0,A0,R0,sX⟩:=hC.jh op z r m k e s
 have p:=A0.o.all
 clear hC G
 go_enter func53,ntmps53
 go_wp2_with fail
 refine iE (fun A0 l A W=>∃q:Nat,FR [10,11,12,13,14,15,16,17,18,19,7,8] A0 A∧Once l 0 (A.tmps[10]? = some (.pointer (some ⟨b,0,none⟩)))∧Once l 1 (A.tmps[11]? = some (.pointer (some ⟨b,0,none⟩)))∧Once l 2 (A.tmps[12]? = some (.pointer (some ⟨b,0,none⟩)))∧Once l 3 (A.tmps[13]? = some (.agg (bkR c.r)))∧Once l 4 (A.tmps[14]? = some (iv a))∧Once l 5 (A.tmps[15]? = some (.agg (inA op z r m k e s)))∧Once l 6 (A.tmps[16]? = some (iv L))∧Once l 7 (A.tmps[17]? = some (iv (L*2)))∧Once l 8 (A.tmps[18]? = some (iv (a+L*2)))∧Once l 9 (A.tmps[19]? = some (iv BH))∧Once l 10 (A.tmps[7]? = some (.pointer (some ⟨q,0,none⟩)))∧Once l 11 (True)∧Once l 12 (A.tmps[8]? = some (iv BH))∧Once l 10 (X.heap.size≤q∧Blk W q (bif l.getD 11 true then bkR c.r else #[iv 0,iv 0,iv 0,iv 0,iv 0,iv 0,iv 0,iv 0,iv 0,iv 0,iv 0,iv 0,.bool false,.bool false]) 89)∧(l.getD 11 true=true→l.getD 10 true=true)∧Kept 0 0 X W) (by kernel_rfl) (by kernel_rfl) ?start ?fin ?step
 case start=>exact ⟨0,FR.refl _ _,az (by decide),az (by decide),az (by decide),az (by decide),az (by decide),az (by decide),az (by decide),az (by decide),az (by decide),az (by decide),az (by decide),az (by decide),az (by decide),az (by decide),(fun e=>by rw [mO (by decide)] at e;cases e),ae (Kept.refl _ _ _)⟩
 case fin=>
  intro l A W h hl
  obtain ⟨q,hFR,o0,o1,o2,o3,o4,o5,o6,o7,o8,o9,o10,o11,o12,ox,o11w,hK⟩:=h
  have g10:=o10 (hl 10 (by decide))
  have QX:=hide (ox (hl 10 (by decide)))
  rw [hl 11 (by decide)] at QX
  replace QX:Hid (X.heap.size≤q∧Blk W q (bkR c.r) 89):=QX
  have g12:=o12 (hl 12 (by decide))
  have QQ:=hide hK
  have hc9:=hFR.chain
  simp only [List.foldl] at hc9
  rw [nS g10,nS g12] at hc9
  clear ox o11w hl hK hFR g10 g12 o0 o1 o2 o3 o4 o5 o6 o7 o8 o9 o10 o11 o12
  generalize A.tmps.getD 10 undef=s10 at hc9
  generalize A.tmps.getD 11 undef=s11 at hc9
  generalize A.tmps.getD 12 undef=s12 at hc9
  generalize A.tmps.getD 13 undef=s13 at hc9
  generalize A.tmps.getD 14 undef=s14 at hc9
  generalize A.tmps.getD 15 undef=s15 at hc9
  generalize A.tmps.getD 16 undef=s16 at hc9
  generalize A.tmps.getD 17 undef=s17 at hc9
  generalize A.tmps.getD 18 undef=s18 at hc9
  generalize A.tmps.getD 19 undef=s19 at hc9
  subst hc9
  go_simp
  have C1:=hide (C0.o.any QQ.o)
  have A1:=hide (A0.o.af QQ.o)
  have R1:=hide (R0.o.af QQ.o)
  have K1:=hide (K0.o.trans QQ.o)
  have qX:=QX.o.1
  have B1:=hide QX.o.2
  clear p hX K0 C0 A0 R0 QX
  have q9:=C1.o.cP
  have qz:=C1.o.fz
  have p2:=(A1.o.other b 9 (iv BH) (by omega)).all
  go_wp2_with fail
  clear q9 qz p2
  have S2:=hide (((Since.refl w b (b+1) g).any K1.o).set b 9 (iv BH) (.inl (by omega)))
  have A2:=hide (A1.o.other b 9 (iv BH) (by omega))
  have R2:=hide (R1.o.other b 9 (iv BH) (by omega))
  have B2:=hide (B1.o.other b 9 (iv BH) (by omega))
  refine (Ub _ lo b g (c.aJ BH) h op z r m k e s (C1.o.aJ BH) GP.o hf HX.o (TB.o.since S2.o (by omega) (by omega))).mono ?_
  rintro e9 W3 ⟨g',rfl,hc,hs⟩
  rw [←HD.o] at hc ⊢
  rw [←HF.o]
  unfold ftC
  have n3:=hs.ne (b:=w.heap.size+1) R2.o.lt (by omega)
  have m3:=hs.ne (b:=w.heap.size) A2.o.lt (by omega)
  have o3:=hs.ne (b:=q) B2.o.lt (by omega)
  have z3:=hs.size
  obtain ⟨y0,y1,y2,y3,y4⟩:=hc.lt
  have C3:=hide (hc.alloc (.cells (ftA F) 38))
  have A3:=hide ((hs.blk A2.o (by omega) (by omega)).alloc (.cells (ftA F) 38))
  have R3:=hide ((hs.blk R2.o (by omega) (by omega)).alloc (.cells (ftA F) 38))
  have B3:=hide ((hs.blk B2.o (by omega) (by omega)).alloc (.cells (ftA F) 38))
  have S3:=hide ((S2.o.trans hs).alloc (.cells (ftA F) 38))
  have L3:=hide (Blk.new W3 (ftA F) 38)
  have u3:=B3.o.lt
  have v3:w.heap.size+1<W3.heap.size:=by have:=(hs.blk R2.o (by omega) (by omega)).lt;exact this
  have x3:q<W3.heap.size:=(hs.blk B2.o (by omega) (by omega)).lt
  clear hc hs C1 A1 R1 K1 B1 S2 A2 R2 B2
  go_wp2_with fail
  refine (gu F _).mono ?_
  rintro e9 W4 ⟨rfl,kf⟩
  have C4:=hide (C3.o.any kf)
  have A4:=hide (A3.o.af kf)
  have R4:=hide (R3.o.af kf)
  have B4:=hide (B3.o.af kf)
  have L4:=hide (L3.o.af kf)
  have S4:=hide (S3.o.any kf)
  have q4:=L4.o.all
  have r4:=R4.o.all
  have rf4:=R4.o.fz
  clear kf C3 A3 R3 B3 L3 S3
  cases hv:(F.v != 0)
  ·have E1:Hid (c.dn ⟨op,z,r,m,k,e,s⟩ a=D):=hide (by rw [ET.o,show (F.v==0)=true from by simpa using hv];rfl)
   go_wp2_with fail
   have KR:=(((((ak W4 (w.heap.size+1) 0 (iv F.v)).one 1 (iv F.pc)).one 2 (iv F.ad)).one 3 (iv F.wo)).one 4 (.bool F.wr))
   refine bodyPost_ret (v:=.agg (ftA F)) ?_ rfl ⟨g',?_,?_,(S4.o).mine KR (by omega)⟩
   ·rw [aj rfl];go_simp
   ·rw [E1.o,←HF.o];rfl
   ·rw [E1.o];exact ((C4.o).kept KR (by omega) (by omega))
  ·clear r4 rf4
   have b4:=B4.o.all
   unfold bkR at b4
   obtain ⟨y_0,y_1,y_2,y_3,y_4,y_5,y_6,y_7,y_8,y_9,WG,WF,WE,WC⟩:=C4.o.Ae
   have yz:=C4.o.fz
   have KY:=hide (JM W4 b (iv (el c.r.xs 0)) (iv (el c.r.xs 1)) (iv (el c.r.xs 2)) (iv (el c.r.xs 3)) (iv (el c.r.ys 0)) (iv (el c.r.ys 1)) (iv (el c.r.ys 2)) (iv (el c.r.ys 3)) (iv c.r.o) (iv c.r.p) (iv c.r.f) (iv c.r.m) (.bool c.r.s) (.bool c.r.t))
   have C5:=hide (C4.o.X8 c.r)
   obtain ⟨Y,hY⟩:∃Y:World,((((((((((((((W4.setCell ⟨b,0,none⟩ (iv (el c.r.xs 0))).setCell ⟨b,1,none⟩ (iv (el c.r.xs 1))).setCell ⟨b,2,none⟩ (iv (el c.r.xs 2))).setCell ⟨b,3,none⟩ (iv (el c.r.xs 3))).setCell ⟨b,4,none⟩ (iv (el c.r.ys 0))).setCell ⟨b,5,none⟩ (iv (el c.r.ys 1))).setCell ⟨b,6,none⟩ (iv (el c.r.ys 2))).setCell ⟨b,7,none⟩ (iv (el c.r.ys 3))).setCell ⟨b,8,none⟩ (iv c.r.o)).setCell ⟨b,9,none⟩ (iv c.r.p)).setCell ⟨b,10,none⟩ (iv c.r.f)).setCell ⟨b,11,none⟩ (iv c.r.m)).setCell ⟨b,12,none⟩ (.bool c.r.s)).setCell ⟨b,13,none⟩ (.bool c.r.t))=Y:=⟨_,rfl⟩
   rw [hY] at KY C5
   have A5:=hide (A4.o.kept KY.o (by omega))
   have R5:=hide (R4.o.kept KY.o (by omega))
   have L5:=hide (L4.o.kept KY.o (by omega))
   have S5:=hide (S4.o.ai KY.o (Nat.le_refl _) (Nat.le_refl _))
   have p5:=A5.o.all
   go_wp2_with fail
   refine (firstWord _ op z r m k e s).mono ?_
   rw [HN.o]
   rintro e9 W6 ⟨rfl,kf⟩
   have C6:=hide (C5.o.any kf)
   have R6:=hide (R5.o.af kf)
   have L6:=hide (L5.o.af kf)
   have S6:=hide (S5.o.any kf)
   have l6:=L6.o.all
   have lf6:=L6.o.fz
   clear kf p5 C5 A5 R5 L5 S5 y_0 y_1 y_2 y_3 y_4 y_5 y_6 y_7 y_8 y_9 WG WF WE WC b4 yz q4 hY
   have KZ:=hide ((ak W6 W3.heap.size 1 (iv a)).one 3 (iv N))
   have L7:Hid (Blk ((W6.setCell ⟨W3.heap.size,1,none⟩ (iv a)).setCell ⟨W3.heap.size,3,none⟩ (iv N)) W3.heap.size #[iv F.v,iv a,iv F.ad,iv N,.bool F.wr] 38):=hide ((L6.o.set 1 (iv a)).set 3 (iv N))
   obtain ⟨Z,hZ⟩:∃Z:World,(W6.setCell ⟨W3.heap.size,1,none⟩ (iv a)).setCell ⟨W3.heap.size,3,none⟩ (iv N)=Z:=⟨_,rfl⟩
   rw [hZ] at KZ L7
   have C7:=hide (C6.o.kept KZ.o (by omega) (by omega))
   have R7:=hide (R6.o.kept KZ.o (by omega))
   have S7:=hide (S6.o.mine KZ.o (by omega))
   have l7:=L7.o.all
   cases ho:Pl.iW F.v
   ·have E1:Hid (c.dn ⟨op,z,r,m,k,e,s⟩ a={D with r:=c.r,f:=⟨F.v,a,F.ad,N,F.wr⟩}):=hide (by rw [ET.o,show (F.v==0)=false from by simpa using hv,ho];rfl)
    have r7:=R7.o.all
    have rf7:=R7.o.fz
    go_wp2_with (go_at_call 101;refine st (iW F.v _) ?_;rw [ho])
    have KR:=(((((ak Z (w.heap.size+1) 0 (iv F.v)).one 1 (iv a)).one 2 (iv F.ad)).one 3 (iv N)).one 4 (.bool F.wr))
    refine bodyPost_ret (v:=.agg #[iv F.v,iv a,iv F.ad,iv N,.bool F.wr]) ?_ rfl ⟨g',?_,?_,(S7.o).mine KR (by omega)⟩
    ·rw [aj rfl];go_simp
    ·rw [E1.o];rfl
    ·rw [E1.o];exact ((C7.o).kept KR (by omega) (by omega)).fx rfl rfl rfl rfl rfl
   ·have E1:Hid (c.dn ⟨op,z,r,m,k,e,s⟩ a={D with r:=c.r,f:=⟨F.v,BH,F.ad,N,F.wr⟩}):=hide (by rw [ET.o,show (F.v==0)=false from by simpa using hv,ho];rfl)
    have lf7:=L7.o.fz
    have KV:=hide (ak Z W3.heap.size 1 (iv BH))
    have L8:Hid (Blk (Z.setCell ⟨W3.heap.size,1,none⟩ (iv BH)) W3.heap.size #[iv F.v,iv BH,iv F.ad,iv N,.bool F.wr] 38):=hide (L7.o.set 1 (iv BH))
    obtain ⟨V,hV⟩:∃V:World,Z.setCell ⟨W3.heap.size,1,none⟩ (iv BH)=V:=⟨_,rfl⟩
    rw [hV] at KV L8
    have C8:=hide (C7.o.kept KV.o (by omega) (by omega))
    have R8:=hide (R7.o.kept KV.o (by omega))
    have S8:=hide (S7.o.mine KV.o (by omega))
    have l8:=L8.o.all
    have r8:=R8.o.all
    have rf8:=R8.o.fz
    go_wp2_with (go_at_call 101;refine st (iW F.v _) ?_;rw [ho])
    have KR:=(((((ak V (w.heap.size+1) 0 (iv F.v)).one 1 (iv BH)).one 2 (iv F.ad)).one 3 (iv N)).one 4 (.bool F.wr))
    refine bodyPost_ret (v:=.agg #[iv F.v,iv BH,iv F.ad,iv N,.bool F.wr]) ?_ rfl ⟨g',?_,?_,(S8.o).mine KR (by omega)⟩
    ·rw [aj rfl];go_simp
    ·rw [E1.o];rfl
    ·rw [E1.o];exact ((C8.o).kept KR (by omega) (by omega)).fx rfl rfl rfl rfl rfl
 case step=>
  intro l A W i hI hm
  obtain ⟨q,hFR,o0,o1,o2,o3,o4,o5,o6,o7,o8,o9,o10,o11,o12,ox,o11w,hK⟩:=hI
  obtain ⟨hi1,hi2⟩:=jL hm
  have hsz:Hid (19<A.tmps.size):=hide (by rw [hFR.size];simp)
  have m0:A.tmps[0]? = some (.pointer (some ⟨b,0,none⟩)):=(hFR.o 0 (by decide)).trans rfl
  have m2:A.tmps[2]? = some (iv a):=(hFR.o 2 (by decide)).trans rfl
  have m4:A.tmps[4]? = some (.pointer (some ⟨w.heap.size,0,none⟩)):=(hFR.o 4 (by decide)).trans rfl
  rcases i with _|_|_|_|_|_|_|_|_|_|_|_|_|i
  ·refine wpOp_step rfl (fun KK hK2 => ?_)
   go_simp
   exact hK2 (A.put (some 10) (.pointer (some ⟨b,0,none⟩))) _ ⟨q,hFR.put (by decide) _,.now (put_eq (by have hz:=hsz.o;omega)),o1.q,o2.q,o3.q,o4.q,o5.q,o6.q,o7.q,o8.q,o9.q,o10.q,o11.n,o12.q,ox.past (by decide) (fun h=>by rw [getD_set_ne (by decide)];exact h),(fun e=>by rw [getD_set_ne (by decide)] at e ⊢;exact o11w e),hK⟩
  ·have e0:=o0 (aA hm 0 (by kernel_rfl))
   refine wpOp_step rfl (fun KK hK2 => ?_)
   go_simp
   exact hK2 (A.put (some 11) (.pointer (some ⟨b,0,none⟩))) _ ⟨q,hFR.put (by decide) _,o0.q,.now (put_eq (by have hz:=hsz.o;omega)),o2.q,o3.q,o4.q,o5.q,o6.q,o7.q,o8.q,o9.q,o10.q,o11.n,o12.q,ox.past (by decide) (fun h=>by rw [getD_set_ne (by decide)];exact h),(fun e=>by rw [getD_set_ne (by decide)] at e ⊢;exact o11w e),hK⟩
  ·have e1:=o1 (aA hm 1 (by kernel_rfl))
   refine wpOp_step rfl (fun KK hK2 => ?_)
   go_simp
   exact hK2 (A.put (some 12) (.pointer (some ⟨b,0,none⟩))) _ ⟨q,hFR.put (by decide) _,o0.q,o1.q,.now (put_eq (by have hz:=hsz.o;omega)),o3.q,o4.q,o5.q,o6.q,o7.q,o8.q,o9.q,o10.q,o11.n,o12.q,ox.past (by decide) (fun h=>by rw [getD_set_ne (by decide)];exact h),(fun e=>by rw [getD_set_ne (by decide)] at e ⊢;exact o11w e),hK⟩
  ·have e2:=o2 (aA hm 2 (by kernel_rfl))
   have y:=(C0.o.any hK).Ae
   obtain ⟨y0,y1,y2,y3,y4,y5,y6,y7,y8,y9,y10,y11,y12,y13⟩:=y
   refine wpOp_step rfl (fun KK hK2 => ?_)
   go_simp
   exact hK2 (A.put (some 13) (.agg (bkR c.r))) _ ⟨q,hFR.put (by decide) _,o0.q,o1.q,o2.q,.now (put_eq (by have hz:=hsz.o;omega)),o4.q,o5.q,o6.q,o7.q,o8.q,o9.q,o10.q,o11.n,o12.q,ox.past (by decide) (fun h=>by rw [getD_set_ne (by decide)];exact h),(fun e=>by rw [getD_set_ne (by decide)] at e ⊢;exact o11w e),hK⟩
  ·refine wpOp_step rfl (fun KK hK2 => ?_)
   go_simp
   exact hK2 (A.put (some 14) (iv a)) _ ⟨q,hFR.put (by decide) _,o0.q,o1.q,o2.q,o3.q,.now (put_eq (by have hz:=hsz.o;omega)),o5.q,o6.q,o7.q,o8.q,o9.q,o10.q,o11.n,o12.q,ox.past (by decide) (fun h=>by rw [getD_set_ne (by decide)];exact h),(fun e=>by rw [getD_set_ne (by decide)] at e ⊢;exact o11w e),hK⟩
  ·have BL:=hide (A0.o.af hK)
   obtain ⟨x0,x1,x2,x3,x4,x5,x6⟩:=BL.o.c7
   refine wpOp_step rfl (fun KK hK2 => ?_)
   go_simp
   exact hK2 (A.put (some 15) (.agg (inA op z r m k e s))) _ ⟨q,hFR.put (by decide) _,o0.q,o1.q,o2.q,o3.q,o4.q,.now (put_eq (by have hz:=hsz.o;omega)),o6.q,o7.q,o8.q,o9.q,o10.q,o11.n,o12.q,ox.past (by decide) (fun h=>by rw [getD_set_ne (by decide)];exact h),(fun e=>by rw [getD_set_ne (by decide)] at e ⊢;exact o11w e),hK⟩
  ·have e5:=o5 (aA hm 5 (by kernel_rfl))
   refine wpOp_step rfl (fun KK hK2 => ?_)
   go_simp
   refine (lengthOf W op z r m k e s wfm).mono ?_
   rw [HL.o]
   rintro r9 y ⟨rfl,kd⟩
   go_simp
   exact hK2 (A.put (some 16) (iv L)) _ ⟨q,hFR.put (by decide) _,o0.q,o1.q,o2.q,o3.q,o4.q,o5.q,.now (put_eq (by have hz:=hsz.o;omega)),o7.q,o8.q,o9.q,o10.q,o11.n,o12.q,ox.past (by decide) (fun h=>by rw [getD_set_ne (by decide)];exact ⟨h.1,h.2.af kd⟩),(fun e=>by rw [getD_set_ne (by decide)] at e ⊢;exact o11w e),(hK.trans kd)⟩
  ·have e6:=o6 (aA hm 6 (by kernel_rfl))
   refine wpOp_step rfl (fun KK hK2 => ?_)
   go_simp
   exact hK2 (A.put (some 17) (iv (L*2))) _ ⟨q,hFR.put (by decide) _,o0.q,o1.q,o2.q,o3.q,o4.q,o5.q,o6.q,.now (put_eq (by have hz:=hsz.o;omega)),o8.q,o9.q,o10.q,o11.n,o12.q,ox.past (by decide) (fun h=>by rw [getD_set_ne (by decide)];exact h),(fun e=>by rw [getD_set_ne (by decide)] at e ⊢;exact o11w e),hK⟩
  ·have e4:=o4 (aA hm 4 (by kernel_rfl))
   have e7:=o7 (aA hm 7 (by kernel_rfl))
   refine wpOp_step rfl (fun KK hK2 => ?_)
   go_simp
   exact hK2 (A.put (some 18) (iv (a+L*2))) _ ⟨q,hFR.put (by decide) _,o0.q,o1.q,o2.q,o3.q,o4.q,o5.q,o6.q,o7.q,.now (put_eq (by have hz:=hsz.o;omega)),o9.q,o10.q,o11.n,o12.q,ox.past (by decide) (fun h=>by rw [getD_set_ne (by decide)];exact h),(fun e=>by rw [getD_set_ne (by decide)] at e ⊢;exact o11w e),hK⟩
  ·have e8:=o8 (aA hm 8 (by kernel_rfl))
   refine wpOp_step rfl (fun KK hK2 => ?_)
   go_simp
   refine (gY (a+L*2) W).mono ?_
   rw [HBH.o]
   rintro r9 y ⟨rfl,kd⟩
   rw [kd]
   go_simp
   exact hK2 (A.put (some 19) (iv BH)) _ ⟨q,hFR.put (by decide) _,o0.q,o1.q,o2.q,o3.q,o4.q,o5.q,o6.q,o7.q,o8.q,.now (put_eq (by have hz:=hsz.o;omega)),o10.q,o11.n,o12.q,ox.past (by decide) (fun h=>by rw [getD_set_ne (by decide)];exact h),(fun e=>by rw [getD_set_ne (by decide)] at e ⊢;exact o11w e),hK⟩
  ·have n11:l.getD 11 true=false:=by cases q11:l.getD 11 true;rfl;have:=o11w q11;rw [hi2] at this;cases this
   refine wpOp_step rfl (fun KK hK2 => ?_)
   go_simp
   exact hK2 (A.put (some 7) (.pointer (some ⟨W.heap.size,0,none⟩))) _ ⟨W.heap.size,hFR.put (by decide) _,o0.q,o1.q,o2.q,o3.q,o4.q,o5.q,o6.q,o7.q,o8.q,o9.q,.now (put_eq (by have hz:=hsz.o;omega)),o11.n,o12.q,.now ⟨hK.size,by rw [getD_set_ne (by decide),n11];exact Blk.new W _ _⟩,(fun e=>gU),(ah hK _)⟩
  ·have e10:=o10 (aA hm 10 (by kernel_rfl))
   have e3:=o3 (aA hm 3 (by kernel_rfl))
   have oq:=ox (aA hm 10 (by kernel_rfl))
   unfold bkR at e3
   have oR2:Blk W q #[iv 0,iv 0,iv 0,iv 0,iv 0,iv 0,iv 0,iv 0,iv 0,iv 0,iv 0,iv 0,.bool false,.bool false] 89:=by have:=oq.2;rw [hi2] at this;exact this
   have OR:=hide oR2
   have qa:=OR.o.all
   have qf:=OR.o.fz
   refine wpOp_step rfl (fun KK hK2 => ?_)
   go_simp
   exact hK2 A _ ⟨q,hFR,o0.n,o1.n,o2.n,o3.n,o4.n,o5.n,o6.n,o7.n,o8.n,o9.n,o10.n,.now trivial,o12.n,(fun _=>⟨oq.1,by rw [gU];exact Blk.MR oR2⟩),(fun _=>by rw [getD_set_ne (by decide)];exact aA hm 10 (by kernel_rfl)),(ag (ag (ag (ag (ag (ag (ag (ag (ag (ag (ag (ag (ag (ag hK _ _ _ (.inr oq.1)) _ _ _ (.inr oq.1)) _ _ _ (.inr oq.1)) _ _ _ (.inr oq.1)) _ _ _ (.inr oq.1)) _ _ _ (.inr oq.1)) _ _ _ (.inr oq.1)) _ _ _ (.inr oq.1)) _ _ _ (.inr oq.1)) _ _ _ (.inr oq.1)) _ _ _ (.inr oq.1)) _ _ _ (.inr oq.1)) _ _ _ (.inr oq.1)) _ _ _ (.inr oq.1))⟩
  ·have e9:=o9 (aA hm 9 (by kernel_rfl))
   refine wpOp_step rfl (fun KK hK2 => ?_)
   go_simp
   exact hK2 (A.put (some 8) (iv BH)) _ ⟨q,hFR.put (by decide) _,o0.q,o1.q,o2.q,o3.q,o4.q,o5.q,o6.q,o7.q,o8.q,o9.q,o10.q,o11.n,.now (put_eq (by have hz:=hsz.o;omega)),ox.past (by decide) (fun h=>by rw [getD_set_ne (by decide)];exact h),(fun e=>by rw [getD_set_ne (by decide)] at e ⊢;exact o11w e),hK⟩
  ·simp at hi1
   omega
theorem Pl.Pe {c:Pl.Mc} (h:(c.kZ.v==0)=true):Pl.dF c.ay=true:=by
 cases hf:c.fetch.fine
 ·have e:c.kZ=c.fetch.f:=by unfold Pl.Mc.kZ;rw [hf];rfl
  rw [e] at h
  unfold Pl.Mc.fine at hf
  rw [h] at hf;cases hf
 ·exact (Pl.mY hf).1
theorem V5 (w:World) (lo b g:Nat) (c:Pl.Mc) (h:Bool) (hC:CAt w lo b g c h) (G:Pl.GM c) (hf:c.f=Pl.aH) (ht:jF w lo) :
  Calls prog 23 #[.pointer (some ⟨b,0,none⟩)] w fun e' w'=>∃g',e'=.returned (.agg (ftC c.sp.f))∧CAt w' lo b g' (c.sp) h∧Since w b (b+1) g w' g':=by
 obtain ⟨l0,l1,l2,l3,l4⟩:=hC.lt
 obtain ⟨F,hF⟩:∃F,F=c.kZ:=⟨_,rfl⟩
 obtain ⟨x,hx⟩:∃x,x=c.ay:=⟨_,rfl⟩
 obtain ⟨N,hN⟩:∃N,N=c.bC:=⟨_,rfl⟩
 obtain ⟨E,hE⟩:∃E,E=c.fetch:=⟨_,rfl⟩
 have ES:Hid (c.sp=bif F.v==0 then E.nf.dn x c.r.p else {E with f:=F}):=hide (by unfold Pl.Mc.sp;rw [hF,hx,hE])
 have XO:Hid ((F.v==0)=true→Pl.dF x=true):=hide (by rw [hF,hx];exact Pl.Pe)
 have GE:Hid (Pl.GM E):=hide (by rw [hE];exact G.fetch)
 have ER:Hid (E.r=c.r):=hide (by rw [hE];exact Pl.DR.1)
 have HG:=hide G
 have HF:=hide hF
 have HX:=hide hx
 have HN:=hide hN
 have HE:=hide hE
 have TB:=hide ht
 have K0:=hide (kept_alloc w (.cells ftZ 38))
 have C0:=hide (hC.alloc (.cells ftZ 38))
 have R0:=hide (Blk.new w ftZ 38)
 obtain ⟨X,hX⟩:∃X:World,w.alloc (.cells ftZ 38)=X:=⟨_,rfl⟩
 rw [hX] at K0 C0 R0
 have sX:w.heap.size<X.heap.size:=R0.o.lt
 clear hC G hF hx hN hE ht
 go_enter func23,ntmps23
 go_wp2_with fail
 refine (Ua _ lo b g c h C0.o HG.o hf).mono ?_
 rintro e9 W1 ⟨g1,rfl,hc,hs⟩
 rw [←HE.o] at hc
 rw [←HX.o,←HN.o,←HF.o]
 unfold ftC lZ
 have n1:=hs.ne (b:=w.heap.size) R0.o.lt (by omega)
 have z1:=hs.size
 obtain ⟨y0,y1,y2,y3,y4⟩:=hc.lt
 have C1:=hide ((hc.alloc (.cells (inX x) 79)).alloc (.cells (ftA F) 38))
 have R1:=hide (((hs.blk R0.o (by omega) (by omega)).alloc (.cells (inX x) 79)).alloc (.cells (ftA F) 38))
 have S1:=hide (((((Since.refl w b (b+1) g).any K0.o).trans hs).alloc (.cells (inX x) 79)).alloc (.cells (ftA F) 38))
 have A1:=hide ((Blk.new W1 (inX x) 79).alloc (.cells (ftA F) 38))
 have L1:=Blk.new (W1.alloc (.cells (inX x) 79)) (ftA F) 38
 simp only [World.size_alloc] at L1
 replace L1:=hide L1
 clear hc hs hX
 go_wp2_with fail
 refine (gu F _).mono ?_
 rintro e9 W2 ⟨rfl,kf⟩
 have C2:=hide (C1.o.any kf)
 have R2:=hide (R1.o.af kf)
 have A2:=hide (A1.o.af kf)
 have L2:=hide (L1.o.af kf)
 have S2:=hide (S1.o.any kf)
 clear kf C1 R1 A1 L1 S1
 cases hv:(F.v != 0)
 ·have h0:(F.v==0)=true:=by simpa using hv
  have XK:=hide (XO.o h0)
  have E1:Hid (c.sp=E.nf.dn x c.r.p):=hide (by rw [ES.o,h0];rfl)
  clear h0
  go_wp2_with fail
  refine wp_region_still_tail 7 (by kernel_rfl) (by kernel_rfl) ?_
  simp only [List.take_succ_cons,List.take_zero,List.drop_succ_cons,List.drop_zero]
  obtain ⟨Y,hY⟩:∃Y:World,Y={W2 with drawn:=W2.drawn+1}:=⟨_,rfl⟩
  rw [←hY]
  have kY:Kept 0 0 W2 Y:=by rw [hY];exact ae (Kept.refl _ _ _)
  have C3:=hide (C2.o.any kY)
  have R3:=hide (R2.o.af kY)
  have A3:=hide (A2.o.af kY)
  have S3:=hide (S2.o.any kY)
  clear hY kY C2 R2 A2 L2 S2
  have p9:=C3.o.cP
  rw [ER.o] at p9
  have q:=A3.o.all
  iterate 7 still_step
  refine wpStill_nil ?_
  have C4:Hid (CAt Y lo b g1 E.nf h):=hide (C3.o.fx rfl rfl rfl rfl rfl)
  clear p9 q
  go_wp2_with (go_at_call 53;refine (cDo _ lo b g1 E.nf h x.op x.z x.r x.m x.k x.e x.s c.r.p C4.o (GE.o.ft Pl.aH) rfl XK.o (TB.o.since S3.o (by omega) (by omega)) HG.o.p0 HG.o.p1).mono ?_;rintro e9 W5 ⟨g',rfl,hc,hs⟩;rw [←show _=E.nf.dn x c.r.p from E1.o] at hc ⊢;obtain ⟨Q,hQ⟩:∃Q,Q=c.sp.f:=⟨_,rfl⟩;rw [←hQ];unfold ftC;have HQ:=hide hQ;clear hQ;have C5:=hide hc;have n5:=hs.ne (b:=w.heap.size) R3.o.lt (by omega);have R5:=hide (hs.blk R3.o (by omega) (by omega));have S5:=hide (S3.o.trans hs);have r5:=R5.o.all;have rf5:=R5.o.fz;clear hc hs)
  have KR:=(((((ak W5 w.heap.size 0 (iv Q.v)).one 1 (iv Q.pc)).one 2 (iv Q.ad)).one 3 (iv Q.wo)).one 4 (.bool Q.wr))
  refine bodyPost_ret (v:=.agg (ftA Q)) ?_ rfl ⟨g',?_,(C5.o).kept KR (by omega) (by omega),(S5.o).mine KR (by omega)⟩
  ·rw [aj rfl];go_simp
  ·rw [←HQ.o];rfl
 ·have E1:Hid (c.sp={E with f:=F}):=hide (by rw [ES.o,show (F.v==0)=false from by simpa using hv];rfl)
  have l2:=L2.o.all
  have r2:=R2.o.all
  have rf2:=R2.o.fz
  go_wp2_with fail
  have KR:=(((((ak W2 w.heap.size 0 (iv F.v)).one 1 (iv F.pc)).one 2 (iv F.ad)).one 3 (iv F.wo)).one 4 (.bool F.wr))
  refine bodyPost_ret (v:=.agg (ftA F)) ?_ rfl ⟨g1,?_,?_,(S2.o).mine KR (by omega)⟩
  ·rw [aj rfl];go_simp
  ·rw [E1.o];rfl
  ·rw [E1.o];exact ((C2.o).kept KR (by omega) (by omega)).fx rfl rfl rfl rfl rfl
def brd (xs:List Int) (u:Value):Array Value:=(cellsOf xs).push u
theorem Uf {xs:List Int} {u:Value} {i:Nat} (hi:i<xs.length):(brd xs u)[i]? = some (iv (el xs i)):=by
 simp [brd,cellsOf,el,hi]
 rw [List.getElem?_append_left (by simpa using hi)]
 simp [hi]
theorem Qa {xs:List Int} {u:Value} (hl:xs.length=512):(brd xs u)[512]? = some u:=by
 simp [brd,cellsOf,hl]
end Go.Proofs.YtblddehlkaolbaaGreatDoor
