/- Part 16 of what the last text leans on. -/
import Derived.Test.YtgikibaajanjiaaGreatDoorJA13
import Derived.Test.YtgikibaajanjiaaGreatDoorJA15
import Derived.ScopeJumps
import Derived.WalkMore
import Derived.Test.YtgikibaajanjiaaGreatDoorJA1
import Derived.RangeFuncNested
import Derived.RangeFuncBound
import Derived.RangeFuncCalls
import Derived.RangeFuncLeaves
import Derived.Shelf.Abstract
import Derived.Shelf.RegionOpen
import Derived.WalkKit
import Derived.OwnWalkIn
import Derived.TacticsInMore
import Derived.LoopNIn
import Derived.LoopIn
import Derived.Test.YtgikibaajanjiaaGreatDoorJA3
import Derived.Deep.AppendLies
import Derived.Test.YtgikibaajanjiaaGreatDoorJA12
import Derived.Test.YtgikibaajanjiaaGreatDoorJA11
set_option maxRecDepth 100000
set_option maxHeartbeats 16000000
namespace Go.Proofs.YtgikibaajanjiaaGreatDoor
open Pl
open Go.RowKit Go.Proofs.Tryz
set_option linter.unusedVariables false
theorem vO {P:Program} {a:Act} {w:World} {Q:Exit->Act->World->Prop} {c rest:Code} (l:Nat) (hf:findLabel c l=some rest)
  (first:c.wp P (Exit.jump l (fun a' w'=>rest.wp P (Exit.noGoto Q) a' w') Q) a w):(Code.scope c).wp P Q a w:=by
 refine wp_scope_jumps l (fun a' w'=>rest.wp P (Exit.noGoto Q) a' w') (fun _ _=>0) hf first (fun a' w' h => ?_)
 refine Code.wp_mono (fun e a'' w'' hq => ?_) h;cases e<;>first|exact hq|exact (hq:False).elim
theorem iU {fn:Func} {p u q:Tmp} {ty tz:TypeId} (h:fn.results=#[.cell p ty,.tmp u,.cell q tz]) (tmps:Array Value) (P:Program) (w:World) :
  (results fn tmps).run P w=((asAddr (tmps.getD p undef)).run P w).andThen fun a w₁=>((loadVar ty a).run P w₁).andThen fun v w₂=>((asAddr (tmps.getD q undef)).run P w₂).andThen fun b w₃=>((loadVar tz b).run P w₃).andThen fun x w₄=>.ok (.tuple #[v,tmps.getD u undef,x]) w₄:=by
 simp only [results,h];simp [Sem.run_bind,Result.andThen]
namespace Pl
def Mc.kR (c:Mc):Ft:=bif c.fetch.fine then aF else c.fetch.f
theorem pR (p q:Int) (k s a:Int):Mc.cZ {aF with pc:=p,wo:=q} k s a={Mc.cZ aF k s a with pc:=p,wo:=q}:=by
 unfold Mc.cZ;show (bif (code k s a != 0)&&true then _ else _)=_;cases code k s a != 0<;>rfl
theorem mW {k s a:Int} (h:((Mc.cZ aF k s a).v != 0)=false):code k s a=0∧Mc.cZ aF k s a=aF:=by
 unfold Mc.cZ at *;cases hc:code k s a != 0
 ·exact ⟨by simpa using hc,rfl⟩
 ·rw [hc] at h;cases h2:code k s a==2<;>rw [h2] at h<;>cases h
theorem LP {k s a:Int} (h:((Mc.cZ aF k s a).v != 0)=true):¬code k s a=0:=by
 intro hc;unfold Mc.cZ at h;rw [hc] at h;cases h
theorem Og {xs:List Int} {k s a:Int} (h:¬code k s a=0):lv xs k s a 0=0:=by
 unfold lv;rw [if_neg (fun q=>h q.1)]
theorem Dz {c:Mc} (h1:c.fe1.fine=false):c.fetch=c.fe1∧c.aA=uU∧c.bW=0∧c.kR=c.fe1.f:=by
 have e:c.fetch=c.fe1:=by unfold Mc.fetch;rw [h1];rfl
 refine ⟨e,?_,?_,?_⟩
 ·unfold Mc.aA;rw [h1];rfl
 ·unfold Mc.bW;rw [h1];rfl
 ·unfold Mc.kR;rw [e,h1];rfl
theorem Dy {c:Mc} (h1:c.fe1.fine=true) (h3:c.fe3.fine=false):c.fetch=c.fe3∧c.aA=uU∧c.bW=0∧c.kR=c.fe3.f:=by
 have e:c.fetch=c.fe3:=by unfold Mc.fetch;rw [h1,h3];rfl
 refine ⟨e,?_,?_,?_⟩
 ·unfold Mc.aA;rw [h1,h3];rfl
 ·unfold Mc.bW;rw [h1,h3];rfl
 ·unfold Mc.kR;rw [e,h3];rfl
theorem xN {c:Mc} (h1:c.fe1.fine=true) (h3:c.fe3.fine=true) (hx:bI c.feX=false):c.fetch=c.fe4∧c.aA=uU∧c.bW=0∧c.kR=c.fe4.f:=by
 have e:c.fetch=c.fe4:=by unfold Mc.fetch;rw [h1,h3,hx];rfl
 refine ⟨e,?_,?_,?_⟩
 ·unfold Mc.aA;rw [h1,h3,hx];rfl
 ·unfold Mc.bW;rw [h1,h3,hx];rfl
 ·unfold Mc.kR;rw [e];rfl
theorem xM {c:Mc} (h1:c.fe1.fine=true) (h3:c.fe3.fine=true) (hx:bI c.feX=true):c.fetch=c.fe3∧c.aA=c.feX∧c.bW=dO c.feW∧c.kR=aF:=by
 have e:c.fetch=c.fe3:=by unfold Mc.fetch;rw [h1,h3,hx];rfl
 refine ⟨e,?_,?_,?_⟩
 ·unfold Mc.aA;rw [h1,h3,hx];rfl
 ·unfold Mc.bW;rw [h1,h3,hx];rfl
 ·unfold Mc.kR;rw [e,h3];rfl
theorem Jf (n:Int):dO n=1∨dO n=2:=by unfold dO;split<;>simp
end Pl
theorem CAt.fx {w:World} {lo b g:Nat} {c d:Mc} {h:Hl} (a:CAt w lo b g c h) (hr:d.r=c.r) (hx:d.bx=c.bx) (hl:d.bl=c.bl) (hm:d.bm=c.bm) (hs:d.st=c.st):CAt w lo b g d h:=by
 unfold CAt CBk at *;rw [hr,hx,hl,hm,hs];exact a
theorem Uo (w:World) (lo b g:Nat) (c:Mc) (h:Hl) (hC:CAt w lo b g c h) (G:GM c) (hf:c.f=aF) :
  Calls prog 136 #[.pointer (some (Zt b 0))] w fun e w'=>∃g',e=.returned (.tuple #[.agg (mM c.aA),iv c.bW,.agg (ftC c.kR)])∧CAt w' lo b g' (c.fetch) h∧Since w b (b+1) g w' g':=by
 obtain ⟨l0,l1,l2,l3,l4⟩:=hC.lt;have p0:=G.p0;have p1:=G.p1;have HG:=Zr G;have K0:=Zr (ag (ag (kept_alloc w (.cells (inA 0 0 0 0 0 0 0) 48)) (.cells ftZ 42)) (.cells #[iv 0,iv 0] 211));have C0:=Zr (((hC.alloc (.cells (inA 0 0 0 0 0 0 0) 48)).alloc (.cells ftZ 42)).alloc (.cells #[iv 0,iv 0] 211));have I0:=Zr (((Blk.new w (inA 0 0 0 0 0 0 0) 48).alloc (.cells ftZ 42)).alloc (.cells #[iv 0,iv 0] 211));have R0:=(Blk.new (w.alloc (.cells (inA 0 0 0 0 0 0 0) 48)) ftZ 42).alloc (.cells #[iv 0,iv 0] 211);have D0:=Blk.new ((w.alloc (.cells (inA 0 0 0 0 0 0 0) 48)).alloc (.cells ftZ 42)) #[iv 0,iv 0] 211;simp only [World.size_alloc] at R0 D0;replace R0:=Zr R0;replace D0:=Zr D0;obtain ⟨X,hX⟩:∃X:World,((w.alloc (.cells (inA 0 0 0 0 0 0 0) 48)).alloc (.cells ftZ 42)).alloc (.cells #[iv 0,iv 0] 211)=X:=⟨_,rfl⟩
 rw [hX] at K0 C0 I0 R0 D0;have x9:=C0.o.cP;have HA1:=Zr (dP (k:=3) (.inr rfl) p0 p1);obtain ⟨V1,hV1⟩:∃V,V=c.feW:=⟨_,rfl⟩
 have HV1:Hid (V1=if (3:Int)=2 then 0 else Pl.lv c.bx 3 2 c.r.p 0):=Zr hV1;obtain ⟨F1,hF1⟩:∃F,F=Mc.cZ aF 3 2 c.r.p:=⟨_,rfl⟩
 have HF1:=Zr hF1
 have E1:Hid (c.fe1.f={F1 with pc:=c.r.p,wo:=0}):=Zr (by
  show Mc.cZ {c.f with pc:=c.r.p} 3 2 c.r.p=_
  rw [hf,hF1];exact pR c.r.p 0 3 2 c.r.p)
 have epp:c.r.p%65536=c.r.p:=by omega
 have HW1:=Zr hV1;clear hC G hF1 hV1;go_enter func136,ntmps136;go_wp2_with fail;refine vO 0 rfl ?_;go_wp2_with fail;go_step3;go_wp2_with (first|(go_at_call 178;refine st (gQ _ _) ?_)|(go_at_call 187;refine (jO _ lo b g c h 3 2 c.r.p 0 C0.o HG.o HA1.o V1 HV1 F1 HF1).mono ?_;rintro e W3 ⟨g3,rfl,hc3,hs3⟩;unfold ftC;have S3:=Zr ((((Since.refl w b (b+1) g).any K0.o).trans hs3).alloc (.cells (ftA F1) 42));have C3:=Zr (hc3.alloc (.cells (ftA F1) 42));have I3:=Zr ((hs3.blk I0.o (by omega) (by omega)).alloc (.cells (ftA F1) 42));have R3:=Zr ((hs3.blk R0.o (by omega) (by omega)).alloc (.cells (ftA F1) 42));have D3:=Zr ((hs3.blk D0.o (by omega) (by omega)).alloc (.cells (ftA F1) 42));have L3:=Zr (Blk.new W3 (ftA F1) 42);have sX:=D0.o.lt;have s3:=hs3.size;obtain ⟨y0,y1,y2,y3,y4⟩:=hc3.lt;have n0:=hs3.ne (b:=w.heap.size) I0.o.lt (by omega);have n1:=hs3.ne (b:=w.heap.size+1) R0.o.lt (by omega);have n2:=hs3.ne (b:=w.heap.size+1+1) D0.o.lt (by omega);have d3:=D3.o.all;have df3:=D3.o.fz;have l3c:=fun v=>(L3.o.other (w.heap.size+1+1) 0 v (by omega)).all;clear hc3 hs3));refine (bP F1 _).mono ?_;rintro e W4 ⟨rfl,k4⟩;have C4:=Zr ((C3.o.other (w.heap.size+1+1) 0 (iv V1) (by omega) (by omega)).any k4);have I4:=Zr ((I3.o.other (w.heap.size+1+1) 0 (iv V1) (by omega)).ae k4);have R4:=Zr ((R3.o.other (w.heap.size+1+1) 0 (iv V1) (by omega)).ae k4);have L4:=Zr ((L3.o.other (w.heap.size+1+1) 0 (iv V1) (by omega)).ae k4);have D4:Hid (Blk W4 (w.heap.size+1+1) #[iv V1,iv 0] 211):=Zr ((D3.o.set 0 (iv V1)).ae k4);have S4:=Zr ((S3.o.mine (ak (W3.alloc (.cells (ftA F1) 42)) (w.heap.size+1+1) 0 (iv V1)) (by omega)).any k4);have s4:=L4.o.lt;clear k4 C3 I3 R3 L3 D3 S3 d3 df3 l3c x9;have d4:=D4.o.all;have e4:=L4.o.all;have ef4:=L4.o.fz;have i4:=I4.o.all;have if4:=I4.o.fz;have r4:=R4.o.all;have rf4:=R4.o.fz;cases hv:(F1.v != 0)
 ·obtain ⟨hc0,hFn⟩:=mW (by rw [<-HF1.o];exact hv);have EF1:Hid (F1=aF):=Zr (by rw [HF1.o];exact hFn);have h1:c.fe1.fine=true:=by unfold Mc.fine;rw [E1.o];simpa using hv
  have hw:okv 2 V1=true:=by rw [HW1.o];exact GM.fZ (c:=c.fe0) (HG.o.ft _) HA1.o
  have hw2:=aO hw;obtain ⟨v0,v1⟩:0<=V1∧V1<=65535:=by omega
  have okW:aJ V1=true:=by simp [aJ,within];omega
  have wfV1:(Lit.int .i64 V1).wf=true:=qy (by omega) (by omega)
  have E2:Hid (c.fe2.f=⟨0,c.r.p,0,V1,false⟩):=Zr (by
   show ({c.fe1.f with wo:=c.feW}:Ft)=_
   rw [E1.o,EF1.o,HW1.o];rfl)
  clear hw hw2 hc0 hFn;go_wp2_with fail;refine (sN _ V1 wfV1).mono ?_;rintro e W5 ⟨rfl,k5⟩;rw [if_pos okW,okW];have C5:=Zr (C4.o.any k5);have I5:=Zr (I4.o.ae k5);have R5:=Zr (R4.o.ae k5);have D5:=Zr (D4.o.ae k5);have S5:=Zr (S4.o.any k5);have s5:=k5.size;have d5:=D5.o.all;clear k5;clear d4 e4 ef4 i4 if4 r4 rf4;rcases Jf V1 with hl|hl
  ·have hl2:(dO c.feW==2)=false:=by rw [<-HW1.o,hl];rfl
   have E3:Hid (c.fe3.f=⟨0,c.r.p,0,V1,false⟩):=Zr (by unfold Mc.fe3;rw [hl2];exact E2.o);have EQ3:Hid (c.fe3=c.fe2):=Zr (by unfold Mc.fe3;rw [hl2];rfl);have h3:c.fe3.fine=true:=by unfold Mc.fine;rw [E3.o];rfl
   have EX:Hid (c.feX=Pl.decode V1 0):=Zr (by unfold Mc.feX Mc.feN;rw [hl2,<-HW1.o];rfl);rw [hl];clear hl2;go_wp2_with fail;refine (uH _ V1 0 wfV1 (by decide)).mono ?_;rintro e W9 ⟨rfl,k9⟩;obtain ⟨x,hx⟩:∃x,x=qj V1 0:=⟨_,rfl⟩
   obtain ⟨N,hN⟩:∃N,N=qF V1 0:=⟨_,rfl⟩
   rw [<-hx,<-hN];have C9:=Zr ((C5.o.any k9).alloc (.cells (inX x) 48));have I9:=Zr ((I5.o.ae k9).alloc (.cells (inX x) 48));have R9:=Zr ((R5.o.ae k9).alloc (.cells (inX x) 48));have D9:=Zr ((D5.o.ae k9).alloc (.cells (inX x) 48));have S9:=Zr ((S5.o.any k9).alloc (.cells (inX x) 48));have s9:=k9.size;have i9:=I9.o.all;have if9:=I9.o.fz;have r9:=R9.o.all;have rf9:=R9.o.fz;have d9:=D9.o.all;clear k9;have HX:=Zr hx;have HN:=Zr hN;clear hx hN;cases hk:iO V1 0
   ·have hb:bI c.feX=false:=by
     have:=hk;unfold iO at this;rw [okW,Bool.true_and] at this
     rw [show c.feX=Pl.decode V1 0 from EX.o];exact this
    obtain ⟨ES,EI,EN,EF⟩:=xN h1 h3 hb;replace ES:=Zr (ES.trans (show c.fe4={c.fe3 with f:={c.fe3.f with v:=4}} from rfl));replace EI:=Zr EI;replace EN:=Zr EN;have EF:Hid (c.kR=⟨4,c.r.p,0,V1,false⟩):=Zr (by rw [EF];show ({c.fe3.f with v:=4}:Ft)=_;rw [E3.o]);clear hb;go_wp2_with fail;go_region;go_wp2_with fail;have K7:=(((((((ak (W9.alloc (.cells (inX x) 48)) w.heap.size 0 (iv 0)).one 1 (iv 0)).one 2 (iv 0)).one 3 (iv 0)).one 4 (iv 0)).one 5 (iv 0)).one 6 (iv 0))
    have K8:=(ah ((((((ak ((((((((W9.alloc (.cells (inX x) 48)).setCell (Zt w.heap.size 0) (iv 0)).setCell (Zt w.heap.size 1) (iv 0)).setCell (Zt w.heap.size 2) (iv 0)).setCell (Zt w.heap.size 3) (iv 0)).setCell (Zt w.heap.size 4) (iv 0)).setCell (Zt w.heap.size 5) (iv 0)).setCell (Zt w.heap.size 6) (iv 0)) (w.heap.size+1) 0 (iv 4)).one 1 (iv c.r.p)).one 2 (iv 0)).one 3 (iv V1)).one 4 (.bool false))))
    first|simp only [Exit.jump]|rw [Exit.noGoto_ret]
    refine bodyPost_ret (v:=.tuple #[.agg (inA 0 0 0 0 0 0 0),iv 0,.agg #[iv 4,iv c.r.p,iv 0,iv V1,.bool false]]) ?_ rfl ⟨g3,?_,?_,((S9.o).mine K7 (by omega)).mine K8 (by omega)⟩
    ·rw [iU rfl];go_simp
    ·rw [EI.o,EN.o,EF.o];rfl
    ·rw [ES.o,EQ3.o];exact (((C9.o).kept K7 (by omega) (by omega)).kept K8 (by omega) (by omega)).fx rfl rfl rfl rfl rfl
   ·have hb:bI c.feX=true:=by
     have:=hk;unfold iO at this;rw [okW,Bool.true_and] at this
     rw [show c.feX=Pl.decode V1 0 from EX.o];exact this
    obtain ⟨ES,EI,EN,EF⟩:=xM h1 h3 hb;replace ES:=Zr ES;have EI:Hid (c.aA=x):=Zr (by rw [EI,HX.o];unfold qj;rw [if_pos hk];exact EX.o);have EN:Hid (c.bW=N):=Zr (by rw [EN,HN.o];unfold qF;rw [if_pos hk,HW1.o]);replace EF:=Zr EF;clear hb;go_wp2_with fail;have K7:=(((((((ak (W9.alloc (.cells (inX x) 48)) w.heap.size 0 (iv x.op)).one 1 (iv x.z)).one 2 (iv x.r)).one 3 (iv x.m)).one 4 (iv x.k)).one 5 (iv x.e)).one 6 (iv x.s))
    have K8:=((((((ak ((((((((W9.alloc (.cells (inX x) 48)).setCell (Zt w.heap.size 0) (iv x.op)).setCell (Zt w.heap.size 1) (iv x.z)).setCell (Zt w.heap.size 2) (iv x.r)).setCell (Zt w.heap.size 3) (iv x.m)).setCell (Zt w.heap.size 4) (iv x.k)).setCell (Zt w.heap.size 5) (iv x.e)).setCell (Zt w.heap.size 6) (iv x.s)) (w.heap.size+1) 0 (iv 0)).one 1 (iv 0)).one 2 (iv 0)).one 3 (iv 0)).one 4 (.bool false)))
    first|simp only [Exit.jump]|rw [Exit.noGoto_ret]
    refine bodyPost_ret (v:=.tuple #[.agg (inX x),iv N,.agg ftZ]) ?_ rfl ⟨g3,?_,?_,((S9.o).mine K7 (by omega)).mine K8 (by omega)⟩
    ·rw [iU rfl];go_simp
    ·rw [EI.o,EN.o,EF.o];rfl
    ·rw [ES.o,EQ3.o];exact (((C9.o).kept K7 (by omega) (by omega)).kept K8 (by omega) (by omega)).fx rfl rfl rfl rfl rfl
  ·have hl2:(dO c.feW==2)=true:=by rw [<-HW1.o,hl];rfl
   obtain ⟨A,hA⟩:∃A,A=c.feA:=⟨_,rfl⟩
   have eA:(c.r.p+2)%65536=A:=hA.symm;have a0:0<=A:=by omega
   have a1:A<=65535:=by omega
   have HA2:=Zr (dP (k:=3) (.inr rfl) a0 a1);have HG1:=Zr (HG.o.acc HA1.o);obtain ⟨V2,hV2⟩:∃V,V=c.fe2.fZ 3 2 A 0:=⟨_,rfl⟩
   have HV2:Hid (V2=if (3:Int)=2 then 0 else Pl.lv (c.acc 3 2 c.r.p 0).bx 3 2 A 0):=Zr hV2;obtain ⟨F2,hF2⟩:∃F,F=Mc.cZ aF 3 2 A:=⟨_,rfl⟩
   have HF2:=Zr hF2;have EQ3:Hid (c.fe3=c.fe2.acc 3 2 A 0):=Zr (by unfold Mc.fe3;rw [hl2,hA];rfl)
   have E3:Hid (c.fe3.f={F2 with pc:=c.r.p,wo:=V1}):=Zr (by
    rw [EQ3.o];show Mc.cZ c.fe2.f 3 2 A=_
    rw [E2.o,hF2];exact pR c.r.p V1 3 2 A)
   have EX:Hid (c.feX=Pl.decode V1 V2):=Zr (by unfold Mc.feX Mc.feN;rw [hl2,<-HW1.o,hV2,hA];rfl);have hw:okv 2 V2=true:=by rw [hV2];exact GM.fZ (c:=c.acc 3 2 c.r.p 0) HG1.o HA2.o
   have hw2:=aO hw;have wfV2:(Lit.int .i64 V2).wf=true:=qy (by omega) (by omega);rw [hl];clear hl2 hA hV2 hF2 hw hw2;go_wp2_with fail;go_step3;refine ⟨rfl,?_⟩;go_wp2_with (first|(go_at_call 178;refine st (gQ _ _) ?_;rw [eA])|(go_at_call 187;refine (jO _ lo b g3 (c.acc 3 2 c.r.p 0) h 3 2 A 0 C5.o HG1.o HA2.o V2 HV2 F2 HF2).mono ?_;rintro e W6 ⟨g6,rfl,hc6,hs6⟩;unfold ftC;have S6:=Zr ((S5.o.trans hs6).alloc (.cells (ftA F2) 42));have C6:=Zr (hc6.alloc (.cells (ftA F2) 42));have I6:=Zr ((hs6.blk I5.o (by omega) (by omega)).alloc (.cells (ftA F2) 42));have R6:=Zr ((hs6.blk R5.o (by omega) (by omega)).alloc (.cells (ftA F2) 42));have D6:=Zr ((hs6.blk D5.o (by omega) (by omega)).alloc (.cells (ftA F2) 42));have L6:=Zr (Blk.new W6 (ftA F2) 42);have s6:=hs6.size;obtain ⟨z0,z1,z2,z3,z4⟩:=hc6.lt;have m0:=hs6.ne (b:=w.heap.size) I5.o.lt (by omega);have m1:=hs6.ne (b:=w.heap.size+1) R5.o.lt (by omega);have m2:=hs6.ne (b:=w.heap.size+1+1) D5.o.lt (by omega);have d6:=D6.o.all;have df6:=D6.o.fz;have l6c:=fun v=>(L6.o.other (w.heap.size+1+1) 1 v (by omega)).all;clear hc6 hs6));refine (bP F2 _).mono ?_;rintro e W7 ⟨rfl,k7⟩;have C7:=Zr ((C6.o.other (w.heap.size+1+1) 1 (iv V2) (by omega) (by omega)).any k7);have I7:=Zr ((I6.o.other (w.heap.size+1+1) 1 (iv V2) (by omega)).ae k7);have R7:=Zr ((R6.o.other (w.heap.size+1+1) 1 (iv V2) (by omega)).ae k7);have L7:=Zr ((L6.o.other (w.heap.size+1+1) 1 (iv V2) (by omega)).ae k7);have D7:Hid (Blk W7 (w.heap.size+1+1) #[iv V1,iv V2] 211):=Zr ((D6.o.set 1 (iv V2)).ae k7);have S7:=Zr ((S6.o.mine (ak (W6.alloc (.cells (ftA F2) 42)) (w.heap.size+1+1) 1 (iv V2)) (by omega)).any k7);have s7:=L7.o.lt;clear k7 C6 I6 R6 L6 D6 S6 d6 df6 l6c d5;have d7:=D7.o.all;have e7:=L7.o.all;have ef7:=L7.o.fz;have i7:=I7.o.all;have if7:=I7.o.fz;have r7:=R7.o.all;have rf7:=R7.o.fz;cases hv2:(F2.v != 0)
   ·obtain ⟨hc0,hFn⟩:=mW (by rw [<-HF2.o];exact hv2);have EF2:Hid (F2=aF):=Zr (by rw [HF2.o];exact hFn);have h3:c.fe3.fine=true:=by unfold Mc.fine;rw [E3.o];simpa using hv2
    replace E3:Hid (c.fe3.f=⟨0,c.r.p,0,V1,false⟩):=Zr (by rw [E3.o,EF2.o];rfl);clear hc0 hFn;go_wp2_with fail;refine (sN _ V1 wfV1).mono ?_;rintro e W8 ⟨rfl,k8⟩;rw [if_pos okW,okW,hl];have C8:=Zr (C7.o.any k8);have I8:=Zr (I7.o.ae k8);have R8:=Zr (R7.o.ae k8);have D8:=Zr (D7.o.ae k8);have S8:=Zr (S7.o.any k8);have s8:=k8.size;have d8:=D8.o.all;clear k8;clear d7 e7 ef7 i7 if7 r7 rf7;go_wp2_with fail;refine (uH _ V1 V2 wfV1 wfV2).mono ?_;rintro e W9 ⟨rfl,k9⟩;obtain ⟨x,hx⟩:∃x,x=qj V1 V2:=⟨_,rfl⟩
    obtain ⟨N,hN⟩:∃N,N=qF V1 V2:=⟨_,rfl⟩
    rw [<-hx,<-hN];have C9:=Zr ((C8.o.any k9).alloc (.cells (inX x) 48));have I9:=Zr ((I8.o.ae k9).alloc (.cells (inX x) 48));have R9:=Zr ((R8.o.ae k9).alloc (.cells (inX x) 48));have D9:=Zr ((D8.o.ae k9).alloc (.cells (inX x) 48));have S9:=Zr ((S8.o.any k9).alloc (.cells (inX x) 48));have s9:=k9.size;have i9:=I9.o.all;have if9:=I9.o.fz;have r9:=R9.o.all;have rf9:=R9.o.fz;have d9:=D9.o.all;clear k9;have HX:=Zr hx;have HN:=Zr hN;clear hx hN;cases hk:iO V1 V2
    ·have hb:bI c.feX=false:=by
      have:=hk;unfold iO at this;rw [okW,Bool.true_and] at this
      rw [show c.feX=Pl.decode V1 V2 from EX.o];exact this
     obtain ⟨ES,EI,EN,EF⟩:=xN h1 h3 hb;replace ES:=Zr (ES.trans (show c.fe4={c.fe3 with f:={c.fe3.f with v:=4}} from rfl));replace EI:=Zr EI;replace EN:=Zr EN;have EF:Hid (c.kR=⟨4,c.r.p,0,V1,false⟩):=Zr (by rw [EF];show ({c.fe3.f with v:=4}:Ft)=_;rw [E3.o]);clear hb;go_wp2_with fail;go_region;go_wp2_with fail;have K7:=(((((((ak (W9.alloc (.cells (inX x) 48)) w.heap.size 0 (iv 0)).one 1 (iv 0)).one 2 (iv 0)).one 3 (iv 0)).one 4 (iv 0)).one 5 (iv 0)).one 6 (iv 0))
     have K8:=(ah ((((((ak ((((((((W9.alloc (.cells (inX x) 48)).setCell (Zt w.heap.size 0) (iv 0)).setCell (Zt w.heap.size 1) (iv 0)).setCell (Zt w.heap.size 2) (iv 0)).setCell (Zt w.heap.size 3) (iv 0)).setCell (Zt w.heap.size 4) (iv 0)).setCell (Zt w.heap.size 5) (iv 0)).setCell (Zt w.heap.size 6) (iv 0)) (w.heap.size+1) 0 (iv 4)).one 1 (iv c.r.p)).one 2 (iv 0)).one 3 (iv V1)).one 4 (.bool false))))
     first|simp only [Exit.jump]|rw [Exit.noGoto_ret]
     refine bodyPost_ret (v:=.tuple #[.agg (inA 0 0 0 0 0 0 0),iv 0,.agg #[iv 4,iv c.r.p,iv 0,iv V1,.bool false]]) ?_ rfl ⟨g6,?_,?_,((S9.o).mine K7 (by omega)).mine K8 (by omega)⟩
     ·rw [iU rfl];go_simp
     ·rw [EI.o,EN.o,EF.o];rfl
     ·rw [ES.o,EQ3.o];exact (((C9.o).kept K7 (by omega) (by omega)).kept K8 (by omega) (by omega)).fx rfl rfl rfl rfl rfl
    ·have hb:bI c.feX=true:=by
      have:=hk;unfold iO at this;rw [okW,Bool.true_and] at this
      rw [show c.feX=Pl.decode V1 V2 from EX.o];exact this
     obtain ⟨ES,EI,EN,EF⟩:=xM h1 h3 hb;replace ES:=Zr ES;have EI:Hid (c.aA=x):=Zr (by rw [EI,HX.o];unfold qj;rw [if_pos hk];exact EX.o);have EN:Hid (c.bW=N):=Zr (by rw [EN,HN.o];unfold qF;rw [if_pos hk,HW1.o]);replace EF:=Zr EF;clear hb;go_wp2_with fail;have K7:=(((((((ak (W9.alloc (.cells (inX x) 48)) w.heap.size 0 (iv x.op)).one 1 (iv x.z)).one 2 (iv x.r)).one 3 (iv x.m)).one 4 (iv x.k)).one 5 (iv x.e)).one 6 (iv x.s))
     have K8:=((((((ak ((((((((W9.alloc (.cells (inX x) 48)).setCell (Zt w.heap.size 0) (iv x.op)).setCell (Zt w.heap.size 1) (iv x.z)).setCell (Zt w.heap.size 2) (iv x.r)).setCell (Zt w.heap.size 3) (iv x.m)).setCell (Zt w.heap.size 4) (iv x.k)).setCell (Zt w.heap.size 5) (iv x.e)).setCell (Zt w.heap.size 6) (iv x.s)) (w.heap.size+1) 0 (iv 0)).one 1 (iv 0)).one 2 (iv 0)).one 3 (iv 0)).one 4 (.bool false)))
     first|simp only [Exit.jump]|rw [Exit.noGoto_ret]
     refine bodyPost_ret (v:=.tuple #[.agg (inX x),iv N,.agg ftZ]) ?_ rfl ⟨g6,?_,?_,((S9.o).mine K7 (by omega)).mine K8 (by omega)⟩
     ·rw [iU rfl];go_simp
     ·rw [EI.o,EN.o,EF.o];rfl
     ·rw [ES.o,EQ3.o];exact (((C9.o).kept K7 (by omega) (by omega)).kept K8 (by omega) (by omega)).fx rfl rfl rfl rfl rfl
   ·have h3:c.fe3.fine=false:=by unfold Mc.fine;rw [E3.o];simpa using hv2
    obtain ⟨ES,EI,EN,EF⟩:=Dy h1 h3;replace ES:=Zr ES;replace EI:=Zr EI;replace EN:=Zr EN;replace EF:=Zr (EF.trans E3.o);go_wp2_with fail;go_region;go_wp2_with fail;go_region;go_wp2_with fail;have K6:=((ak W7 W6.heap.size 1 (iv c.r.p)).one 3 (iv V1))
    have K7:=(((((((ak ((W7.setCell (Zt W6.heap.size 1) (iv c.r.p)).setCell (Zt W6.heap.size 3) (iv V1)) w.heap.size 0 (iv 0)).one 1 (iv 0)).one 2 (iv 0)).one 3 (iv 0)).one 4 (iv 0)).one 5 (iv 0)).one 6 (iv 0))
    have K8:=(ah (ah ((((((ak (((((((((W7.setCell (Zt W6.heap.size 1) (iv c.r.p)).setCell (Zt W6.heap.size 3) (iv V1)).setCell (Zt w.heap.size 0) (iv 0)).setCell (Zt w.heap.size 1) (iv 0)).setCell (Zt w.heap.size 2) (iv 0)).setCell (Zt w.heap.size 3) (iv 0)).setCell (Zt w.heap.size 4) (iv 0)).setCell (Zt w.heap.size 5) (iv 0)).setCell (Zt w.heap.size 6) (iv 0)) (w.heap.size+1) 0 (iv F2.v)).one 1 (iv c.r.p)).one 2 (iv F2.ad)).one 3 (iv V1)).one 4 (.bool F2.wr)))))
    first|simp only [Exit.jump]|rw [Exit.noGoto_ret]
    refine bodyPost_ret (v:=.tuple #[.agg (inA 0 0 0 0 0 0 0),iv 0,.agg #[iv F2.v,iv c.r.p,iv F2.ad,iv V1,.bool F2.wr]]) ?_ rfl ⟨g6,?_,?_,((S7.o.mine K6 (by omega)).mine K7 (by omega)).mine K8 (by omega)⟩
    ·rw [iU rfl];go_simp
    ·rw [EI.o,EN.o,EF.o];rfl
    ·rw [ES.o,EQ3.o];exact (((C7.o.kept K6 (by omega) (by omega)).kept K7 (by omega) (by omega)).kept K8 (by omega) (by omega)).fx rfl rfl rfl rfl rfl
 ·have h1:c.fe1.fine=false:=by unfold Mc.fine;rw [E1.o];simpa using hv
  have hV0:V1=0:=by
   rw [HW1.o];exact Og (LP (by rw [<-HF1.o];exact hv))
  obtain ⟨ES,EI,EN,EF⟩:=Dz h1;replace ES:=Zr ES;replace EI:=Zr EI;replace EN:=Zr EN;have EF:Hid (c.kR={F1 with pc:=c.r.p,wo:=V1}):=Zr (by rw [EF,E1.o,hV0]);clear hV0;go_wp2_with fail;go_region;go_wp2_with fail;go_region;go_wp2_with fail;have K6:=((ak W4 W3.heap.size 1 (iv c.r.p)).one 3 (iv V1))
  have K7:=(((((((ak ((W4.setCell (Zt W3.heap.size 1) (iv c.r.p)).setCell (Zt W3.heap.size 3) (iv V1)) w.heap.size 0 (iv 0)).one 1 (iv 0)).one 2 (iv 0)).one 3 (iv 0)).one 4 (iv 0)).one 5 (iv 0)).one 6 (iv 0))
  have K8:=(ah (ah ((((((ak (((((((((W4.setCell (Zt W3.heap.size 1) (iv c.r.p)).setCell (Zt W3.heap.size 3) (iv V1)).setCell (Zt w.heap.size 0) (iv 0)).setCell (Zt w.heap.size 1) (iv 0)).setCell (Zt w.heap.size 2) (iv 0)).setCell (Zt w.heap.size 3) (iv 0)).setCell (Zt w.heap.size 4) (iv 0)).setCell (Zt w.heap.size 5) (iv 0)).setCell (Zt w.heap.size 6) (iv 0)) (w.heap.size+1) 0 (iv F1.v)).one 1 (iv c.r.p)).one 2 (iv F1.ad)).one 3 (iv V1)).one 4 (.bool F1.wr)))))
  first|simp only [Exit.jump]|rw [Exit.noGoto_ret]
  refine bodyPost_ret (v:=.tuple #[.agg (inA 0 0 0 0 0 0 0),iv 0,.agg #[iv F1.v,iv c.r.p,iv F1.ad,iv V1,.bool F1.wr]]) ?_ rfl ⟨g3,?_,?_,((S4.o.mine K6 (by omega)).mine K7 (by omega)).mine K8 (by omega)⟩
  ·rw [iU rfl];go_simp
  ·rw [EI.o,EN.o,EF.o];rfl
  ·rw [ES.o];exact (((C4.o.kept K6 (by omega) (by omega)).kept K7 (by omega) (by omega)).kept K8 (by omega) (by omega)).fx rfl rfl rfl rfl rfl
open Go.RowKit Go.Shelf Go.Proofs.Tryz
set_option linter.unusedSimpArgs false
structure Keep (B c:Nat) (W W':World):Prop where
 size:W.heap.size<=W'.heap.size
 block:∀k,k<W.heap.size->(B<=k∨k=c)->W'.heap[k]? = W.heap[k]?
theorem Keep.refl (B c:Nat) (W:World):Keep B c W W:=⟨Nat.le_refl _,fun _ _ _=>rfl⟩
theorem Keep.trans {B c:Nat} {X Y Z:World} (h:Keep B c X Y) (k:Keep B c Y Z):Keep B c X Z:=
 ⟨Nat.le_trans h.size k.size,fun i hi q=>(k.block i (Nat.lt_of_lt_of_le hi h.size) q).trans (h.block i hi q)⟩
theorem Keep.mono {B B' c:Nat} {X Y:World} (h:Keep B c X Y) (hB:B<=B'):Keep B' c X Y:=⟨h.size,fun k hk q=>h.block k hk (by omega)⟩
theorem Keep.drew {B c:Nat} {X Y:World} (h:Keep B c X Y):Keep B c X Y.drew:=⟨h.size,h.block⟩
theorem Keep.setCell {B c:Nat} {X Y:World} (h:Keep B c X Y) {p:Addr} (h1:p.block<B) (h2:p.block≠c) (u:Value):Keep B c X (Y.setCell p u):=
 h.trans ⟨by simp [World.setCell],fun k hk q=>Below.heap_setCell _ _ _ _ (by omega)⟩
theorem Keep.at {B c k:Nat} {X Y:World} {o:Obj} (h:Keep B c X Y) (hk:X.heap[k]? = some o) (q:B<=k∨k=c):Y.heap[k]? = some o:=
 (h.block k (Array.getElem?_eq_some_iff.1 hk).1 q).trans hk
theorem lV {B l:Nat} {W:World} (h:B<=l) (o:Obj):Below B W (W.putObj l o):=
 ⟨rfl,rfl,rfl,by simp,fun k hk=>World.putObj_heap_other (by omega)⟩
theorem zh {B c l:Nat} {W:World} (h1:l<B) (h2:l≠c) (o:Obj):Keep B c W (W.putObj l o):=
 ⟨by simp,fun k hk q=>World.putObj_heap_other (by omega)⟩
theorem room_wide (n:Nat):Fence.wide.room n:=fun d h=>by simp [Fence.wide] at h
theorem Et {m m':Nat} {P:Program} {l:Nat} {f:FuncId} {tmps:Array Value} {assign body:Code} {w:World} {R:Ending->World->Prop}
  (h:RoundIn Fence.wide m P l f tmps assign body w R):RoundIn Fence.wide m' P l f tmps assign body w R:=⟨h.1,fun c cs _=>h.2 c cs (room_wide _)⟩
theorem vZ {m:Nat} (m':Nat) {P:Program} {l:Nat} {args:Array Value} {W:World} {R:Ending->World->Prop} (h:YieldAt Fence.wide m P l args W R):YieldAt Fence.wide m' P l args W R:=by
 obtain ⟨fn,tmps,assign,body,hy,hR⟩:=h;exact ⟨fn,tmps,assign,body,hy,Et hR⟩
def Gives (P:Program) (g:Nat) (lb:Array Value) (c:Nat) (o:Obj) (enc:Nat->Array Value) (N:Nat):Prop:=
 ∀(l:Nat) (J:Nat->World->Prop) (W:World),W.heap[c]? = some o->(∀k W1 W2,J k W1->Below W.heap.size W1 W2->J k W2)->
  (∀k W1,k<N->J k W1->W.heap.size<=W1.heap.size->YieldAt Fence.wide 3 P l (enc k) W1 fun e W'=>e=.returned (.bool true)∧J (k+1) W'∧Keep W.heap.size c W1 W')->
  J 0 W->Calls P g (#[.func (.yield l) #[] #[]]++lb) W fun e W'=>(∃v,e=.returned v)∧J N W'
def NG (B c:Nat) (J:World->Prop) (W:World):Exit->Act->World->Prop
 | .normal,_,W'=>J W'∧Keep B c W W'
 | .ret,_,_=>False
 | .exit _,_,_=>False
 | .goto _,_,_=>False
 | .panic _,_,_=>False
 | .outgrown,_,_=>False
theorem yt {P:Program} {g:Operand} {ps:Array Tmp} {assign body:Code} {Q:Exit->Act->World->Prop} {a:Act} {w:World} {n:Nat} {gf:Nat} {lb:Array Value} {c:Nat} {o:Obj} {enc:Nat->Array Value} {N:Nat}
  (hseq:Gives P gf lb c o enc N) (hg:a.eval g=.func (.func gf) #[] lb) (eg:∀args w,(callFunc gf args).run P w=.ok (.enter gf args) w) (hc:w.heap[c]? = some o) (hps:∀k,(enc k).size=ps.size)
  (I:Nat->World->Prop) (hI:∀k W1 W2,I k W1->Below w.heap.size W1 W2->I k W2) (h0:I 0 w) (a₁:Nat->Act)
  (hassign:∀(l k:Nat) (W:World) (K:Act->World->Prop),K (a₁ k) W->
   assign.wpIn (Fence.wide.inRound l) 3 P (Exit.then K (fun _ _ _=>False)) {tmps:=(ps.zip (enc k)).foldl (fun t (p,v)=>t.setIfInBounds p v) a.tmps,defers:=[]} W)
  (hbody:∀(l k:Nat) (W:World),k<N->I k W->w.heap.size<=W.heap.size->body.wpIn (Fence.wide.inRound l) 3 P (NG w.heap.size c (I (k+1)) W) (a₁ k) W)
  (hdone:∀W:World,I N W->W.heap[w.heap.size]? = some (.deferred (some []))->Q .normal {a with defers:={target:=.collected w.heap.size,args:=#[]} :: a.defers} W) :
  (Code.rangeFunc g ps assign body).wpIn Fence.wide n P Q a w:=by
 refine wpIn_rangeFunc ?_;intro fn hfn;have hclt:c<w.heap.size:=(Array.getElem?_eq_some_iff.1 hc).1;obtain ⟨rec,hrec⟩:∃rec:LoopState->Option Code->Loop,rec=fun st pe=>{state:=st,pending:=pe,fn,tmps:=a.tmps,params:=ps,assign,body,defers:=w.heap.size}:=⟨_,rfl⟩
 obtain ⟨W1,hW1⟩:∃W1,(w.alloc (.deferred (some []))).alloc (.loop (rec .ready none))=W1:=⟨_,rfl⟩
 have hs1:W1.heap.size=w.heap.size+2:=by rw [<-hW1];simp
 have hL1:W1.heap[w.heap.size+1]? = some (.loop (rec .ready none)):=by
  rw [<-hW1];have:=World.alloc_heap_new (w.alloc (.deferred (some []))) (.loop (rec .ready none));rwa [World.size_alloc] at this
 have hK1:W1.heap[w.heap.size]? = some (.deferred (some [])):=by
  rw [<-hW1];exact (Below.heap_alloc _ _ _ (by simp)).trans (World.alloc_heap_new w _)
 have hb1:Below w.heap.size w W1:=by
  rw [<-hW1];exact ((Below.refl _ w).alloc (Nat.le_refl _) _).alloc (by simp) _
 have hI1:I 0 W1:=hI 0 w W1 h0 hb1
 refine ⟨w.heap.size+1,[{target:=.collected w.heap.size,args:=#[]}],W1,{target:=.fn (.func gf) lb,args:=#[.func (.yield (w.heap.size+1)) #[] #[]]},W1,gf,
  #[.func (.yield (w.heap.size+1)) #[] #[]]++lb,W1,?_,?_,?_,?_,fun h=>by simp [Fence.wide] at h,?_⟩
 ·rw [<-hW1,hrec];exact run_enterLoop_outer _ _ _ _ _
 ·simp only [resolve,hg];simp [go_sem]
 ·intro f' hf';trivial
 ·simp [invoke,go_sem,eg]
 ·refine callsIn_wide.2 ((hseq (w.heap.size+1)
   (fun k W=>I k W∧W.heap[w.heap.size+1]? = some (.loop (rec .ready none))∧W.heap[w.heap.size]? = some (.deferred (some [])))
   W1 ((hb1.block c hclt).trans hc)
   (fun k X Y hs hb=>⟨hI k X Y hs.1 (hb.mono (by omega)),(hb.block _ (by omega)).trans hs.2.1,(hb.block _ (by omega)).trans hs.2.2⟩) ?_ ⟨hI1,hL1,hK1⟩).mono ?_)
  ·rintro k W hk ⟨hi,hl,hd⟩ hsz;have hlt:w.heap.size+1<W.heap.size:=(Array.getElem?_eq_some_iff.1 hl).1;have hy:=run_yield (P:=P) (args:=enc k) hl (by rw [hrec];exact hps k);rw [hrec] at hy;refine ⟨fn,_,assign,body,hy,roundIn_of_wpIn hfn (hassign _ k W _ ⟨_,run_beginRound hl (by rw [hrec]),?_⟩)⟩;have hl2:(W.putObj (w.heap.size+1) (.loop {rec .ready none with state:=.busy})).heap[w.heap.size+1]? = some (.loop {rec .ready none with state:=.busy}):=World.putObj_heap_same hlt;have hd2:(W.putObj (w.heap.size+1) (.loop {rec .ready none with state:=.busy})).heap[w.heap.size]? = some (.deferred (some [])):=(World.putObj_heap_other (by omega)).trans hd;have hi2:=hI k _ _ hi (lV (l:=w.heap.size+1) (W:=W) (by omega) (.loop {rec .ready none with state:=.busy}));have hk2:=zh (B:=w.heap.size+2) (c:=c) (l:=w.heap.size+1) (W:=W) (by omega) (by omega) (.loop {rec .ready none with state:=.busy});refine wpIn_mono (hbody _ k _ hk hi2 (by simp;omega)) ?_;rintro e a3 W3 hp;cases e with
   | normal=>
    obtain ⟨hi3,hk3⟩:=hp;have hl3:=hk3.at hl2 (.inl (by omega));have hd3:=hk3.at hd2 (.inl (by omega));have hr:=run_endRound (P:=P) none hl3;rw [hrec] at hr hl3;refine ⟨_,_,hr,rfl,⟨hI _ _ _ hi3 (lV (by omega) _),?_,(World.putObj_heap_other (by omega)).trans hd3⟩,?_⟩
    ·rw [hrec];exact World.putObj_heap_same (Array.getElem?_eq_some_iff.1 hl3).1
    ·rw [hs1];exact (hk2.trans (hk3.mono (by omega))).trans (zh (by omega) (by omega) _)
   | ret=>exact hp.elim
   | exit id=>exact hp.elim
   | goto t=>exact hp.elim
   | panic ch=>exact hp.elim
   | outgrown=>exact hp.elim
  ·rintro e W2 ⟨⟨v,rfl⟩,hi,hl,hd⟩;refine ⟨none,_,by have:=run_endLoop (P:=P) hl (by rw [hrec];simp);rw [hrec] at this;exact this,hdone _ (hI _ _ _ hi (lV (by omega) _)) ((World.putObj_heap_other (by omega)).trans hd)⟩
theorem ja {W W':World} {B b:Nat} {t:TypeId} {v:Value} (h:Boxed W b t v) (k:Below B W W') (hb:b<B):Boxed W' b t v:=(k.block b hb).trans h
end Go.Proofs.YtgikibaajanjiaaGreatDoor
namespace Go.Proofs.YtgikibaajanjiaaGreatDoor.Pl
set_option linter.unusedVariables false
set_option linter.unusedSimpArgs false
def wOk (v:Int):Bool:=decide (0<=v)&&decide (v<=65535)
theorem nI {v:Int} (h:wOk v=true):0<=v∧v<=65535:=by simpa [wOk] using h
def p2 (k:Nat):Int:=(2:Int)^k
theorem tX:p2 0=1:=rfl
theorem qG (k:Nat):p2 (k+1)=p2 k*2:=by unfold p2;rw [Int.pow_succ]
theorem xh (k:Nat):0<p2 k:=by
 induction k with
 | zero=>decide
 | succ k ih=>rw [qG];omega
theorem Ik:p2 16=65536:=by decide
theorem Ij {k:Nat} (h:k<=16):p2 k<=65536:=by
 have:∀j:Nat,j<=16->p2 j<=65536:=by decide +kernel
 exact this k h
def iG (v:Int) (k:Nat):Int:=v/p2 k%2
theorem tC (v:Int) (k:Nat):iG v k=0∨iG v k=1:=by unfold iG;omega
theorem IL (v:Int) (k:Nat):v%p2 (k+1)=v%p2 k+iG v k*p2 k:=by
 have hp:=xh k;rw [qG];unfold iG;have h1:=Int.mul_ediv_add_emod v (p2 k);have h2:=Int.mul_ediv_add_emod (v/p2 k) 2;have h3:=Int.emod_nonneg v (show p2 k≠0 by omega);have h4:=Int.emod_lt_of_pos v hp;have h5:0<=v/p2 k%2∧v/p2 k%2<2:=by omega
 obtain ⟨q,hq⟩:∃q,v/p2 k/2=q:=⟨_,rfl⟩
 obtain ⟨b,hb⟩:∃b,v/p2 k%2=b:=⟨_,rfl⟩
 obtain ⟨r,hr⟩:∃r,v%p2 k=r:=⟨_,rfl⟩
 rw [hq,hb] at h2;rw [<-h2,hr] at h1;rw [hr] at h3 h4;rw [hb] at h5;have e:v=(r+b*p2 k)+(p2 k*2)*q:=by rw [<-h1,Int.mul_add,Int.mul_comm b (p2 k),Int.mul_assoc];omega
 have hb2:b*p2 k<=p2 k:=by
  rcases (show b=0∨b=1 by omega) with rfl|rfl<;>omega
 have hb3:0<=b*p2 k:=by
  rcases (show b=0∨b=1 by omega) with rfl|rfl<;>omega
 have e2:v%(p2 k*2)=r+b*p2 k:=by
  rw [e,Int.add_mul_emod_self_left];exact Int.emod_eq_of_lt (by omega) (by omega)
 rw [e2,hr,hb]
def hiW (p:Int):Int:=p/65536%65536
def loW (p:Int):Int:=p%65536
def dR (h l b:Int):Nat->Int
 | 0=>h
 | m+1=>if b<=2*dR h l b m+iG l (15-m) then 2*dR h l b m+iG l (15-m)-b else 2*dR h l b m+iG l (15-m)
def dQ (h l b:Int):Nat->Int
 | 0=>0
 | m+1=>2*dQ h l b m+(if b<=2*dR h l b m+iG l (15-m) then 1 else 0)
def dN (h l b:Int):Nat->Int
 | 0=>0
 | m+1=>dN h l b m+(if b<=2*dR h l b m+iG l (15-m) then 1 else 0)
theorem Kq (l:Int) (m:Nat) (hm:m<16):l/p2 (16-(m+1))=2*(l/p2 (16-m))+iG l (15-m):=by
 have e:16-m=(15-m)+1:=by omega
 have e1:16-(m+1)=15-m:=by omega
 rw [e1,e,qG];have hp:=xh (15-m);rw [<-Int.ediv_ediv_of_nonneg (by omega)];unfold iG;omega
theorem xP {h l b:Int} (h0:0<=h) (h1:h<b) (l0:0<=l):∀m:Nat,m<=16->(0<=dR h l b m∧dR h l b m<b)∧dQ h l b m*b+dR h l b m=h*p2 m+(l/p2 (16-m)-l/p2 16*p2 m)∧0<=dQ h l b m∧dQ h l b m<p2 m:=by
 intro m;induction m with
 | zero=>
  intro _;refine ⟨⟨h0,h1⟩,?_,Int.le_refl _,(by show (0:Int)<p2 0;decide)⟩;show (0:Int)*b+h=h*p2 0+(l/p2 16-l/p2 16*p2 0);rw [tX];omega
 | succ m ih=>
  intro hm;obtain ⟨⟨r0,r1⟩,e,q0,q1⟩:=ih (by omega);have hb:=tC l (15-m);have hn:=Kq l m (by omega);have hq:0<=dQ h l b m*b:=Int.mul_nonneg q0 (by omega);rw [hn,qG];have e2:h*(p2 m*2)=2*(h*p2 m):=by rw [<-Int.mul_assoc];omega
  have e3:l/p2 16*(p2 m*2)=2*(l/p2 16*p2 m):=by rw [<-Int.mul_assoc];omega
  rw [e2,e3];simp only [dR,dQ];by_cases hc:b<=2*dR h l b m+iG l (15-m)
  ·rw [if_pos hc,if_pos hc];have e4:(2*dQ h l b m+1)*b=2*(dQ h l b m*b)+b:=by rw [Int.add_mul,Int.one_mul,Int.mul_assoc]
   rw [e4];omega
  ·rw [if_neg hc,if_neg hc];have e4:(2*dQ h l b m+0)*b=2*(dQ h l b m*b):=by rw [Int.add_zero,Int.mul_assoc]
   rw [e4];omega
theorem TK {h l b:Int} (h0:0<=h) (h1:h<b) (l0:0<=l) (l1:l<=65535):dQ h l b 16*b+dR h l b 16=h*65536+l∧0<=dR h l b 16∧dR h l b 16<b∧0<=dQ h l b 16∧dQ h l b 16<=65535:=by
 obtain ⟨⟨r0,r1⟩,e,q0,q1⟩:=xP h0 h1 l0 16 (by omega);rw [Ik,show 16-16=0 from rfl,tX,Int.ediv_one] at e;rw [Ik] at q1;have:l/65536=0:=by omega
 rw [this] at e;omega
def sL (l b:Int):Nat->Int
 | 0=>0
 | m+1=>if 0<=sL l b m then 2*sL l b m+iG l (15-m)-b else 2*sL l b m+iG l (15-m)+b
theorem Vg {l b:Int} (hb:1<=b) (l0:0<=l):∀m:Nat,m<=16->(0<=sL l b m∧sL l b m=dR 0 l b m)∨(sL l b m<0∧sL l b m=dR 0 l b m-b):=by
 intro m;induction m with
 | zero=>intro _;exact .inl ⟨Int.le_refl _,rfl⟩
 | succ m ih=>
  intro hm;have hw:=tC l (15-m);obtain ⟨⟨r0,r1⟩,_⟩:=xP (h:=0) (l:=l) (b:=b) (Int.le_refl _) (by omega) l0 m (by omega);simp only [sL,dR];rcases ih (by omega) with ⟨i0,i1⟩|⟨i0,i1⟩
  ·rw [if_pos i0,i1];split<;>omega
  ·rw [if_neg (by omega),i1];split<;>omega
def H7 (l b:Int):Int:=if sL l b 16<0 then sL l b 16+b else sL l b 16
theorem yC {l b:Int} (hb:1<=b) (l0:0<=l) (l1:l<=65535):dQ 0 l b 16=l/b∧H7 l b=l%b:=by
 obtain ⟨e,r0,r1,q0,_⟩:=TK (h:=0) (l:=l) (b:=b) (Int.le_refl _) (by omega) l0 l1;have h:=Vg hb l0 16 (Nat.le_refl _);have hr:H7 l b=dR 0 l b 16:=by unfold H7;split<;>omega
 rw [hr];have e2:dR 0 l b 16+b*dQ 0 l b 16=l:=by rw [Int.mul_comm b];omega
 have key:=Int.ediv_emod_unique (a:=l) (b:=b) (r:=dR 0 l b 16) (q:=dQ 0 l b 16) (by omega);have:=key.2 ⟨e2,r0,r1⟩;exact ⟨this.1.symm,this.2.symm⟩
end Go.Proofs.YtgikibaajanjiaaGreatDoor.Pl
namespace Go.Proofs.YtgikibaajanjiaaGreatDoor
open Pl
open Go.RowKit Go.Proofs.Tryz
set_option linter.unusedVariables false
def Pl.ok2 (a b:Int):Bool:=wOk a&&wOk b
def Pl.EG (a b:Int):Int:=if Pl.ok2 a b=true then a*b/65536 else 0
def Pl.xn (a b:Int):Int:=if Pl.ok2 a b=true then a*b%65536 else 0
theorem RY {a b:Int} (a0:0<=a) (a1:a<=65535) (b0:0<=b) (b1:b<=65535):0<=a*b∧a*b<=4294836225:=by
 refine ⟨Int.mul_nonneg a0 b0,?_⟩;have:=Int.mul_le_mul a1 b1 b0 (by omega:(0:Int)<=65535);omega
theorem Lt (v:Int) (k:Nat):bits .and .i64 (v/2^k) 1=iG v k:=by rw [and1];rfl
open Go.RowKit Go.Shelf Go.Proofs.Tryz
attribute [local go_sem] Oper.semAt_some
set_option linter.unusedSimpArgs false
abbrev TJ (d:Nat->Int) (k:Nat):Array Value:=#[iv (k:Int),iv (d k)]
theorem yM (v:Int) (w:World):Calls prog 299 #[iv v] w fun e w'=>e=.returned (.func (.func 318) #[] #[.pointer (some (Zt w.heap.size 0))])∧w'=w.alloc (.cells #[iv v] 3):=by
 go_enter func299,ntmps299;go_wp2;go_ret;exact ⟨rfl,rfl⟩
theorem Lr (v:Int) (w:World):Calls prog 300 #[iv v] w fun e w'=>e=.returned (.func (.func 319) #[] #[.pointer (some (Zt w.heap.size 0))])∧w'=w.alloc (.cells #[iv v] 3):=by
 go_enter func300,ntmps300;go_wp2;go_ret;exact ⟨rfl,rfl⟩
theorem AU {v:Int} (h:wOk v=true) (b:Nat):Gives prog 318 #[.pointer (some (Zt b 0))] b (.cells #[iv v] 3 (0,0)) (TJ (iG v)) 16:=fun l J W hb hJ hY h0=>by
 have hv:=nI h;refine (callsIn_wide (n:=9)).1 (callsIn_of_wp func318 rfl trivial ?_ rfl);simp only [ntmps318,List.size_toArray,List.length_cons,List.length_nil,Nat.reduceAdd,Nat.reduceSub,Array.replicate_succ,Array.replicate_zero,List.push_toArray,List.append_toArray,List.nil_append,List.cons_append];gi_wp2;gi_loopw [4] (fun p wr=>∃k:Nat,p=iv (k:Int)∧k<=16∧J k wr∧W.heap.size<=wr.heap.size∧Boxed wr b 3 (iv v)) (fun p wr=>16-(intOf p).toNat)
 case atStart=>exact ⟨0,rfl,by omega,h0,Nat.le_refl _,hb⟩
 case round=>
  obtain ⟨k,rfl,hk,hj,hs,hB⟩:=hrel;have hcell:=hB.cell;by_cases hlt:k<16
  ·have ht:((k:Int)<16):=by omega
   obtain ⟨fn,tmps,assign,body,hy,hR⟩:=vZ 8 (hY k wr hlt hj hs);dsimp only [TJ] at hy;rw [<-Lt] at hy;gi_wp2;refine hR.mono ?_;rintro e W3 ⟨rfl,hj3,hk3⟩;have hB3:=hk3.at hB (.inr rfl);have hs3:=hk3.size;gi_wp2;go_roundw
   case rel=>exact ⟨k+1,by simp,by omega,hj3,by omega,hB3⟩
   case measure=>simp [intOf];omega
  ·have ht:¬((k:Int)<16):=by omega
   have e:k=16:=by omega
   subst e;gi_wp2;go_end0;exact ⟨⟨_,rfl⟩,hj⟩
abbrev Wj (v:Int) (k:Nat):Array Value:=#[iv (iG v (15-k))]
theorem FH {v:Int} (h:wOk v=true) (b:Nat):Gives prog 319 #[.pointer (some (Zt b 0))] b (.cells #[iv v] 3 (0,0)) (Wj v) 16:=fun l J W hb hJ hY h0=>by
 have hv:=nI h;refine (callsIn_wide (n:=9)).1 (callsIn_of_wp func319 rfl trivial ?_ rfl);simp only [ntmps319,List.size_toArray,List.length_cons,List.length_nil,Nat.reduceAdd,Nat.reduceSub,Array.replicate_succ,Array.replicate_zero,List.push_toArray,List.append_toArray,List.nil_append,List.cons_append];gi_wp2;gi_loopw [3] (fun p wr=>∃k:Nat,p=iv (15-(k:Int))∧k<=16∧J k wr∧W.heap.size<=wr.heap.size∧Boxed wr b 3 (iv v)) (fun p wr=>(intOf p+1).toNat)
 case atStart=>exact ⟨0,rfl,by omega,h0,Nat.le_refl _,hb⟩
 case round=>
  obtain ⟨k,rfl,hk,hj,hs,hB⟩:=hrel;have hcell:=hB.cell;by_cases hlt:k<16
  ·obtain ⟨fn,tmps,assign,body,hy,hR⟩:=vZ 8 (hY k wr hlt hj hs);dsimp only [Wj] at hy;obtain ⟨q,hq⟩:∃q:Nat,15-k=q:=⟨_,rfl⟩
   have hq2:15-(k:Int)=(q:Int):=by omega
   have HQ:Hid (15-k=q∧q<=15):=⟨hq,by omega⟩
   rw [hq] at hy;rw [hq2];clear hq;rw [<-Lt] at hy;have ht:0<=(q:Int):=by omega
   have hq3:(q:Int)<=15:=by omega
   clear hq2;gi_wp2;refine hR.mono ?_;rintro e W3 ⟨rfl,hj3,hk3⟩;have hB3:=hk3.at hB (.inr rfl);have hs3:=hk3.size;gi_wp2;go_roundw
   case rel=>exact ⟨k+1,by have:=HQ.o;congr 1;omega,by omega,hj3,by omega,hB3⟩
   case measure=>have:=HQ.o;simp [intOf]
  ·have e:k=16:=by omega
   subst e;gi_wp2;go_end0;exact ⟨⟨_,rfl⟩,hj⟩
attribute [local go_sem] Oper.semAt_some
set_option linter.unusedSimpArgs false
def Pl.dsm (d:Nat->Int):Nat->Int
 | 0=>0
 | k+1=>dsm d k+d k*Pl.p2 k
theorem Pl.Ko {d:Nat->Int} (hd:∀k,-1<=d k∧d k<=1):∀k,-(Pl.p2 k)<=dsm d k∧dsm d k<=Pl.p2 k
 | 0=>by rw [tX];show -1<=(0:Int)∧(0:Int)<=1;omega
 | k+1=>by
  have ih:=Ko hd k;have hp:=xh k;rw [qG];show _<=dsm d k+d k*Pl.p2 k∧dsm d k+d k*Pl.p2 k<=_;rcases (show d k = -1∨d k=0∨d k=1 by have:=hd k;omega) with e|e|e<;>rw [e]<;>omega
theorem Pl.CV {a x:Int} (ha : -65536<=a∧a<=65536) (hx : -65536<=x∧x<=65536) : -4294967296<=a*x∧a*x<=4294967296:=by
 have h:=Int.natAbs_mul a x;have h2:a.natAbs*x.natAbs<=65536*65536:=Nat.mul_le_mul (by omega) (by omega);omega
theorem qx (x:Int) (h1 : -9223372036854775808<=x) (h2:x<=9223372036854775807):IntKind.i64.wrap x=x:=by
 rw [IntKind.wrap_i64];omega
theorem yx {a:Int} (ha : -65536<=a∧a<=65536) {gf:Nat} {lb:Array Value} {c:Nat} {o:Obj} {d:Nat->Int} (hd:∀k,-1<=d k∧d k<=1) (w:World)
  (hG:Gives prog gf lb c o (TJ d) 16) (eg:∀args w,(callFunc gf args).run prog w=.ok (.enter gf args) w) (hc:w.heap[c]? = some o) :
  Calls prog 298 #[iv a,.func (.func gf) #[] lb] w fun e w'=>e=.returned (iv (a*dsm d 16))∧Kept 0 0 w w':=by
 have hclt:c<w.heap.size:=(Array.getElem?_eq_some_iff.1 hc).1;refine (callsIn_wide (n:=9)).1 (callsIn_of_wp_marks func298 rfl trivial ?_ rfl);simp only [ntmps298,List.size_toArray,List.length_cons,List.length_nil,Nat.reduceAdd,Nat.reduceSub,Array.replicate_succ,Array.replicate_zero,List.push_toArray,List.append_toArray,List.nil_append,List.cons_append];gi_wp2;have hA:Boxed ((w.alloc (.cells #[iv a] 3)).alloc (.cells #[iv 0] 3)) w.heap.size 3 (iv a):=(Boxed.new w _ _).alloc _
 have hS:Boxed ((w.alloc (.cells #[iv a] 3)).alloc (.cells #[iv 0] 3)) (w.heap.size+1) 3 (iv (a*dsm d 0)):=by
  have:=Boxed.new (w.alloc (.cells #[iv a] 3)) 3 (iv 0)
  rw [World.size_alloc] at this;have e:a*dsm d 0=0:=by show a*0=0;omega
  rw [e];exact this
 have hBW:Below w.heap.size w ((w.alloc (.cells #[iv a] 3)).alloc (.cells #[iv 0] 3)):=((Below.refl _ w).alloc (Nat.le_refl _) _).alloc (by simp) _;have hSz:((w.alloc (.cells #[iv a] 3)).alloc (.cells #[iv 0] 3)).heap.size=w.heap.size+2:=by simp
 revert hA hS hBW hSz
 generalize (w.alloc (.cells #[iv a] 3)).alloc (.cells #[iv 0] 3)=w0;intro hA hS hBW hSz
 refine yt hG rfl eg ((hBW.block c hclt).trans hc) (fun _=>rfl)
  (fun k X=>Below w.heap.size w X∧Boxed X w.heap.size 3 (iv a)∧Boxed X (w.heap.size+1) 3 (iv (a*dsm d k)))
  (fun k X Y hs hb=>⟨hs.1.trans (hb.mono (by omega)),ja hs.2.1 hb (by omega),ja hs.2.2 hb (by omega)⟩)
  ⟨hBW,hA,hS⟩
  (fun k=>{tmps:=#[iv a,.func (.func gf) #[] lb,.pointer (some (Zt w.heap.size 0)),undef,iv 0,.pointer (some (Zt (w.heap.size+1) 0)),iv (k:Int),iv (d k),.func (.func gf) #[] lb,iv (k:Int),iv (d k),undef,undef,undef,undef,undef,undef,undef,undef,undef,undef,undef,undef,undef,undef,undef,undef],defers:=[]}) ?assign ?body ?done
 case assign=>
  intro l' k X K hK;gi_wp2;exact hK
 case body=>
  rintro l' k X hk ⟨hB,hA,hS⟩ hs;have hcA:=hA.cell;have hcS:=hS.cell;have hfS:=hS.frozen;have hd1:=hd k;have hb1:=CV ha (show -65536<=dsm d k∧dsm d k<=65536 by have:=Ko hd k;have:=Ij (show k<=16 by omega);omega);have hb2:=CV ha (show -65536<=Pl.p2 k∧Pl.p2 k<=65536 by have:=xh k;have:=Ij (show k<=16 by omega);omega)
  have hstep:Hid (a*dsm d (k+1)=a*dsm d k+d k*(a*Pl.p2 k)):=by
   show a*(dsm d k+d k*Pl.p2 k)=_
   rw [Int.mul_add,<-Int.mul_assoc,<-Int.mul_assoc,Int.mul_comm a (d k)]
  obtain ⟨s,es⟩:∃s,a*dsm d k=s:=⟨_,rfl⟩
  obtain ⟨s2,es2⟩:∃s2,a*dsm d (k+1)=s2:=⟨_,rfl⟩
  rw [es] at hcS hS hb1 hstep;rw [es2] at hstep ⊢;rcases (show d k = -1∨d k=0∨d k=1 by omega) with e|e|e
  ·rw [e] at hstep ⊢;clear hd1 e;gi_wp2;gi_region
   all_goals gi_wp2
   all_goals
    refine ⟨⟨(hB.setCell (p:=(Zt (w.heap.size+1) 0)) (by simp) _).drew,Boxed.other hA (by omega) _,?_⟩,((Keep.refl _ _ _).setCell (p:=(Zt (w.heap.size+1) 0)) (by simp;omega) (by simp;omega) _).drew⟩;have e2:=hstep.o;have hp:a*Pl.p2 k=a*2^k:=rfl;rw [hp] at e2 hb2
    have hv:IntKind.i64.wrap (s-IntKind.i64.wrap (a*2^k))=s2:=by
     rw [qx (a*2^k) (by omega) (by omega),qx _ (by omega) (by omega)];omega
    rw [<-hv];exact hS.set _
  ·rw [e] at hstep ⊢;clear hd1 e;gi_wp2;exact ⟨⟨hB,hA,by have:=hstep.o;rw [show s2=s by omega];exact hS⟩,Keep.refl _ _ _⟩
  ·rw [e] at hstep ⊢;clear hd1 e;gi_wp2;gi_region
   all_goals gi_wp2
   all_goals
    refine ⟨⟨(hB.setCell (p:=(Zt (w.heap.size+1) 0)) (by simp) _).drew,Boxed.other hA (by omega) _,?_⟩,((Keep.refl _ _ _).setCell (p:=(Zt (w.heap.size+1) 0)) (by simp;omega) (by simp;omega) _).drew⟩;have e2:=hstep.o;have hp:a*Pl.p2 k=a*2^k:=rfl;rw [hp] at e2 hb2
    have hv:IntKind.i64.wrap (s+IntKind.i64.wrap (a*2^k))=s2:=by
     rw [qx (a*2^k) (by omega) (by omega),qx _ (by omega) (by omega)];omega
    rw [<-hv];exact hS.set _
 case done=>
  rintro X ⟨hB,hA,hS⟩ hK;have hcS:=hS.cell;gi_wp2;refine ⟨by simp,.inl ⟨_,_,rfl,run_takeDeferred hK,?_⟩⟩;exact ⟨_,results_tmp rfl _ _ _,rfl,mJ (hB.trans (lV (by omega) _))⟩
def Pl.dOk (h l b:Int):Bool:=(wOk h&&wOk l)&&((decide (1<=b)&&decide (b<=65535))&&decide (h<b))
def Pl.dvQ (h l b:Int):Int:=if dOk h l b=true then dQ h l b 16 else 0
def Pl.dvR (h l b:Int):Int:=if dOk h l b=true then dR h l b 16 else 0
def Pl.dvN (h l b:Int):Int:=if dOk h l b=true then dN h l b 16 else 0
theorem Wp (h l b:Int) (m:Nat):0<=dN h l b m∧dN h l b m<=m:=by
 induction m with
 | zero=>exact ⟨Int.le_refl _,Int.le_refl _⟩
 | succ m ih=>
  simp only [dN];split<;>omega
set_option linter.unusedSimpArgs false
theorem Vy (v:Int):okv 2 v=wOk v:=by
 unfold okv wOk Pl.top;rw [Bool.eq_iff_iff];simp;omega
theorem jL (v:Int) (w:World) (hw:(Lit.int .i64 v).wf=true) :
  Calls prog 64 #[iv v] w fun e w'=>e=.returned (.bool (wOk v))∧w'=w:=by
 have hb:=bounds_i64 hw;go_enter func64,ntmps64;go_wp2_with (go_at_call 120;refine st (bQ _ _ _ hb.1 hb.2) ?_;rw [Vy]);go_ret;exact ⟨rfl,rfl⟩
theorem Gn (n:Int) (w:World) (h1 : -9223372036854775808<=n) (h2:n<=9223372036854775807):Calls prog 297 #[iv n] w fun e w'=>e=.returned (.tuple #[iv (hiW n),iv (loW n)])∧w'=w:=by
 go_enter func297,ntmps297;go_wp2_with (go_at_call 178;refine st (gQ _ _) ?_);go_ret2;exact ⟨rfl,rfl⟩
theorem wJ (v:Int):∀k,dsm (iG v) k=v%Pl.p2 k
 | 0=>by rw [tX];show 0=v%1;omega
 | k+1=>by rw [IL];show dsm (iG v) k+_=_;rw [wJ v k]
theorem J9 {v:Int} (h:wOk v=true):dsm (iG v) 16=v:=by
 have:=nI h
 rw [wJ,Ik];omega
theorem MI (v:Int) (k:Nat) : -1<=iG v k∧iG v k<=1:=by have:=tC v k;omega
theorem xG (w:World) (a b:Int) (wfa:(Lit.int .i64 a).wf=true) (wfb:(Lit.int .i64 b).wf=true):Calls prog 275 #[iv a,iv b] w fun e w'=>e=.returned (.tuple #[iv (EG a b),iv (xn a b),.bool (Pl.ok2 a b)])∧Kept 0 0 w w':=by
 unfold EG xn Pl.ok2;cases ha:wOk a
 ·go_enter func275,ntmps275;go_wp2_with (go_at_call 64;refine st (jL _ _ wfa) ?_;rw [ha]);go_ret3;exact ⟨rfl,Kept.refl _ _ _⟩
 ·cases hb:wOk b
  ·go_enter func275,ntmps275;go_wp2_with (first|(go_at_call 64;have z9:=Z1;refine st (jL b _ wfb) ?_;rw [hb])|(go_at_call 64;refine st (jL a _ wfa) ?_;rw [ha];have Z1:True:=trivial));go_ret3;exact ⟨rfl,Kept.refl _ _ _⟩
  ·obtain ⟨a0,a1⟩:=nI ha;obtain ⟨b0,b1⟩:=nI hb;obtain ⟨m0,m1⟩:=RY a0 a1 b0 b1;have EH:Hid (hiW (a*b)=a*b/65536):=Zr (by unfold hiW;omega);go_enter func275,ntmps275;go_wp2_with (first|(go_at_call 64;have z9:=Z1;refine st (jL b _ wfb) ?_;rw [hb])|(go_at_call 64;refine st (jL a _ wfa) ?_;rw [ha];have Z1:True:=trivial)|(go_at_call 299;refine(yM b _).mono ?_;rintro e9 w9⟨rfl,hw⟩;have hw2:=hw.symm;clear hw;subst hw2)|(go_at_call 298;refine (yx (show -65536<=a∧a<=65536 by omega) (MI b) _ (AU hb w.heap.size) (enters_of func318 (by kernel_rfl) rfl) (World.alloc_heap_new w _)).mono ?_;rintro e9 w2 ⟨rfl,k2⟩;rw [J9 hb])|(go_at_call 297;refine st (Gn _ _ (by omega) (by omega)) ?_;rw [EH.o]));go_ret3;exact ⟨rfl,(kept_alloc w _).trans k2⟩
attribute [local go_sem] Oper.semAt_some
set_option linter.unusedSimpArgs false
structure sD (w X:World) (b q r n:Int):Prop where
 bl:Below w.heap.size w X
 y:Boxed X w.heap.size 3 (iv b)
 q:Boxed X (w.heap.size+1) 3 (iv q)
 r:Boxed X (w.heap.size+2) 3 (iv r)
 n:Boxed X (w.heap.size+3) 3 (iv n)
theorem sD.Rt {w X:World} {b q r n:Int} (h:sD w X b q r n) (z:Int):sD w (X.setCell (Zt (w.heap.size+1) 0) (iv z)) b z r n:=
 ⟨h.bl.setCell (p:=(Zt (w.heap.size+1) 0)) (Nat.le_add_right _ _) _,h.y.other (by omega) _,h.q.set _,h.r.other (by omega) _,h.n.other (by omega) _⟩
theorem sD.bg {w X:World} {b q r n:Int} (h:sD w X b q r n) (z:Int):sD w (X.setCell (Zt (w.heap.size+2) 0) (iv z)) b q z n:=
 ⟨h.bl.setCell (p:=(Zt (w.heap.size+2) 0)) (Nat.le_add_right _ _) _,h.y.other (by omega) _,h.q.other (by omega) _,h.r.set _,h.n.other (by omega) _⟩
theorem sD.Yd {w X:World} {b q r n:Int} (h:sD w X b q r n) (z:Int):sD w (X.setCell (Zt (w.heap.size+3) 0) (iv z)) b q r z:=
 ⟨h.bl.setCell (p:=(Zt (w.heap.size+3) 0)) (Nat.le_add_right _ _) _,h.y.other (by omega) _,h.q.other (by omega) _,h.r.other (by omega) _,h.n.set _⟩
theorem sD.below {w X Y:World} {b q r n:Int} {B:Nat} (h:sD w X b q r n) (k:Below B X Y) (hB:w.heap.size+4<=B):sD w Y b q r n:=
 ⟨h.bl.trans (k.mono (by omega)),ja h.y k (by omega),ja h.q k (by omega),ja h.r k (by omega),ja h.n k (by omega)⟩
theorem kL {B c i:Nat} {X Y:World} (h:Keep B c X Y) (h1:i<B) (h2:i≠c) (u:Value):Keep B c X (Y.setCell (Zt i 0) u):=h.setCell (p:=(Zt i 0)) h1 h2 u
theorem xH (w : World) (h l b : Int) (wfh : (Lit.int .i64 h).wf = true) (wfl : (Lit.int .i64 l).wf = true) (wfb : (Lit.int .i64 b).wf = true) : Calls prog 276 #[iv h, iv l, iv b] w fun e w' => e = .returned (.tuple #[iv (dvQ h l b), iv (dvR h l b), iv (dvN h l b), .bool (dOk h l b)]) ∧ Kept 0 0 w w' := by
  have no : dOk h l b = false -> Hid (dvQ h l b = 0 ∧ dvR h l b = 0 ∧ dvN h l b = 0 ∧ dOk h l b = false) := fun q => by
    refine Zr ⟨?_, ?_, ?_, q⟩ <;> simp [dvQ, dvR, dvN, q]
  cases hh : wOk h
  · have E := no (by simp [dOk, hh])
    clear no;go_enter func276, ntmps276;go_wp2_with (go_at_call 64; refine (jL _ _ (by assumption)).mono ?_; rintro e9 w9 ⟨rfl, hw⟩; have hw2 := hw.symm; clear hw; subst hw2; rw [hh]);exact bodyPost_ret (v := .tuple #[iv 0, iv 0, iv 0, .bool false]) (by simp [results, Tryz.results276, go_sem]) rfl ⟨by rw [E.o.1, E.o.2.1, E.o.2.2.1, E.o.2.2.2], kept_alloc _ _⟩
  · cases hl : wOk l
    · have E := no (by simp [dOk, hl])
      clear no;go_enter func276, ntmps276;go_wp2_with (go_at_call 64; refine (jL _ _ (by assumption)).mono ?_; rintro e9 w9 ⟨rfl, hw⟩; have hw2 := hw.symm; clear hw; subst hw2; first | rw [hh] | rw [hl]);exact bodyPost_ret (v := .tuple #[iv 0, iv 0, iv 0, .bool false]) (by simp [results, Tryz.results276, go_sem]) rfl ⟨by rw [E.o.1, E.o.2.1, E.o.2.2.1, E.o.2.2.2], kept_alloc _ _⟩
    · cases hb : wOk b
      · have E := no (by have : ¬ (1 <= b ∧ b <= 65535) := by intro q; simp [wOk] at hb; omega
                         simp [dOk]; omega)
        clear no;go_enter func276, ntmps276;go_wp2_with (go_at_call 64; refine (jL _ _ (by assumption)).mono ?_; rintro e9 w9 ⟨rfl, hw⟩; have hw2 := hw.symm; clear hw; subst hw2; first | rw [hh] | rw [hl] | rw [hb]);exact bodyPost_ret (v := .tuple #[iv 0, iv 0, iv 0, .bool false]) (by simp [results, Tryz.results276, go_sem]) rfl ⟨by rw [E.o.1, E.o.2.1, E.o.2.2.1, E.o.2.2.2], kept_alloc _ _⟩
      · obtain ⟨h0, h1⟩ := nI hh
        obtain ⟨l0, l1⟩ := nI hl;obtain ⟨b0, b1⟩ := nI hb;by_cases hc : b <= h
        · have E := no (by simp [dOk]; omega)
          clear no;go_enter func276, ntmps276;go_wp2_with (go_at_call 64; refine (jL _ _ (by assumption)).mono ?_; rintro e9 w9 ⟨rfl, hw⟩; have hw2 := hw.symm; clear hw; subst hw2; first | rw [hh] | rw [hl] | rw [hb]);exact bodyPost_ret (v := .tuple #[iv 0, iv 0, iv 0, .bool false]) (by simp [results, Tryz.results276, go_sem]) rfl ⟨by rw [E.o.1, E.o.2.1, E.o.2.2.1, E.o.2.2.2], kept_alloc _ _⟩
        · clear no
          have ok : dOk h l b = true := by simp [dOk, hh, hl]; omega
          have E : Hid (dvQ h l b = dQ h l b 16 ∧ dvR h l b = dR h l b 16 ∧ dvN h l b = dN h l b 16 ∧ dOk h l b = true) := by
            refine Zr ⟨?_, ?_, ?_, ok⟩ <;> simp [dvQ, dvR, dvN, ok]
          clear ok;refine (callsIn_wide (n := 9)).1 (callsIn_of_wp_marks func276 rfl trivial ?_ rfl);simp only [ntmps276, List.size_toArray, List.length_cons, List.length_nil, Nat.reduceAdd, Nat.reduceSub, Array.replicate_succ, Array.replicate_zero, List.push_toArray, List.append_toArray, List.nil_append, List.cons_append];gi_wp2_with (first | (refine ⟨trivial, ?_⟩; gi_at_call 64; refine (callsIn_wide.2 (jL _ _ (by assumption))).mono ?_; rintro e9 w9 ⟨rfl, hw⟩; have hw2 := hw.symm; clear hw; subst hw2; first | rw [hh] | rw [hl] | rw [hb]) | (refine ⟨trivial, ?_⟩; gi_at_call 300; refine (callsIn_wide.2 (Lr l _)).mono ?_; rintro e9 w9 ⟨rfl, hw⟩; have hw2 := hw.symm; clear hw; subst hw2))
          have hY : Boxed (((((w.alloc (.cells #[iv b] 3)).alloc (.cells #[iv 0] 3)).alloc (.cells #[iv h] 3)).alloc (.cells #[iv 0] 3)).alloc (.cells #[iv l] 3)) (w.heap.size + 0) 3 (iv b) := by
            have := (((((Boxed.new w 3 (iv b)).alloc (.cells #[iv 0] 3)).alloc (.cells #[iv h] 3)).alloc (.cells #[iv 0] 3)).alloc (.cells #[iv l] 3))
            simpa using this
          have hQ : Boxed (((((w.alloc (.cells #[iv b] 3)).alloc (.cells #[iv 0] 3)).alloc (.cells #[iv h] 3)).alloc (.cells #[iv 0] 3)).alloc (.cells #[iv l] 3)) (w.heap.size + 1) 3 (iv 0) := by
            have := ((((Boxed.new (w.alloc (.cells #[iv b] 3)) 3 (iv 0)).alloc (.cells #[iv h] 3)).alloc (.cells #[iv 0] 3)).alloc (.cells #[iv l] 3))
            simpa using this
          have hR : Boxed (((((w.alloc (.cells #[iv b] 3)).alloc (.cells #[iv 0] 3)).alloc (.cells #[iv h] 3)).alloc (.cells #[iv 0] 3)).alloc (.cells #[iv l] 3)) (w.heap.size + 2) 3 (iv h) := by
            have := (((Boxed.new ((w.alloc (.cells #[iv b] 3)).alloc (.cells #[iv 0] 3)) 3 (iv h)).alloc (.cells #[iv 0] 3)).alloc (.cells #[iv l] 3))
            simpa using this
          have hN : Boxed (((((w.alloc (.cells #[iv b] 3)).alloc (.cells #[iv 0] 3)).alloc (.cells #[iv h] 3)).alloc (.cells #[iv 0] 3)).alloc (.cells #[iv l] 3)) (w.heap.size + 3) 3 (iv 0) := by
            have := ((Boxed.new (((w.alloc (.cells #[iv b] 3)).alloc (.cells #[iv 0] 3)).alloc (.cells #[iv h] 3)) 3 (iv 0)).alloc (.cells #[iv l] 3))
            simpa using this
          have hC : Boxed (((((w.alloc (.cells #[iv b] 3)).alloc (.cells #[iv 0] 3)).alloc (.cells #[iv h] 3)).alloc (.cells #[iv 0] 3)).alloc (.cells #[iv l] 3)) (w.heap.size + 4) 3 (iv l) := by
            have := (Boxed.new ((((w.alloc (.cells #[iv b] 3)).alloc (.cells #[iv 0] 3)).alloc (.cells #[iv h] 3)).alloc (.cells #[iv 0] 3)) 3 (iv l))
            simpa using this
          have hBW : Below w.heap.size w (((((w.alloc (.cells #[iv b] 3)).alloc (.cells #[iv 0] 3)).alloc (.cells #[iv h] 3)).alloc (.cells #[iv 0] 3)).alloc (.cells #[iv l] 3)) := (((((Below.refl _ w).alloc (Nat.le_refl _) _).alloc (by simp) _).alloc (by simp; omega) _).alloc (by simp; omega) _).alloc (by simp; omega) _;have hSz : (((((w.alloc (.cells #[iv b] 3)).alloc (.cells #[iv 0] 3)).alloc (.cells #[iv h] 3)).alloc (.cells #[iv 0] 3)).alloc (.cells #[iv l] 3)).heap.size = w.heap.size + 5 := by simp
          revert hY hQ hR hN hC hBW hSz
          generalize (((((w.alloc (.cells #[iv b] 3)).alloc (.cells #[iv 0] 3)).alloc (.cells #[iv h] 3)).alloc (.cells #[iv 0] 3)).alloc (.cells #[iv l] 3)) = w0;intro hY hQ hR hN hC hBW hSz;have HI := Zr (fun m hm => xP h0 (show h < b by omega) l0 m hm)
          refine yt (FH hl (w.heap.size + 4)) rfl (enters_of func319 (by kernel_rfl) rfl) hC (fun _ => rfl)
            (fun k X => sD w X b (dQ h l b k) (dR h l b k) (dN h l b k))
            (fun k X Y hs hb => hs.below hb (by omega))
            ⟨hBW, hY, hQ, hR, hN⟩
            (fun k => { tmps := #[iv h, iv l, iv b, undef, undef, .pointer (some ⟨w.heap.size, 0, none⟩), iv 0, iv 0, iv 0, .bool false, .pointer (some ⟨w.heap.size + 1, 0, none⟩), .pointer (some ⟨w.heap.size + 2, 0, none⟩), .pointer (some ⟨w.heap.size + 3, 0, none⟩), iv (iG l (15 - k)), iv h, .bool true, .bool false, .bool false, iv l, .bool true, .bool false, .bool false, .bool false, iv b, .bool true, .bool false, .bool false, .bool false, iv h, iv b, .bool (decide (b <= h)), .bool (decide (b <= h)), iv h, iv l, .func (.func 319) #[] #[.pointer (some ⟨w.heap.size + 4, 0, none⟩)], iv (iG l (15 - k)), undef, undef, undef, undef, undef, undef, undef, undef, undef, undef, undef, undef, undef, undef, undef, undef, undef, undef, undef], defers := [] }) ?assign ?body ?done
          case assign =>
            intro l' k X K hK;gi_wp2;exact hK
          case body =>
            intro l' k X hk hD hs;rw [hSz] at hs ⊢;have hcY := hD.y.cell;have hcQ := hD.q.cell;have hcR := hD.r.cell;have hcN := hD.n.cell;have hfQ := hD.q.frozen;have hfR := hD.r.frozen;have hfN := hD.n.frozen;obtain ⟨⟨r0, r1⟩, _, q0, q1⟩ := HI.o k (by omega);have q2 := Ij (show k <= 16 by omega);replace q1 : dQ h l b k <= 65536 := by omega
            clear q2;obtain ⟨n0, n1⟩ := Wp h l b k;replace n1 : dN h l b k <= 16 := by omega
            have t1 : 0 <= iG l (15 - k) ∧ iG l (15 - k) <= 1 := by have := tC l (15 - k); omega
            have EQ : Hid (dQ h l b (k + 1) = 2 * dQ h l b k + (if b <= 2 * dR h l b k + iG l (15 - k) then 1 else 0)) := Zr rfl;have ER : Hid (dR h l b (k + 1) = if b <= 2 * dR h l b k + iG l (15 - k) then 2 * dR h l b k + iG l (15 - k) - b else 2 * dR h l b k + iG l (15 - k)) := Zr rfl;have EN : Hid (dN h l b (k + 1) = dN h l b k + (if b <= 2 * dR h l b k + iG l (15 - k) then 1 else 0)) := Zr rfl;revert EQ ER EN;generalize dQ h l b (k + 1) = q';generalize dR h l b (k + 1) = r';generalize dN h l b (k + 1) = n';revert hD hcQ hcR hcN r0 r1 q0 q1 n0 n1 t1;generalize dQ h l b k = q;generalize dR h l b k = r;generalize dN h l b k = n;generalize iG l (15 - k) = t;intro hD hcQ hcR hcN r0 r1 q0 q1 n0 n1 t1 EQ ER EN;clear HI E;by_cases hcmp : b <= r * 2 + t
            · have e1 : q' = q * 2 + 1 := by have := EQ.o; rw [if_pos (by omega)] at this; omega
              have e2 : r' = r * 2 + t - b := by have := ER.o; rw [if_pos (by omega)] at this; omega
              have e3 : n' = n + 1 := by have := EN.o; rw [if_pos (by omega)] at this; omega
              subst e1 e2 e3;clear EQ ER EN;gi_wp2;exact ⟨((((hD.Rt _).bg _).bg _).Rt _).Yd _, kL (kL (kL (kL (kL (Keep.refl _ _ _) (by omega) (by omega) _) (by omega) (by omega) _) (by omega) (by omega) _) (by omega) (by omega) _) (by omega) (by omega) _⟩
            · have e1 : q' = q * 2 := by have := EQ.o; rw [if_neg (by omega)] at this; omega
              have e2 : r' = r * 2 + t := by have := ER.o; rw [if_neg (by omega)] at this; omega
              have e3 : n' = n := by have := EN.o; rw [if_neg (by omega)] at this; omega
              subst e1 e2 e3;clear EQ ER EN;gi_wp2;exact ⟨(hD.Rt _).bg _, kL (kL (Keep.refl _ _ _) (by omega) (by omega) _) (by omega) (by omega) _⟩
          case done =>
            rintro X ⟨hB, hY, hQ, hR, hN⟩ hK;have hcQ := hQ.cell;have hcR := hR.cell;have hcN := hN.cell;gi_wp2;gi_region
            all_goals gi_wp2
            all_goals
              refine ⟨by simp, .inl ⟨_, _, rfl, run_takeDeferred hK, ?_⟩⟩;refine ⟨.tuple #[iv (dQ h l b 16), iv (dR h l b 16), iv (dN h l b 16), .bool true], by simp [results, Tryz.results276, go_sem], by rw [E.o.1, E.o.2.1, E.o.2.2.1, E.o.2.2.2], mJ (hB.drew.trans (lV (by omega) _))⟩
namespace Pl
def cbM (op q v:Int):Int:=bif op==5 then bits .and .i64 q v else bif op==6 then bits .or .i64 q v else bif op==7 then bits .xor .i64 q v else bif op==16 then xn q v else bif op==17 then dvQ 0 q v else v
def cbU (op q v:Int):Int:=bif op==16 then EG q v else 0
def cbV (op z q v:Int):Int:=bif op==3 then rY z 0 q v else bif op==4 then lC z 0 q v else bif op==8 then q else cbM op q v
def cbF (op z f q v:Int):Int:=bif op==3 then qW z 0 q v else bif op==4 then jW z 0 q v else bif op==8 then nz z f q v else bits .or .i64 (dh z f (cbM op q v)) (fl (cbU op q v != 0) 2)
end Pl
theorem Pz (w:World) (op z r m k e s f q v:Int) (hop:op=1∨op=3∨op=4∨op=5∨op=6∨op=7∨op=8∨op=16∨op=17) (q0:0<=q) (q1:q<=65535) (v0:0<=v) (v1:v<=65535) (M0:0<=cbM op q v) (M1:cbM op q v<=65535) :
  Calls prog 250 #[.agg (inA op z r m k e s),iv f,iv q,iv v] w fun e' w'=>e'=.returned (.tuple #[iv (cbV op z q v),iv (cbF op z f q v)])∧Kept 0 0 w w':=by
 have wq:(Lit.int .i64 q).wf=true:=qy (by omega) (by omega);have wv:(Lit.int .i64 v).wf=true:=qy (by omega) (by omega);have b0:=Zr M0;have b1:=Zr M1;clear M0 M1;rcases hop with rfl|rfl|rfl|rfl|rfl|rfl|rfl|rfl|rfl
 ·have K0:=Zr (kept_alloc w (.cells (inA 1 z r m k e s) 48));have A0:=Zr (Blk.new w (inA 1 z r m k e s) 48);obtain ⟨X,hX⟩:∃X:World,w.alloc (.cells (inA 1 z r m k e s) 48)=X:=⟨_,rfl⟩
  rw [hX] at K0 A0;have p:=A0.o.all;go_enter func250,ntmps250;go_wp2_with (first|(go_at_call 242;refine st (fQ _ _ _) ?_)|(go_at_call 277;refine st (iQ _ _ _ _ (by have:=b0.o;first|omega|(simp only [cbM] at this;exact Int.le_trans (by decide) this)) (by have:=b1.o;first|omega|(simp only [cbM] at this;exact Int.le_trans this (by decide)))) ?_));go_ret2;exact ⟨rfl,K0.o⟩
 ·have K0:=Zr (kept_alloc w (.cells (inA 3 z r m k e s) 48));have A0:=Zr (Blk.new w (inA 3 z r m k e s) 48);obtain ⟨X,hX⟩:∃X:World,w.alloc (.cells (inA 3 z r m k e s) 48)=X:=⟨_,rfl⟩
  rw [hX] at K0 A0;have p:=A0.o.all;go_enter func250,ntmps250;go_wp2_with (first|(go_at_call 272;refine st (LJ _ _ _ _ _ (by omega) (by omega) (by omega) (by omega)) ?_));go_ret2;exact ⟨rfl,K0.o⟩
 ·have K0:=Zr (kept_alloc w (.cells (inA 4 z r m k e s) 48));have A0:=Zr (Blk.new w (inA 4 z r m k e s) 48);obtain ⟨X,hX⟩:∃X:World,w.alloc (.cells (inA 4 z r m k e s) 48)=X:=⟨_,rfl⟩
  rw [hX] at K0 A0;have p:=A0.o.all;go_enter func250,ntmps250;go_wp2_with (first|(go_at_call 273;refine st (nO _ _ _ _ _ (by omega) (by omega) (by omega) (by omega)) ?_));go_ret2;exact ⟨rfl,K0.o⟩
 ·have K0:=Zr (kept_alloc w (.cells (inA 5 z r m k e s) 48));have A0:=Zr (Blk.new w (inA 5 z r m k e s) 48);obtain ⟨X,hX⟩:∃X:World,w.alloc (.cells (inA 5 z r m k e s) 48)=X:=⟨_,rfl⟩
  rw [hX] at K0 A0;have p:=A0.o.all;go_enter func250,ntmps250;go_wp2_with (first|(go_at_call 242;refine st (fQ _ _ _) ?_)|(go_at_call 277;refine st (iQ _ _ _ _ (by have:=b0.o;first|omega|(simp only [cbM] at this;exact Int.le_trans (by decide) this)) (by have:=b1.o;first|omega|(simp only [cbM] at this;exact Int.le_trans this (by decide)))) ?_));go_ret2;exact ⟨rfl,K0.o⟩
 ·have K0:=Zr (kept_alloc w (.cells (inA 6 z r m k e s) 48));have A0:=Zr (Blk.new w (inA 6 z r m k e s) 48);obtain ⟨X,hX⟩:∃X:World,w.alloc (.cells (inA 6 z r m k e s) 48)=X:=⟨_,rfl⟩
  rw [hX] at K0 A0;have p:=A0.o.all;go_enter func250,ntmps250;go_wp2_with (first|(go_at_call 242;refine st (fQ _ _ _) ?_)|(go_at_call 277;refine st (iQ _ _ _ _ (by have:=b0.o;first|omega|(simp only [cbM] at this;exact Int.le_trans (by decide) this)) (by have:=b1.o;first|omega|(simp only [cbM] at this;exact Int.le_trans this (by decide)))) ?_));go_ret2;exact ⟨rfl,K0.o⟩
 ·have K0:=Zr (kept_alloc w (.cells (inA 7 z r m k e s) 48));have A0:=Zr (Blk.new w (inA 7 z r m k e s) 48);obtain ⟨X,hX⟩:∃X:World,w.alloc (.cells (inA 7 z r m k e s) 48)=X:=⟨_,rfl⟩
  rw [hX] at K0 A0;have p:=A0.o.all;go_enter func250,ntmps250;go_wp2_with (first|(go_at_call 242;refine st (fQ _ _ _) ?_)|(go_at_call 277;refine st (iQ _ _ _ _ (by have:=b0.o;first|omega|(simp only [cbM] at this;exact Int.le_trans (by decide) this)) (by have:=b1.o;first|omega|(simp only [cbM] at this;exact Int.le_trans this (by decide)))) ?_));go_ret2;exact ⟨rfl,K0.o⟩
 ·have K0:=Zr (kept_alloc w (.cells (inA 8 z r m k e s) 48));have A0:=Zr (Blk.new w (inA 8 z r m k e s) 48);obtain ⟨X,hX⟩:∃X:World,w.alloc (.cells (inA 8 z r m k e s) 48)=X:=⟨_,rfl⟩
  rw [hX] at K0 A0;have p:=A0.o.all;go_enter func250,ntmps250;go_wp2_with (first|(go_at_call 274;refine st (KN _ _ _ _ _ (by omega) (by omega) (by omega) (by omega)) ?_));go_ret2;exact ⟨rfl,K0.o⟩
 ·have K0:=Zr (kept_alloc w (.cells (inA 16 z r m k e s) 48));have A0:=Zr (Blk.new w (inA 16 z r m k e s) 48);obtain ⟨X,hX⟩:∃X:World,w.alloc (.cells (inA 16 z r m k e s) 48)=X:=⟨_,rfl⟩
  rw [hX] at K0 A0;have p:=A0.o.all;go_enter func250,ntmps250;go_wp2_with (first|(go_at_call 242;refine st (fQ _ _ _) ?_)|(go_at_call 277;refine st (iQ _ _ _ _ (by have:=b0.o;first|omega|(simp only [cbM] at this;exact Int.le_trans (by decide) this)) (by have:=b1.o;first|omega|(simp only [cbM] at this;exact Int.le_trans this (by decide)))) ?_)|(go_at_call 275;refine (xG _ q v wq wv).mono ?_;rintro e9 W1 ⟨rfl,k1⟩;have K1:=Zr (K0.o.trans k1);have p1:=(A0.o.ae k1).all;clear k1));go_ret2;exact ⟨rfl,K1.o⟩
 ·have K0:=Zr (kept_alloc w (.cells (inA 17 z r m k e s) 48));have A0:=Zr (Blk.new w (inA 17 z r m k e s) 48);obtain ⟨X,hX⟩:∃X:World,w.alloc (.cells (inA 17 z r m k e s) 48)=X:=⟨_,rfl⟩
  rw [hX] at K0 A0;have p:=A0.o.all;go_enter func250,ntmps250;go_wp2_with (first|(go_at_call 242;refine st (fQ _ _ _) ?_)|(go_at_call 277;refine st (iQ _ _ _ _ (by have:=b0.o;first|omega|(simp only [cbM] at this;exact Int.le_trans (by decide) this)) (by have:=b1.o;first|omega|(simp only [cbM] at this;exact Int.le_trans this (by decide)))) ?_)|(go_at_call 276;refine (xH _ 0 q v (by decide) wq wv).mono ?_;rintro e9 W1 ⟨rfl,k1⟩;have K1:=Zr (K0.o.trans k1);have p1:=(A0.o.ae k1).all;clear k1));go_ret2;exact ⟨rfl,K1.o⟩
namespace Pl
theorem Wv {op z q v:Int} (hz:z=1∨z=2) (hq:okv z q=true) (hv:okv z v=true) (h2:op=16∨op=17->z=2) (h0:op=17->v≠0):okv z (cbM op q v)=true∧okv z (cbV op z q v)=true:=by
 obtain ⟨o1,o2,o3⟩:=qI hq hv;have tq:=aO hq;have tv:=aO hv
 have hM:okv z (cbM op q v)=true:=by
  unfold cbM;cases e5:op==5
  ·cases e6:op==6
   ·cases e7:op==7
    ·cases e16:op==16
     ·cases e17:op==17
      ·exact hv
      ·have ho:op=17:=by simpa using e17
       have ez:=h2 (.inr ho);subst ez;have hv0:=h0 ho;show okv 2 (dvQ 0 q v)=true
       have e:dvQ 0 q v=q/v:=by
        have hk:dOk 0 q v=true:=by simp [dOk,wOk];omega
        unfold dvQ;rw [if_pos hk];exact (yC (by omega) (by omega) (by omega)).1
       rw [e];have h1:0<=q/v:=Int.ediv_nonneg (by omega) (by omega);have h3:q/v<=q:=Int.ediv_le_self _ (by omega);simp [okv,top];omega
     ·have ho:op=16:=by simpa using e16
      have ez:=h2 (.inl ho);subst ez;show okv 2 (xn q v)=true;unfold xn;simp only [okv,top];split
      ·simp;omega
      ·rfl
    ·exact o3
   ·exact o2
  ·exact o1
 refine ⟨hM,?_⟩;unfold cbV;cases op==3
 ·cases op==4
  ·cases op==8
   ·exact hM
   ·exact hq
  ·exact lL hz
 ·exact uJ hq
theorem wY {c D:Mc} {z m k e:Int} (hf:c.f=aF) (hD:D=c.read z m k e) (h:(D.f.v != 0)=false):D.f=aF:=by
 subst hD;unfold Mc.read at *;cases hi:Mc.gu m
 ·rw [hi] at h;have ee:((c.plc z m k e).acc 1 z (bf c.r z m k e) 0).f=Mc.cZ aF 1 z (bf c.r z m k e):=by show Mc.cZ c.f _ _ _=_;rw [hf]
  show ((c.plc z m k e).acc 1 z (bf c.r z m k e) 0).f=aF
  rw [ee];exact (mW (by rw [<-ee];exact h)).2
 ·exact hf
def Mc.tk' (d:Mc) (op z r v:Int):Mc:=bif op==9 then d.eG r.toNat v else bif (op==17)&&(v==0) then {d with f:=⟨5,0,0,0,false⟩} else ((d.put z r (cbV op z (d.low z r) v)).aH (cbF op z d.r.f (d.low z r) v))
def Mc.tk (c:Mc) (x:In):Mc:=bif (c.read x.z x.m x.k x.e).fine then (c.read x.z x.m x.k x.e).tk' x.op x.z x.r (c.bu x.z x.m x.k x.e) else c.read x.z x.m x.k x.e
end Pl
theorem and7 {a b c d e f g h:Prop} (x:a∧b∧c∧d∧e∧f∧g) (y:h):a∧b∧c∧d∧e∧f∧g∧h:=⟨x.1,x.2.1,x.2.2.1,x.2.2.2.1,x.2.2.2.2.1,x.2.2.2.2.2.1,x.2.2.2.2.2.2,y⟩
variable (w:World) (lo b g:Nat) (c:Mc) (h:Hl)
theorem Lc (op z r m k e s:Int) (hC:CAt w lo b g c h) (G:GM c) (hf:c.f=aF) (B:InB ⟨op,z,r,m,k,e,s⟩) (hop:op=9∨op=1∨op=3∨op=4∨op=5∨op=6∨op=7∨op=8∨op=16∨op=17) (h1:m=1->z=2) (h2:op=16∨op=17->z=2) :
  Calls prog 224 #[.pointer (some (Zt b 0)),.agg (inA op z r m k e s)] w fun e' w'=>∃g',e'=.returned (.agg (ftC (c.tk ⟨op,z,r,m,k,e,s⟩).f))∧CAt w' lo b g' (c.tk ⟨op,z,r,m,k,e,s⟩) h∧Since w b (b+1) g w' g':=by
 have HB:=Zr B;clear B;obtain ⟨l0,l1,l2,l3,l4⟩:=hC.lt;have HG:=Zr G;obtain ⟨X,hX,K0,C0,A0,R0,sX⟩:=hC.kN op z r m k e s;have p:=A0.o.all;clear hC G;obtain ⟨D,hD⟩:∃D,D=c.read z m k e:=⟨_,rfl⟩
 obtain ⟨V,hV⟩:∃V,V=c.bu z m k e:=⟨_,rfl⟩
 obtain ⟨F,hF⟩:∃F,F=D.f:=⟨_,rfl⟩
 have GD:Hid (GM D):=Zr (by rw [hD];exact HG.o.read HB.o.z HB.o.k0 HB.o.k1 HB.o.e0 HB.o.e1);have OV:Hid (okv z V=true):=Zr (by rw [hV];exact fB HG.o HB.o.z HB.o.k0 HB.o.k1 HB.o.e0 HB.o.e1 h1 HB.o.n7)
 have ET:Hid (c.tk ⟨op,z,r,m,k,e,s⟩=bif !(F.v != 0) then D.tk' op z r V else D):=Zr (by
  show (bif (c.read z m k e).fine then (c.read z m k e).tk' op z r (c.bu z m k e) else c.read z m k e)=_
  rw [<-hD,<-hV,hF];unfold Mc.fine;simp [bne])
 have HD:=Zr hD;have HV:=Zr hV;have HF:=Zr hF;have H2:=Zr h2;have HO:=Zr hop;clear hD hV hF h1 h2 hop;go_enter func224,ntmps224;go_wp2_with (first|(go_at_call 249;have z9:=C1;refine (Ld _ lo b g c h z m k e C1.o HG.o hf HB.o.z HB.o.m0 HB.o.m1 HB.o.k0 HB.o.k1 HB.o.e0 HB.o.e1).mono ?_;rintro e9 W2 ⟨g',rfl,hc,hs⟩;rw [<-HD.o] at hc ⊢;rw [<-HV.o,<-HF.o];unfold ftC;have C2:=Zr (hc.alloc (.cells (ftA F) 42));have A2:=Zr ((hs.blk A1.o (by omega) (by omega)).alloc (.cells (ftA F) 42));have R2:=Zr ((hs.blk R1.o (by omega) (by omega)).alloc (.cells (ftA F) 42));have S2:=Zr ((S1.o.trans hs).alloc (.cells (ftA F) 42));have L2:=Zr (Blk.new W2 (ftA F) 42);have z2:=hs.size;have n2:=hs.ne (b:=w.heap.size+1) R1.o.lt (by omega);have m2:=hs.ne (b:=w.heap.size) A1.o.lt (by omega);clear hc hs)|(go_at_call 227;refine (vC _ lo b g c h ⟨op,z,r,m,k,e,s⟩ C0.o HG.o HB.o).mono ?_;rintro e9 W1 ⟨rfl,hc,hk⟩;have C1:=Zr hc;have A1:=Zr (A0.o.kept hk (by omega));have R1:=Zr (R0.o.kept hk (by omega));have S1:=Zr (((Since.refl w b (b+1) g).any K0.o).ai hk (Nat.le_refl _) (Nat.le_refl _));have p1:=A1.o.all;clear hc hk));refine (bP F _).mono ?_;rintro e9 W4 ⟨rfl,kf⟩;have C4:=Zr (C2.o.any kf);have A4:=Zr (A2.o.ae kf);have R4:=Zr (R2.o.ae kf);have L4:=Zr (L2.o.ae kf);have S4:=Zr (S2.o.any kf);have p4:=A4.o.all;have q4:=L4.o.all;have r4:=R4.o.all;have rf4:=R4.o.fz;clear kf;clear hX p p1;cases hv:(F.v != 0)
 ·have E1:Hid (c.tk ⟨op,z,r,m,k,e,s⟩=D.tk' op z r V):=Zr (by rw [ET.o,hv];rfl);have DF:Hid (D.f=aF):=Zr (wY hf HD.o (by rw [<-HF.o];exact hv));cases h9:(op==9)
  ·cases h17:(op==17)<;>cases hV0:(V==0)
   case true.true=>
    have E2:Hid (D.tk' op z r V={D with f:=⟨5,0,0,0,false⟩}):=Zr (by unfold Mc.tk';rw [h9,h17,hV0];rfl);go_wp2_with fail;have KR:=(((((ak W4 (w.heap.size+1) 0 (iv 5)).one 1 (iv 0)).one 2 (iv 0)).one 3 (iv 0)).one 4 (.bool false))
    refine bodyPost_ret (v:=.agg #[iv 5,iv 0,iv 0,iv 0,.bool false]) ?_ rfl ⟨g',?_,?_,(S4.o).mine KR (by omega)⟩
    ·rw [aj rfl];go_simp
    ·rw [E1.o,E2.o];rfl
    ·rw [E1.o,E2.o];exact ((C4.o).kept KR (by omega) (by omega)).fx rfl rfl rfl rfl rfl
   all_goals
    have E2:Hid (D.tk' op z r V=(D.put z r (cbV op z (D.low z r) V)).aH (cbF op z D.r.f (D.low z r) V)):=Zr (by unfold Mc.tk';rw [h9,h17,hV0];rfl);have hop2:op=1∨op=3∨op=4∨op=5∨op=6∨op=7∨op=8∨op=16∨op=17:=by rcases HO.o with h|h;exact absurd h (by simpa using h9);exact h
    have CB:Hid (okv z (cbM op (D.low z r) V)=true∧okv z (cbV op z (D.low z r) V)=true):=Zr (Wv HB.o.z (iw GD.o HB.o.z HB.o.r0 HB.o.r1) OV.o H2.o (by intro ho hv;first|(simp [ho] at h17;done)|(simp [hv] at hV0)));have OQ:=Zr (iw GD.o HB.o.z HB.o.r0 HB.o.r1);obtain ⟨Q,hQ⟩:∃Q,Q=D.low z r:=⟨_,rfl⟩
    rw [<-hQ] at E2 CB OQ;have HQ:=Zr hQ;have HP:=Zr hop2;clear hQ hop2;go_wp2_with fail;clear p4 q4 r4 rf4;obtain ⟨u0,u1,u2,u3,u4,u5,u6⟩:=A4.o.c7;have u10:=C4.o.cF
    go_region_held3 (fun w'=>w'.cell? (Zt w.heap.size 0)=some (iv op)∧w'.cell? (Zt w.heap.size 1)=some (iv z)∧w'.cell? (Zt w.heap.size 2)=some (iv r)∧w'.cell? (Zt w.heap.size 3)=some (iv m)∧w'.cell? (Zt w.heap.size 4)=some (iv k)∧w'.cell? (Zt w.heap.size 5)=some (iv e)∧w'.cell? (Zt w.heap.size 6)=some (iv s)∧w'.cell? (Zt b 10)=some (iv D.r.f)) (first|with_reducible exact and7 A6.o.c7 C6.o.cF|with_reducible exact and7 A5.o.c7 C5.o.cF|exact and7 (show Blk _ _ _ _ from A4.o).c7 C4.o.drew.cF)
     (first|(go_at_call 250;have z9:=A5;refine (Pz _ op z r m k e s D.r.f Q V HP.o (by have:=aO OQ.o;omega) (by have:=aO OQ.o;omega) (by have:=aO OV.o;omega) (by have:=aO OV.o;omega) (by have:=aO CB.o.1;omega) (by have:=aO CB.o.1;omega)).mono ?_;rintro e9 W6 ⟨rfl,k6⟩;have C6:=Zr (C5.o.any k6);have A6:=Zr (A5.o.ae k6);have R6:=Zr (R5.o.ae k6);have S6:=Zr (S5.o.any k6);clear k6)|(go_at_call 251;refine (mV _ lo b g' D h z r C4.o.drew HB.o.z HB.o.r0 HB.o.r1).mono ?_;rintro e9 W5 ⟨rfl,kd⟩;rw [<-HQ.o];have k5:=aK kd;have C5:=Zr (C4.o.any k5);have A5:=Zr (A4.o.ae k5);have R5:=Zr (R4.o.ae k5);have S5:=Zr (S4.o.any k5);clear kd k5))
    clear u0 u1 u2 u3 u4 u5 u6 u10;obtain ⟨MV,hMV⟩:∃M,M=cbV op z Q V:=⟨_,rfl⟩
    obtain ⟨MF,hMF⟩:∃M,M=cbF op z D.r.f Q V:=⟨_,rfl⟩
    rw [<-hMV,<-hMF] at E2 ⊢;rw [<-hMV] at CB;clear hMV hMF;go_wp2_with fail;have u1:=A6.o.cell (i:=1) rfl;have u2:=A6.o.cell (i:=2) rfl
    go_region_held3 (fun w'=>w'.cell? (Zt w.heap.size 1)=some (iv z)∧w'.cell? (Zt w.heap.size 2)=some (iv r)) (first|with_reducible exact ⟨A7.o.cell (i:=1) rfl,A7.o.cell (i:=2) rfl⟩|exact ⟨(show Blk _ _ _ _ from A6.o).cell (i:=1) rfl,(show Blk _ _ _ _ from A6.o).cell (i:=2) rfl⟩)
     (first|(go_at_call 252;refine (Le _ lo b g' D h z r MV C6.o.drew GD.o.g HB.o.r0 HB.o.r1 HB.o.z CB.o.2).mono ?_;rintro e9 W7 ⟨rfl,hc7,kd⟩;have k7:=aK kd;have C7:=Zr hc7;have A7:=Zr (A6.o.kept k7 (by omega));have R7:=Zr (R6.o.kept k7 (by omega));have S7:=Zr (S6.o.ai k7 (Nat.le_refl _) (Nat.le_refl _));clear hc7 kd k7))
    have cf:=C7.o.cF;have cz:=C7.o.fz;have rr:=(R7.o.other b 10 (iv MF) (by omega)).all;have rz:=(R7.o.other b 10 (iv MF) (by omega)).fz;go_wp2_with fail;have KR:=(((((ak (W7.setCell (Zt b 10) (iv MF)) (w.heap.size+1) 0 (iv 0)).one 1 (iv 0)).one 2 (iv 0)).one 3 (iv 0)).one 4 (.bool false))
    refine bodyPost_ret (v:=.agg ftZ) ?_ rfl ⟨g',?_,?_,(S7.o.set b 10 (iv MF) (.inl (by omega))).mine KR (by omega)⟩
    ·rw [aj rfl];go_simp
    ·rw [E1.o,E2.o,show ((D.put z r MV).aH MF).f=aF from DF.o];rfl
    ·rw [E1.o,E2.o];exact ((C7.o.aH MF).kept KR (by omega) (by omega))
  ·have E2:Hid (D.tk' op z r V=D.eG r.toNat V):=Zr (by unfold Mc.tk';rw [h9];rfl);obtain ⟨n,rfl⟩:∃n:Nat,r=(n:Int):=⟨r.toNat,by have:0<=r:=HB.o.r0;omega⟩
   have hn:n<4:=by have:(n:Int)<=3:=HB.o.r1;omega
   have i0:(0:Int)<=(n:Int):=by omega
   have i1:(n:Int)<4:=by omega
   go_wp2_with fail;have cy:=C4.o.cY hn;have cz:=C4.o.fz;go_region;have rr:=(R4.o.other b (4+n) (iv V) (by omega)).all;have rz:=(R4.o.other b (4+n) (iv V) (by omega)).fz;go_wp2_with fail;have KR:=(ah (((((ak (W4.setCell ⟨b,4+n,none⟩ (iv V)) (w.heap.size+1) 0 (iv 0)).one 1 (iv 0)).one 2 (iv 0)).one 3 (iv 0)).one 4 (.bool false)))
   refine bodyPost_ret (v:=.agg ftZ) ?_ rfl ⟨g',?_,?_,(S4.o.set b (4+n) (iv V) (.inl (by omega))).mine KR (by omega)⟩
   ·rw [aj rfl];go_simp
   ·rw [E1.o,E2.o,show (D.eG (n:Int).toNat V).f=aF from DF.o];rfl
   ·rw [E1.o,E2.o];exact ((C4.o.uC GD.o.g.a4 hn V).kept KR (by omega) (by omega))
 ·have E1:Hid (c.tk ⟨op,z,r,m,k,e,s⟩=D):=Zr (by rw [ET.o,hv];rfl);go_wp2_with fail;have KR:=(((((ak W4 (w.heap.size+1) 0 (iv F.v)).one 1 (iv F.pc)).one 2 (iv F.ad)).one 3 (iv F.wo)).one 4 (.bool F.wr))
  refine bodyPost_ret (v:=.agg (ftA F)) ?_ rfl ⟨g',?_,?_,(S4.o).mine KR (by omega)⟩
  ·rw [aj rfl];go_simp
  ·rw [E1.o,<-HF.o];rfl
  ·rw [E1.o];exact ((C4.o).kept KR (by omega) (by omega))
namespace Pl
def Mc.gv (c:Mc) (x:In):Mc:=((c.aH (dh x.z c.r.f (c.low x.z x.r))).slot x.z x.m x.k x.e).write x.z x.m x.k (c.readA x.z x.m x.k x.e) (c.low x.z x.r)
def chV (s z v:Int):Int:=bif s==1 then lC z 0 0 v else bif s==2 then top z-1-v else v
def chF (s z f v:Int):Int:=bif s==1 then jW z 0 0 v else dh z f (chV s z v)
def Mc.ch' (d:Mc) (z m k a s v:Int):Mc:=bif s==3 then d.aH (chF s z d.r.f v) else (d.aH (chF s z d.r.f v)).write z m k a (chV s z v)
def Mc.ch (c:Mc) (x:In):Mc:=bif x.s==0 then (c.slot x.z x.m x.k x.e).ch' x.z x.m x.k (c.readA x.z x.m x.k x.e) 0 0 else bif (c.read x.z x.m x.k x.e).fine then (c.read x.z x.m x.k x.e).ch' x.z x.m x.k (c.readA x.z x.m x.k x.e) x.s (c.bu x.z x.m x.k x.e) else c.read x.z x.m x.k x.e
theorem sH (n x:Nat) (h:x<2^n):x ^^^ (2^n-1)=2^n-(x+1):=by
 apply Nat.eq_of_testBit_eq;intro i;rw [Nat.testBit_xor,Nat.testBit_two_pow_sub_one,Nat.testBit_two_pow_sub_succ h];by_cases hi:i<n
 ·simp [hi]
 ·have:x.testBit i=false:=Nat.testBit_lt_two_pow (Nat.lt_of_lt_of_le h (Nat.pow_le_pow_right (by decide) (by omega)))
  simp [hi,this]
theorem Me {z v:Int} (hz:z=1∨z=2) (hv:okv z v=true):bits .xor .i64 v (top z-1)=top z-1-v:=by
 have tv:=aO hv;rcases hz with rfl|rfl
 ·obtain ⟨n,rfl⟩:∃n:Nat,v=(n:Int):=⟨v.toNat,by omega⟩
  have e:=(bits_nat n 255 (by omega) (by decide)).2.2;show bits .xor .i64 (n:Int) ((255:Nat):Int)=_;rw [e,sH 8 n (by omega)];show ((256-(n+1):Nat):Int)=256-1-(n:Int);omega
 ·obtain ⟨n,rfl⟩:∃n:Nat,v=(n:Int):=⟨v.toNat,by omega⟩
  have e:=(bits_nat n 65535 (by omega) (by decide)).2.2;show bits .xor .i64 (n:Int) ((65535:Nat):Int)=_;rw [e,sH 16 n (by omega)];show ((65536-(n+1):Nat):Int)=65536-1-(n:Int);omega
theorem NT {z v:Int} (hz:z=1∨z=2) (hv:okv z v=true):okv z (top z-1-v)=true:=by
 have tv:=aO hv;rcases hz with rfl|rfl
 ·simp [okv,top] at *;omega
 ·simp [okv,top] at *;omega
theorem QP {s z v:Int} (hz:z=1∨z=2) (hv:okv z v=true):okv z (chV s z v)=true:=by
 unfold chV;cases s==1
 ·cases s==2
  ·exact hv
  ·exact NT hz hv
 ·exact lL hz
theorem TN {s z f v:Int} (hz:z=1∨z=2) (hv:okv z v=true) (hf:flags f=true):0<=chF s z f v∧chF s z f v<=31:=by
 unfold chF;cases s==1
 ·exact fM z f _ (QP hz hv) hf
 ·have h0:okv z 0=true:=by rcases hz with rfl|rfl<;>rfl
  exact mi z 0 0 v
theorem GM.slot {c:Mc} (h:GM c) {z m k e:Int} (k0:0<=k) (k1:k<=3):GM (c.slot z m k e):=by
 unfold Mc.slot;cases Mc.gu m
 ·exact h.plc k0 k1
 ·exact h
end Pl
theorem WB (op z r m k e s:Int) (hC:CAt w lo b g c h) (G:GM c) (hf:c.f=aF) (B:InB ⟨op,z,r,m,k,e,s⟩) (hm:m=0∨(2<=m∧m<=6)) :
  Calls prog 225 #[.pointer (some (Zt b 0)),.agg (inA op z r m k e s)] w fun e' w'=>∃g',e'=.returned (.agg (ftC (c.gv ⟨op,z,r,m,k,e,s⟩).f))∧CAt w' lo b g' (c.gv ⟨op,z,r,m,k,e,s⟩) h∧Since w b (b+1) g w' g':=by
 have HB:=Zr B;clear B;obtain ⟨l0,l1,l2,l3,l4⟩:=hC.lt;have HG:=Zr G;obtain ⟨X,hX,K0,C0,A0,R0,sX⟩:=hC.kN op z r m k e s;have p:=A0.o.all;clear hC G;have OQ:Hid (okv z (c.low z r)=true):=Zr (iw HG.o HB.o.z HB.o.r0 HB.o.r1);obtain ⟨Q,hQ⟩:∃Q,Q=c.low z r:=⟨_,rfl⟩
 obtain ⟨d,hd⟩:∃d,d=c.aH (dh z c.r.f Q):=⟨_,rfl⟩
 have GD:Hid (GM d):=Zr (by rw [hd,hQ];have q:=fM z c.r.f _ OQ.o (bZ HG.o);exact HG.o.aH q.1 q.2);have qb:0<=Q∧Q<=65535:=by rw [hQ];have:=aO OQ.o;omega
 obtain ⟨qb0,qb1⟩:=qb;have ab:=oh GD.o (z:=z) (m:=m) (k:=k) (e:=e) HB.o.k0 HB.o.k1 HB.o.e0 HB.o.e1;obtain ⟨a,ha⟩:∃a,a=d.readA z m k e:=⟨_,rfl⟩
 rw [<-ha] at ab;obtain ⟨ab0,ab1⟩:=ab;obtain ⟨N,hN⟩:∃N,N=(d.slot z m k e).write z m k a Q:=⟨_,rfl⟩
 have ET:Hid (c.gv ⟨op,z,r,m,k,e,s⟩=N):=Zr (by rw [hN,ha,hd,hQ];rfl);have GS:Hid (GM (d.slot z m k e)):=Zr (GD.o.slot HB.o.k0 HB.o.k1);have FS:Hid ((d.slot z m k e).f=aF):=Zr (by rw [hd];unfold Mc.slot;cases Mc.gu m<;>exact hf);rw [ET.o];rw [<-hQ] at OQ;obtain ⟨F,hF⟩:∃F,F=N.f:=⟨_,rfl⟩
 rw [<-hF];have HN:=Zr hN;have HQ:=Zr hQ;have HD:=Zr hd;have HA:=Zr ha;have HF:=Zr hF;have HM:=Zr hm;clear hQ hd ha hN hF hm;go_enter func225,ntmps225;go_wp2_with (first|(go_at_call 254;have z9:=C3;refine (uj _ lo b g (d.slot z m k e) h z m k e a Q C3.o GS.o FS.o HB.o.z HM.o HB.o.k0 HB.o.k1 ab0 ab1 OQ.o).mono ?_;rintro e9 W4 ⟨g',rfl,hc,hs⟩;rw [<-HN.o] at hc ⊢;rw [<-HF.o];unfold ftC;have C4:=Zr hc;have R4:=Zr (hs.blk R3.o (by omega) (by omega));have n4:=hs.ne (b:=w.heap.size+1) R3.o.lt (by omega);have S4:=Zr (S3.o.trans hs);have r4:=R4.o.all;have rf4:=R4.o.fz;clear hc hs)|(go_at_call 227;have z9:=C2;refine (vC _ lo b g d h ⟨op,z,r,m,k,e,s⟩ C2.o GD.o HB.o).mono ?_;rintro e9 W3 ⟨rfl,hc,hk⟩;rw [<-HA.o];have C3:=Zr hc;have R3:=Zr (R2.o.kept hk (by omega));have S3:=Zr (S2.o.ai hk (Nat.le_refl _) (Nat.le_refl _));clear hc hk)|(go_at_call 253;have z9:=C1;refine (rU _ lo b g c h z Q C1.o qb0 qb1).mono ?_;rintro e9 W2 ⟨rfl,hc,hk⟩;rw [<-HD.o] at hc;have C2:=Zr hc;have A2:=Zr (A1.o.kept hk (by omega));have R2:=Zr (R1.o.kept hk (by omega));have S2:=Zr (((Since.refl w b (b+1) g).any K1.o).ai hk (Nat.le_refl _) (Nat.le_refl _));have p2:=A2.o.all;clear hc hk)|(go_at_call 251;refine (mV _ lo b g c h z r C0.o HB.o.z HB.o.r0 HB.o.r1).mono ?_;rintro e9 W1 ⟨rfl,k1⟩;rw [<-HQ.o];have C1:=Zr (C0.o.any k1);have A1:=Zr (A0.o.ae k1);have R1:=Zr (R0.o.ae k1);have K1:=Zr (K0.o.trans k1);have p1:=A1.o.all;clear k1));have KR:=(((((ak W4 (w.heap.size+1) 0 (iv F.v)).one 1 (iv F.pc)).one 2 (iv F.ad)).one 3 (iv F.wo)).one 4 (.bool F.wr))
 refine bodyPost_ret (v:=.agg (ftA F)) ?_ rfl ⟨g',?_,?_,(S4.o).mine KR (by omega)⟩
 ·rw [aj rfl];go_simp
 ·rfl
 ·exact ((C4.o).kept KR (by omega) (by omega))
theorem Lm (op z r m k e:Int) (hC:CAt w lo b g c h) (G:GM c) (hf:c.f=aF) (B:InB ⟨op,z,r,m,k,e,0⟩) (hm:m=0∨(2<=m∧m<=6)) :
  Calls prog 226 #[.pointer (some (Zt b 0)),.agg (inA op z r m k e 0)] w fun e' w'=>∃g',e'=.returned (.agg (ftC (c.ch ⟨op,z,r,m,k,e,0⟩).f))∧CAt w' lo b g' (c.ch ⟨op,z,r,m,k,e,0⟩) h∧Since w b (b+1) g w' g':=by
 have HB:=Zr B;clear B;obtain ⟨l0,l1,l2,l3,l4⟩:=hC.lt;have HG:=Zr G;obtain ⟨X,hX,K0,C0,A0,R0,sX⟩:=hC.kN op z r m k e 0;have p:=A0.o.all;clear hC G;have ab:=oh HG.o (z:=z) (m:=m) (k:=k) (e:=e) HB.o.k0 HB.o.k1 HB.o.e0 HB.o.e1;obtain ⟨a,ha⟩:∃a,a=c.readA z m k e:=⟨_,rfl⟩
 rw [<-ha] at ab;obtain ⟨ab0,ab1⟩:=ab;have HA:=Zr ha;obtain ⟨T,U,hW⟩:=oV m k e;have HW:=Zr hW;have HM:=Zr hm;clear ha hW hm;obtain ⟨D,hD⟩:∃D,D=c.slot z m k e:=⟨_,rfl⟩
 obtain ⟨E,hE⟩:∃E,E=D.aH (dh z D.r.f 0):=⟨_,rfl⟩
 have O0:okv z 0=true:=by rcases HB.o.z with h|h<;>(have h':z=_:=h;subst h';rfl)
 have OV2:=Zr O0;have GD:GM D:=by rw [hD];exact HG.o.slot HB.o.k0 HB.o.k1
 have GE:Hid (GM E):=Zr (by rw [hE];have q:=fM z D.r.f 0 O0 (bZ GD);exact GD.aH q.1 q.2);have FE:Hid (E.f=aF):=Zr (by rw [hE,hD];unfold Mc.slot;cases Mc.gu m<;>exact hf);obtain ⟨N,hN⟩:∃N,N=E.write z m k a 0:=⟨_,rfl⟩
 have ET:Hid (c.ch ⟨op,z,r,m,k,e,0⟩=N):=Zr (by rw [hN,hE,hD,HA.o];rfl);rw [ET.o];obtain ⟨F,hF⟩:∃F,F=N.f:=⟨_,rfl⟩
 rw [<-hF];have HD:=Zr hD;have HE:=Zr hE;have HN:=Zr hN;have HF2:=Zr hF;clear hD hE hN hF GD O0;go_enter func226,ntmps226;go_wp2_with (first|(go_at_call 254;have z9:=C2;rw [<-HW.o];refine (uj _ lo b g E h z m k e a 0 C2.o GE.o FE.o HB.o.z HM.o HB.o.k0 HB.o.k1 ab0 ab1 OV2.o).mono ?_;rintro e9 W3 ⟨g',rfl,hc,hs⟩;rw [<-HN.o] at hc ⊢;rw [<-HF2.o];try rw [HW.o];unfold ftC;have C3:=Zr hc;have R3:=Zr (hs.blk R2.o (by omega) (by omega));have n3:=hs.ne (b:=w.heap.size+1) R2.o.lt (by omega);have S3:=Zr (S2.o.trans hs);have r3:=R3.o.all;have rf3:=R3.o.fz;clear hc hs)|(go_at_call 253;have z9:=C1;refine (rU _ lo b g D h z 0 C1.o (by decide) (by decide)).mono ?_;rintro e9 W2 ⟨rfl,hc,hk⟩;rw [<-HE.o] at hc;have C2:=Zr hc;have A2:=Zr (A1.o.kept hk (by omega));have R2:=Zr (R1.o.kept hk (by omega));have J2:=Zr (J1.o.kept hk (by omega));have S2:=Zr (S1.o.ai hk (Nat.le_refl _) (Nat.le_refl _));have p2:=A2.o.all;have j2:=J2.o.all;have r2:=R2.o.all;have rf2:=R2.o.fz;clear hc hk)|(go_at_call 227;refine (vC _ lo b g c h ⟨op,z,r,m,k,e,0⟩ C0.o HG.o HB.o).mono ?_;rintro e9 W1 ⟨rfl,hc,hk⟩;rw [<-HA.o,HW.o];rw [<-HD.o] at hc;have C1:=Zr (hc.alloc (.cells #[.iface T U,iv z,iv a] 239));have A1:=Zr ((A0.o.kept hk (by omega)).alloc (.cells #[.iface T U,iv z,iv a] 239));have R1:=Zr ((R0.o.kept hk (by omega)).alloc (.cells #[.iface T U,iv z,iv a] 239));have S1:=Zr ((((Since.refl w b (b+1) g).any K0.o).ai hk (Nat.le_refl _) (Nat.le_refl _)).alloc (.cells #[.iface T U,iv z,iv a] 239));have J1:=Zr (Blk.new W1 #[.iface T U,iv z,iv a] 239);have s1:=hk.size;have p1:=A1.o.all;have j1:=J1.o.all;clear hc hk));have KR:=(((((ak W3 (w.heap.size+1) 0 (iv F.v)).one 1 (iv F.pc)).one 2 (iv F.ad)).one 3 (iv F.wo)).one 4 (.bool F.wr))
 refine bodyPost_ret (v:=.agg (ftA F)) ?_ rfl ⟨g',?_,?_,(S3.o).mine KR (by omega)⟩
 ·rw [aj rfl];go_simp
 ·rfl
 ·exact ((C3.o).kept KR (by omega) (by omega))
theorem Ll (op z r m k e s:Int) (hC:CAt w lo b g c h) (G:GM c) (hf:c.f=aF) (B:InB ⟨op,z,r,m,k,e,s⟩) (hs:s=1∨s=2∨s=3) (hm:m=0∨(2<=m∧m<=6)) :
  Calls prog 226 #[.pointer (some (Zt b 0)),.agg (inA op z r m k e s)] w fun e' w'=>∃g',e'=.returned (.agg (ftC (c.ch ⟨op,z,r,m,k,e,s⟩).f))∧CAt w' lo b g' (c.ch ⟨op,z,r,m,k,e,s⟩) h∧Since w b (b+1) g w' g':=by
 have q0:(s==0)=false:=by rcases hs with q|q|q<;>rw [q]<;>rfl
 have HS0:=Zr hs;clear hs;have HB:=Zr B;clear B;obtain ⟨l0,l1,l2,l3,l4⟩:=hC.lt;have HG:=Zr G;obtain ⟨X,hX,K0,C0,A0,R0,sX⟩:=hC.kN op z r m k e s;have p:=A0.o.all;clear hC G;have ab:=oh HG.o (z:=z) (m:=m) (k:=k) (e:=e) HB.o.k0 HB.o.k1 HB.o.e0 HB.o.e1;obtain ⟨a,ha⟩:∃a,a=c.readA z m k e:=⟨_,rfl⟩
 rw [<-ha] at ab;obtain ⟨ab0,ab1⟩:=ab;have HA:=Zr ha;obtain ⟨T,U,hW⟩:=oV m k e;have HW:=Zr hW;have HM:=Zr hm;clear ha hW hm;obtain ⟨D,hD⟩:∃D,D=c.read z m k e:=⟨_,rfl⟩
 obtain ⟨V,hV⟩:∃V,V=c.bu z m k e:=⟨_,rfl⟩
 obtain ⟨F,hF⟩:∃F,F=D.f:=⟨_,rfl⟩
 have GD:Hid (GM D):=Zr (by rw [hD];exact HG.o.read HB.o.z HB.o.k0 HB.o.k1 HB.o.e0 HB.o.e1);have OV:Hid (okv z V=true):=Zr (by rw [hV];exact fB HG.o HB.o.z HB.o.k0 HB.o.k1 HB.o.e0 HB.o.e1 (fun q=>by have:=HM.o;omega) HB.o.n7)
 have ET:Hid (c.ch ⟨op,z,r,m,k,e,s⟩=bif !(F.v != 0) then D.ch' z m k a s V else D):=Zr (by
  unfold Mc.ch;simp only [q0,cond_false]
  rw [<-hD,<-hV,hF,<-HA.o];unfold Mc.fine;simp [bne])
 have HD:=Zr hD;have HV:=Zr hV;have HF:=Zr hF;clear hD hV hF;go_enter func226,ntmps226;go_wp2_with (first|(go_at_call 249;have z9:=C1;have hr:=Ld _ lo b g c h z m k e C1.o HG.o hf HB.o.z HB.o.m0 HB.o.m1 HB.o.k0 HB.o.k1 HB.o.e0 HB.o.e1;rw [HW.o,<-HA.o] at hr;refine hr.mono ?_;clear hr;rintro e9 W2 ⟨g',rfl,hc,hs⟩;rw [<-HD.o] at hc ⊢;rw [<-HV.o,<-HF.o];unfold ftC;have C2:=Zr (hc.alloc (.cells (ftA F) 42));have A2:=Zr ((hs.blk A1.o (by omega) (by omega)).alloc (.cells (ftA F) 42));have R2:=Zr ((hs.blk R1.o (by omega) (by omega)).alloc (.cells (ftA F) 42));have J2:=Zr ((hs.blk J1.o (by omega) (by have:=J1.o.lt;omega)).alloc (.cells (ftA F) 42));have S2:=Zr ((S1.o.trans hs).alloc (.cells (ftA F) 42));have L2:=Zr (Blk.new W2 (ftA F) 42);have z2:=hs.size;have n2:=hs.ne (b:=w.heap.size+1) R1.o.lt (by omega);have m2:=hs.ne (b:=w.heap.size) A1.o.lt (by omega);have o2:=hs.ne (b:=W1.heap.size) J1.o.lt (by omega);clear hc hs)|(go_at_call 227;refine (vC _ lo b g c h ⟨op,z,r,m,k,e,s⟩ C0.o HG.o HB.o).mono ?_;rintro e9 W1 ⟨rfl,hc,hk⟩;rw [<-HA.o];rw [HW.o];have C1:=Zr (hc.alloc (.cells #[.iface T U,iv z,iv a] 239));have A1:=Zr ((A0.o.kept hk (by omega)).alloc (.cells #[.iface T U,iv z,iv a] 239));have R1:=Zr ((R0.o.kept hk (by omega)).alloc (.cells #[.iface T U,iv z,iv a] 239));have S1:=Zr ((((Since.refl w b (b+1) g).any K0.o).ai hk (Nat.le_refl _) (Nat.le_refl _)).alloc (.cells #[.iface T U,iv z,iv a] 239));have J1:=Zr (Blk.new W1 #[.iface T U,iv z,iv a] 239);have s1:=hk.size;have p1:=A1.o.all;have j1:=J1.o.all;clear hc hk));refine (bP F _).mono ?_;rintro e9 W4 ⟨rfl,kf⟩;have C4:=Zr (C2.o.any kf);have A4:=Zr (A2.o.ae kf);have R4:=Zr (R2.o.ae kf);have L4:=Zr (L2.o.ae kf);have S4:=Zr (S2.o.any kf);have p4:=A4.o.all;have q4:=L4.o.all;have r4:=R4.o.all;have rf4:=R4.o.fz;have J4:=Zr (J2.o.ae kf);have j4:=J4.o.all;clear kf;clear hX p p1 j1;have b4:=C4.o.cF;have bz4:=C4.o.fz;have tv:=aO OV.o;obtain ⟨tv0,tv1⟩:0<=V∧V<=65535:=by omega
 cases hv:(F.v != 0)
 ·have E1:Hid (c.ch ⟨op,z,r,m,k,e,s⟩=D.ch' z m k a s V):=Zr (by rw [ET.o,hv];rfl);have DF:Hid (D.f=aF):=Zr (wY hf HD.o (by rw [<-HF.o];exact hv));obtain ⟨V2,hV2⟩:∃v,v=chV s z V:=⟨_,rfl⟩
  have OV2:Hid (okv z V2=true):=Zr (by rw [hV2];exact QP HB.o.z OV.o);have tw:=aO OV2.o;obtain ⟨tw0,tw1⟩:0<=V2∧V2<=65535:=by omega
  obtain ⟨FL,hFL⟩:∃v,v=chF s z D.r.f V:=⟨_,rfl⟩
  have fl:0<=FL∧FL<=31:=by rw [hFL];exact TN HB.o.z OV.o (bZ GD.o)
  obtain ⟨E,hE⟩:∃E,E=D.aH FL:=⟨_,rfl⟩
  have GE:Hid (GM E):=Zr (by rw [hE];exact GD.o.aH fl.1 fl.2);have FE:Hid (E.f=aF):=Zr (by rw [hE];exact DF.o);rcases HS0.o with q|q|q
  ·have q1:(s==1)=true:=by rw [q];rfl
   obtain ⟨N,hN⟩:∃N,N=E.write z m k a V2:=⟨_,rfl⟩
   have E2:Hid (D.ch' z m k a s V=N):=Zr (by rw [hN,hE,hFL,hV2,q];rfl);obtain ⟨F2,hF2⟩:∃F,F=N.f:=⟨_,rfl⟩
   have HN:=Zr hN;have HF2:=Zr hF2;have HE:=Zr hE;have e1:lC z 0 0 V=V2:=by rw [hV2,q];rfl
   have e2:jW z 0 0 V=FL:=by rw [hFL,q];rfl
   clear hE hFL hV2 hN hF2 fl tw tv q;have C5:Hid (CAt (W4.setCell (Zt b 10) (iv FL)) lo b g' E h):=Zr (by rw [HE.o];exact C4.o.aH FL);have R5:=Zr (R4.o.other b 10 (iv FL) (by omega));have S5:=Zr (S4.o.set b 10 (iv FL) (.inl (by omega)));have p5:=(A4.o.other b 10 (iv FL) (by omega)).all;have j5:=(J4.o.other b 10 (iv FL) (by omega)).all;go_wp2_with (first|(go_at_call 254;have z9:=C5;rw [<-HW.o];refine (uj _ lo b g' E h z m k e a V2 C5.o GE.o FE.o HB.o.z HM.o HB.o.k0 HB.o.k1 ab0 ab1 OV2.o).mono ?_;rintro e9 W6 ⟨g6,rfl,hc,hs⟩;rw [<-HN.o] at hc ⊢;rw [<-HF2.o];try rw [HW.o];unfold ftC;have C6:=Zr hc;have R6:=Zr (hs.blk R5.o (by omega) (by omega));have n6:=hs.ne (b:=w.heap.size+1) R5.o.lt (by omega);have S6:=Zr (S5.o.trans hs);have r6:=R6.o.all;have rf6:=R6.o.fz;clear hc hs)|(go_at_call 255;refine st (II _ _ _ (by omega) (by omega)) ?_;rw [e1,e2]));have KR:=(((((ak W6 (w.heap.size+1) 0 (iv F2.v)).one 1 (iv F2.pc)).one 2 (iv F2.ad)).one 3 (iv F2.wo)).one 4 (.bool F2.wr))
   refine bodyPost_ret (v:=.agg (ftA F2)) ?_ rfl ⟨g6,?_,?_,(S6.o).mine KR (by omega)⟩
   ·rw [aj rfl];go_simp
   ·rw [E1.o,E2.o,<-HF2.o];rfl
   ·rw [E1.o,E2.o];exact ((C6.o).kept KR (by omega) (by omega))
  ·have q1:(s==1)=false:=by rw [q];rfl
   have q2:(s==2)=true:=by rw [q];rfl
   obtain ⟨N,hN⟩:∃N,N=E.write z m k a V2:=⟨_,rfl⟩
   have E2:Hid (D.ch' z m k a s V=N):=Zr (by rw [hN,hE,hFL,hV2,q];rfl);obtain ⟨F2,hF2⟩:∃F,F=N.f:=⟨_,rfl⟩
   have HN:=Zr hN;have HF2:=Zr hF2;have HE:Hid (E=D.aH (dh z D.r.f V2)):=Zr (by rw [hE,hFL,hV2,q];rfl);have ex:bits .xor .i64 V (Pl.top z-1)=V2:=by rw [hV2,q];exact Me HB.o.z OV.o
   clear hE hFL hV2 hN hF2 fl tw tv q;go_wp2_with (first|(go_at_call 254;have z9:=C5;rw [<-HW.o];refine (uj _ lo b g' E h z m k e a V2 C5.o GE.o FE.o HB.o.z HM.o HB.o.k0 HB.o.k1 ab0 ab1 OV2.o).mono ?_;rintro e9 W6 ⟨g6,rfl,hc,hs⟩;rw [<-HN.o] at hc ⊢;rw [<-HF2.o];try rw [HW.o];unfold ftC;have C6:=Zr hc;have R6:=Zr (hs.blk R5.o (by omega) (by omega));have n6:=hs.ne (b:=w.heap.size+1) R5.o.lt (by omega);have S6:=Zr (S5.o.trans hs);have r6:=R6.o.all;have rf6:=R6.o.fz;clear hc hs)|(go_at_call 253;refine (rU _ lo b g' D h z V2 C4.o tw0 tw1).mono ?_;rintro e9 W5 ⟨rfl,hc,hk⟩;rw [<-HE.o] at hc;have C5:=Zr hc;have A5:=Zr (A4.o.kept hk (by omega));have R5:=Zr (R4.o.kept hk (by omega));have J5:=Zr (J4.o.kept hk (by omega));have S5:=Zr (S4.o.ai hk (Nat.le_refl _) (Nat.le_refl _));have p5:=A5.o.all;have j5:=J5.o.all;have r5:=R5.o.all;have rf5:=R5.o.fz;clear hc hk)|(go_at_call 256;refine st (IB _ _ HB.o.z) ?_));have KR:=(((((ak W6 (w.heap.size+1) 0 (iv F2.v)).one 1 (iv F2.pc)).one 2 (iv F2.ad)).one 3 (iv F2.wo)).one 4 (.bool F2.wr))
   refine bodyPost_ret (v:=.agg (ftA F2)) ?_ rfl ⟨g6,?_,?_,(S6.o).mine KR (by omega)⟩
   ·rw [aj rfl];go_simp
   ·rw [E1.o,E2.o,<-HF2.o];rfl
   ·rw [E1.o,E2.o];exact ((C6.o).kept KR (by omega) (by omega))
  ·have q1:(s==1)=false:=by rw [q];rfl
   have q2:(s==2)=false:=by rw [q];rfl
   have q3:(s==3)=true:=by rw [q];rfl
   have E2:Hid (D.ch' z m k a s V=E):=Zr (by rw [hE,hFL,q];rfl);have HE:Hid (E=D.aH (dh z D.r.f V)):=Zr (by rw [hE,hFL,q];rfl);clear hE hFL hV2 fl tw tv q;go_wp2_with (first|(go_at_call 253;refine (rU _ lo b g' D h z V C4.o tv0 tv1).mono ?_;rintro e9 W5 ⟨rfl,hc,hk⟩;rw [<-HE.o] at hc;have C5:=Zr hc;have A5:=Zr (A4.o.kept hk (by omega));have R5:=Zr (R4.o.kept hk (by omega));have J5:=Zr (J4.o.kept hk (by omega));have S5:=Zr (S4.o.ai hk (Nat.le_refl _) (Nat.le_refl _));have p5:=A5.o.all;have j5:=J5.o.all;have r5:=R5.o.all;have rf5:=R5.o.fz;clear hc hk));have KR:=(((((ak W5 (w.heap.size+1) 0 (iv 0)).one 1 (iv 0)).one 2 (iv 0)).one 3 (iv 0)).one 4 (.bool false))
   refine bodyPost_ret (v:=.agg ftZ) ?_ rfl ⟨g',?_,?_,(S5.o).mine KR (by omega)⟩
   ·rw [aj rfl];go_simp
   ·rw [E1.o,E2.o,FE.o];rfl
   ·rw [E1.o,E2.o];exact ((C5.o).kept KR (by omega) (by omega))
 ·have E1:Hid (c.ch ⟨op,z,r,m,k,e,s⟩=D):=Zr (by rw [ET.o,hv];rfl);go_wp2_with fail;have KR:=(((((ak W4 (w.heap.size+1) 0 (iv F.v)).one 1 (iv F.pc)).one 2 (iv F.ad)).one 3 (iv F.wo)).one 4 (.bool F.wr))
  refine bodyPost_ret (v:=.agg (ftA F)) ?_ rfl ⟨g',?_,?_,(S4.o).mine KR (by omega)⟩
  ·rw [aj rfl];go_simp
  ·rw [E1.o,<-HF.o];rfl
  ·rw [E1.o];exact ((C4.o).kept KR (by omega) (by omega))
end Go.Proofs.YtgikibaajanjiaaGreatDoor
