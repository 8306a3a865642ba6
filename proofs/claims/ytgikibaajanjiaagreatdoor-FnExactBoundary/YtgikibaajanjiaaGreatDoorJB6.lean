/- Part 6 of what the last text leans on. -/
import Derived.Test.YtgikibaajanjiaaGreatDoorJB5
import Derived.Test.YtgikibaajanjiaaGreatDoorJB1
set_option maxRecDepth 100000
set_option maxHeartbeats 16000000
namespace Go.Proofs.YtgikibaajanjiaaGreatDoor
open Pl
open Go.RowKit Go.Proofs.Tryz
set_option linter.unusedVariables false
theorem rE {w:World} {g:Nat} {xs:List Int} (h:Own w g xs) (k:Nat) (hk:k<xs.length):w.cell? ⟨g,k,none⟩=some (iv (el xs k))∧w.frozen? ⟨g,k,none⟩=false:=h k hk
theorem qF (n:Int):bits .and .i64 n 65535=n%65536:=fM n
theorem Pl.rM {c:Mc} {v:Int} (h0:0<=v) (h1:v<=65535):eP 2 2 c.spA v=true:=by
 have q:0<=c.spA∧c.spA<=65535:=by unfold Mc.spA;omega
 generalize c.spA=a at q;simp [eP,dM,okv,Pl.top,Pl.addr];omega
theorem Pl.dY {k a:Int} (hk:k=1∨k=3) (h0:0<=a) (h1:a<=65535):eP k 2 a 0=true:=by
 rcases hk with rfl|rfl<;>simp [eP,dM,okv,Pl.top,Pl.addr]<;>omega
theorem RQ (w:World) (lo mid hi p g2:Nat) (c:Mc) (v:Int) (h:MAt w lo mid hi p g2 c) (G:GM c) (v0:0<=v) (v1:v<=65535) :
  Calls prog 195 #[.pointer (some (aaB p 0)),iv v] w fun e w'=>e=.returned (.tuple #[])∧∃g3,MAt w' lo mid hi p g3 (c.push v)∧Since w lo hi g2 w' g3:=by
 have a3:=G.g.aw 3 (by omega);have HA:=aaA (rM (c:=c) v0 v1);have HG:=aaA G;have h4:=aaA G.g.a4;obtain ⟨a30,a31⟩:=a3;have hm:=qF (el c.r.ys 3-2);have HM:=aaA h;obtain ⟨gd,cd,ga,ca,g1,c1,c2,HB,HO⟩:=h.op;have t1:=HB.o.k1;obtain ⟨hc3,_⟩:=rE HO.o.a 3 (by rw [h4.o];decide);clear G;cases hf:(c.acc 2 2 c.spA v).fine
 ·have E:Hid (c.push v=c.acc 2 2 c.spA v):=aaA (by unfold Mc.push;rw [hf];rfl);go_enter func195,ntmps195;go_wp2_with (first|(go_at_call 184;refine (fV _ lo mid hi p g2 c 2 2 c.spA v HM.o HG.o HA.o).mono ?_;rintro e9 W_1 ⟨rfl,bQ,hm9,hb9⟩;have Di:=aaA hb9;clear hb9;have bY:=aaA hm9;obtain ⟨gQ,gV,gU,gW,jC,jF,jE,dD,dF⟩:=hm9.op)|(go_at_call 112;refine st (bW _ lo mid hi p bQ _ bY.o) ?_;rw [hf]));go_end0;exact ⟨rfl,bQ,by rw [E.o];exact bY.o,Di.o⟩
 ·have E:Hid (c.push v=(c.acc 2 2 c.spA v).fB 3 c.spA):=aaA (by unfold Mc.push;rw [hf];rfl);go_enter func195,ntmps195;go_wp2_with (first|(go_at_call 184;refine (fV _ lo mid hi p g2 c 2 2 c.spA v HM.o HG.o HA.o).mono ?_;rintro e9 W_1 ⟨rfl,bQ,hm9,hb9⟩;have Di:=aaA hb9;clear hb9;have bY:=aaA hm9;obtain ⟨gQ,gV,gU,gW,jC,jF,jE,dD,dF⟩:=hm9.op;have wH:=dD.o.k1;obtain ⟨hd3,hf3⟩:=rE dF.o.a 3 (by have:=h4.o;show 3<c.r.ys.length;omega))|(go_at_call 112;refine st (bW _ lo mid hi p bQ _ bY.o) ?_;rw [hf]));go_end0;have q0:=dF.o.a0;have q1:=dF.o.a1;have q2:=dF.o.p0;have q3:=dF.o.p1;refine ⟨rfl,bQ,?_,Di.o.set _ _ _ (.inl (by omega))⟩;rw [E.o];exact ⟨gQ,gV,gU,gW,jC,jF,jE,dD.o.sD _ _ _ (by omega),dF.o.fB 3 _⟩
theorem FT (w:World) (lo mid hi p g2:Nat) (c:Mc) (h:MAt w lo mid hi p g2 c) (G:GM c) :
  Calls prog 211 #[.pointer (some (aaB p 0))] w fun e w'=>e=.returned (iv c.dI)∧∃g3,MAt w' lo mid hi p g3 c.pop∧Since w lo hi g2 w' g3:=by
 have a3:=G.g.aw 3 (by omega);obtain ⟨a30,a31⟩:=a3;have HA:=aaA (dY (.inl rfl) a30 a31);have HG:=aaA G;have h4:=aaA G.g.a4;have hm:=qF (el c.r.ys 3+2);have HM:=aaA h;obtain ⟨gd,cd,ga,ca,g1,c1,c2,HB,HO⟩:=h.op;have t1:=HB.o.k1;obtain ⟨hc3,_⟩:=rE HO.o.a 3 (by rw [h4.o];decide);clear G;cases hf:(c.acc 1 2 (el c.r.ys 3) 0).fine
 ·have E:Hid (c.pop=c.acc 1 2 (el c.r.ys 3) 0):=aaA (by unfold Mc.pop;rw [hf];rfl);go_enter func211,ntmps211;go_wp2_with (first|(go_at_call 184;refine (fV _ lo mid hi p g2 c 1 2 (el c.r.ys 3) 0 HM.o HG.o HA.o).mono ?_;rintro e9 W_1 ⟨rfl,bQ,hm9,hb9⟩;have Di:=aaA hb9;clear hb9;have bY:=aaA hm9;obtain ⟨gQ,gV,gU,gW,jC,jF,jE,dD,dF⟩:=hm9.op)|(go_at_call 112;refine st (bW _ lo mid hi p bQ _ bY.o) ?_;rw [hf]));go_ret;exact ⟨rfl,bQ,by rw [E.o];exact bY.o,Di.o⟩
 ·have E:Hid (c.pop=(c.acc 1 2 (el c.r.ys 3) 0).fB 3 ((el c.r.ys 3+2)%65536)):=aaA (by unfold Mc.pop;rw [hf];rfl);go_enter func211,ntmps211;go_wp2_with (first|(go_at_call 184;refine (fV _ lo mid hi p g2 c 1 2 (el c.r.ys 3) 0 HM.o HG.o HA.o).mono ?_;rintro e9 W_1 ⟨rfl,bQ,hm9,hb9⟩;have Di:=aaA hb9;clear hb9;have bY:=aaA hm9;obtain ⟨gQ,gV,gU,gW,jC,jF,jE,dD,dF⟩:=hm9.op;have wH:=dD.o.k1;obtain ⟨hd3,hf3⟩:=rE dF.o.a 3 (by have:=h4.o;show 3<c.r.ys.length;omega);rw [show (Mc.acc c 1 2 (el c.r.ys 3) 0).r=c.r from rfl] at hd3)|(go_at_call 112;refine st (bW _ lo mid hi p bQ _ bY.o) ?_;rw [hf]));go_region;go_wp2_with fail;go_ret;have q0:=dF.o.a0;have q1:=dF.o.a1;have q2:=dF.o.p0;have q3:=dF.o.p1;refine ⟨rfl,bQ,MAt.drew ?_,(Di.o.set _ _ _ (.inl (by omega))).drew⟩;rw [E.o];exact ⟨gQ,gV,gU,gW,jC,jF,jE,dD.o.sD _ _ _ (by omega),dF.o.fB 3 _⟩
end Go.Proofs.YtgikibaajanjiaaGreatDoor
namespace Go.Proofs.YtgikibaajanjiaaGreatDoor.Pl
set_option linter.unusedVariables false
def pI (v:Int):Bool:=v==2||v==3
def ik (s:Bool) (f:Ft):Int:=fl1 f.wr 1+fl1 s 2
def iI (r:Rg) (f:Ft):List Int:=if pI f.v then [f.pc,status r,f.wo,f.ad,ik r.s f] else [f.pc,status r]
namespace Mc
def ps (c:Mc) (v:Int):Mc:=bif c.fine then c.push v else c
def pushes (c:Mc) (xs:List Int):Mc:=xs.foldl ps c
def nH (d:Mc) (v:Int):Mc:=bif d.fine then (bif (d.acc 1 2 (2*v) 0).fine then (d.acc 1 2 (2*v) 0).aH (d.gG 1 2 (2*v) 0) else d.acc 1 2 (2*v) 0) else d
def jY (c:Mc) (n:Int):Mc:={c.bC (aW c.r n) with st:=false}
def ent (c:Mc) (n:Int) (xs:List Int) (v:Int):Mc:=((c.jY n).pushes xs).nH v
end Mc
def qH (r:Rg):Int:=r.f+32*r.m+256
theorem zo (c:Mc) (xs:List Int) (v:Int):c.pushes (xs++[v])=(c.pushes xs).ps v:=by simp [Mc.pushes]
theorem jW (c:Mc) (xs:List Int) {k:Nat} (h:k<xs.length):c.pushes (xs.take (k+1))=(c.pushes (xs.take k)).ps (el xs k):=by
 rw [List.take_succ_eq_append_getElem h,zo];simp [el,h]
theorem zl {c:Mc} (h:c.fine=false) (xs:List Int):c.pushes xs=c:=by
 induction xs with
 | nil=>rfl
 | cons v xs ih=>show Mc.pushes (c.ps v) xs=c;rw [show c.ps v=c from by unfold Mc.ps;rw [h];rfl];exact ih
theorem xJ (c:Mc) (xs:List Int) (k:Nat):c.pushes xs=(c.pushes (xs.take k)).pushes (xs.drop k):=by
 unfold Mc.pushes;rw [<-List.foldl_append,List.take_append_drop]
theorem BC {c:Mc} {xs:List Int} {k:Nat} (h:(c.pushes (xs.take k)).fine=false):c.pushes xs=c.pushes (xs.take k):=by
 rw [xJ c xs k,zl h]
def xx (xs:List Int):Prop:=∀i,i<xs.length->0<=el xs i∧el xs i<=65535
theorem GM.psh {c:Mc} (h:GM c) {v:Int} (v0:0<=v) (v1:v<=65535):GM (c.push v):=by
 have q:=h.acc (rM (c:=c) v0 v1);unfold Mc.push;cases (c.acc 2 2 c.spA v).fine
 ·exact q
 ·exact q.fB 3 (by unfold Mc.spA;omega) (by unfold Mc.spA;omega)
theorem GM.ps {c:Mc} (h:GM c) {v:Int} (v0:0<=v) (v1:v<=65535):GM (c.ps v):=by
 unfold Mc.ps;cases c.fine
 ·exact h
 ·exact h.psh v0 v1
theorem GM.pushes {c:Mc} (h:GM c) {xs:List Int} (hx:xx xs) (k:Nat) (hk:k<=xs.length):GM (c.pushes (xs.take k)):=by
 induction k with
 | zero=>exact h
 | succ k ih=>rw [jW c xs hk];exact (ih (by omega)).ps (hx k hk).1 (hx k hk).2
theorem Rl {f:Ft} {k s a:Int} (h:f=aI) (hf:(Mc.di f k s a).v=0):Mc.di f k s a=aI:=by
 subst h;unfold Mc.di at hf ⊢;cases hc:(code k s a != 0)
 ·rfl
 ·rw [hc] at hf;simp only [Bool.true_and] at hf;exfalso;revert hf;cases (code k s a==2)<;>simp [aI]
theorem OG {c:Mc} {v:Int} (h:c.f=aI) (hf:(c.push v).fine=true):(c.push v).f=aI:=by
 have e:(c.push v).f=Mc.di c.f 2 2 c.spA:=by unfold Mc.push;cases (c.acc 2 2 c.spA v).fine<;>rfl
 unfold Mc.fine at hf;rw [e] at hf ⊢;exact Rl h (by simpa using hf)
theorem IQ {c:Mc} (h:c.f=aI) {xs:List Int} {k:Nat} (hk:k<=xs.length) (hf:(c.pushes (xs.take k)).fine=true):(c.pushes (xs.take k)).f=aI:=by
 induction k with
 | zero=>exact h
 | succ k ih=>
  rw [jW c xs hk] at hf ⊢;cases hb:(c.pushes (xs.take k)).fine
  ·unfold Mc.ps at hf;rw [hb] at hf;simp only [cond_false] at hf;rw [hb] at hf;cases hf
  ·have e:(c.pushes (xs.take k)).ps (el xs k)=(c.pushes (xs.take k)).push (el xs k):=by unfold Mc.ps;rw [hb];rfl
   rw [e] at hf ⊢;exact OG (ih (by omega) hb) hf
theorem GM.jY {c:Mc} (h:GM c) (n:Int):GM (c.jY n):=by
 have q:=h.with n;exact ⟨q.g,q.p0,q.p1,q.bx,q.ok,q.bl,q.bm,q.ac⟩
structure FtW (f:Ft):Prop where
 v0:0<=f.v
 v1:f.v<=21
 p:0<=f.pc∧f.pc<=65535
 a:0<=f.ad∧f.ad<=65535
 w:0<=f.wo∧f.wo<=65535
theorem vS {r:Rg} {f:Ft} (h:Good r) (hf:FtW f):xx (iI r f):=by
 have h2:=hf.p;have h3:=hf.a;have h4:=hf.w;obtain ⟨s0,s1⟩:=pV h;have hi:0<=ik r.s f∧ik r.s f<=3:=by unfold ik fl1;cases f.wr<;>cases r.s<;>decide
 intro i hi';unfold iI at hi' ⊢;cases hl:pI f.v<;>rw [hl] at hi'<;>simp only [Bool.false_eq_true,if_false,if_true] at hi' ⊢
 ·rcases i with _|_|i
  ·exact h2
  ·exact ⟨s0,by show status r<=_;omega⟩
  ·simp at hi';omega
 ·rcases i with _|_|_|_|_|i
  ·exact h2
  ·exact ⟨s0,by show status r<=_;omega⟩
  ·exact h4
  ·exact h3
  ·exact ⟨hi.1,by show ik r.s f<=_;omega⟩
  ·simp at hi';omega
theorem GM.ent {c:Mc} (h:GM c) {n v:Int} {xs:List Int} (hx:xx xs) (v0:0<=v) (v1:v<=21):GM (c.ent n xs v):=by
 have q:GM ((c.jY n).pushes xs):=by have:=(h.jY n).pushes hx xs.length (Nat.le_refl _);rwa [List.take_length] at this
 have ha:eP 1 2 (2*v) 0=true:=dY (k:=1) (.inl rfl) (by omega) (by omega);have hv:=q.gG ha;unfold Mc.ent Mc.nH;cases ((c.jY n).pushes xs).fine
 ·exact q
 ·cases (((c.jY n).pushes xs).acc 1 2 (2*v) 0).fine
  ·exact q.acc ha
  ·have hw:0<=((c.jY n).pushes xs).gG 1 2 (2*v) 0∧((c.jY n).pushes xs).gG 1 2 (2*v) 0<=65535:=by
    have h9:0<=((c.jY n).pushes xs).gG 1 2 (2*v) 0∧((c.jY n).pushes xs).gG 1 2 (2*v) 0<65536:=by simpa [okv,within,top] using hv
    omega
   exact (q.acc ha).aH hw.1 hw.2
end Go.Proofs.YtgikibaajanjiaaGreatDoor.Pl
namespace Go.Proofs.YtgikibaajanjiaaGreatDoor
open Pl
open Go.RowKit Go.Proofs.Tryz
set_option linter.unusedVariables false
theorem bT (b:Bool) (f:Int) (w:World) :
  Calls prog 208 #[.bool b,iv f] w fun e w'=>e=.returned (iv (Pl.fl b f))∧w'=w:=by
 cases b
 all_goals
  go_enter func208,ntmps208;go_wp2;go_ret;exact ⟨rfl,rfl⟩
theorem nN (v:Int) (w:World) :
  Calls prog 206 #[iv 1,iv v] w fun e w'=>e=.returned (iv (bits .or .i64 (Pl.fl (v==0) 4) (Pl.fl (decide (128<=v)) 8)))∧w'=w:=by
 go_enter func206,ntmps206;go_wp2_with fail;refine (bT _ _ _).mono ?_;rintro e w' ⟨rfl,rfl⟩;go_wp2_with fail;refine (iQ _).mono ?_;rintro e w' ⟨rfl,rfl⟩;go_wp2_with fail;refine (bT _ _ _).mono ?_;rintro e w' ⟨rfl,rfl⟩;go_wp2_with fail;go_ret;exact ⟨rfl,rfl⟩
theorem nM (v:Int) (w:World) :
  Calls prog 206 #[iv 2,iv v] w fun e w'=>e=.returned (iv (bits .or .i64 (Pl.fl (v==0) 4) (Pl.fl (decide (32768<=v)) 8)))∧w'=w:=by
 go_enter func206,ntmps206;go_wp2_with fail;refine (bT _ _ _).mono ?_;rintro e w' ⟨rfl,rfl⟩;go_wp2_with fail;refine (iP _).mono ?_;rintro e w' ⟨rfl,rfl⟩;go_wp2_with fail;refine (bT _ _ _).mono ?_;rintro e w' ⟨rfl,rfl⟩;go_wp2_with fail;go_ret;exact ⟨rfl,rfl⟩
theorem gy (b:Bool) (f:Int) (w:World) :
  Calls prog 242 #[.bool b,iv f] w fun e w'=>e=.returned (iv (Pl.fl b f))∧w'=w:=by
 cases b
 all_goals
  go_enter func242,ntmps242;go_wp2;go_ret;exact ⟨rfl,rfl⟩
theorem Ea (x:Int) (w:World) :
  Calls prog 286 #[iv x] w fun e w'=>e=.returned (.bool (Pl.bit x))∧w'=w:=by
 by_cases h0:x=0
 ·subst h0;go_enter func286,ntmps286;go_wp2;go_ret;exact ⟨rfl,rfl⟩
 ·by_cases h1:x=1
  ·subst h1;go_enter func286,ntmps286;go_wp2;go_ret;exact ⟨rfl,rfl⟩
  ·have k0:(x==0)=false:=by simpa using h0
   have k1:(x==1)=false:=by simpa using h1
   go_enter func286,ntmps286;go_wp2;go_ret;exact ⟨rB (by simp [Pl.bit];omega),rfl⟩
theorem uD (x:Int) (w:World) :
  Calls prog 191 #[iv x] w fun e w'=>e=.returned (.bool (Pl.flags x))∧w'=w:=by
 by_cases h0:0<=x
 all_goals
  by_cases h1:x<=31
  all_goals
   go_enter func191,ntmps191;go_wp2;go_ret;exact ⟨rB (by simp [Pl.flags];omega),rfl⟩
theorem iD (s a b:Int) (w:World) (la : -9223372036854775808<=a) (ha:a<=9223372036854775807) (lb : -9223372036854775808<=b) (hb:b<=9223372036854775807) :
  Calls prog 295 #[iv s,iv a,iv b] w fun e w'=>e=.returned (.tuple #[iv (oK s a),iv (oK s b),.bool (okv s a&&okv s b)])∧w'=w:=by
 cases ka:okv s a
 all_goals
  cases kb:okv s b
  all_goals
   go_enter func295,ntmps295;go_wp2_with fail;refine (bV s a _ la ha).mono ?_;rintro e w' ⟨rfl,rfl⟩;go_wp2_with fail;refine (bV s b _ lb hb).mono ?_;rintro e w' ⟨rfl,rfl⟩;go_wp2_with fail;go_ret3;exact ⟨lT rfl rfl rfl,rfl⟩
theorem Ha (p q:Int) (w:World) :
  Calls prog 316 #[iv p,iv q] w fun e w'=>e=.returned (.tuple #[iv (p%256),iv (iH 1 p q)])∧w'=w:=by
 go_enter func316,ntmps316;go_wp2_with fail;refine (wV _ _ (by omega) (by omega)).mono ?_;rintro e w' ⟨rfl,rfl⟩;go_wp2_with fail;refine (gy _ _ _).mono ?_;rintro e w' ⟨rfl,rfl⟩;go_wp2_with fail;refine (gy _ _ _).mono ?_;rintro e w' ⟨rfl,rfl⟩;go_wp2_with fail;refine (gy _ _ _).mono ?_;rintro e w' ⟨rfl,rfl⟩;go_wp2_with fail;refine (gy _ _ _).mono ?_;rintro e w' ⟨rfl,rfl⟩;go_wp2_with fail;go_ret2;exact ⟨rII rfl (Xu p q),rfl⟩
theorem EK (p q:Int) (w:World) :
  Calls prog 317 #[iv p,iv q] w fun e w'=>e=.returned (.tuple #[iv (p%65536),iv (iH 2 p q)])∧w'=w:=by
 have hw:IntKind.u16.wrap p=p%65536:=IntKind.wrap_u16 p;go_enter func317,ntmps317;go_wp2_with fail;refine (uS _ _ (by omega) (by omega)).mono ?_;rintro e w' ⟨rfl,rfl⟩;go_wp2_with fail;refine (gy _ _ _).mono ?_;rintro e w' ⟨rfl,rfl⟩;go_wp2_with fail;refine (gy _ _ _).mono ?_;rintro e w' ⟨rfl,rfl⟩;go_wp2_with fail;refine (gy _ _ _).mono ?_;rintro e w' ⟨rfl,rfl⟩;go_wp2_with fail;refine (gy _ _ _).mono ?_;rintro e w' ⟨rfl,rfl⟩;go_wp2_with fail;go_ret2;exact ⟨rII rfl (Pl.kept2 p q),rfl⟩
theorem rU (s p q:Int) (w:World) (hs:s=1∨s=2) :
  Calls prog 296 #[iv s,iv p,iv q] w fun e w'=>e=.returned (.tuple #[iv (p%Pl.top s),iv (iH s p q)])∧w'=w:=by
 rcases hs with rfl|rfl
 ·go_enter func296,ntmps296;go_wp2_with fail;refine (Ha _ _ _).mono ?_;rintro e w' ⟨rfl,rfl⟩;go_wp2_with fail;go_ret2;exact ⟨rII rfl rfl,rfl⟩
 ·go_enter func296,ntmps296;go_wp2_with fail;refine (EK _ _ _).mono ?_;rintro e w' ⟨rfl,rfl⟩;go_wp2_with fail;go_ret2;exact ⟨rII rfl rfl,rfl⟩
theorem Np (s x a b:Int) (w:World) (la : -9223372036854775808<=a) (ha:a<=9223372036854775807) (lb : -9223372036854775808<=b) (hb:b<=9223372036854775807) :
  Calls prog 272 #[iv s,iv x,iv a,iv b] w fun e w'=>e=.returned (.tuple #[iv (sW s x a b),iv (rO s x a b),.bool (Pl.two s x a b)])∧w'=w:=by
 cases k:Pl.two s x a b
 ·have HV:Hid (sW s x a b=0):=aaA (by simp [sW,k]);have HF:Hid (rO s x a b=0):=aaA (by simp [rO,k])
  have k':okv s a=false∨okv s b=false∨(okv s a=true∧okv s b=true∧Pl.bit x=false):=by
   revert k
   unfold Pl.two;cases okv s a<;>cases okv s b<;>cases Pl.bit x<;>simp
  clear k;rcases k' with ka|kb|⟨ka,kb,kx⟩
  ·go_enter func272,ntmps272;go_wp2_with fail;refine (iD s a b _ la ha lb hb).mono ?_;rintro e w' ⟨rfl,rfl⟩;go_wp2_with fail;go_ret3;exact ⟨lT HV.o.symm HF.o.symm rfl,rfl⟩
  ·have kab:(okv s a&&okv s b)=false:=by rw [kb];simp
   go_enter func272,ntmps272;go_wp2_with fail;refine (iD s a b _ la ha lb hb).mono ?_;rintro e w' ⟨rfl,rfl⟩;go_wp2_with fail;go_ret3;exact ⟨lT HV.o.symm HF.o.symm rfl,rfl⟩
  ·go_enter func272,ntmps272;go_wp2_with fail;refine (iD s a b _ la ha lb hb).mono ?_;rintro e w' ⟨rfl,rfl⟩;go_wp2_with fail;refine (Ea x _).mono ?_;rintro e w' ⟨rfl,rfl⟩;go_wp2_with fail;go_ret3;exact ⟨lT HV.o.symm HF.o.symm rfl,rfl⟩
 ·have HV:Hid (sW s x a b=(a+b+x)%Pl.top s):=aaA (by simp [sW,k]);have HF:Hid (rO s x a b=iH s (a+b+x) (sg s a+sg s b+x)):=aaA (by simp [rO,k]);obtain ⟨ka,kb,kx⟩:=Bh k;have ea:=lH ka;have eb:=lH kb;obtain ⟨hs,a0,a1⟩:=aQ ka;obtain ⟨_,b0,b1⟩:=aQ kb;obtain ⟨x0,x1⟩:=sQ kx
  have sa : -32768<=sg s a∧sg s a<=32767:=by
   rcases hs with ⟨rfl,_⟩|⟨rfl,_⟩
   ·have:=oM a0 a1;omega
   ·exact oL a0 a1
  have sb : -32768<=sg s b∧sg s b<=32767:=by
   rcases hs with ⟨rfl,_⟩|⟨rfl,_⟩
   ·have:=oM b0 b1;omega
   ·exact oL b0 b1
  obtain ⟨sa0,sa1⟩:=sa;obtain ⟨sb0,sb1⟩:=sb;have a2:a<65536:=by omega
  have b2:b<65536:=by omega
  have hs2:s=1∨s=2:=by omega
  clear k hs a1 b1;go_enter func272,ntmps272;go_wp2_with fail;refine (iD s a b _ la ha lb hb).mono ?_;rintro e w' ⟨rfl,rfl⟩;go_wp2_with fail;refine (Ea x _).mono ?_;rintro e w' ⟨rfl,rfl⟩;go_wp2_with fail;refine (rU s _ _ _ hs2).mono ?_;rintro e w' ⟨rfl,rfl⟩;go_wp2_with fail;go_ret3;exact ⟨lT HV.o.symm HF.o.symm rfl,rfl⟩
theorem oD (s x a b:Int) (w:World) (la : -9223372036854775808<=a) (ha:a<=9223372036854775807) (lb : -9223372036854775808<=b) (hb:b<=9223372036854775807) :
  Calls prog 273 #[iv s,iv x,iv a,iv b] w fun e w'=>e=.returned (.tuple #[iv (lS s x a b),iv (kF s x a b),.bool (Pl.two s x a b)])∧w'=w:=by
 cases k:Pl.two s x a b
 ·have HV:Hid (lS s x a b=0):=aaA (by simp [lS,k]);have HF:Hid (kF s x a b=0):=aaA (by simp [kF,k])
  have k':okv s a=false∨okv s b=false∨(okv s a=true∧okv s b=true∧Pl.bit x=false):=by
   revert k
   unfold Pl.two;cases okv s a<;>cases okv s b<;>cases Pl.bit x<;>simp
  clear k;rcases k' with ka|kb|⟨ka,kb,kx⟩
  ·go_enter func273,ntmps273;go_wp2_with fail;refine (iD s a b _ la ha lb hb).mono ?_;rintro e w' ⟨rfl,rfl⟩;go_wp2_with fail;go_ret3;exact ⟨lT HV.o.symm HF.o.symm rfl,rfl⟩
  ·have kab:(okv s a&&okv s b)=false:=by rw [kb];simp
   go_enter func273,ntmps273;go_wp2_with fail;refine (iD s a b _ la ha lb hb).mono ?_;rintro e w' ⟨rfl,rfl⟩;go_wp2_with fail;go_ret3;exact ⟨lT HV.o.symm HF.o.symm rfl,rfl⟩
  ·go_enter func273,ntmps273;go_wp2_with fail;refine (iD s a b _ la ha lb hb).mono ?_;rintro e w' ⟨rfl,rfl⟩;go_wp2_with fail;refine (Ea x _).mono ?_;rintro e w' ⟨rfl,rfl⟩;go_wp2_with fail;go_ret3;exact ⟨lT HV.o.symm HF.o.symm rfl,rfl⟩
 ·have HV:Hid (lS s x a b=(a-b-x)%Pl.top s):=aaA (by simp [lS,k]);have HF:Hid (kF s x a b=iH s (a-b-x) (sg s a-sg s b-x)):=aaA (by simp [kF,k]);obtain ⟨ka,kb,kx⟩:=Bh k;have ea:=lH ka;have eb:=lH kb;obtain ⟨hs,a0,a1⟩:=aQ ka;obtain ⟨_,b0,b1⟩:=aQ kb;obtain ⟨x0,x1⟩:=sQ kx
  have sa : -32768<=sg s a∧sg s a<=32767:=by
   rcases hs with ⟨rfl,_⟩|⟨rfl,_⟩
   ·have:=oM a0 a1;omega
   ·exact oL a0 a1
  have sb : -32768<=sg s b∧sg s b<=32767:=by
   rcases hs with ⟨rfl,_⟩|⟨rfl,_⟩
   ·have:=oM b0 b1;omega
   ·exact oL b0 b1
  obtain ⟨sa0,sa1⟩:=sa;obtain ⟨sb0,sb1⟩:=sb;have a2:a<65536:=by omega
  have b2:b<65536:=by omega
  have hs2:s=1∨s=2:=by omega
  clear k hs a1 b1;go_enter func273,ntmps273;go_wp2_with fail;refine (iD s a b _ la ha lb hb).mono ?_;rintro e w' ⟨rfl,rfl⟩;go_wp2_with fail;refine (Ea x _).mono ?_;rintro e w' ⟨rfl,rfl⟩;go_wp2_with fail;refine (rU s _ _ _ hs2).mono ?_;rintro e w' ⟨rfl,rfl⟩;go_wp2_with fail;go_ret3;exact ⟨lT HV.o.symm HF.o.symm rfl,rfl⟩
theorem Jn (s a:Int) (w:World) (la : -9223372036854775808<=a) (ha:a<=9223372036854775807) :
  Calls prog 255 #[iv s,iv a] w fun e w'=>e=.returned (.tuple #[iv (lS s 0 0 a),iv (kF s 0 0 a),.bool (Pl.two s 0 0 a)])∧w'=w:=by
 go_enter func255,ntmps255;go_wp2_with fail;refine (oD s 0 0 a _ (by omega) (by omega) la ha).mono ?_;rintro e w' ⟨rfl,rfl⟩;go_wp2_with fail;go_ret3;exact ⟨rfl,rfl⟩
theorem jM (v:Int) (w:World) (h0:0<=v) (h1:v<256) :
  Calls prog 244 #[iv 1,iv v] w fun e w'=>e=.returned (iv (sg 1 v))∧w'=w:=by
 by_cases h:128<=v
 ·go_enter func244,ntmps244;go_wp2_with fail;refine (iQ _).mono ?_;rintro e w' ⟨rfl,rfl⟩;go_wp2_with fail;refine (iQ _).mono ?_;rintro e w' ⟨rfl,rfl⟩;go_wp2_with fail;go_ret;exact ⟨rI (by simp [sg,Pl.top];omega),rfl⟩
 ·go_enter func244,ntmps244;go_wp2_with fail;refine (iQ _).mono ?_;rintro e w' ⟨rfl,rfl⟩;go_wp2_with fail;go_ret;exact ⟨rI (by simp [sg,Pl.top];omega),rfl⟩
theorem jL (v:Int) (w:World) (h0:0<=v) (h1:v<65536) :
  Calls prog 244 #[iv 2,iv v] w fun e w'=>e=.returned (iv (sg 2 v))∧w'=w:=by
 by_cases h:32768<=v
 ·go_enter func244,ntmps244;go_wp2_with fail;refine (iP _).mono ?_;rintro e w' ⟨rfl,rfl⟩;go_wp2_with fail;refine (iP _).mono ?_;rintro e w' ⟨rfl,rfl⟩;go_wp2_with fail;go_ret;exact ⟨rI (by simp [sg,Pl.top];omega),rfl⟩
 ·go_enter func244,ntmps244;go_wp2_with fail;refine (iP _).mono ?_;rintro e w' ⟨rfl,rfl⟩;go_wp2_with fail;go_ret;exact ⟨rI (by simp [sg,Pl.top];omega),rfl⟩
theorem Cc (s v:Int) (w:World) (h:okv s v=true) :
  Calls prog 244 #[iv s,iv v] w fun e w'=>e=.returned (iv (sg s v))∧w'=w:=by
 obtain ⟨hs,h0,h1⟩:=aQ h;rcases hs with ⟨rfl,_⟩|⟨rfl,_⟩
 ·exact jM v w h0 h1
 ·exact jL v w h0 h1
theorem Us (x a b:Int) (w:World) (a0:0<=a) (a1:a<256) (b0:0<=b) (b1:b<256) (x0:0<=x) (x1:x<=1) :
  Calls prog 219 #[iv 1,iv x,iv a,iv b] w fun e w'=>e=.returned (.tuple #[iv ((a+b+x)%256),iv (iH 1 (a+b+x) (sg 1 a+sg 1 b+x))])∧w'=w:=by
 have em:=gX (a+b+x);obtain ⟨sa0,sa1⟩:=oM a0 a1;obtain ⟨sb0,sb1⟩:=oM b0 b1;go_enter func219,ntmps219;go_wp2_with fail;refine (iQ _).mono ?_;rintro e w' ⟨rfl,rfl⟩;go_wp2_with fail;refine (jM a _ a0 a1).mono ?_;rintro e w' ⟨rfl,rfl⟩;go_wp2_with fail;refine (jM b _ b0 b1).mono ?_;rintro e w' ⟨rfl,rfl⟩;go_wp2_with fail;refine (bT _ _ _).mono ?_;rintro e w' ⟨rfl,rfl⟩;go_wp2_with fail;refine (jM ((a+b+x)%256) _ (by omega) (by omega)).mono ?_;rintro e w' ⟨rfl,rfl⟩;go_wp2_with fail;refine (bT _ _ _).mono ?_;rintro e w' ⟨rfl,rfl⟩;go_wp2_with fail;refine (nN _ _).mono ?_;rintro e w' ⟨rfl,rfl⟩;go_wp2_with fail;go_ret2;exact ⟨rII rfl (Ip _ _),rfl⟩
theorem Ur (x a b:Int) (w:World) (a0:0<=a) (a1:a<65536) (b0:0<=b) (b1:b<65536) (x0:0<=x) (x1:x<=1) :
  Calls prog 219 #[iv 2,iv x,iv a,iv b] w fun e w'=>e=.returned (.tuple #[iv ((a+b+x)%65536),iv (iH 2 (a+b+x) (sg 2 a+sg 2 b+x))])∧w'=w:=by
 have em:=fM (a+b+x);obtain ⟨sa0,sa1⟩:=oL a0 a1;obtain ⟨sb0,sb1⟩:=oL b0 b1;go_enter func219,ntmps219;go_wp2_with fail;refine (iP _).mono ?_;rintro e w' ⟨rfl,rfl⟩;go_wp2_with fail;refine (jL a _ a0 a1).mono ?_;rintro e w' ⟨rfl,rfl⟩;go_wp2_with fail;refine (jL b _ b0 b1).mono ?_;rintro e w' ⟨rfl,rfl⟩;go_wp2_with fail;refine (bT _ _ _).mono ?_;rintro e w' ⟨rfl,rfl⟩;go_wp2_with fail;refine (jL ((a+b+x)%65536) _ (by omega) (by omega)).mono ?_;rintro e w' ⟨rfl,rfl⟩;go_wp2_with fail;refine (bT _ _ _).mono ?_;rintro e w' ⟨rfl,rfl⟩;go_wp2_with fail;refine (nM _ _).mono ?_;rintro e w' ⟨rfl,rfl⟩;go_wp2_with fail;go_ret2;exact ⟨rII rfl (Io _ _),rfl⟩
theorem Um (x a b:Int) (w:World) (a0:0<=a) (a1:a<256) (b0:0<=b) (b1:b<256) (x0:0<=x) (x1:x<=1) :
  Calls prog 207 #[iv 1,iv x,iv a,iv b] w fun e w'=>e=.returned (.tuple #[iv ((a-b-x)%256),iv (iH 1 (a-b-x) (sg 1 a-sg 1 b-x))])∧w'=w:=by
 have em:=gX (a-b-x);obtain ⟨sa0,sa1⟩:=oM a0 a1;obtain ⟨sb0,sb1⟩:=oM b0 b1;go_enter func207,ntmps207;go_wp2_with fail;refine (iQ _).mono ?_;rintro e w' ⟨rfl,rfl⟩;go_wp2_with fail;refine (jM a _ a0 a1).mono ?_;rintro e w' ⟨rfl,rfl⟩;go_wp2_with fail;refine (jM b _ b0 b1).mono ?_;rintro e w' ⟨rfl,rfl⟩;go_wp2_with fail;refine (bT _ _ _).mono ?_;rintro e w' ⟨rfl,rfl⟩;go_wp2_with fail;refine (jM ((a-b-x)%256) _ (by omega) (by omega)).mono ?_;rintro e w' ⟨rfl,rfl⟩;go_wp2_with fail;refine (bT _ _ _).mono ?_;rintro e w' ⟨rfl,rfl⟩;go_wp2_with fail;refine (nN _ _).mono ?_;rintro e w' ⟨rfl,rfl⟩;go_wp2_with fail;go_ret2;exact ⟨rII rfl (Oj _ _ (by omega)),rfl⟩
theorem Ul (x a b:Int) (w:World) (a0:0<=a) (a1:a<65536) (b0:0<=b) (b1:b<65536) (x0:0<=x) (x1:x<=1) :
  Calls prog 207 #[iv 2,iv x,iv a,iv b] w fun e w'=>e=.returned (.tuple #[iv ((a-b-x)%65536),iv (iH 2 (a-b-x) (sg 2 a-sg 2 b-x))])∧w'=w:=by
 have em:=fM (a-b-x);obtain ⟨sa0,sa1⟩:=oL a0 a1;obtain ⟨sb0,sb1⟩:=oL b0 b1;go_enter func207,ntmps207;go_wp2_with fail;refine (iP _).mono ?_;rintro e w' ⟨rfl,rfl⟩;go_wp2_with fail;refine (jL a _ a0 a1).mono ?_;rintro e w' ⟨rfl,rfl⟩;go_wp2_with fail;refine (jL b _ b0 b1).mono ?_;rintro e w' ⟨rfl,rfl⟩;go_wp2_with fail;refine (bT _ _ _).mono ?_;rintro e w' ⟨rfl,rfl⟩;go_wp2_with fail;refine (jL ((a-b-x)%65536) _ (by omega) (by omega)).mono ?_;rintro e w' ⟨rfl,rfl⟩;go_wp2_with fail;refine (bT _ _ _).mono ?_;rintro e w' ⟨rfl,rfl⟩;go_wp2_with fail;refine (nM _ _).mono ?_;rintro e w' ⟨rfl,rfl⟩;go_wp2_with fail;go_ret2;exact ⟨rII rfl (Oi _ _ (by omega)),rfl⟩
theorem Me (s f a b:Int) (w:World) (la : -9223372036854775808<=a) (ha:a<=9223372036854775807) (lb : -9223372036854775808<=b) (hb:b<=9223372036854775807) :
  Calls prog 274 #[iv s,iv f,iv a,iv b] w fun e w'=>e=.returned (.tuple #[iv (nT s f a b),.bool (Pl.two s 0 a b&&Pl.flags f)])∧w'=w:=by
 cases k:Pl.two s 0 a b
 ·have HV:Hid (nT s f a b=0):=aaA (by simp [nT,k]);go_enter func274,ntmps274;go_wp2_with fail;refine (oD s 0 a b _ la ha lb hb).mono ?_;rintro e w' ⟨rfl,rfl⟩;go_wp2_with fail;go_ret2;exact ⟨rIB HV.o.symm rfl,rfl⟩
 ·cases kf:Pl.flags f
  ·have HV:Hid (nT s f a b=0):=aaA (by simp [nT,kf]);go_enter func274,ntmps274;go_wp2_with fail;refine (oD s 0 a b _ la ha lb hb).mono ?_;rintro e w' ⟨rfl,rfl⟩;go_wp2_with fail;refine (uD f _).mono ?_;rintro e w' ⟨rfl,rfl⟩;go_wp2_with fail;go_ret2;exact ⟨rIB HV.o.symm rfl,rfl⟩
  ·have HV:Hid (nT s f a b=bits .or .i64 (bits .andNot .i64 (kF s 0 a b) 16) (bits .and .i64 f 16)):=aaA (by simp only [nT,k,kf,Bool.and_self,if_true,Nj _ (mY s 0 a b).1 (mY s 0 a b).2]);go_enter func274,ntmps274;go_wp2_with fail;refine (oD s 0 a b _ la ha lb hb).mono ?_;rintro e w' ⟨rfl,rfl⟩;go_wp2_with fail;refine (uD f _).mono ?_;rintro e w' ⟨rfl,rfl⟩;go_wp2_with fail;go_ret2;exact ⟨rIB HV.o.symm rfl,rfl⟩
theorem xX (s x a b:Int) (w:World) (h:Pl.two s x a b=true) :
  Calls prog 207 #[iv s,iv x,iv a,iv b] w fun e w'=>e=.returned (.tuple #[iv (lS s x a b),iv (kF s x a b)])∧w'=w:=by
 have HV:lS s x a b=(a-b-x)%Pl.top s:=by simp [lS,h]
 have HF:kF s x a b=iH s (a-b-x) (sg s a-sg s b-x):=by simp [kF,h]
 rw [HV,HF];obtain ⟨ka,kb,kx⟩:=Bh h;obtain ⟨hs,a0,a1⟩:=aQ ka;obtain ⟨_,b0,b1⟩:=aQ kb;obtain ⟨x0,x1⟩:=sQ kx;rcases hs with ⟨rfl,_⟩|⟨rfl,_⟩
 ·exact Um x a b w a0 a1 b0 b1 x0 x1
 ·exact Ul x a b w a0 a1 b0 b1 x0 x1
theorem Xr (s f a b:Int) (w:World) (h:Pl.two s 0 a b=true) :
  Calls prog 220 #[iv s,iv f,iv a,iv b] w fun e w'=>e=.returned (iv (bits .or .i64 (bits .and .i64 (kF s 0 a b) 15) (bits .and .i64 f 16)))∧w'=w:=by
 go_enter func220,ntmps220;go_wp2_with fail;refine (xX s 0 a b _ h).mono ?_;rintro e w' ⟨rfl,rfl⟩;go_wp2_with fail;go_ret;exact ⟨rfl,rfl⟩
theorem iZ (s f v:Int) (w:World) (lv : -9223372036854775808<=v) (hv:v<=9223372036854775807) :
  Calls prog 277 #[iv s,iv f,iv v] w fun e w'=>e=.returned (.tuple #[iv (dm s f v),.bool (okv s v&&Pl.flags f)])∧w'=w:=by
 cases k:okv s v
 ·have HV:Hid (dm s f v=0):=aaA (by simp [dm,k]);go_enter func277,ntmps277;go_wp2_with fail;refine (bV s v _ lv hv).mono ?_;rintro e w' ⟨rfl,rfl⟩;go_wp2_with fail;go_ret2;exact ⟨rIB HV.o.symm rfl,rfl⟩
 ·cases kf:Pl.flags f
  ·have HV:Hid (dm s f v=0):=aaA (by simp [dm,kf]);go_enter func277,ntmps277;go_wp2_with fail;refine (bV s v _ lv hv).mono ?_;rintro e w' ⟨rfl,rfl⟩;go_wp2_with fail;refine (uD f _).mono ?_;rintro e w' ⟨rfl,rfl⟩;go_wp2_with fail;go_ret2;exact ⟨rIB HV.o.symm rfl,rfl⟩
  ·have HV:Hid (dm s f v=bits .or .i64 (iH s v (oK s v)) (bits .and .i64 f 16)):=aaA (by
    simp only [dm,k,kf,Bool.and_self,if_true,lH k,Pl.keptSelf k];rw [Pl.or_comm])
   have hs:s=1∨s=2:=by have:=aQ k;omega
   go_enter func277,ntmps277;go_wp2_with fail;refine (bV s v _ lv hv).mono ?_;rintro e w' ⟨rfl,rfl⟩;go_wp2_with fail;refine (uD f _).mono ?_;rintro e w' ⟨rfl,rfl⟩;go_wp2_with fail;refine (rU s _ _ _ hs).mono ?_;rintro e w' ⟨rfl,rfl⟩;go_wp2_with fail;go_ret2;exact ⟨rIB HV.o.symm rfl,rfl⟩
theorem Uk (s v:Int) (w:World) (h:okv s v=true) :
  Calls prog 206 #[iv s,iv v] w fun e w'=>e=.returned (iv (bits .or .i64 (Pl.fl (v==0) 4) (Pl.fl (decide (sg s v<0)) 8)))∧w'=w:=by
 obtain ⟨hs,h0,h1⟩:=aQ h;rcases hs with ⟨rfl,_⟩|⟨rfl,_⟩
 ·rw [<-WN h0 h1];exact nN v w
 ·rw [<-WM h0 h1];exact nM v w
theorem PD (s f v:Int) (w:World) (h:okv s v=true) :
  Calls prog 154 #[iv s,iv f,iv v] w fun e w'=>e=.returned (iv (bits .or .i64 (bits .and .i64 f 16) (bits .or .i64 (Pl.fl (v==0) 4) (Pl.fl (decide (sg s v<0)) 8))))∧w'=w:=by
 go_enter func154,ntmps154;go_wp2_with fail;refine (Uk s v _ h).mono ?_;rintro e w' ⟨rfl,rfl⟩;go_wp2_with fail;go_ret;exact ⟨rfl,rfl⟩
theorem CE (v:Int) (w:World) (lv : -9223372036854775808<=v) (hv:v<=9223372036854775807) :
  Calls prog 263 #[iv v] w fun e w'=>e=.returned (.tuple #[iv (mD v),.bool (okv 1 v)])∧w'=w:=by
 cases k:okv 1 v
 ·have HV:Hid (mD v=0):=aaA (by simp [mD,k]);go_enter func263,ntmps263;go_wp2_with fail;refine (bV 1 v _ lv hv).mono ?_;rintro e w' ⟨rfl,rfl⟩;go_wp2_with fail;go_ret2;exact ⟨rIB HV.o.symm rfl,rfl⟩
 ·have HV:Hid (mD v=sg 1 v%65536):=aaA (by simp [mD,k]);have e1:=lH k;have hw:IntKind.u16.wrap (sg 1 v)=sg 1 v%65536:=IntKind.wrap_u16 _;go_enter func263,ntmps263;go_wp2_with fail;refine (bV 1 v _ lv hv).mono ?_;rintro e w' ⟨rfl,rfl⟩;go_wp2_with fail;go_ret2;exact ⟨rIB HV.o.symm rfl,rfl⟩
theorem uO (v:Int) (w:World) :
  Calls prog 215 #[iv v] w fun e w'=>e=.returned (.tuple #[iv (mD v),.bool (okv 1 v)])∧w'=w:=by
 cases k:okv 1 v
 ·have HV:Hid (mD v=0):=aaA (by simp [mD,k]);go_enter func215,ntmps215;go_wp2_with fail;refine (jR 1 v _).mono ?_;rintro e w' ⟨rfl,rfl⟩;go_wp2_with fail;go_ret2;exact ⟨rIB HV.o.symm rfl,rfl⟩
 ·have HV:Hid (mD v=sg 1 v%65536):=aaA (by simp [mD,k]);have em:=fM (sg 1 v);go_enter func215,ntmps215;go_wp2_with fail;refine (jR 1 v _).mono ?_;rintro e w' ⟨rfl,rfl⟩;go_wp2_with fail;refine (Cc 1 v _ k).mono ?_;rintro e w' ⟨rfl,rfl⟩;go_wp2_with fail;go_ret2;exact ⟨rIB HV.o.symm rfl,rfl⟩
theorem Fe (v:Int) (w:World) (lv : -9223372036854775808<=v) (hv:v<=9223372036854775807) :
  Calls prog 262 #[iv v] w fun e w'=>e=.returned (.tuple #[iv (lQ v),.bool (okv 2 v)])∧w'=w:=by
 cases k:okv 2 v
 ·have HV:Hid (lQ v=0):=aaA (by simp [lQ,k]);go_enter func262,ntmps262;go_wp2_with fail;refine (bV 2 v _ lv hv).mono ?_;rintro e w' ⟨rfl,rfl⟩;go_wp2_with fail;go_ret2;exact ⟨rIB HV.o.symm rfl,rfl⟩
 ·have HV:Hid (lQ v=v%256*256+v/256):=aaA (by simp [lQ,k]);have h0:0<=v:=by have:=aQ k;omega
  have h1:v<65536:=by have:=aQ k;omega
  go_enter func262,ntmps262;go_wp2_with fail;refine (bV 2 v _ lv hv).mono ?_;rintro e w' ⟨rfl,rfl⟩;go_wp2_with fail;go_ret2;exact ⟨rIB HV.o.symm rfl,rfl⟩
theorem wI (v:Int) (w:World) :
  Calls prog 213 #[iv v] w fun e w'=>e=.returned (.tuple #[iv (lQ v),.bool (okv 2 v)])∧w'=w:=by
 cases k:okv 2 v
 ·have HV:Hid (lQ v=0):=aaA (by simp [lQ,k]);go_enter func213,ntmps213;go_wp2_with fail;refine (jR 2 v _).mono ?_;rintro e w' ⟨rfl,rfl⟩;go_wp2_with fail;go_ret2;exact ⟨rIB HV.o.symm rfl,rfl⟩
 ·have HV:Hid (lQ v=v%256*256+v/256):=aaA (by simp [lQ,k]);have h0:0<=v:=by have:=aQ k;omega
  have h1:v<65536:=by have:=aQ k;omega
  have em:=gX v;have eo:=N8 v h0 h1;go_enter func213,ntmps213;go_wp2_with fail;refine (jR 2 v _).mono ?_;rintro e w' ⟨rfl,rfl⟩;go_wp2_with fail;go_ret2;exact ⟨rIB HV.o.symm rfl,rfl⟩
theorem Kq (z:Int) (hz:z=1∨z=2) (w:World):Calls prog 205 #[iv z] w fun e w'=>e=.returned (iv (Pl.top z))∧w'=w:=by
 rcases hz with rfl|rfl
 ·exact iQ w
 ·exact iP w
theorem JE (w:World) (gd cd ga ca:Nat) (r:Rg) (z k:Int) (hD:Own w gd r.xs) (hg:Pl.Good r) (hz:z=1∨z=2) (k0:0<=k) (k1:k<=3) :
  Calls prog 152 #[jH r gd cd ga ca,iv z,iv k] w fun e w'=>e=.returned (iv (el r.xs k.toNat%Pl.top z))∧Kept 0 0 w w':=by
 obtain ⟨n,rfl⟩:∃n:Nat,k=(n:Int):=⟨k.toNat,by omega⟩
 have hn:n<4:=by omega
 have k4:(n:Int)<4:=by omega
 have hA:=rE (hD.ag (kept_alloc w (.cells #[.slice (some (aaB gd 0)) 4 cd,.slice (some (aaB ga 0)) 4 ca,iv r.o,iv r.p,iv r.f,iv r.m,.bool r.s,.bool r.t] 35)) (by omega)) n (by rw [hg.d4];omega);obtain ⟨hc,_⟩:=hA
 have HE:Hid (bits .and .i64 (el r.xs n) (Pl.top z-1)=el r.xs n%Pl.top z):=aaA (by
  rcases hz with rfl|rfl
  ·exact gX _
  ·exact fM _)
 have HT:=Kq z hz;have hT:256<=Pl.top z∧Pl.top z<=65536:=by rcases hz with rfl|rfl<;>decide
 obtain ⟨hT0,hT1⟩:=hT;have hK:=aaA (kept_alloc w (.cells #[.slice (some (aaB gd 0)) 4 cd,.slice (some (aaB ga 0)) 4 ca,iv r.o,iv r.p,iv r.f,iv r.m,.bool r.s,.bool r.t] 35));have hg4:=Blk.lt (Blk.new w #[.slice (some (aaB gd 0)) 4 cd,.slice (some (aaB ga 0)) 4 ca,iv r.o,iv r.p,iv r.f,iv r.m,.bool r.s,.bool r.t] 35);clear hD hg hg4;unfold jH;generalize Pl.top z=T at *;clear hz;go_enter func152,ntmps152;go_wp2_with fail;go_region_with (go_at_call 205;refine st (HT _) ?_)
 all_goals
  go_wp2_with fail;go_ret;exact ⟨rI (by rw [IntKind.wrap_i64,show (T-1+9223372036854775808)%18446744073709551616-9223372036854775808=T-1 by omega];exact HE.o),ai hK.o⟩
theorem JB (w:World) (lo mid hi p g2:Nat) (c:Mc) (v:Int) (h:MAt w lo mid hi p g2 c) :
  Calls prog 212 #[.pointer (some (aaB p 0)),iv v] w fun e w'=>e=.returned (.tuple #[])∧∃g3,MAt w' lo mid hi p g3 (c.raise v)∧Since w lo hi g2 w' g3:=by
 have hl:=h.lo;have HM:=aaA h;obtain ⟨gd,cd,ga,ca,g1,c1,c2,HB,HO⟩:=h.op;have t3:=HB.o.k3;have t11:=HB.o.k11;have t12:=HB.o.k12;have f11:=HB.o.frozen 11;have f12:=HB.o.frozen 12;go_enter func212,ntmps212;go_wp2_with fail;go_end0;have hp:=HO.o.p0;have hd:=HO.o.d0;have hd1:=HO.o.d1;have KK:=(ak w p 11 (iv v)).one 12 (iv c.r.p);have hq:(lo<=p∧p<hi)∨w.heap.size<=p:=by have:=HO.o.p1;omega
 exact ⟨rfl,g2,⟨gd,cd,ga,ca,g1,c1,c2,(HB.o.cV v).cPc c.r.p,HO.o.own KK⟩,((Since.refl _ _ _ _).set p 11 _ hq).set p 12 _ hq⟩
theorem jh {z f v:Int} (w:World) (hv:okv z v=true) (hf:Pl.flags f=true):Calls prog 154 #[iv z,iv f,iv v] w fun e w'=>e=.returned (iv (dm z f v))∧w'=w:=by
 have e:dm z f v=bits .or .i64 (bits .and .i64 f 16) (bits .or .i64 (Pl.fl (v==0) 4) (Pl.fl (decide (sg z v<0)) 8)):=by unfold dm;rw [hv,hf];rfl
 rw [e];exact PD z f v w hv
theorem DT (w:World) (lo mid hi p g2:Nat) (c:Mc) (z k v:Int) (h:MAt w lo mid hi p g2 c) (G:GM c) (k0:0<=k) (k1:k<=3) (hv:okv z v=true) :
  Calls prog 214 #[.pointer (some (aaB p 0)),iv z,iv k,iv v] w fun e w'=>e=.returned (.tuple #[])∧∃g3,MAt w' lo mid hi p g3 (c.data z k v)∧Since w lo hi g2 w' g3:=by
 have hl:=h.lo;have HF:=aaA (dh G);have HG:=aaA ((G.aJ (fZ z c.r.f v hv (dh G)).1 (fZ z c.r.f v hv (dh G)).2).g);have HM:=aaA h;obtain ⟨gd,cd,ga,ca,g1,c1,c2,HB,HO⟩:=h.op;obtain ⟨t0,t1,t2,t3,t4,t5,t6,t7⟩:=HB.o.c8;have f0:=HB.o.fz;have hp:=HO.o.p0;have hd:=HO.o.d0;have hd1:=HO.o.d1;have hs:=HB.o.lt;have K1:=aaA (ak w p 4 (iv (dm z c.r.f v)));have HO1:=aaA (HO.o.own K1.o);have HB1:=aaA (HB.o.cF (dm z c.r.f v));clear G;go_enter func214,ntmps214;go_wp2_with (first|(go_at_call 154;refine st (jh _ hv HF.o) ?_)|(go_at_call 157;refine (zk _ lo mid gd cd ga ca {c.r with f:=dm z c.r.f v} z k v (MO.reg (r:={c.r with f:=dm z c.r.f v}) HO1.o) (by simp;omega) HG.o k0 k1 hv).mono ?_;unfold jH;rintro e9 W ⟨rfl,hr9,hk9⟩;have HO2:=aaA (HO1.o.regs hr9 hk9);have HB2:=aaA (HB1.o.regs hk9 hp);have HK2:=aaA hk9;clear hr9 hk9 t0 t1 t2 t3 t4 t5 t6 t7 f0;obtain ⟨t0,t1,t2,t3,t4,t5,t6,t7,_⟩:=HB2.o.cells;have f0:=HB2.o.frozen 0;have f1:=HB2.o.frozen 1;have f2:=HB2.o.frozen 2;have f3:=HB2.o.frozen 3;have f4:=HB2.o.frozen 4;have f5:=HB2.o.frozen 5;have f6:=HB2.o.frozen 6;have f7:=HB2.o.frozen 7));go_end0;have hq:(lo<=p∧p<hi)∨w.heap.size<=p:=by have:=HO.o.p1;omega
 have hm9:=HO.o.p1;exact ⟨rfl,g2,MAt.laid HB2.o HO2.o,jq (((Since.refl w lo hi g2).set p 4 _ hq).ag HK2.o (Nat.le_refl _) (by omega)) hq _ _ _ _ _ _ _ _⟩
theorem xU (w:World) (lo mid hi p g2:Nat) (c:Mc) (z m k x a v:Int) (h:MAt w lo mid hi p g2 c) (G:GM c) (k0:0<=k) (k1:k<=3) (a0:0<=a) (a1:a<=65535) (hv:okv z v=true) :
  Calls prog 153 #[.pointer (some (aaB p 0)),iv z,.agg #[iv m,iv k,iv x],iv a,iv v] w fun e w'=>e=.returned (.tuple #[])∧∃g3,MAt w' lo mid hi p g3 (c.write z m k a v)∧Since w lo hi g2 w' g3:=by
 have hl:=h.lo;cases hm:(m==0)
 ·have KA:=aaA (kept_alloc w (.cells #[iv m,iv k,iv x] 46));have E:Hid (c.write z m k a v=c.acc 2 z a v):=aaA (by unfold Mc.write;rw [hm];rfl);have HM1:=aaA (h.any KA.o);have HG:=aaA G;have HA:Hid (eP 2 z a v=true):=aaA (by simp [eP,dM,Pl.addr,hv];omega);clear G h;go_enter func153,ntmps153;go_wp2_with (go_at_call 184;refine (fV _ lo mid hi p g2 c 2 z a v HM1.o HG.o HA.o).mono ?_;rintro e9 W ⟨rfl,g3,hm9,hb9⟩;have HM2:=aaA hm9;have HL2:=aaA hb9;clear hm9 hb9);go_end0;exact ⟨rfl,g3,by rw [E.o];exact HM2.o,((Since.refl w lo hi g2).any KA.o).trans HL2.o⟩
 ·have E:Hid (c.write z m k a v=c.bC (lw c.r z k v)):=aaA (by unfold Mc.write;rw [hm];rfl);have HG:=aaA G.g;have KA:=aaA (kept_alloc w (.cells #[iv m,iv k,iv x] 46));have BA:=Blk.new w #[iv m,iv k,iv x] 46;obtain ⟨X,hX⟩:∃X:World,w.alloc (.cells #[iv m,iv k,iv x] 46)=X:=⟨_,rfl⟩
  rw [hX] at KA BA;have b0:=BA.all;have hbw:=BA.lt;have h2:=h.any KA.o;have hl2:=h2.lo;clear h BA;have HM:=aaA h2;obtain ⟨gd,cd,ga,ca,g1,c1,c2,HB,HO⟩:=h2.op;obtain ⟨t0,t1,t2,t3,t4,t5,t6,t7⟩:=HB.o.c8;have f0:=HB.o.fz;have hp:=HO.o.p0;have hd:=HO.o.d0;have hd1:=HO.o.d1;have hs:=HB.o.lt;have HMH:Hid (mid<=hi):=aaA (by have:=HO.o.p1;omega);have HPH:Hid (lo<=p∧p<hi):=aaA (by have:=HO.o.p1;omega);have HRD:=aaA (MO.reg (r:=c.r) (HO.o.any (ai (Kept.refl 0 0 X))));have HOD:=aaA (HO.o.any (ai (Kept.refl 0 0 X)));have HBD:=aaA (HB.o.any (ai (Kept.refl 0 0 X)));have HMD:Hid (mid<=X.drew.heap.size):=aaA hl2.2.1;clear G;go_enter func153,ntmps153;go_wp2_with fail;go_region_with (go_at_call 157;refine (zk _ lo mid gd cd ga ca c.r z k v HRD.o HMD.o HG.o k0 k1 hv).mono ?_;unfold jH;rintro e9 W ⟨rfl,hr9,hk9⟩;have HO2:=aaA (HOD.o.regs hr9 hk9);have HB2:=aaA (HBD.o.regs hk9 hp);have HK2:=aaA hk9;clear hr9 hk9;clear t0 t1 t2 t3 t4 t5 t6 t7 f0;obtain ⟨t0,t1,t2,t3,t4,t5,t6,t7,_⟩:=HB2.o.cells;have f0:=HB2.o.frozen 0;have f1:=HB2.o.frozen 1;have f2:=HB2.o.frozen 2;have f3:=HB2.o.frozen 3;have f4:=HB2.o.frozen 4;have f5:=HB2.o.frozen 5;have f6:=HB2.o.frozen 6;have f7:=HB2.o.frozen 7)
  all_goals
   go_wp2_with fail;first|go_end0|refine bodyPost_ret (results_none rfl _ _ _) rfl ?_
   exact ⟨rfl,g2,by rw [E.o];exact MAt.laid HB2.o HO2.o,jq (((Since.refl w lo hi g2).any KA.o).drew.ag HK2.o (Nat.le_refl _) HMH.o) (.inl HPH.o) _ _ _ _ _ _ _ _⟩
theorem vG (w:World) (lo mid hi p g2:Nat) (c:Mc) (z m k x:Int) (h:MAt w lo mid hi p g2 c) (G:GM c) (k0:0<=k) (k1:k<=3) (x0:0<=x) (x1:x<=65535) (hm1:m=0∨m=2∨m=3∨m=4∨m=5∨m=6) :
  Calls prog 151 #[.pointer (some (aaB p 0)),iv z,.agg #[iv m,iv k,iv x]] w fun e w'=>e=.returned (iv (c.iK z m k x))∧∃g3,MAt w' lo mid hi p g3 (c.place z m k x)∧Since w lo hi g2 w' g3:=by
 have hl:=h.lo;cases hm:(m==0)
 ·have hm2:m=2∨m=3∨m=4∨m=5∨m=6:=by simp at hm;omega
  have HG:=aaA G;have KA:=aaA (kept_alloc w (.cells #[iv m,iv k,iv x] 46));have BA:=Blk.new w #[iv m,iv k,iv x] 46;obtain ⟨X,hX⟩:∃X:World,w.alloc (.cells #[iv m,iv k,iv x] 46)=X:=⟨_,rfl⟩
  rw [hX] at KA BA;have b0:=BA.all;have hbw:=BA.lt;have h2:=h.any KA.o;have hl2:=h2.lo;clear h BA;have HM:=aaA h2;obtain ⟨gd,cd,ga,ca,g1,c1,c2,HB,HO⟩:=h2.op;obtain ⟨t0,t1,t2,t3,t4,t5,t6,t7⟩:=HB.o.c8;have f0:=HB.o.fz;have hp:=HO.o.p0;have hd:=HO.o.d0;have hd1:=HO.o.d1;have hs:=HB.o.lt;have HMH:Hid (mid<=hi):=aaA (by have:=HO.o.p1;omega);have HPH:Hid (lo<=p∧p<hi):=aaA (by have:=HO.o.p1;omega);have HRD:=aaA (MO.reg (r:=c.r) (HO.o.any (ai (Kept.refl 0 0 X))));have HOD:=aaA (HO.o.any (ai (Kept.refl 0 0 X)));have HBD:=aaA (HB.o.any (ai (Kept.refl 0 0 X)));have HMD:Hid (mid<=X.drew.heap.size):=aaA hl2.2.1;have KZ:Kept 0 0 X (X.drew.alloc (.cells #[.slice none 0 0,.slice none 0 0,iv 0,iv 0,iv 0,iv 0,.bool false,.bool false] 35)):=ah (ai (Kept.refl 0 0 X)) _;have HRZ:=aaA (MO.reg (r:=c.r) (HO.o.any KZ));have HOZ:=aaA (HO.o.any KZ);have HBZ:=aaA (HB.o.any KZ);have HMZ:Hid (mid<=(X.drew.alloc (.cells #[.slice none 0 0,.slice none 0 0,iv 0,iv 0,iv 0,iv 0,.bool false,.bool false] 35)).heap.size):=aaA (by rw [World.size_alloc];exact Nat.le_trans hl2.2.1 (Nat.le_succ _));have BZ:Hid (Blk (X.drew.alloc (.cells #[.slice none 0 0,.slice none 0 0,iv 0,iv 0,iv 0,iv 0,.bool false,.bool false] 35)) X.heap.size #[.slice none 0 0,.slice none 0 0,iv 0,iv 0,iv 0,iv 0,.bool false,.bool false] 35):=aaA (Blk.new X.drew #[.slice none 0 0,.slice none 0 0,iv 0,iv 0,iv 0,iv 0,.bool false,.bool false] 35);have HKZ:=aaA KZ;have hb1:=HO.o.b.lt (by rw [HG.o.bx];decide);have hb2:=HO.o.g2.2;clear KZ;have HP:=fun (w9:World) (hr:fP w9 lo mid c.r (some (aaB gd 0)) (some (aaB ga 0))) (hh:mid<=w9.heap.size)=>IW w9 lo mid gd cd ga ca c.r z m k x hr hh HG.o.g k0 k1 x0 x1 hm2;obtain ⟨R,hR⟩:∃R,bG c.r z m k x=R:=⟨_,rfl⟩
  obtain ⟨V,hV⟩:∃V,bu c.r z m k x=V:=⟨_,rfl⟩
  simp only [hR,hV,jH] at HP;have E:Hid (c.place z m k x=c.bC R):=aaA (by unfold Mc.place Mc.plc;rw [hm,hR];rfl);have E2:Hid (c.iK z m k x=V):=aaA (by unfold Mc.iK;rw [hm,hV];rfl);clear hR hV;have HNZ:Hid (¬(lo<=X.heap.size∧X.heap.size<mid)):=aaA (by have q:=hl2.2.1;omega);have HPZ:Hid (p<X.heap.size):=aaA hs;clear G hm1;go_enter func151,ntmps151;go_wp2_with fail;go_region_with (first|(go_at_call 204;refine (HP _ HRD.o HMD.o).mono ?_;rintro e9 W ⟨rfl,hr9,hk9⟩;have HO2:=aaA (HOD.o.regs hr9 hk9);have HB2:=aaA (HBD.o.regs hk9 hp);have HK2:=aaA hk9;have HA1:=aaA hk9;have hpW:=HB2.o.lt;clear hr9 hk9;clear t0 t1 t2 t3 t4 t5 t6 t7 f0;obtain ⟨t0,t1,t2,t3,t4,t5,t6,t7,_⟩:=HB2.o.cells;have f0:=HB2.o.frozen 0;have f1:=HB2.o.frozen 1;have f2:=HB2.o.frozen 2;have f3:=HB2.o.frozen 3;have f4:=HB2.o.frozen 4;have f5:=HB2.o.frozen 5;have f6:=HB2.o.frozen 6;have f7:=HB2.o.frozen 7)|(go_at_call 204;refine (HP _ HRZ.o HMZ.o).mono ?_;rintro e9 W ⟨rfl,hr9,hk9⟩;have HO2:=aaA (HOZ.o.regs hr9 hk9);have HB2:=aaA (HBZ.o.regs hk9 hp);have HK2:=aaA hk9;have HA2:=aaA hk9;have BZ2:=aaA (Blk.kept BZ.o hk9 HNZ.o);clear hr9 hk9;clear t0 t1 t2 t3 t4 t5 t6 t7 f0;obtain ⟨t0,t1,t2,t3,t4,t5,t6,t7,_⟩:=HB2.o.cells;have f0:=HB2.o.frozen 0;have f1:=HB2.o.frozen 1;have f2:=HB2.o.frozen 2;have f3:=HB2.o.frozen 3;have f4:=HB2.o.frozen 4;have f5:=HB2.o.frozen 5;have f6:=HB2.o.frozen 6;have f7:=HB2.o.frozen 7;have y0:=BZ2.o.cell (i:=0) rfl;have v0:=BZ2.o.frozen 0;have y1:=BZ2.o.cell (i:=1) rfl;have v1:=BZ2.o.frozen 1;have y2:=BZ2.o.cell (i:=2) rfl;have v2:=BZ2.o.frozen 2;have y3:=BZ2.o.cell (i:=3) rfl;have v3:=BZ2.o.frozen 3;have y4:=BZ2.o.cell (i:=4) rfl;have v4:=BZ2.o.frozen 4;have y5:=BZ2.o.cell (i:=5) rfl;have v5:=BZ2.o.frozen 5;have y6:=BZ2.o.cell (i:=6) rfl;have v6:=BZ2.o.frozen 6;have y7:=BZ2.o.cell (i:=7) rfl;have v7:=BZ2.o.frozen 7))
  all_goals
   go_wp2_with fail;go_ret;rw [E.o]
   first
    | (have z9:=HA1;exact ⟨rI E2.o.symm,g2,(MAt.laid HB2.o HO2.o).any (kept_alloc _ _),(jq (((Since.refl w lo hi g2).any KA.o).drew.ag HK2.o (Nat.le_refl _) HMH.o) (.inl HPH.o) _ _ _ _ _ _ _ _).alloc _⟩)
    | (have z9:=HA2;exact ⟨rI E2.o.symm,g2,MAt.laid (HB2.o.past (MB.lK _ _ _ _ _ _ _ _) HPZ.o) (HO2.o.past (MB.lK _ _ _ _ _ _ _ _) hl2.2.1 hb1 hb2),jq (jq ((((Since.refl w lo hi g2).any KA.o).any HKZ.o).ag HK2.o (Nat.le_refl _) HMH.o) (.inr KA.o.size) _ _ _ _ _ _ _ _) (.inl HPH.o) _ _ _ _ _ _ _ _⟩)
 ·have KA:=aaA (kept_alloc w (.cells #[iv m,iv k,iv x] 46));have E:Hid (c.place z m k x=c):=aaA (by unfold Mc.place;rw [hm];rfl);have E2:Hid (c.iK z m k x=0):=aaA (by unfold Mc.iK;rw [hm];rfl);have HM:=aaA (h.any KA.o);clear h G;go_enter func151,ntmps151;go_wp2_with fail;go_ret;exact ⟨rI E2.o.symm,g2,by rw [E.o];exact HM.o,(Since.refl w lo hi g2).any KA.o⟩
end Go.Proofs.YtgikibaajanjiaaGreatDoor
