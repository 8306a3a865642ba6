/- Part 6 of what the last text leans on. -/
import Derived.Test.YtgikibaajanjiaaGreatDoorJD5
set_option maxRecDepth 100000
set_option maxHeartbeats 16000000
namespace Go.Proofs.YtgikibaajanjiaaGreatDoor
open Pl
open Go.RowKit Go.Proofs.Tryz
set_option linter.unusedVariables false
theorem rU {w:World} {g:Nat} {xs:List Int} (h:Own w g xs) (k:Nat) (hk:k<xs.length):w.cell? ⟨g,k,none⟩=some (iv (el xs k))/\w.frozen? ⟨g,k,none⟩=false:=h k hk
theorem qN (n:Int):bits .and .i64 n 65535=n%65536:=fO n
theorem Pl.rZ {c:Mc} {v:Int} (h0:0<=v) (h1:v<=65535):eU 2 2 c.spA v=true:=by
 have q:0<=c.spA/\c.spA<=65535:=by unfold Mc.spA;omega
 generalize c.spA=a at q;simp[eU,dP,okv,Pl.top,Pl.addr];omega
theorem Pl.dZ {k a:Int} (hk:k=1\/k=3) (h0:0<=a) (h1:a<=65535):eU k 2 a 0=true:=by
 rcases hk with rfl|rfl<;>simp[eU,dP,okv,Pl.top,Pl.addr]<;>omega
theorem Ti (w:World) (lo mid hi p g2:Nat) (c:Mc) (v:Int) (h:MAt w lo mid hi p g2 c) (G:GM c) (v0:0<=v) (v1:v<=65535) :
  Calls prog 195 #[.pointer (some (abb p 0)),iv v] w fun e w'=>e=.returned (.tuple #[])/\∃g3,MAt w' lo mid hi p g3 (c.push v)/\Since w lo hi g2 w' g3:=by
 have a3:=G.g.aw 3 (by omega);have HA:=aba (rZ (c:=c) v0 v1);have HG:=aba G;have h4:=aba G.g.a4;obtain⟨a30,a31⟩:=a3;have hm:=qN (el c.r.ys 3-2);have HM:=aba h;obtain⟨gd,cd,ga,ca,g1,c1,c2,HB,HO⟩:=h.op;have t1:=HB.o.k1;obtain⟨hc3,_⟩:=rU HO.o.a 3 (by rw[h4.o];decide);clear G;cases hf:(c.acc 2 2 c.spA v).fine
 ·have E:Hid (c.push v=c.acc 2 2 c.spA v):=aba (by unfold Mc.push;rw[hf];rfl);go_enter func195,ntmps195;go_wp2_with (first|(go_at_call 184;refine(fZ _ lo mid hi p g2 c 2 2 c.spA v HM.o HG.o HA.o).mono ?_;rintro e9 W_1⟨rfl,bQ,hm9,hb9⟩;have Dz:=aba hb9;clear hb9;have bZ:=aba hm9;obtain⟨gU,gW,gV,gX,jF,jI,jH,dE,dH⟩:=hm9.op)|(go_at_call 112;refine st (bY _ lo mid hi p bQ _ bZ.o) ?_;rw[hf]));go_end0;exact⟨rfl,bQ,by rw[E.o];exact bZ.o,Dz.o⟩
 ·have E:Hid (c.push v=(c.acc 2 2 c.spA v).fC 3 c.spA):=aba (by unfold Mc.push;rw[hf];rfl);go_enter func195,ntmps195;go_wp2_with (first|(go_at_call 184;refine(fZ _ lo mid hi p g2 c 2 2 c.spA v HM.o HG.o HA.o).mono ?_;rintro e9 W_1⟨rfl,bQ,hm9,hb9⟩;have Dz:=aba hb9;clear hb9;have bZ:=aba hm9;obtain⟨gU,gW,gV,gX,jF,jI,jH,dE,dH⟩:=hm9.op;have wS:=dE.o.k1;obtain⟨hd3,hf3⟩:=rU dH.o.a 3 (by have:=h4.o;show 3<c.r.ys.length;omega))|(go_at_call 112;refine st (bY _ lo mid hi p bQ _ bZ.o) ?_;rw[hf]));go_end0;have q0:=dH.o.a0;have q1:=dH.o.a1;have q2:=dH.o.p0;have q3:=dH.o.p1;refine⟨rfl,bQ,?_,Dz.o.set _ _ _ (.inl (by omega))⟩;rw[E.o];exact⟨gU,gW,gV,gX,jF,jI,jH,dE.o.sQ _ _ _ (by omega),dH.o.fC 3 _⟩
theorem Gp (w:World) (lo mid hi p g2:Nat) (c:Mc) (h:MAt w lo mid hi p g2 c) (G:GM c) :
  Calls prog 211 #[.pointer (some (abb p 0))] w fun e w'=>e=.returned (iv c.dK)/\∃g3,MAt w' lo mid hi p g3 c.pop/\Since w lo hi g2 w' g3:=by
 have a3:=G.g.aw 3 (by omega);obtain⟨a30,a31⟩:=a3;have HA:=aba (dZ (.inl rfl) a30 a31);have HG:=aba G;have h4:=aba G.g.a4;have hm:=qN (el c.r.ys 3+2);have HM:=aba h;obtain⟨gd,cd,ga,ca,g1,c1,c2,HB,HO⟩:=h.op;have t1:=HB.o.k1;obtain⟨hc3,_⟩:=rU HO.o.a 3 (by rw[h4.o];decide);clear G;cases hf:(c.acc 1 2 (el c.r.ys 3) 0).fine
 ·have E:Hid (c.pop=c.acc 1 2 (el c.r.ys 3) 0):=aba (by unfold Mc.pop;rw[hf];rfl);go_enter func211,ntmps211;go_wp2_with (first|(go_at_call 184;refine(fZ _ lo mid hi p g2 c 1 2 (el c.r.ys 3) 0 HM.o HG.o HA.o).mono ?_;rintro e9 W_1⟨rfl,bQ,hm9,hb9⟩;have Dz:=aba hb9;clear hb9;have bZ:=aba hm9;obtain⟨gU,gW,gV,gX,jF,jI,jH,dE,dH⟩:=hm9.op)|(go_at_call 112;refine st (bY _ lo mid hi p bQ _ bZ.o) ?_;rw[hf]));go_ret;exact⟨rfl,bQ,by rw[E.o];exact bZ.o,Dz.o⟩
 ·have E:Hid (c.pop=(c.acc 1 2 (el c.r.ys 3) 0).fC 3 ((el c.r.ys 3+2)%65536)):=aba (by unfold Mc.pop;rw[hf];rfl);go_enter func211,ntmps211;go_wp2_with (first|(go_at_call 184;refine(fZ _ lo mid hi p g2 c 1 2 (el c.r.ys 3) 0 HM.o HG.o HA.o).mono ?_;rintro e9 W_1⟨rfl,bQ,hm9,hb9⟩;have Dz:=aba hb9;clear hb9;have bZ:=aba hm9;obtain⟨gU,gW,gV,gX,jF,jI,jH,dE,dH⟩:=hm9.op;have wS:=dE.o.k1;obtain⟨hd3,hf3⟩:=rU dH.o.a 3 (by have:=h4.o;show 3<c.r.ys.length;omega);rw[show(Mc.acc c 1 2 (el c.r.ys 3) 0).r=c.r from rfl]at hd3)|(go_at_call 112;refine st (bY _ lo mid hi p bQ _ bZ.o) ?_;rw[hf]));go_region;go_wp2_with fail;go_ret;have q0:=dH.o.a0;have q1:=dH.o.a1;have q2:=dH.o.p0;have q3:=dH.o.p1;refine⟨rfl,bQ,MAt.drew ?_,(Dz.o.set _ _ _ (.inl (by omega))).drew⟩;rw[E.o];exact⟨gU,gW,gV,gX,jF,jI,jH,dE.o.sQ _ _ _ (by omega),dH.o.fC 3 _⟩
end Go.Proofs.YtgikibaajanjiaaGreatDoor
namespace Go.Proofs.YtgikibaajanjiaaGreatDoor.Pl
set_option linter.unusedVariables false
def pU (v:Int):Bool:=v==2||v==3
def iq (s:Bool) (f:Ft):Int:=fl1 f.wr 1+fl1 s 2
def iJ (r:Rg) (f:Ft):List Int:=if pU f.v then [f.pc,status r,f.wo,f.ad,iq r.s f] else [f.pc,status r]
namespace Mc
def ps (c:Mc) (v:Int):Mc:=bif c.fine then c.push v else c
def pushes (c:Mc) (xs:List Int):Mc:=xs.foldl ps c
def nK (d:Mc) (v:Int):Mc:=bif d.fine then (bif (d.acc 1 2 (2*v) 0).fine then (d.acc 1 2 (2*v) 0).aH (d.gI 1 2 (2*v) 0) else d.acc 1 2 (2*v) 0) else d
def kC (c:Mc) (n:Int):Mc:={c.bC (aY c.r n) with st:=false}
def ent (c:Mc) (n:Int) (xs:List Int) (v:Int):Mc:=((c.kC n).pushes xs).nK v
end Mc
def qQ (r:Rg):Int:=r.f+32*r.m+256
theorem zJ (c:Mc) (xs:List Int) (v:Int):c.pushes (xs++[v])=(c.pushes xs).ps v:=by simp[Mc.pushes]
theorem jY (c:Mc) (xs:List Int) {k:Nat} (h:k<xs.length):c.pushes (xs.take (k+1))=(c.pushes (xs.take k)).ps (el xs k):=by
 rw[List.take_succ_eq_append_getElem h,zJ];simp[el,h]
theorem zI {c:Mc} (h:c.fine=false) (xs:List Int):c.pushes xs=c:=by
 induction xs with
 | nil=>rfl
 | cons v xs ih=>show Mc.pushes (c.ps v) xs=c;rw[show c.ps v=c from by unfold Mc.ps;rw[h];rfl];exact ih
theorem xZ (c:Mc) (xs:List Int) (k:Nat):c.pushes xs=(c.pushes (xs.take k)).pushes (xs.drop k):=by
 unfold Mc.pushes;rw[<-List.foldl_append,List.take_append_drop]
theorem Ce {c:Mc} {xs:List Int} {k:Nat} (h:(c.pushes (xs.take k)).fine=false):c.pushes xs=c.pushes (xs.take k):=by
 rw[xZ c xs k,zI h]
def xO (xs:List Int):Prop:=∀i,i<xs.length->0<=el xs i/\el xs i<=65535
theorem GM.psh {c:Mc} (h:GM c) {v:Int} (v0:0<=v) (v1:v<=65535):GM (c.push v):=by
 have q:=h.acc (rZ (c:=c) v0 v1);unfold Mc.push;cases (c.acc 2 2 c.spA v).fine
 ·exact q
 ·exact q.fC 3 (by unfold Mc.spA;omega) (by unfold Mc.spA;omega)
theorem GM.ps {c:Mc} (h:GM c) {v:Int} (v0:0<=v) (v1:v<=65535):GM (c.ps v):=by
 unfold Mc.ps;cases c.fine
 ·exact h
 ·exact h.psh v0 v1
theorem GM.pushes {c:Mc} (h:GM c) {xs:List Int} (hx:xO xs) (k:Nat) (hk:k<=xs.length):GM (c.pushes (xs.take k)):=by
 induction k with
 | zero=>exact h
 | succ k ih=>rw[jY c xs hk];exact(ih (by omega)).ps (hx k hk).1 (hx k hk).2
theorem Sm {f:Ft} {k s a:Int} (h:f=aI) (hf:(Mc.dA f k s a).v=0):Mc.dA f k s a=aI:=by
 subst h;unfold Mc.dA at hf ⊢;cases hc:(code k s a != 0)
 ·rfl
 ·rw[hc]at hf;simp only[Bool.true_and]at hf;exfalso;revert hf;cases (code k s a==2)<;>simp[aI]
theorem Pz {c:Mc} {v:Int} (h:c.f=aI) (hf:(c.push v).fine=true):(c.push v).f=aI:=by
 have e:(c.push v).f=Mc.dA c.f 2 2 c.spA:=by unfold Mc.push;cases (c.acc 2 2 c.spA v).fine<;>rfl
 unfold Mc.fine at hf;rw[e]at hf ⊢;exact Sm h (by simpa using hf)
theorem Jo {c:Mc} (h:c.f=aI) {xs:List Int} {k:Nat} (hk:k<=xs.length) (hf:(c.pushes (xs.take k)).fine=true):(c.pushes (xs.take k)).f=aI:=by
 induction k with
 | zero=>exact h
 | succ k ih=>
  rw[jY c xs hk]at hf ⊢;cases hb:(c.pushes (xs.take k)).fine
  ·unfold Mc.ps at hf;rw[hb]at hf;simp only[cond_false]at hf;rw[hb]at hf;cases hf
  ·have e:(c.pushes (xs.take k)).ps (el xs k)=(c.pushes (xs.take k)).push (el xs k):=by unfold Mc.ps;rw[hb];rfl
   rw[e]at hf ⊢;exact Pz (ih (by omega) hb) hf
theorem GM.kC {c:Mc} (h:GM c) (n:Int):GM (c.kC n):=by
 have q:=h.with n;exact⟨q.g,q.p0,q.p1,q.bx,q.ok,q.bl,q.bm,q.ac⟩
structure FtW (f:Ft):Prop where
 v0:0<=f.v
 v1:f.v<=21
 p:0<=f.pc/\f.pc<=65535
 a:0<=f.ad/\f.ad<=65535
 w:0<=f.wo/\f.wo<=65535
theorem wz {r:Rg} {f:Ft} (h:Good r) (hf:FtW f):xO (iJ r f):=by
 have h2:=hf.p;have h3:=hf.a;have h4:=hf.w;obtain⟨s0,s1⟩:=qi h;have hi:0<=iq r.s f/\iq r.s f<=3:=by unfold iq fl1;cases f.wr<;>cases r.s<;>decide
 intro i hi';unfold iJ at hi' ⊢;cases hl:pU f.v<;>rw[hl]at hi'<;>simp only[Bool.false_eq_true,if_false,if_true]at hi' ⊢
 ·rcases i with _|_|i
  ·exact h2
  ·exact⟨s0,by show status r<=_;omega⟩
  ·simp at hi';omega
 ·rcases i with _|_|_|_|_|i
  ·exact h2
  ·exact⟨s0,by show status r<=_;omega⟩
  ·exact h4
  ·exact h3
  ·exact⟨hi.1,by show iq r.s f<=_;omega⟩
  ·simp at hi';omega
theorem GM.ent {c:Mc} (h:GM c) {n v:Int} {xs:List Int} (hx:xO xs) (v0:0<=v) (v1:v<=21):GM (c.ent n xs v):=by
 have q:GM ((c.kC n).pushes xs):=by have:=(h.kC n).pushes hx xs.length (Nat.le_refl _);rwa [List.take_length]at this
 have ha:eU 1 2 (2*v) 0=true:=dZ (k:=1) (.inl rfl) (by omega) (by omega);have hv:=q.gI ha;unfold Mc.ent Mc.nK;cases ((c.kC n).pushes xs).fine
 ·exact q
 ·cases (((c.kC n).pushes xs).acc 1 2 (2*v) 0).fine
  ·exact q.acc ha
  ·have hw:0<=((c.kC n).pushes xs).gI 1 2 (2*v) 0/\((c.kC n).pushes xs).gI 1 2 (2*v) 0<=65535:=by
    have h9:0<=((c.kC n).pushes xs).gI 1 2 (2*v) 0/\((c.kC n).pushes xs).gI 1 2 (2*v) 0<65536:=by simpa[okv,within,top] using hv
    omega
   exact(q.acc ha).aH hw.1 hw.2
end Go.Proofs.YtgikibaajanjiaaGreatDoor.Pl
namespace Go.Proofs.YtgikibaajanjiaaGreatDoor
open Pl
open Go.RowKit Go.Proofs.Tryz
set_option linter.unusedVariables false
theorem bU (b:Bool) (f:Int) (w:World) :
  Calls prog 208 #[.bool b,iv f] w fun e w'=>e=.returned (iv (Pl.fl b f))/\w'=w:=by
 cases b
 all_goals
  go_enter func208,ntmps208;go_wp2;go_ret;exact⟨rfl,rfl⟩
theorem nT (v:Int) (w:World) :
  Calls prog 206 #[iv 1,iv v] w fun e w'=>e=.returned (iv (bits .or .i64 (Pl.fl (v==0) 4) (Pl.fl (decide (128<=v)) 8)))/\w'=w:=by
 go_enter func206,ntmps206;go_wp2_with fail;refine(bU _ _ _).mono ?_;rintro e w'⟨rfl,rfl⟩;go_wp2_with fail;refine(iR _).mono ?_;rintro e w'⟨rfl,rfl⟩;go_wp2_with fail;refine(bU _ _ _).mono ?_;rintro e w'⟨rfl,rfl⟩;go_wp2_with fail;go_ret;exact⟨rfl,rfl⟩
theorem nS (v:Int) (w:World) :
  Calls prog 206 #[iv 2,iv v] w fun e w'=>e=.returned (iv (bits .or .i64 (Pl.fl (v==0) 4) (Pl.fl (decide (32768<=v)) 8)))/\w'=w:=by
 go_enter func206,ntmps206;go_wp2_with fail;refine(bU _ _ _).mono ?_;rintro e w'⟨rfl,rfl⟩;go_wp2_with fail;refine(iQ _).mono ?_;rintro e w'⟨rfl,rfl⟩;go_wp2_with fail;refine(bU _ _ _).mono ?_;rintro e w'⟨rfl,rfl⟩;go_wp2_with fail;go_ret;exact⟨rfl,rfl⟩
theorem gz (b:Bool) (f:Int) (w:World) :
  Calls prog 242 #[.bool b,iv f] w fun e w'=>e=.returned (iv (Pl.fl b f))/\w'=w:=by
 cases b
 all_goals
  go_enter func242,ntmps242;go_wp2;go_ret;exact⟨rfl,rfl⟩
theorem Ey (x:Int) (w:World) :
  Calls prog 286 #[iv x] w fun e w'=>e=.returned (.bool (Pl.bit x))/\w'=w:=by
 by_cases h0:x=0
 ·subst h0;go_enter func286,ntmps286;go_wp2;go_ret;exact⟨rfl,rfl⟩
 ·by_cases h1:x=1
  ·subst h1;go_enter func286,ntmps286;go_wp2;go_ret;exact⟨rfl,rfl⟩
  ·have k0:(x==0)=false:=by simpa using h0
   have k1:(x==1)=false:=by simpa using h1
   go_enter func286,ntmps286;go_wp2;go_ret;exact⟨rB (by simp[Pl.bit];omega),rfl⟩
theorem uN (x:Int) (w:World) :
  Calls prog 191 #[iv x] w fun e w'=>e=.returned (.bool (Pl.flags x))/\w'=w:=by
 by_cases h0:0<=x
 all_goals
  by_cases h1:x<=31
  all_goals
   go_enter func191,ntmps191;go_wp2;go_ret;exact⟨rB (by simp[Pl.flags];omega),rfl⟩
theorem iE (s a b:Int) (w:World) (la : -9223372036854775808<=a) (ha:a<=9223372036854775807) (lb : -9223372036854775808<=b) (hb:b<=9223372036854775807) :
  Calls prog 295 #[iv s,iv a,iv b] w fun e w'=>e=.returned (.tuple #[iv (oP s a),iv (oP s b),.bool (okv s a&&okv s b)])/\w'=w:=by
 cases ka:okv s a
 all_goals
  cases kb:okv s b
  all_goals
   go_enter func295,ntmps295;go_wp2_with fail;refine(bW s a _ la ha).mono ?_;rintro e w'⟨rfl,rfl⟩;go_wp2_with fail;refine(bW s b _ lb hb).mono ?_;rintro e w'⟨rfl,rfl⟩;go_wp2_with fail;go_ret3;exact⟨lW rfl rfl rfl,rfl⟩
theorem Ie (p q:Int) (w:World) :
  Calls prog 316 #[iv p,iv q] w fun e w'=>e=.returned (.tuple #[iv (p%256),iv (iI 1 p q)])/\w'=w:=by
 go_enter func316,ntmps316;go_wp2_with fail;refine(xu _ _ (by omega) (by omega)).mono ?_;rintro e w'⟨rfl,rfl⟩;go_wp2_with fail;refine(gz _ _ _).mono ?_;rintro e w'⟨rfl,rfl⟩;go_wp2_with fail;refine(gz _ _ _).mono ?_;rintro e w'⟨rfl,rfl⟩;go_wp2_with fail;refine(gz _ _ _).mono ?_;rintro e w'⟨rfl,rfl⟩;go_wp2_with fail;refine(gz _ _ _).mono ?_;rintro e w'⟨rfl,rfl⟩;go_wp2_with fail;go_ret2;exact⟨rII rfl (Yb p q),rfl⟩
theorem Fv (p q:Int) (w:World) :
  Calls prog 317 #[iv p,iv q] w fun e w'=>e=.returned (.tuple #[iv (p%65536),iv (iI 2 p q)])/\w'=w:=by
 have hw:IntKind.u16.wrap p=p%65536:=IntKind.wrap_u16 p;go_enter func317,ntmps317;go_wp2_with fail;refine(vk _ _ (by omega) (by omega)).mono ?_;rintro e w'⟨rfl,rfl⟩;go_wp2_with fail;refine(gz _ _ _).mono ?_;rintro e w'⟨rfl,rfl⟩;go_wp2_with fail;refine(gz _ _ _).mono ?_;rintro e w'⟨rfl,rfl⟩;go_wp2_with fail;refine(gz _ _ _).mono ?_;rintro e w'⟨rfl,rfl⟩;go_wp2_with fail;refine(gz _ _ _).mono ?_;rintro e w'⟨rfl,rfl⟩;go_wp2_with fail;go_ret2;exact⟨rII rfl (Pl.kept2 p q),rfl⟩
theorem sG (s p q:Int) (w:World) (hs:s=1\/s=2) :
  Calls prog 296 #[iv s,iv p,iv q] w fun e w'=>e=.returned (.tuple #[iv (p%Pl.top s),iv (iI s p q)])/\w'=w:=by
 rcases hs with rfl|rfl
 ·go_enter func296,ntmps296;go_wp2_with fail;refine(Ie _ _ _).mono ?_;rintro e w'⟨rfl,rfl⟩;go_wp2_with fail;go_ret2;exact⟨rII rfl rfl,rfl⟩
 ·go_enter func296,ntmps296;go_wp2_with fail;refine(Fv _ _ _).mono ?_;rintro e w'⟨rfl,rfl⟩;go_wp2_with fail;go_ret2;exact⟨rII rfl rfl,rfl⟩
theorem NU (s x a b:Int) (w:World) (la : -9223372036854775808<=a) (ha:a<=9223372036854775807) (lb : -9223372036854775808<=b) (hb:b<=9223372036854775807) :
  Calls prog 272 #[iv s,iv x,iv a,iv b] w fun e w'=>e=.returned (.tuple #[iv (tY s x a b),iv (sD s x a b),.bool (Pl.two s x a b)])/\w'=w:=by
 cases k:Pl.two s x a b
 ·have HV:Hid (tY s x a b=0):=aba (by simp[tY,k]);have HF:Hid (sD s x a b=0):=aba (by simp[sD,k])
  have k':okv s a=false\/okv s b=false\/(okv s a=true/\okv s b=true/\Pl.bit x=false):=by
   revert k
   unfold Pl.two;cases okv s a<;>cases okv s b<;>cases Pl.bit x<;>simp
  clear k;rcases k' with ka|kb|⟨ka,kb,kx⟩
  ·go_enter func272,ntmps272;go_wp2_with fail;refine(iE s a b _ la ha lb hb).mono ?_;rintro e w'⟨rfl,rfl⟩;go_wp2_with fail;go_ret3;exact⟨lW HV.o.symm HF.o.symm rfl,rfl⟩
  ·have kab:(okv s a&&okv s b)=false:=by rw[kb];simp
   go_enter func272,ntmps272;go_wp2_with fail;refine(iE s a b _ la ha lb hb).mono ?_;rintro e w'⟨rfl,rfl⟩;go_wp2_with fail;go_ret3;exact⟨lW HV.o.symm HF.o.symm rfl,rfl⟩
  ·go_enter func272,ntmps272;go_wp2_with fail;refine(iE s a b _ la ha lb hb).mono ?_;rintro e w'⟨rfl,rfl⟩;go_wp2_with fail;refine(Ey x _).mono ?_;rintro e w'⟨rfl,rfl⟩;go_wp2_with fail;go_ret3;exact⟨lW HV.o.symm HF.o.symm rfl,rfl⟩
 ·have HV:Hid (tY s x a b=(a+b+x)%Pl.top s):=aba (by simp[tY,k]);have HF:Hid (sD s x a b=iI s (a+b+x) (sg s a+sg s b+x)):=aba (by simp[sD,k]);obtain⟨ka,kb,kx⟩:=BJ k;have ea:=lK ka;have eb:=lK kb;obtain⟨hs,a0,a1⟩:=aS ka;obtain⟨_,b0,b1⟩:=aS kb;obtain⟨x0,x1⟩:=tK kx
  have sa : -32768<=sg s a/\sg s a<=32767:=by
   rcases hs with⟨rfl,_⟩|⟨rfl,_⟩
   ·have:=oU a0 a1;omega
   ·exact oQ a0 a1
  have sb : -32768<=sg s b/\sg s b<=32767:=by
   rcases hs with⟨rfl,_⟩|⟨rfl,_⟩
   ·have:=oU b0 b1;omega
   ·exact oQ b0 b1
  obtain⟨sa0,sa1⟩:=sa;obtain⟨sb0,sb1⟩:=sb;have a2:a<65536:=by omega
  have b2:b<65536:=by omega
  have hs2:s=1\/s=2:=by omega
  clear k hs a1 b1;go_enter func272,ntmps272;go_wp2_with fail;refine(iE s a b _ la ha lb hb).mono ?_;rintro e w'⟨rfl,rfl⟩;go_wp2_with fail;refine(Ey x _).mono ?_;rintro e w'⟨rfl,rfl⟩;go_wp2_with fail;refine(sG s _ _ _ hs2).mono ?_;rintro e w'⟨rfl,rfl⟩;go_wp2_with fail;go_ret3;exact⟨lW HV.o.symm HF.o.symm rfl,rfl⟩
theorem oK (s x a b:Int) (w:World) (la : -9223372036854775808<=a) (ha:a<=9223372036854775807) (lb : -9223372036854775808<=b) (hb:b<=9223372036854775807) :
  Calls prog 273 #[iv s,iv x,iv a,iv b] w fun e w'=>e=.returned (.tuple #[iv (lV s x a b),iv (kK s x a b),.bool (Pl.two s x a b)])/\w'=w:=by
 cases k:Pl.two s x a b
 ·have HV:Hid (lV s x a b=0):=aba (by simp[lV,k]);have HF:Hid (kK s x a b=0):=aba (by simp[kK,k])
  have k':okv s a=false\/okv s b=false\/(okv s a=true/\okv s b=true/\Pl.bit x=false):=by
   revert k
   unfold Pl.two;cases okv s a<;>cases okv s b<;>cases Pl.bit x<;>simp
  clear k;rcases k' with ka|kb|⟨ka,kb,kx⟩
  ·go_enter func273,ntmps273;go_wp2_with fail;refine(iE s a b _ la ha lb hb).mono ?_;rintro e w'⟨rfl,rfl⟩;go_wp2_with fail;go_ret3;exact⟨lW HV.o.symm HF.o.symm rfl,rfl⟩
  ·have kab:(okv s a&&okv s b)=false:=by rw[kb];simp
   go_enter func273,ntmps273;go_wp2_with fail;refine(iE s a b _ la ha lb hb).mono ?_;rintro e w'⟨rfl,rfl⟩;go_wp2_with fail;go_ret3;exact⟨lW HV.o.symm HF.o.symm rfl,rfl⟩
  ·go_enter func273,ntmps273;go_wp2_with fail;refine(iE s a b _ la ha lb hb).mono ?_;rintro e w'⟨rfl,rfl⟩;go_wp2_with fail;refine(Ey x _).mono ?_;rintro e w'⟨rfl,rfl⟩;go_wp2_with fail;go_ret3;exact⟨lW HV.o.symm HF.o.symm rfl,rfl⟩
 ·have HV:Hid (lV s x a b=(a-b-x)%Pl.top s):=aba (by simp[lV,k]);have HF:Hid (kK s x a b=iI s (a-b-x) (sg s a-sg s b-x)):=aba (by simp[kK,k]);obtain⟨ka,kb,kx⟩:=BJ k;have ea:=lK ka;have eb:=lK kb;obtain⟨hs,a0,a1⟩:=aS ka;obtain⟨_,b0,b1⟩:=aS kb;obtain⟨x0,x1⟩:=tK kx
  have sa : -32768<=sg s a/\sg s a<=32767:=by
   rcases hs with⟨rfl,_⟩|⟨rfl,_⟩
   ·have:=oU a0 a1;omega
   ·exact oQ a0 a1
  have sb : -32768<=sg s b/\sg s b<=32767:=by
   rcases hs with⟨rfl,_⟩|⟨rfl,_⟩
   ·have:=oU b0 b1;omega
   ·exact oQ b0 b1
  obtain⟨sa0,sa1⟩:=sa;obtain⟨sb0,sb1⟩:=sb;have a2:a<65536:=by omega
  have b2:b<65536:=by omega
  have hs2:s=1\/s=2:=by omega
  clear k hs a1 b1;go_enter func273,ntmps273;go_wp2_with fail;refine(iE s a b _ la ha lb hb).mono ?_;rintro e w'⟨rfl,rfl⟩;go_wp2_with fail;refine(Ey x _).mono ?_;rintro e w'⟨rfl,rfl⟩;go_wp2_with fail;refine(sG s _ _ _ hs2).mono ?_;rintro e w'⟨rfl,rfl⟩;go_wp2_with fail;go_ret3;exact⟨lW HV.o.symm HF.o.symm rfl,rfl⟩
theorem JK (s a:Int) (w:World) (la : -9223372036854775808<=a) (ha:a<=9223372036854775807) :
  Calls prog 255 #[iv s,iv a] w fun e w'=>e=.returned (.tuple #[iv (lV s 0 0 a),iv (kK s 0 0 a),.bool (Pl.two s 0 0 a)])/\w'=w:=by
 go_enter func255,ntmps255;go_wp2_with fail;refine(oK s 0 0 a _ (by omega) (by omega) la ha).mono ?_;rintro e w'⟨rfl,rfl⟩;go_wp2_with fail;go_ret3;exact⟨rfl,rfl⟩
theorem jP (v:Int) (w:World) (h0:0<=v) (h1:v<256) :
  Calls prog 244 #[iv 1,iv v] w fun e w'=>e=.returned (iv (sg 1 v))/\w'=w:=by
 by_cases h:128<=v
 ·go_enter func244,ntmps244;go_wp2_with fail;refine(iR _).mono ?_;rintro e w'⟨rfl,rfl⟩;go_wp2_with fail;refine(iR _).mono ?_;rintro e w'⟨rfl,rfl⟩;go_wp2_with fail;go_ret;exact⟨rI (by simp[sg,Pl.top];omega),rfl⟩
 ·go_enter func244,ntmps244;go_wp2_with fail;refine(iR _).mono ?_;rintro e w'⟨rfl,rfl⟩;go_wp2_with fail;go_ret;exact⟨rI (by simp[sg,Pl.top];omega),rfl⟩
theorem jO (v:Int) (w:World) (h0:0<=v) (h1:v<65536) :
  Calls prog 244 #[iv 2,iv v] w fun e w'=>e=.returned (iv (sg 2 v))/\w'=w:=by
 by_cases h:32768<=v
 ·go_enter func244,ntmps244;go_wp2_with fail;refine(iQ _).mono ?_;rintro e w'⟨rfl,rfl⟩;go_wp2_with fail;refine(iQ _).mono ?_;rintro e w'⟨rfl,rfl⟩;go_wp2_with fail;go_ret;exact⟨rI (by simp[sg,Pl.top];omega),rfl⟩
 ·go_enter func244,ntmps244;go_wp2_with fail;refine(iQ _).mono ?_;rintro e w'⟨rfl,rfl⟩;go_wp2_with fail;go_ret;exact⟨rI (by simp[sg,Pl.top];omega),rfl⟩
theorem CV (s v:Int) (w:World) (h:okv s v=true) :
  Calls prog 244 #[iv s,iv v] w fun e w'=>e=.returned (iv (sg s v))/\w'=w:=by
 obtain⟨hs,h0,h1⟩:=aS h;rcases hs with⟨rfl,_⟩|⟨rfl,_⟩
 ·exact jP v w h0 h1
 ·exact jO v w h0 h1
theorem U2 (x a b:Int) (w:World) (a0:0<=a) (a1:a<256) (b0:0<=b) (b1:b<256) (x0:0<=x) (x1:x<=1) :
  Calls prog 219 #[iv 1,iv x,iv a,iv b] w fun e w'=>e=.returned (.tuple #[iv ((a+b+x)%256),iv (iI 1 (a+b+x) (sg 1 a+sg 1 b+x))])/\w'=w:=by
 have em:=gY (a+b+x);obtain⟨sa0,sa1⟩:=oU a0 a1;obtain⟨sb0,sb1⟩:=oU b0 b1;go_enter func219,ntmps219;go_wp2_with fail;refine(iR _).mono ?_;rintro e w'⟨rfl,rfl⟩;go_wp2_with fail;refine(jP a _ a0 a1).mono ?_;rintro e w'⟨rfl,rfl⟩;go_wp2_with fail;refine(jP b _ b0 b1).mono ?_;rintro e w'⟨rfl,rfl⟩;go_wp2_with fail;refine(bU _ _ _).mono ?_;rintro e w'⟨rfl,rfl⟩;go_wp2_with fail;refine(jP ((a+b+x)%256) _ (by omega) (by omega)).mono ?_;rintro e w'⟨rfl,rfl⟩;go_wp2_with fail;refine(bU _ _ _).mono ?_;rintro e w'⟨rfl,rfl⟩;go_wp2_with fail;refine(nT _ _).mono ?_;rintro e w'⟨rfl,rfl⟩;go_wp2_with fail;go_ret2;exact⟨rII rfl (IV _ _),rfl⟩
theorem U1 (x a b:Int) (w:World) (a0:0<=a) (a1:a<65536) (b0:0<=b) (b1:b<65536) (x0:0<=x) (x1:x<=1) :
  Calls prog 219 #[iv 2,iv x,iv a,iv b] w fun e w'=>e=.returned (.tuple #[iv ((a+b+x)%65536),iv (iI 2 (a+b+x) (sg 2 a+sg 2 b+x))])/\w'=w:=by
 have em:=fO (a+b+x);obtain⟨sa0,sa1⟩:=oQ a0 a1;obtain⟨sb0,sb1⟩:=oQ b0 b1;go_enter func219,ntmps219;go_wp2_with fail;refine(iQ _).mono ?_;rintro e w'⟨rfl,rfl⟩;go_wp2_with fail;refine(jO a _ a0 a1).mono ?_;rintro e w'⟨rfl,rfl⟩;go_wp2_with fail;refine(jO b _ b0 b1).mono ?_;rintro e w'⟨rfl,rfl⟩;go_wp2_with fail;refine(bU _ _ _).mono ?_;rintro e w'⟨rfl,rfl⟩;go_wp2_with fail;refine(jO ((a+b+x)%65536) _ (by omega) (by omega)).mono ?_;rintro e w'⟨rfl,rfl⟩;go_wp2_with fail;refine(bU _ _ _).mono ?_;rintro e w'⟨rfl,rfl⟩;go_wp2_with fail;refine(nS _ _).mono ?_;rintro e w'⟨rfl,rfl⟩;go_wp2_with fail;go_ret2;exact⟨rII rfl (IU _ _),rfl⟩
theorem UY (x a b:Int) (w:World) (a0:0<=a) (a1:a<256) (b0:0<=b) (b1:b<256) (x0:0<=x) (x1:x<=1) :
  Calls prog 207 #[iv 1,iv x,iv a,iv b] w fun e w'=>e=.returned (.tuple #[iv ((a-b-x)%256),iv (iI 1 (a-b-x) (sg 1 a-sg 1 b-x))])/\w'=w:=by
 have em:=gY (a-b-x);obtain⟨sa0,sa1⟩:=oU a0 a1;obtain⟨sb0,sb1⟩:=oU b0 b1;go_enter func207,ntmps207;go_wp2_with fail;refine(iR _).mono ?_;rintro e w'⟨rfl,rfl⟩;go_wp2_with fail;refine(jP a _ a0 a1).mono ?_;rintro e w'⟨rfl,rfl⟩;go_wp2_with fail;refine(jP b _ b0 b1).mono ?_;rintro e w'⟨rfl,rfl⟩;go_wp2_with fail;refine(bU _ _ _).mono ?_;rintro e w'⟨rfl,rfl⟩;go_wp2_with fail;refine(jP ((a-b-x)%256) _ (by omega) (by omega)).mono ?_;rintro e w'⟨rfl,rfl⟩;go_wp2_with fail;refine(bU _ _ _).mono ?_;rintro e w'⟨rfl,rfl⟩;go_wp2_with fail;refine(nT _ _).mono ?_;rintro e w'⟨rfl,rfl⟩;go_wp2_with fail;go_ret2;exact⟨rII rfl (O6 _ _ (by omega)),rfl⟩
theorem UX (x a b:Int) (w:World) (a0:0<=a) (a1:a<65536) (b0:0<=b) (b1:b<65536) (x0:0<=x) (x1:x<=1) :
  Calls prog 207 #[iv 2,iv x,iv a,iv b] w fun e w'=>e=.returned (.tuple #[iv ((a-b-x)%65536),iv (iI 2 (a-b-x) (sg 2 a-sg 2 b-x))])/\w'=w:=by
 have em:=fO (a-b-x);obtain⟨sa0,sa1⟩:=oQ a0 a1;obtain⟨sb0,sb1⟩:=oQ b0 b1;go_enter func207,ntmps207;go_wp2_with fail;refine(iQ _).mono ?_;rintro e w'⟨rfl,rfl⟩;go_wp2_with fail;refine(jO a _ a0 a1).mono ?_;rintro e w'⟨rfl,rfl⟩;go_wp2_with fail;refine(jO b _ b0 b1).mono ?_;rintro e w'⟨rfl,rfl⟩;go_wp2_with fail;refine(bU _ _ _).mono ?_;rintro e w'⟨rfl,rfl⟩;go_wp2_with fail;refine(jO ((a-b-x)%65536) _ (by omega) (by omega)).mono ?_;rintro e w'⟨rfl,rfl⟩;go_wp2_with fail;refine(bU _ _ _).mono ?_;rintro e w'⟨rfl,rfl⟩;go_wp2_with fail;refine(nS _ _).mono ?_;rintro e w'⟨rfl,rfl⟩;go_wp2_with fail;go_ret2;exact⟨rII rfl (OZ _ _ (by omega)),rfl⟩
theorem Nr (s f a b:Int) (w:World) (la : -9223372036854775808<=a) (ha:a<=9223372036854775807) (lb : -9223372036854775808<=b) (hb:b<=9223372036854775807) :
  Calls prog 274 #[iv s,iv f,iv a,iv b] w fun e w'=>e=.returned (.tuple #[iv (og s f a b),.bool (Pl.two s 0 a b&&Pl.flags f)])/\w'=w:=by
 cases k:Pl.two s 0 a b
 ·have HV:Hid (og s f a b=0):=aba (by simp[og,k]);go_enter func274,ntmps274;go_wp2_with fail;refine(oK s 0 a b _ la ha lb hb).mono ?_;rintro e w'⟨rfl,rfl⟩;go_wp2_with fail;go_ret2;exact⟨rIB HV.o.symm rfl,rfl⟩
 ·cases kf:Pl.flags f
  ·have HV:Hid (og s f a b=0):=aba (by simp[og,kf]);go_enter func274,ntmps274;go_wp2_with fail;refine(oK s 0 a b _ la ha lb hb).mono ?_;rintro e w'⟨rfl,rfl⟩;go_wp2_with fail;refine(uN f _).mono ?_;rintro e w'⟨rfl,rfl⟩;go_wp2_with fail;go_ret2;exact⟨rIB HV.o.symm rfl,rfl⟩
  ·have HV:Hid (og s f a b=bits .or .i64 (bits .andNot .i64 (kK s 0 a b) 16) (bits .and .i64 f 16)):=aba (by simp only[og,k,kf,Bool.and_self,if_true,NR _ (ni s 0 a b).1 (ni s 0 a b).2]);go_enter func274,ntmps274;go_wp2_with fail;refine(oK s 0 a b _ la ha lb hb).mono ?_;rintro e w'⟨rfl,rfl⟩;go_wp2_with fail;refine(uN f _).mono ?_;rintro e w'⟨rfl,rfl⟩;go_wp2_with fail;go_ret2;exact⟨rIB HV.o.symm rfl,rfl⟩
theorem yC (s x a b:Int) (w:World) (h:Pl.two s x a b=true) :
  Calls prog 207 #[iv s,iv x,iv a,iv b] w fun e w'=>e=.returned (.tuple #[iv (lV s x a b),iv (kK s x a b)])/\w'=w:=by
 have HV:lV s x a b=(a-b-x)%Pl.top s:=by simp[lV,h]
 have HF:kK s x a b=iI s (a-b-x) (sg s a-sg s b-x):=by simp[kK,h]
 rw[HV,HF];obtain⟨ka,kb,kx⟩:=BJ h;obtain⟨hs,a0,a1⟩:=aS ka;obtain⟨_,b0,b1⟩:=aS kb;obtain⟨x0,x1⟩:=tK kx;rcases hs with⟨rfl,_⟩|⟨rfl,_⟩
 ·exact UY x a b w a0 a1 b0 b1 x0 x1
 ·exact UX x a b w a0 a1 b0 b1 x0 x1
theorem X9 (s f a b:Int) (w:World) (h:Pl.two s 0 a b=true) :
  Calls prog 220 #[iv s,iv f,iv a,iv b] w fun e w'=>e=.returned (iv (bits .or .i64 (bits .and .i64 (kK s 0 a b) 15) (bits .and .i64 f 16)))/\w'=w:=by
 go_enter func220,ntmps220;go_wp2_with fail;refine(yC s 0 a b _ h).mono ?_;rintro e w'⟨rfl,rfl⟩;go_wp2_with fail;go_ret;exact⟨rfl,rfl⟩
theorem jb (s f v:Int) (w:World) (lv : -9223372036854775808<=v) (hv:v<=9223372036854775807) :
  Calls prog 277 #[iv s,iv f,iv v] w fun e w'=>e=.returned (.tuple #[iv (dB s f v),.bool (okv s v&&Pl.flags f)])/\w'=w:=by
 cases k:okv s v
 ·have HV:Hid (dB s f v=0):=aba (by simp[dB,k]);go_enter func277,ntmps277;go_wp2_with fail;refine(bW s v _ lv hv).mono ?_;rintro e w'⟨rfl,rfl⟩;go_wp2_with fail;go_ret2;exact⟨rIB HV.o.symm rfl,rfl⟩
 ·cases kf:Pl.flags f
  ·have HV:Hid (dB s f v=0):=aba (by simp[dB,kf]);go_enter func277,ntmps277;go_wp2_with fail;refine(bW s v _ lv hv).mono ?_;rintro e w'⟨rfl,rfl⟩;go_wp2_with fail;refine(uN f _).mono ?_;rintro e w'⟨rfl,rfl⟩;go_wp2_with fail;go_ret2;exact⟨rIB HV.o.symm rfl,rfl⟩
  ·have HV:Hid (dB s f v=bits .or .i64 (iI s v (oP s v)) (bits .and .i64 f 16)):=aba (by
    simp only[dB,k,kf,Bool.and_self,if_true,lK k,Pl.keptSelf k];rw[Pl.or_comm])
   have hs:s=1\/s=2:=by have:=aS k;omega
   go_enter func277,ntmps277;go_wp2_with fail;refine(bW s v _ lv hv).mono ?_;rintro e w'⟨rfl,rfl⟩;go_wp2_with fail;refine(uN f _).mono ?_;rintro e w'⟨rfl,rfl⟩;go_wp2_with fail;refine(sG s _ _ _ hs).mono ?_;rintro e w'⟨rfl,rfl⟩;go_wp2_with fail;go_ret2;exact⟨rIB HV.o.symm rfl,rfl⟩
theorem UW (s v:Int) (w:World) (h:okv s v=true) :
  Calls prog 206 #[iv s,iv v] w fun e w'=>e=.returned (iv (bits .or .i64 (Pl.fl (v==0) 4) (Pl.fl (decide (sg s v<0)) 8)))/\w'=w:=by
 obtain⟨hs,h0,h1⟩:=aS h;rcases hs with⟨rfl,_⟩|⟨rfl,_⟩
 ·rw[<-Xy h0 h1];exact nT v w
 ·rw[<-Xx h0 h1];exact nS v w
theorem Qc (s f v:Int) (w:World) (h:okv s v=true) :
  Calls prog 154 #[iv s,iv f,iv v] w fun e w'=>e=.returned (iv (bits .or .i64 (bits .and .i64 f 16) (bits .or .i64 (Pl.fl (v==0) 4) (Pl.fl (decide (sg s v<0)) 8))))/\w'=w:=by
 go_enter func154,ntmps154;go_wp2_with fail;refine(UW s v _ h).mono ?_;rintro e w'⟨rfl,rfl⟩;go_wp2_with fail;go_ret;exact⟨rfl,rfl⟩
theorem Di (v:Int) (w:World) (lv : -9223372036854775808<=v) (hv:v<=9223372036854775807) :
  Calls prog 263 #[iv v] w fun e w'=>e=.returned (.tuple #[iv (mM v),.bool (okv 1 v)])/\w'=w:=by
 cases k:okv 1 v
 ·have HV:Hid (mM v=0):=aba (by simp[mM,k]);go_enter func263,ntmps263;go_wp2_with fail;refine(bW 1 v _ lv hv).mono ?_;rintro e w'⟨rfl,rfl⟩;go_wp2_with fail;go_ret2;exact⟨rIB HV.o.symm rfl,rfl⟩
 ·have HV:Hid (mM v=sg 1 v%65536):=aba (by simp[mM,k]);have e1:=lK k;have hw:IntKind.u16.wrap (sg 1 v)=sg 1 v%65536:=IntKind.wrap_u16 _;go_enter func263,ntmps263;go_wp2_with fail;refine(bW 1 v _ lv hv).mono ?_;rintro e w'⟨rfl,rfl⟩;go_wp2_with fail;go_ret2;exact⟨rIB HV.o.symm rfl,rfl⟩
theorem uZ (v:Int) (w:World) :
  Calls prog 215 #[iv v] w fun e w'=>e=.returned (.tuple #[iv (mM v),.bool (okv 1 v)])/\w'=w:=by
 cases k:okv 1 v
 ·have HV:Hid (mM v=0):=aba (by simp[mM,k]);go_enter func215,ntmps215;go_wp2_with fail;refine(jT 1 v _).mono ?_;rintro e w'⟨rfl,rfl⟩;go_wp2_with fail;go_ret2;exact⟨rIB HV.o.symm rfl,rfl⟩
 ·have HV:Hid (mM v=sg 1 v%65536):=aba (by simp[mM,k]);have em:=fO (sg 1 v);go_enter func215,ntmps215;go_wp2_with fail;refine(jT 1 v _).mono ?_;rintro e w'⟨rfl,rfl⟩;go_wp2_with fail;refine(CV 1 v _ k).mono ?_;rintro e w'⟨rfl,rfl⟩;go_wp2_with fail;go_ret2;exact⟨rIB HV.o.symm rfl,rfl⟩
theorem FV (v:Int) (w:World) (lv : -9223372036854775808<=v) (hv:v<=9223372036854775807) :
  Calls prog 262 #[iv v] w fun e w'=>e=.returned (.tuple #[iv (lU v),.bool (okv 2 v)])/\w'=w:=by
 cases k:okv 2 v
 ·have HV:Hid (lU v=0):=aba (by simp[lU,k]);go_enter func262,ntmps262;go_wp2_with fail;refine(bW 2 v _ lv hv).mono ?_;rintro e w'⟨rfl,rfl⟩;go_wp2_with fail;go_ret2;exact⟨rIB HV.o.symm rfl,rfl⟩
 ·have HV:Hid (lU v=v%256*256+v/256):=aba (by simp[lU,k]);have h0:0<=v:=by have:=aS k;omega
  have h1:v<65536:=by have:=aS k;omega
  go_enter func262,ntmps262;go_wp2_with fail;refine(bW 2 v _ lv hv).mono ?_;rintro e w'⟨rfl,rfl⟩;go_wp2_with fail;go_ret2;exact⟨rIB HV.o.symm rfl,rfl⟩
theorem wU (v:Int) (w:World) :
  Calls prog 213 #[iv v] w fun e w'=>e=.returned (.tuple #[iv (lU v),.bool (okv 2 v)])/\w'=w:=by
 cases k:okv 2 v
 ·have HV:Hid (lU v=0):=aba (by simp[lU,k]);go_enter func213,ntmps213;go_wp2_with fail;refine(jT 2 v _).mono ?_;rintro e w'⟨rfl,rfl⟩;go_wp2_with fail;go_ret2;exact⟨rIB HV.o.symm rfl,rfl⟩
 ·have HV:Hid (lU v=v%256*256+v/256):=aba (by simp[lU,k]);have h0:0<=v:=by have:=aS k;omega
  have h1:v<65536:=by have:=aS k;omega
  have em:=gY v;have eo:=OH v h0 h1;go_enter func213,ntmps213;go_wp2_with fail;refine(jT 2 v _).mono ?_;rintro e w'⟨rfl,rfl⟩;go_wp2_with fail;go_ret2;exact⟨rIB HV.o.symm rfl,rfl⟩
theorem Ld (z:Int) (hz:z=1\/z=2) (w:World):Calls prog 205 #[iv z] w fun e w'=>e=.returned (iv (Pl.top z))/\w'=w:=by
 rcases hz with rfl|rfl
 ·exact iR w
 ·exact iQ w
theorem J6 (w:World) (gd cd ga ca:Nat) (r:Rg) (z k:Int) (hD:Own w gd r.xs) (hg:Pl.Good r) (hz:z=1\/z=2) (k0:0<=k) (k1:k<=3) :
  Calls prog 152 #[jK r gd cd ga ca,iv z,iv k] w fun e w'=>e=.returned (iv (el r.xs k.toNat%Pl.top z))/\Kept 0 0 w w':=by
 obtain⟨n,rfl⟩:∃n:Nat,k=(n:Int):=⟨k.toNat,by omega⟩
 have hn:n<4:=by omega
 have k4:(n:Int)<4:=by omega
 have hA:=rU (hD.ag (kept_alloc w (.cells #[.slice (some (abb gd 0)) 4 cd,.slice (some (abb ga 0)) 4 ca,iv r.o,iv r.p,iv r.f,iv r.m,.bool r.s,.bool r.t] 35)) (by omega)) n (by rw[hg.d4];omega);obtain⟨hc,_⟩:=hA
 have HE:Hid (bits .and .i64 (el r.xs n) (Pl.top z-1)=el r.xs n%Pl.top z):=aba (by
  rcases hz with rfl|rfl
  ·exact gY _
  ·exact fO _)
 have HT:=Ld z hz;have hT:256<=Pl.top z/\Pl.top z<=65536:=by rcases hz with rfl|rfl<;>decide
 obtain⟨hT0,hT1⟩:=hT;have hK:=aba (kept_alloc w (.cells #[.slice (some (abb gd 0)) 4 cd,.slice (some (abb ga 0)) 4 ca,iv r.o,iv r.p,iv r.f,iv r.m,.bool r.s,.bool r.t] 35));have hg4:=Blk.lt (Blk.new w #[.slice (some (abb gd 0)) 4 cd,.slice (some (abb ga 0)) 4 ca,iv r.o,iv r.p,iv r.f,iv r.m,.bool r.s,.bool r.t] 35);clear hD hg hg4;unfold jK;generalize Pl.top z=T at *;clear hz;go_enter func152,ntmps152;go_wp2_with fail;go_region_with (go_at_call 205;refine st (HT _) ?_)
 all_goals
  go_wp2_with fail;go_ret;exact⟨rI (by rw[IntKind.wrap_i64,show(T-1+9223372036854775808)%18446744073709551616-9223372036854775808=T-1 by omega];exact HE.o),ai hK.o⟩
theorem JY (w:World) (lo mid hi p g2:Nat) (c:Mc) (v:Int) (h:MAt w lo mid hi p g2 c) :
  Calls prog 212 #[.pointer (some (abb p 0)),iv v] w fun e w'=>e=.returned (.tuple #[])/\∃g3,MAt w' lo mid hi p g3 (c.raise v)/\Since w lo hi g2 w' g3:=by
 have hl:=h.lo;have HM:=aba h;obtain⟨gd,cd,ga,ca,g1,c1,c2,HB,HO⟩:=h.op;have t3:=HB.o.k3;have t11:=HB.o.k11;have t12:=HB.o.k12;have f11:=HB.o.frozen 11;have f12:=HB.o.frozen 12;go_enter func212,ntmps212;go_wp2_with fail;go_end0;have hp:=HO.o.p0;have hd:=HO.o.d0;have hd1:=HO.o.d1;have KK:=(ak w p 11 (iv v)).one 12 (iv c.r.p);have hq:(lo<=p/\p<hi)\/w.heap.size<=p:=by have:=HO.o.p1;omega
 exact⟨rfl,g2,⟨gd,cd,ga,ca,g1,c1,c2,(HB.o.cV v).cPc c.r.p,HO.o.own KK⟩,((Since.refl _ _ _ _).set p 11 _ hq).set p 12 _ hq⟩
theorem jk {z f v:Int} (w:World) (hv:okv z v=true) (hf:Pl.flags f=true):Calls prog 154 #[iv z,iv f,iv v] w fun e w'=>e=.returned (iv (dB z f v))/\w'=w:=by
 have e:dB z f v=bits .or .i64 (bits .and .i64 f 16) (bits .or .i64 (Pl.fl (v==0) 4) (Pl.fl (decide (sg z v<0)) 8)):=by unfold dB;rw[hv,hf];rfl
 rw[e];exact Qc z f v w hv
theorem Em (w:World) (lo mid hi p g2:Nat) (c:Mc) (z k v:Int) (h:MAt w lo mid hi p g2 c) (G:GM c) (k0:0<=k) (k1:k<=3) (hv:okv z v=true) :
  Calls prog 214 #[.pointer (some (abb p 0)),iv z,iv k,iv v] w fun e w'=>e=.returned (.tuple #[])/\∃g3,MAt w' lo mid hi p g3 (c.data z k v)/\Since w lo hi g2 w' g3:=by
 have hl:=h.lo;have HF:=aba (di G);have HG:=aba ((G.aJ (gq z c.r.f v hv (di G)).1 (gq z c.r.f v hv (di G)).2).g);have HM:=aba h;obtain⟨gd,cd,ga,ca,g1,c1,c2,HB,HO⟩:=h.op;obtain⟨t0,t1,t2,t3,t4,t5,t6,t7⟩:=HB.o.c8;have f0:=HB.o.fz;have hp:=HO.o.p0;have hd:=HO.o.d0;have hd1:=HO.o.d1;have hs:=HB.o.lt;have K1:=aba (ak w p 4 (iv (dB z c.r.f v)));have HO1:=aba (HO.o.own K1.o);have HB1:=aba (HB.o.cF (dB z c.r.f v));clear G;go_enter func214,ntmps214;go_wp2_with (first|(go_at_call 154;refine st (jk _ hv HF.o) ?_)|(go_at_call 157;refine(zH _ lo mid gd cd ga ca {c.r with f:=dB z c.r.f v} z k v (MO.reg (r:={c.r with f:=dB z c.r.f v}) HO1.o) (by simp;omega) HG.o k0 k1 hv).mono ?_;unfold jK;rintro e9 W⟨rfl,hr9,hk9⟩;have HO2:=aba (HO1.o.regs hr9 hk9);have HB2:=aba (HB1.o.regs hk9 hp);have HK2:=aba hk9;clear hr9 hk9 t0 t1 t2 t3 t4 t5 t6 t7 f0;obtain⟨t0,t1,t2,t3,t4,t5,t6,t7,_⟩:=HB2.o.cells;have f0:=HB2.o.frozen 0;have f1:=HB2.o.frozen 1;have f2:=HB2.o.frozen 2;have f3:=HB2.o.frozen 3;have f4:=HB2.o.frozen 4;have f5:=HB2.o.frozen 5;have f6:=HB2.o.frozen 6;have f7:=HB2.o.frozen 7));go_end0;have hq:(lo<=p/\p<hi)\/w.heap.size<=p:=by have:=HO.o.p1;omega
 have hm9:=HO.o.p1;exact⟨rfl,g2,MAt.laid HB2.o HO2.o,jw (((Since.refl w lo hi g2).set p 4 _ hq).ag HK2.o (Nat.le_refl _) (by omega)) hq _ _ _ _ _ _ _ _⟩
theorem yA (w:World) (lo mid hi p g2:Nat) (c:Mc) (z m k x a v:Int) (h:MAt w lo mid hi p g2 c) (G:GM c) (k0:0<=k) (k1:k<=3) (a0:0<=a) (a1:a<=65535) (hv:okv z v=true) :
  Calls prog 153 #[.pointer (some (abb p 0)),iv z,.agg #[iv m,iv k,iv x],iv a,iv v] w fun e w'=>e=.returned (.tuple #[])/\∃g3,MAt w' lo mid hi p g3 (c.write z m k a v)/\Since w lo hi g2 w' g3:=by
 have hl:=h.lo;cases hm:(m==0)
 ·have KA:=aba (kept_alloc w (.cells #[iv m,iv k,iv x] 46));have E:Hid (c.write z m k a v=c.acc 2 z a v):=aba (by unfold Mc.write;rw[hm];rfl);have HM1:=aba (h.any KA.o);have HG:=aba G;have HA:Hid (eU 2 z a v=true):=aba (by simp[eU,dP,Pl.addr,hv];omega);clear G h;go_enter func153,ntmps153;go_wp2_with (go_at_call 184;refine(fZ _ lo mid hi p g2 c 2 z a v HM1.o HG.o HA.o).mono ?_;rintro e9 W⟨rfl,g3,hm9,hb9⟩;have HM2:=aba hm9;have HL2:=aba hb9;clear hm9 hb9);go_end0;exact⟨rfl,g3,by rw[E.o];exact HM2.o,((Since.refl w lo hi g2).any KA.o).trans HL2.o⟩
 ·have E:Hid (c.write z m k a v=c.bC (lD c.r z k v)):=aba (by unfold Mc.write;rw[hm];rfl);have HG:=aba G.g;have KA:=aba (kept_alloc w (.cells #[iv m,iv k,iv x] 46));have BA:=Blk.new w #[iv m,iv k,iv x] 46;obtain⟨X,hX⟩:∃X:World,w.alloc (.cells #[iv m,iv k,iv x] 46)=X:=⟨_,rfl⟩
  rw[hX]at KA BA;have b0:=BA.all;have hbw:=BA.lt;have h2:=h.any KA.o;have hl2:=h2.lo;clear h BA;have HM:=aba h2;obtain⟨gd,cd,ga,ca,g1,c1,c2,HB,HO⟩:=h2.op;obtain⟨t0,t1,t2,t3,t4,t5,t6,t7⟩:=HB.o.c8;have f0:=HB.o.fz;have hp:=HO.o.p0;have hd:=HO.o.d0;have hd1:=HO.o.d1;have hs:=HB.o.lt;have HMH:Hid (mid<=hi):=aba (by have:=HO.o.p1;omega);have HPH:Hid (lo<=p/\p<hi):=aba (by have:=HO.o.p1;omega);have HRD:=aba (MO.reg (r:=c.r) (HO.o.any (ai (Kept.refl 0 0 X))));have HOD:=aba (HO.o.any (ai (Kept.refl 0 0 X)));have HBD:=aba (HB.o.any (ai (Kept.refl 0 0 X)));have HMD:Hid (mid<=X.drew.heap.size):=aba hl2.2.1;clear G;go_enter func153,ntmps153;go_wp2_with fail;go_region_with (go_at_call 157;refine(zH _ lo mid gd cd ga ca c.r z k v HRD.o HMD.o HG.o k0 k1 hv).mono ?_;unfold jK;rintro e9 W⟨rfl,hr9,hk9⟩;have HO2:=aba (HOD.o.regs hr9 hk9);have HB2:=aba (HBD.o.regs hk9 hp);have HK2:=aba hk9;clear hr9 hk9;clear t0 t1 t2 t3 t4 t5 t6 t7 f0;obtain⟨t0,t1,t2,t3,t4,t5,t6,t7,_⟩:=HB2.o.cells;have f0:=HB2.o.frozen 0;have f1:=HB2.o.frozen 1;have f2:=HB2.o.frozen 2;have f3:=HB2.o.frozen 3;have f4:=HB2.o.frozen 4;have f5:=HB2.o.frozen 5;have f6:=HB2.o.frozen 6;have f7:=HB2.o.frozen 7)
  all_goals
   go_wp2_with fail;first|go_end0|refine bodyPost_ret (results_none rfl _ _ _) rfl ?_
   exact⟨rfl,g2,by rw[E.o];exact MAt.laid HB2.o HO2.o,jw (((Since.refl w lo hi g2).any KA.o).drew.ag HK2.o (Nat.le_refl _) HMH.o) (.inl HPH.o) _ _ _ _ _ _ _ _⟩
theorem vS (w:World) (lo mid hi p g2:Nat) (c:Mc) (z m k x:Int) (h:MAt w lo mid hi p g2 c) (G:GM c) (k0:0<=k) (k1:k<=3) (x0:0<=x) (x1:x<=65535) (hm1:m=0\/m=2\/m=3\/m=4\/m=5\/m=6) :
  Calls prog 151 #[.pointer (some (abb p 0)),iv z,.agg #[iv m,iv k,iv x]] w fun e w'=>e=.returned (iv (c.iL z m k x))/\∃g3,MAt w' lo mid hi p g3 (c.place z m k x)/\Since w lo hi g2 w' g3:=by
 have hl:=h.lo;cases hm:(m==0)
 ·have hm2:m=2\/m=3\/m=4\/m=5\/m=6:=by simp at hm;omega
  have HG:=aba G;have KA:=aba (kept_alloc w (.cells #[iv m,iv k,iv x] 46));have BA:=Blk.new w #[iv m,iv k,iv x] 46;obtain⟨X,hX⟩:∃X:World,w.alloc (.cells #[iv m,iv k,iv x] 46)=X:=⟨_,rfl⟩
  rw[hX]at KA BA;have b0:=BA.all;have hbw:=BA.lt;have h2:=h.any KA.o;have hl2:=h2.lo;clear h BA;have HM:=aba h2;obtain⟨gd,cd,ga,ca,g1,c1,c2,HB,HO⟩:=h2.op;obtain⟨t0,t1,t2,t3,t4,t5,t6,t7⟩:=HB.o.c8;have f0:=HB.o.fz;have hp:=HO.o.p0;have hd:=HO.o.d0;have hd1:=HO.o.d1;have hs:=HB.o.lt;have HMH:Hid (mid<=hi):=aba (by have:=HO.o.p1;omega);have HPH:Hid (lo<=p/\p<hi):=aba (by have:=HO.o.p1;omega);have HRD:=aba (MO.reg (r:=c.r) (HO.o.any (ai (Kept.refl 0 0 X))));have HOD:=aba (HO.o.any (ai (Kept.refl 0 0 X)));have HBD:=aba (HB.o.any (ai (Kept.refl 0 0 X)));have HMD:Hid (mid<=X.drew.heap.size):=aba hl2.2.1;have KZ:Kept 0 0 X (X.drew.alloc (.cells #[.slice none 0 0,.slice none 0 0,iv 0,iv 0,iv 0,iv 0,.bool false,.bool false] 35)):=ah (ai (Kept.refl 0 0 X)) _;have HRZ:=aba (MO.reg (r:=c.r) (HO.o.any KZ));have HOZ:=aba (HO.o.any KZ);have HBZ:=aba (HB.o.any KZ);have HMZ:Hid (mid<=(X.drew.alloc (.cells #[.slice none 0 0,.slice none 0 0,iv 0,iv 0,iv 0,iv 0,.bool false,.bool false] 35)).heap.size):=aba (by rw[World.size_alloc];exact Nat.le_trans hl2.2.1 (Nat.le_succ _));have BZ:Hid (Blk (X.drew.alloc (.cells #[.slice none 0 0,.slice none 0 0,iv 0,iv 0,iv 0,iv 0,.bool false,.bool false] 35)) X.heap.size #[.slice none 0 0,.slice none 0 0,iv 0,iv 0,iv 0,iv 0,.bool false,.bool false] 35):=aba (Blk.new X.drew #[.slice none 0 0,.slice none 0 0,iv 0,iv 0,iv 0,iv 0,.bool false,.bool false] 35);have HKZ:=aba KZ;have hb1:=HO.o.b.lt (by rw[HG.o.bx];decide);have hb2:=HO.o.g2.2;clear KZ;have HP:=fun (w9:World) (hr:fQ w9 lo mid c.r (some (abb gd 0)) (some (abb ga 0))) (hh:mid<=w9.heap.size)=>Js w9 lo mid gd cd ga ca c.r z m k x hr hh HG.o.g k0 k1 x0 x1 hm2;obtain⟨R,hR⟩:∃R,bG c.r z m k x=R:=⟨_,rfl⟩
  obtain⟨V,hV⟩:∃V,bu c.r z m k x=V:=⟨_,rfl⟩
  simp only[hR,hV,jK]at HP;have E:Hid (c.place z m k x=c.bC R):=aba (by unfold Mc.place Mc.plc;rw[hm,hR];rfl);have E2:Hid (c.iL z m k x=V):=aba (by unfold Mc.iL;rw[hm,hV];rfl);clear hR hV;have HNZ:Hid (¬(lo<=X.heap.size/\X.heap.size<mid)):=aba (by have q:=hl2.2.1;omega);have HPZ:Hid (p<X.heap.size):=aba hs;clear G hm1;go_enter func151,ntmps151;go_wp2_with fail;go_region_with (first|(go_at_call 204;refine(HP _ HRD.o HMD.o).mono ?_;rintro e9 W⟨rfl,hr9,hk9⟩;have HO2:=aba (HOD.o.regs hr9 hk9);have HB2:=aba (HBD.o.regs hk9 hp);have HK2:=aba hk9;have HA1:=aba hk9;have hpW:=HB2.o.lt;clear hr9 hk9;clear t0 t1 t2 t3 t4 t5 t6 t7 f0;obtain⟨t0,t1,t2,t3,t4,t5,t6,t7,_⟩:=HB2.o.cells;have f0:=HB2.o.frozen 0;have f1:=HB2.o.frozen 1;have f2:=HB2.o.frozen 2;have f3:=HB2.o.frozen 3;have f4:=HB2.o.frozen 4;have f5:=HB2.o.frozen 5;have f6:=HB2.o.frozen 6;have f7:=HB2.o.frozen 7)|(go_at_call 204;refine(HP _ HRZ.o HMZ.o).mono ?_;rintro e9 W⟨rfl,hr9,hk9⟩;have HO2:=aba (HOZ.o.regs hr9 hk9);have HB2:=aba (HBZ.o.regs hk9 hp);have HK2:=aba hk9;have HA2:=aba hk9;have BZ2:=aba (Blk.kept BZ.o hk9 HNZ.o);clear hr9 hk9;clear t0 t1 t2 t3 t4 t5 t6 t7 f0;obtain⟨t0,t1,t2,t3,t4,t5,t6,t7,_⟩:=HB2.o.cells;have f0:=HB2.o.frozen 0;have f1:=HB2.o.frozen 1;have f2:=HB2.o.frozen 2;have f3:=HB2.o.frozen 3;have f4:=HB2.o.frozen 4;have f5:=HB2.o.frozen 5;have f6:=HB2.o.frozen 6;have f7:=HB2.o.frozen 7;have y0:=BZ2.o.cell (i:=0) rfl;have v0:=BZ2.o.frozen 0;have y1:=BZ2.o.cell (i:=1) rfl;have v1:=BZ2.o.frozen 1;have y2:=BZ2.o.cell (i:=2) rfl;have v2:=BZ2.o.frozen 2;have y3:=BZ2.o.cell (i:=3) rfl;have v3:=BZ2.o.frozen 3;have y4:=BZ2.o.cell (i:=4) rfl;have v4:=BZ2.o.frozen 4;have y5:=BZ2.o.cell (i:=5) rfl;have v5:=BZ2.o.frozen 5;have y6:=BZ2.o.cell (i:=6) rfl;have v6:=BZ2.o.frozen 6;have y7:=BZ2.o.cell (i:=7) rfl;have v7:=BZ2.o.frozen 7))
  all_goals
   go_wp2_with fail;go_ret;rw[E.o]
   first
    | (have z9:=HA1;exact⟨rI E2.o.symm,g2,(MAt.laid HB2.o HO2.o).any (kept_alloc _ _),(jw (((Since.refl w lo hi g2).any KA.o).drew.ag HK2.o (Nat.le_refl _) HMH.o) (.inl HPH.o) _ _ _ _ _ _ _ _).alloc _⟩)
    | (have z9:=HA2;exact⟨rI E2.o.symm,g2,MAt.laid (HB2.o.past (MB.lN _ _ _ _ _ _ _ _) HPZ.o) (HO2.o.past (MB.lN _ _ _ _ _ _ _ _) hl2.2.1 hb1 hb2),jw (jw ((((Since.refl w lo hi g2).any KA.o).any HKZ.o).ag HK2.o (Nat.le_refl _) HMH.o) (.inr KA.o.size) _ _ _ _ _ _ _ _) (.inl HPH.o) _ _ _ _ _ _ _ _⟩)
 ·have KA:=aba (kept_alloc w (.cells #[iv m,iv k,iv x] 46));have E:Hid (c.place z m k x=c):=aba (by unfold Mc.place;rw[hm];rfl);have E2:Hid (c.iL z m k x=0):=aba (by unfold Mc.iL;rw[hm];rfl);have HM:=aba (h.any KA.o);clear h G;go_enter func151,ntmps151;go_wp2_with fail;go_ret;exact⟨rI E2.o.symm,g2,by rw[E.o];exact HM.o,(Since.refl w lo hi g2).any KA.o⟩
end Go.Proofs.YtgikibaajanjiaaGreatDoor
