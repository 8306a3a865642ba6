/- Part 14 of what the last text leans on. -/
import Derived.Test.YtgikibaajanjiaaGreatDoorJE13
import Derived.Deep.WholeRow
import Derived.Deep.MidRow
import Derived.Below
set_option maxRecDepth 100000
set_option maxHeartbeats 16000000
namespace Go.Proofs.YtgikibaajanjiaaGreatDoor
open Pl
open Go.RowKit Go.Proofs.Tryz
set_option linter.unusedVariables false
theorem Pl.Bo {xs:List Int} (h:∀i,i<xs.length->0<=el xs i/\el xs i<=65535):xs.all aQ=true:=by
 rw[List.all_eq_true];intro x hx;obtain⟨i,hi,rfl⟩:=List.getElem_of_mem hx;have:=h i hi;simp[el,List.getElem?_eq_getElem hi]at this;simp[aQ,within];omega
theorem Pl.yj {r:Rg} (g:Pl.Good r) (p0:0<=r.p) (p1:r.p<=65535):tu r=true:=by
 have a1:=Bo (xs:=r.xs) (fun i hi=>g.dw i (by have:=g.d4;omega));have a2:=Bo (xs:=r.ys) (fun i hi=>g.aw i (by have:=g.a4;omega));have h1:=g.d4;have h2:=g.a4;have h3:=g.o0;have h4:=g.o1;have h5:=g.f0;have h6:=g.f1;have h7:=g.m0;have h8:=g.m1;simp only[tu,iU,a1,a2,aQ,within,Bool.true_and,Bool.and_eq_true,decide_eq_true_eq];omega
theorem Pl.sS {c:Cp} (h:dA c=true) (hl:c.bl.length=5*c.bm):dA (dB c)=true/\(dB c).bl.length=5*(dB c).bm:=by
 have g:=GM.of h hl c.st;have gs:=GM.step h hl
 have hb:∀(r:Rg) (st:Bool),tu r=true->dA ⟨r,(Pl.stepM c).bx,(Pl.stepM c).bl,(Pl.stepM c).bm,st,false⟩=true:=by
  intro r st hr;simp[dA,hr,Pl.eG,gs.ac,gs.bx,gs.ok,gs.bm]
 unfold dB;cases (Pl.stepM c).fine
 ·exact⟨hb _ _ (yj g.g g.p0 g.p1),gs.bl⟩
 ·exact⟨hb _ _ (yj gs.g gs.p0 gs.p1),gs.bl⟩
structure CpO (w:World) (base O:Nat) (c:Cp) (gd ga g1 g2:Nat):Prop where
 d:Own w gd c.r.xs
 a:Own w ga c.r.ys
 b:Own w g1 c.bx
 l:Own w g2 c.bl
 d0:base<=gd
 d1:gd<w.heap.size
 a0:base<=ga
 a1:ga<w.heap.size
 b0:base<=g1
 b1:g1<w.heap.size
 l0:base<=g2
 l1:g2<w.heap.size
 dO:gd≠O
 aO:ga≠O
 bO:g1≠O
 lO:g2≠O
 n1:gd≠ga
 n2:gd≠g1
 n3:gd≠g2
 n4:ga≠g1
 n5:ga≠g2
 n6:g1≠g2
theorem CO.cpO {w:World} {lo mid gd ga g1 g2 c2 base O:Nat} {c:Cp} (h:CO w lo mid c gd ga g1 g2 c2) (hb:base<=lo) (hO:O<lo\/w.heap.size<=O):CpO w base O c gd ga g1 g2:=by
 have:=h.d0;have:=h.d1;have:=h.a0;have:=h.a1;have:=h.da;have:=h.b0;have:=h.b1;have:=h.bl
 have q:=h.l.lt g2 rfl;exact⟨h.d,h.a,h.b,dh h.l,by omega,by omega,by omega,by omega,by omega,by omega,by omega,by omega,by omega,by omega,by omega,by omega,by omega,by omega,by omega,by omega,by omega,by omega⟩
theorem CpO.kept {w w':World} {base O lo hi gd ga g1 g2:Nat} {c:Cp} (h:CpO w base O c gd ga g1 g2) (k:Kept lo hi w w') (hh:∀i,lo<=i->i<hi->i<base\/i=O):CpO w' base O c gd ga g1 g2:=by
 have:=h.d0;have:=h.a0;have:=h.b0;have:=h.l0;have:=k.size
 have h1:=h.d1;have h2:=h.a1;have h3:=h.b1;have h4:=h.l1;have q:∀g,base<=g->g≠O->¬(lo<=g/\g<hi):=fun g a b c=>by have:=hh g c.1 c.2;omega
 exact⟨h.d.ag k (q _ h.d0 h.dO),h.a.ag k (q _ h.a0 h.aO),h.b.ag k (q _ h.b0 h.bO),h.l.ag k (q _ h.l0 h.lO),h.d0,by omega,h.a0,by omega,h.b0,by omega,h.l0,by omega,h.dO,h.aO,h.bO,h.lO,h.n1,h.n2,h.n3,h.n4,h.n5,h.n6⟩
variable (w:World) (lo b g:Nat) (c:Mc) (h:Hl)
theorem NJ (z k v:Int) (hC:CAt w lo b g c h) (hg:Pl.Good c.r) (k0:0<=k) (k3:k<=3) (hz:z=1\/z=2) (hv:okv z v=true) :
  Calls prog 252 #[.pointer (some (abb b 0)),iv z,iv k,iv v] w fun e w'=>e=.returned (.tuple #[])/\CAt w' lo b g (c.put z k v) h/\Kept b (b+1) w w':=by
 obtain⟨n,rfl⟩:∃n:Nat,k=(n:Int):=⟨k.toNat,by omega⟩
 have hn:n<4:=by omega
 have ht:=aU hv;have HC:=aba hC;have L4:=aba hg.d4;have q0:=hC.cX hn;have f0:=hC.fz n;obtain⟨x0,x1⟩:=hg.dw n hn;have hk:=ak w b n;have HK:=aba hk;clear hC hg hk;rcases hz with rfl|rfl
 ·have hb:=Bl x0 x1 (v:=v) (by omega) (by omega);clear hv ht;go_enter func252,ntmps252;go_wp2_with fail;go_end0;exact⟨rfl,HC.o.zH L4.o hn _,HK.o _⟩
 ·clear hv ht;go_enter func252,ntmps252;go_wp2_with fail;go_end0;exact⟨rfl,HC.o.zH L4.o hn _,HK.o _⟩
theorem Be (n:Int) (hC:CAt w lo b g c h) (hg:Pl.Good c.r) (h0:0<=n) (h1:n<=1023) :
  Calls prog 198 #[.pointer (some (abb b 0)),iv n] w fun e w'=>e=.returned (.tuple #[])/\CAt w' lo b g (c.bC (aY c.r n)) h/\Kept b (b+1) w w':=by
 have e1:=SK h0 h1;have e2:=SI h0 h1;have e3:=WX h0 h1;have e4:=st7 h0 h1;have HC:=aba hC;have h4:=aba hg.a4;have c7:w.cell? (abb b 7)=some (iv (el c.r.ys 3)):=hC.cY (k:=3) (by omega);have c8:=hC.cO;have c10:=hC.cF;have c11:=hC.cM;have c12:=hC.cS;have c13:=hC.cT;have fz:=hC.fz;clear hC hg;by_cases hs:bP n=c.r.s
 ·have q1:(bP n==c.r.s)=true:=by simp[hs]
  have E:Hid (aY c.r n={c.r with s:=bP n,t:=dE n,m:=n/32%8,f:=n%32}):=aba (by unfold aY;rw[if_pos hs]);clear hs c7 c8;go_enter func198,ntmps198;go_wp2_with fail;go_end0;refine⟨rfl,?_,(((ak _ _ _ _).one _ _).one _ _).one _ _⟩;rw[E.o];exact(((HC.o.reg (r':={c.r with s:=bP n}) (i:=12) (v:=.bool (bP n)) (by omega) rfl).reg (r':={c.r with s:=bP n,t:=dE n}) (i:=13) (v:=.bool (dE n)) (by omega) rfl).reg (r':={c.r with s:=bP n,t:=dE n,m:=n/32%8}) (i:=11) (v:=iv (n/32%8)) (by omega) rfl).aJ (n%32)
 ·have q1:(bP n==c.r.s)=false:=by simpa using hs
  have E:Hid (aY c.r n={c.r with ys:=c.r.ys.set 3 c.r.o,o:=el c.r.ys 3,s:=bP n,t:=dE n,m:=n/32%8,f:=n%32}):=aba (by unfold aY;rw[if_neg hs]);clear hs;go_enter func198,ntmps198;go_wp2_with fail;go_region;go_wp2_with fail;go_end0;refine⟨rfl,?_,ai ((((((ak _ _ _ _).one _ _).one _ _).one _ _).one _ _).one _ _)⟩;obtain⟨Y,hY⟩:∃Y,Y=c.r.ys.set 3 c.r.o:=⟨_,rfl⟩
  have a1:CAt (w.setCell (abb b 7) (iv c.r.o)) lo b g (c.bC {c.r with ys:=Y}) h:=by rw[hY];exact HC.o.vN h4.o (k:=3) (by omega) c.r.o
  rw[E.o,<-hY];clear hY;have a2:=a1.reg (r':={c.r with ys:=Y,o:=el c.r.ys 3}) (i:=8) (v:=iv (el c.r.ys 3)) (by omega) rfl;have a3:=a2.reg (r':={c.r with ys:=Y,o:=el c.r.ys 3,s:=bP n}) (i:=12) (v:=.bool (bP n)) (by omega) rfl;have a4:=a3.reg (r':={c.r with ys:=Y,o:=el c.r.ys 3,s:=bP n,t:=dE n}) (i:=13) (v:=.bool (dE n)) (by omega) rfl;have a5:=a4.reg (r':={c.r with ys:=Y,o:=el c.r.ys 3,s:=bP n,t:=dE n,m:=n/32%8}) (i:=11) (v:=iv (n/32%8)) (by omega) rfl;have a6:=a5.reg (r':={c.r with ys:=Y,o:=el c.r.ys 3,s:=bP n,t:=dE n,m:=n/32%8,f:=n%32}) (i:=10) (v:=iv (n%32)) (by omega) rfl;exact a6.drew
theorem qy (a:Int) (w:World):Calls prog 271 #[iv a] w fun e w'=>e=.returned (.bool (Pl.addr a))/\w'=w:=by
 by_cases h0:0<=a
 all_goals
  by_cases h1:a<=65535
  all_goals
   go_enter func271,ntmps271;go_wp2;go_ret;exact⟨rB (by simp[Pl.addr,h0,h1]<;>omega),rfl⟩
theorem kP (a:Int) (w:World):Calls prog 270 #[iv a] w fun e w'=>e=.returned (.bool (dS a))/\w'=w:=by
 by_cases h0:1<=a
 all_goals
  by_cases h1:a<=3
  all_goals
   go_enter func270,ntmps270;go_wp2;go_ret;exact⟨rB (by simp[dS,h0,h1]<;>omega),rfl⟩
theorem Ap (a:Int) (w:World) (h0:0<=a) (h1:a<=65535):Calls prog 291 #[iv a] w fun e w'=>e=.returned (.bool (decide (a%2=1)))/\w'=w:=by
 go_enter func291,ntmps291;go_wp2;go_ret;refine⟨rB ?_,rfl⟩;rw[Bool.eq_iff_iff];simp;omega
theorem partOf (a:Int) (w:World):Calls prog 292 #[iv a] w fun e w'=>e=.returned (iv (Pl.kind a))/\w'=w:=by
 by_cases h1:512<=a
 ·have E:Hid (Pl.kind a=1):=aba (by simp[Pl.kind,h1]);go_enter func292,ntmps292;go_wp2;go_ret;exact⟨rI E.o.symm,rfl⟩
 ·by_cases h2:496<=a
  ·have E:Hid (Pl.kind a=0):=aba (by unfold Pl.kind;rw[if_neg (by omega),if_neg (by omega)]);go_enter func292,ntmps292;go_wp2;go_ret;exact⟨rI E.o.symm,rfl⟩
  ·by_cases h3:448<=a
   ·have E:Hid (Pl.kind a=1):=aba (by unfold Pl.kind;rw[if_pos (by omega)]);go_enter func292,ntmps292;go_wp2;go_ret;exact⟨rI E.o.symm,rfl⟩
   ·by_cases h4:384<=a
    ·have E:Hid (Pl.kind a=3):=aba (by unfold Pl.kind;rw[if_neg (by omega),if_pos (by omega)]);go_enter func292,ntmps292;go_wp2;go_ret;exact⟨rI E.o.symm,rfl⟩
    ·have E:Hid (Pl.kind a=0):=aba (by unfold Pl.kind;rw[if_neg (by omega),if_neg (by omega)]);go_enter func292,ntmps292;go_wp2;go_ret;exact⟨rI E.o.symm,rfl⟩
namespace Pl
def uu (k s a v c:Int):Bool:=okv s v&&(dS k&&(addr a&&(decide (0<=c)&&decide (c<=3))))
theorem qj (k s a v c:Int):fP k s a v c=(uu k s a v c && !((k==3)&&(c==0))):=by
 unfold fP uu;rw[Bool.eq_iff_iff];simp only[Bool.and_eq_true,Bool.or_eq_true,Bool.not_eq_true',decide_eq_true_eq,bne_iff_ne,ne_eq,Bool.and_eq_false_iff,beq_eq_false_iff_ne];constructor
 ·rintro⟨a1,a2,a3,a4,a5⟩;exact⟨⟨a2,a1,a3,a4⟩,a5⟩
 ·rintro⟨⟨a2,a1,a3,a4⟩,a5⟩;exact⟨a1,a2,a3,a4,a5⟩
end Pl
theorem wB (k s a v c:Int) (w:World) (lo : -9223372036854775808<=v) (hi:v<=9223372036854775807):Calls prog 237 #[.agg #[iv k,iv s,iv a,iv v,iv c]] w fun e w'=>e=.returned (.bool (uu k s a v c))/\∃o,w'=w.alloc o:=by
 cases h1:okv s v
 ·go_enter func237,ntmps237;go_wp2_with (first|(go_at_call 120;refine st (bY _ _ _ lo hi) ?_;rw[h1])|(go_at_call 270;refine st (kP _ _) ?_)|(go_at_call 271;refine st (qy _ _) ?_));go_ret;exact⟨rB (by unfold uu;rw[h1];rfl),_,rfl⟩
 ·cases h2:dS k
  ·go_enter func237,ntmps237;go_wp2_with (first|(go_at_call 120;refine st (bY _ _ _ lo hi) ?_;rw[h1])|(go_at_call 270;refine st (kP _ _) ?_;rw[h2])|(go_at_call 271;refine st (qy _ _) ?_));go_ret;exact⟨rB (by unfold uu;rw[h1,h2];rfl),_,rfl⟩
  ·cases h3:Pl.addr a
   ·go_enter func237,ntmps237;go_wp2_with (first|(go_at_call 120;refine st (bY _ _ _ lo hi) ?_;rw[h1])|(go_at_call 270;refine st (kP _ _) ?_;rw[h2])|(go_at_call 271;refine st (qy _ _) ?_;rw[h3]));go_ret;exact⟨rB (by unfold uu;rw[h1,h2,h3];rfl),_,rfl⟩
   ·cases h4:decide (0<=c)
    all_goals
     cases h5:decide (c<=3)
     all_goals
      go_enter func237,ntmps237;go_wp2_with (first|(go_at_call 120;refine st (bY _ _ _ lo hi) ?_;rw[h1])|(go_at_call 270;refine st (kP _ _) ?_;rw[h2])|(go_at_call 271;refine st (qy _ _) ?_;rw[h3]));go_ret;exact⟨rB (by unfold uu;rw[h1,h2,h3,h4,h5];rfl),_,rfl⟩
theorem rW (k s a v c:Int) (w:World) (lo : -9223372036854775808<=v) (hi:v<=9223372036854775807):Calls prog 193 #[.agg #[iv k,iv s,iv a,iv v,iv c]] w fun e w'=>e=.returned (.bool (fP k s a v c))/\∃o p,w'=(w.alloc o).alloc p:=by
 cases h1:uu k s a v c
 ·go_enter func193,ntmps193;go_wp2_with (go_at_call 237;refine(wB _ _ _ _ _ _ lo hi).mono ?_;rintro e w'⟨rfl,o,rfl⟩;rw[h1]);go_ret;exact⟨rB (by rw[qj,h1];rfl),_,_,rfl⟩
 ·cases h2:(k==3)
  ·go_enter func193,ntmps193;go_wp2_with (go_at_call 237;refine(wB _ _ _ _ _ _ lo hi).mono ?_;rintro e w'⟨rfl,o,rfl⟩;rw[h1]);go_ret;exact⟨rB (by rw[qj,h1,h2];rfl),_,_,rfl⟩
  ·cases h3:(c==0)
   all_goals
    go_enter func193,ntmps193;go_wp2_with (go_at_call 237;refine(wB _ _ _ _ _ _ lo hi).mono ?_;rintro e w'⟨rfl,o,rfl⟩;rw[h1]);go_ret;exact⟨rB (by rw[qj,h1,h2,h3];rfl),_,_,rfl⟩
theorem ZQ (v:Int):okv 1 v=jD v:=by
 unfold okv jD Pl.top;rw[Bool.eq_iff_iff];simp;omega
theorem isByte (v:Int) (w:World) (lo : -9223372036854775808<=v) (hi:v<=9223372036854775807) :
  Calls prog 170 #[iv v] w fun e w'=>e=.returned (.bool (jD v))/\w'=w:=by
 go_enter func170,ntmps170;go_wp2_with (go_at_call 120;refine st (bY _ _ _ lo hi) ?_;rw[ZQ]);go_ret;exact⟨rfl,rfl⟩
theorem wX (w:World) (a:Option Addr) (ca:Nat) (xs:List Int) (ha:Came w a xs) (lx:xs.length<=2000000) :
  Calls prog 192 #[.slice a xs.length ca] w fun e w'=>e=.returned (.bool (bf xs))/\w'=w:=by
 have HA:=aba ha;clear ha;go_enter func192,ntmps192;go_wp2;go_loop [4,7] (fun _ j=>∃k:Nat,k<=xs.length/\j=iv k/\∀i,i<k->jD (el xs i)=true) (fun _ j=>xs.length-(intOf j).toNat)
 case atStart=>exact⟨0,Nat.zero_le _,rfl,fun i hi=>absurd hi (Nat.not_lt_zero i)⟩
 case round=>
  obtain⟨k,hk,rfl,heq⟩:=hrel;have HE:=aba heq;clear heq;by_cases hlt:k<xs.length
  ·obtain⟨g1,o1,rfl,hc1⟩:=HA.o.1 k hlt;obtain⟨lo,hi⟩:=HA.o.2 k hlt;rw[show xs[k]?.getD 0=el xs k from rfl]at hc1 lo hi;cases hb:jD (el xs k)
   ·go_wp2_with (go_at_call 170;refine st (isByte _ _ lo hi) ?_;rw[hb]);go_ret;exact⟨rB (wR hlt hb).symm,rfl⟩
   ·go_wp2_with (go_at_call 170;refine st (isByte _ _ lo hi) ?_;rw[hb]);go_round
    case rel=>exact⟨k+1,by omega,by go_num,kW HE.o hb⟩
    case measure=>simp[intOf];omega
  ·go_wp2;go_ret;exact⟨rB (ru (fun i hi=>HE.o i (by omega))).symm,rfl⟩
theorem We.at5 {ys:List Int} (h:We ys) {m k:Nat} (hl:ys.length=5*m) (hk:k<m) : -9223372036854775808<=el ys (k*5+3)/\el ys (k*5+3)<=9223372036854775807:=h (k*5+3) (by omega)
theorem eG (w:World) (a b:Option Addr) (ca cb m:Nat) (xs ys:List Int) (ha:Came w a xs) (hb:Came w b ys) (lx:xs.length<=2000000) (ly:ys.length=5*m) (bm:m<=2000000) :
  Calls prog 138 #[.agg #[.slice a xs.length ca,.slice b m cb]] w fun e w'=>e=.returned (.bool (Pl.eG xs ys m))/\Kept 0 0 w w':=by
 have HA:=aba ha;have HB:=aba hb;have HY:=aba ly;have HK0:=aba (kept_alloc w (.cells #[.slice a xs.length ca,.slice b m cb] 38));clear ha hb ly;cases h1:((xs.length:Int) != 512)
 ·have hl5:xs.length=512:=by simp at h1;omega
  have G:Hid (Pl.eG xs ys m=(jF ys m&&(bf xs&&decide (m<=400)))):=aba (by
   unfold Pl.eG
   rw[show decide (xs.length=512)=true from by simp[hl5],Bool.true_and])
  clear hl5;cases h2:bf xs
  ·go_enter func138,ntmps138;go_wp2_with (go_at_call 192;refine st (wX _ a ca xs (HA.o.ag HK0.o) lx) ?_;rw[h2]);go_ret;exact⟨rB (by rw[G.o,h2,Bool.false_and,Bool.and_false]),HK0.o⟩
  ·cases h3:decide ((400:Int)<(m:Int))
   ·go_enter func138,ntmps138;go_wp2_with (first|(go_at_call 192;refine st (wX _ a ca xs (HA.o.ag HK0.o) lx) ?_;rw[h2])|fail);obtain⟨W,hW⟩:∃W:World,W=w.alloc (.cells #[.slice a xs.length ca,.slice b m cb] 38):=⟨_,rfl⟩
    rw[<-hW]at HK0 ⊢;clear hW;go_loopw [4,24] (fun _ j wr=>∃k:Nat,k<=m/\j=iv k/\(∀i,i<k->sN ys i=true)/\Kept 0 0 W wr) (fun _ j _=>m-(intOf j).toNat)
    case atStart=>exact⟨0,Nat.zero_le _,rfl,fun i hi=>absurd hi (Nat.not_lt_zero i),Kept.refl _ _ _⟩
    case round=>
     obtain⟨k,hk,rfl,heq,hkept⟩:=hrel;have HE:=aba heq;have HK:=aba hkept;clear heq hkept;by_cases hlt:k<m
     ·obtain⟨lo,hi⟩:=HB.o.2.at5 HY.o hlt;obtain⟨g1,o1,rfl,p0,p1,p2,p3,p4⟩:=((HB.o.ag (HK0.o.trans HK.o)).1).five HY.o hlt;cases hb:sN ys k
      ·have hb2:fP (el ys (k*5)) (el ys (k*5+1)) (el ys (k*5+2)) (el ys (k*5+3)) (el ys (k*5+4))=false:=hb;clear hb;go_wp2_with (go_at_call 193;refine(rW _ _ _ _ _ _ lo hi).mono ?_;rintro e w'⟨rfl,o,p,rfl⟩;rw[hb2]);go_ret;exact⟨rB (by unfold Pl.eG;rw[xU hlt hb2];rfl),HK0.o.trans (ah (ah (ah HK.o _) _) _)⟩
      ·have hb2:fP (el ys (k*5)) (el ys (k*5+1)) (el ys (k*5+2)) (el ys (k*5+3)) (el ys (k*5+4))=true:=hb;clear hb;go_wp2_with (go_at_call 193;refine(rW _ _ _ _ _ _ lo hi).mono ?_;rintro e w'⟨rfl,o,p,rfl⟩;rw[hb2]);go_roundw
       case rel=>exact⟨k+1,by omega,by go_num,kW HE.o hb2,ah (ah (ah HK.o _) _) _⟩
       case measure=>simp[intOf];omega
     ·have HA1:Hid (jF ys m=true):=aba (xR (fun i hi=>HE.o i (by omega)));go_wp2_with fail;go_ret;refine⟨rB ?_,HK0.o.trans HK.o⟩;rw[G.o,HA1.o,h2];simp at h3;simp;omega
   ·go_enter func138,ntmps138;go_wp2_with (go_at_call 192;refine st (wX _ a ca xs (HA.o.ag HK0.o) lx) ?_;rw[h2]);go_ret;refine⟨rB ?_,HK0.o⟩;rw[G.o];simp at h3;rw[show decide (m<=400)=false from by simp;omega];simp
 ·have hl5:Hid (¬xs.length=512):=aba (by simp at h1;omega);go_enter func138,ntmps138;go_wp2_with (go_at_call 192;fail);go_ret;refine⟨rB ?_,HK0.o⟩;unfold Pl.eG;rw[show decide (xs.length=512)=false from by simp[hl5.o]];simp
def zeros:List Int:=List.replicate 512 0
theorem eX:zeros.length=512:=List.length_replicate ..
theorem Tryz.EP:(prog.info? 154).map (fun i=>(i.zero,i.size))=some (some (.agg (cellsOf zeros)),512):=by kernel_rfl
theorem Tryz.PS:∀w,(zeroValue 154).run prog w=.ok (.agg (cellsOf zeros)) w:=(zero_of_info Tryz.EP).1
theorem Tryz.yF:(prog.info? 154).map (·.size)=some 512:=(zero_of_info Tryz.EP).2
theorem JS (w : World) (a b : Option Addr) (ca cb m : Nat) (xs : List Int) (ha : aF w a xs) (lx : xs.length = 512) :
    Calls prog 177 #[.agg #[.slice a xs.length ca, .slice b m cb]] w fun e w' => e = .returned (.agg (cellsOf xs)) /\ Kept 0 0 w w' := by
  obtain⟨ga, oa, rfl, _⟩ := ha 0 (by omega);have HA := aba ha;have HX := aba lx;clear ha lx;have mz := Tryz.PS;have HS : Hid ((prog.info? 3).map (·.size) = some 1) := aba (by kernel_rfl);go_enter func177, ntmps177;go_wp2_with fail;have K := aba (ah (ah (kept_alloc w (.cells #[.slice (some ⟨ga, oa, none⟩) xs.length ca, .slice b m cb] 38)) (.cells (cellsOf zeros) 154)) (.cells (cellsOf zeros) 154));have B0 := (((Blk.new w #[.slice (some ⟨ga, oa, none⟩) xs.length ca, .slice b m cb] 38).alloc (.cells (cellsOf zeros) 154)).alloc (.cells (cellsOf zeros) 154))
  have B1 := ((Blk.new (w.alloc (.cells #[.slice (some ⟨ga, oa, none⟩) xs.length ca, .slice b m cb] 38)) (cellsOf zeros) 154).alloc (.cells (cellsOf zeros) 154))
  have B2 := Blk.new ((w.alloc (.cells #[.slice (some ⟨ga, oa, none⟩) xs.length ca, .slice b m cb] 38)).alloc (.cells (cellsOf zeros) 154)) (cellsOf zeros) 154;simp only[World.size_alloc]at B1 B2;obtain⟨W, hW⟩ : ∃ W : World, W = (((w.alloc (.cells #[.slice (some ⟨ga, oa, none⟩) xs.length ca, .slice b m cb] 38)).alloc (.cells (cellsOf zeros) 154)).alloc (.cells (cellsOf zeros) 154)) := ⟨_, rfl⟩
  rw[<- hW]at K B0 B1 B2 ⊢;clear hW;have p0 := B0.cell (i := 0) rfl;have H1 := aba B1;have H2 := aba B2;clear B0 B1 B2;have HZ : Hid ((prog.info? 154).map (·.size) = some (cellsOf xs).size) := aba (by rw[cellsOf_size, HX.o]; exact Tryz.yF);have HZ2 : Hid ((cellsOf zeros).size = (cellsOf xs).size) := aba (by rw[cellsOf_size, cellsOf_size, HX.o, eX]);have HN : Hid ((xs.map (Value.int .i64)).length = Nat.min xs.length 512) := aba (by rw[HX.o]; simp[HX.o]);have HF : Hid (0 + (xs.map (Value.int .i64)).length <= (zeros.map (Value.int .i64)).length) := aba (by simp[HX.o, eX])
  go_region_law (refine step_copy_splice rfl (.tmp 4) (.tmp 6) 22 22 rfl 3 underlying22 HS.o _ _ _ _ _ _ rfl rfl (w.heap.size + 1 + 1) 0 (zeros.map (Value.int .i64)) 154 ?hg (xs.map (Value.int .i64)) HN.o ?hpos HF.o iH (w.heap.size + 1 + 1) W ?hb (Nat.le_refl _) ?_
                 (case hg => exact H2.o)
                 (case hb => exact(Below.refl _ W).drew)
                 (case hpos => intro _; exact⟨rfl, _, rfl, iO (HA.o.ag (ai K.o))⟩)
                 intro w4 hg4 hb4)
  all_goals
    have D2 : Hid (Blk w4 (w.heap.size + 1 + 1) (cellsOf xs) 154) := aba (by
      have h := hg4.o;rw[Ci (by simp[HX.o, eX])]at h
      exact h)
    have D1 : Hid (Blk w4 (w.heap.size + 1) (cellsOf zeros) 154) := aba ((hb4.block _ (by omega)).trans H1.o);have K4 : Hid (Kept 0 0 w w4) := aba (fA K.o hb4 (by omega));clear hg4 hb4;go_wp2_with (first | (refine wpList_load_row rfl 154 (.tmp 3) rfl (w.heap.size + 1 + 1) rfl 154 (cellsOf xs) (0, 0) _ D2.o underlying154 rfl HZ.o ?_) | (refine wpList_store_row rfl 154 (.tmp 2) (.tmp 8) rfl (w.heap.size + 1) (cellsOf xs) rfl rfl 154 (cellsOf zeros) D1.o HZ.o HZ2.o (uB xs) ?_));refine bodyPost_ret (v := .agg (cellsOf xs)) ?_ rfl ⟨rfl, lS K4.o _ _ (by omega)⟩;exact results_cell_row rfl _ _ _ _ _ (0, 0) _ rfl D1.o.setRow underlying154 rfl HZ.o
theorem PU (w:World) (xs:List Int) (lx:xs.length=512) :
  Calls prog 181 #[.agg (cellsOf xs)] w fun e w'=>∃g:Nat,e=.returned (.slice (some (abb g 0)) 512 512)/\Blk w' g (cellsOf xs) 3/\w.heap.size<=g/\Kept 0 0 w w':=by
 obtain⟨i,hi,hz0,hz1,hz2⟩:=info_parts Tryz.info3;have HS:Hid ((prog.info? 3).map (·.size)=some 1):=aba (by kernel_rfl);have HX:=aba lx;clear lx;go_enter func181,ntmps181;go_wp2_with (first|(at_make;refine wpList_make_full _ rfl _ _ 22 rfl w.heap.size 3 i (iv 0) 1 underlying22 hi hz0 hz1 _ _ _ _ 512 rfl rfl rfl rfl ?c1 ?c2 ?c3 ?_))
 case c1=>rw[hz2];decide
 case c2=>unfold maxLen;decide
 case c3=>simp
 intro w1 hown hg;have K1:=aba ((kept_alloc w (.cells (cellsOf xs) 154)).trans (aS hg));have B0:=aba ((Blk.new w (cellsOf xs) 154).ae (aS hg))
 have B1:Hid (Blk w1 (w.heap.size+1) (cellsOf zeros) 3):=aba (by
  have h:=wU hown
  have e:(madeCells #[Value.int .i64 0] 512).toList=zeros.map (Value.int .i64):=by
   rw[toList_madeCells_one,zeros,List.map_replicate]
  rw[e]at h
  exact h)
 clear hown hg;have HR:Hid (aF w1 (some (abb w.heap.size 0)) xs):=aba (iG B0.o).row
 have hcopy:(Builtin.copy_ #[22,22] 3 #[.slice (some (abb (w.heap.size+1) 0)) 512 512,.slice (some (abb w.heap.size 0)) 512 512]).run prog w1=.ok (iv 512) (w1.setRow (w.heap.size+1) (cellsOf xs)):=by
  have h:=run_copy_row prog w1 22 22 3 3 (w.heap.size+1) 0 512 512 (abb w.heap.size 0) 512 512 (cellsOf zeros) 3 (xs.map (Value.int .i64)) underlying22 HS.o B1.o (by simp[HX.o]) (iO HR.o) (by simp[HX.o,cellsOf_size,eX]) iH;rw[h]
  have e:(List.take 0 (cellsOf zeros).toList++xs.map (Value.int .i64)++List.drop (0+(xs.map (Value.int .i64)).length) (cellsOf zeros).toList)=xs.map (Value.int .i64):=by
   rw[List.drop_eq_nil_of_le (by simp[HX.o,cellsOf_size,eX])];simp
  rw[e,show(xs.map (Value.int .i64)).length=512 by simp[HX.o]];rfl
 go_wp2_with fail;have hl:=B1.o.lt;refine bodyPost_ret (results_tmp rfl _ _ _) rfl ⟨w.heap.size+1,rfl,B1.o.setRow,by omega,lS K1.o _ _ (by omega)⟩
theorem Ep (w:World) (xs:List Int) (s n:Nat) (lx:xs.length=512) (hb:bf xs=true) (s0:1<=s) (s1:s<=2) (hn:n+s<=512) :
  Calls prog 294 #[.agg (cellsOf xs),iv s,iv n] w fun e w'=>e=.returned (iv (Pl.rd xs s n))/\Kept 0 0 w w':=by
 have HX:=aba lx;have HO:=aba (iG (Blk.new w (cellsOf xs) 154));have HK:=aba (kept_alloc w (.cells (cellsOf xs) 154));have HB:=aba hb;have HS0:=aba s0;have HN:Hid (n+s<=512):=aba hn;clear lx hb
 have hsl:∀W:World,(Instr.sliceAt 154 (.pointer (some (abb w.heap.size 0))) (some (iv (n:Int))) (some (iv ((n:Int)+(s:Int)))) none).run prog W=.ok (.slice (some ⟨w.heap.size,n,none⟩) s (512-n)) W:=by
  intro W;have hlen:prog.arrayLen 154=512:=by kernel_rfl
  have hel:prog.elem 154=3:=by kernel_rfl
  have ht:prog.underlying 154=some (.array (prog.arrayLen 154) (prog.elem 154)):=by kernel_rfl
  obtain⟨i,hi,hz0,hz1,hz2⟩:=info_parts Tryz.info3;rw[run_sliceAt_array_lh W 154 _ ht .i64 .i64 n ((n:Int)+(s:Int)) (by omega) (by omega) (by rw[hlen];omega),hlen,hel];have e1:((n:Int)).toNat=n:=by omega
  have e2:((n:Int)+(s:Int)).toNat-n=s:=by omega
  have q1:¬512=n:=by omega
  simp only[sizeOf,typeInfo,Sem.run_bind,Sem.run_pure,slicedAt,e1,e2,q1,if_false];simp[hi,hz1,Addr.add];intro h0;exact h0.symm
 go_enter func294,ntmps294;go_wp2_with fail;go_loop [7,9,16] (fun v _ j=>∃k:Nat,k<=s/\j=iv k/\v=iv (rdK xs n k)) (fun _ _ j=>s-(intOf j).toNat)
 case atStart=>exact⟨0,Nat.zero_le _,rfl,rfl⟩
 case round=>
  obtain⟨k,hk,rfl,rfl⟩:=hrel;by_cases hlt:k<s
  ·obtain⟨hc,_⟩:=HO.o (n+k) (by rw[HX.o];omega);have b0:=dH HB.o n (by rw[HX.o];omega);have b1:=dH HB.o (n+k) (by rw[HX.o];omega);rw[show xs[n+k]?.getD 0=el xs (n+k) from rfl]at hc;obtain⟨b00,b01⟩:=b0;obtain⟨b10,b11⟩:=b1;by_cases hk0:k=0
   ·subst hk0;have hor:=uJ (h:=0) (by decide) (by decide) b10 b11;rw[Int.zero_mul,Int.zero_add]at hor;rw[Nat.add_zero]at hc hor b10 b11;rw[show rdK xs n 0=0 from rfl];go_wp2;go_round
    case rel=>exact⟨1,by omega,rfl,rfl⟩
    case measure=>simp[intOf];omega
   ·obtain rfl:k=1:=by omega
    have hor:=uJ b00 b01 b10 b11;rw[show rdK xs n 1=el xs n from rfl];go_wp2;go_round
    case rel=>exact⟨2,by omega,rfl,rfl⟩
    case measure=>simp[intOf];omega
  ·have E:Hid (rdK xs n k=Pl.rd xs s n):=aba (by
    have:k=1\/k=2:=by omega
    unfold rdK Pl.rd;rcases this with rfl|rfl
    ·rw[if_neg (by decide),if_pos rfl,if_pos (by omega)]
    ·rw[if_neg (by decide),if_neg (by decide),if_neg (by omega)])
   go_wp2;go_ret;exact⟨rI E.o,HK.o⟩
theorem codeOf (k s a v c:Int) (w:World) (hs:s=1\/s=2) (a0:0<=a) (a1:a<=65535) :
  Calls prog 267 #[.agg #[iv k,iv s,iv a,iv v,iv c]] w fun e w'=>e=.returned (iv (Pl.code k s a))/\∃o,w'=w.alloc o:=by
 have G:Hid (Pl.code k s a=if ((s==2)&&decide (a%2=1)) then 2 else if ((Pl.kind a==3)&&(k != 2)) then 0 else Pl.kind a):=aba (by
  rw[Ht hs]
  simp only[Bool.and_eq_true,beq_iff_eq,decide_eq_true_eq,bne_iff_ne,ne_eq])
 cases h1:(s==2)
 ·cases h3:(Pl.kind a==3)
  ·rw[h1,h3]at G;go_enter func267,ntmps267;go_wp2_with (first|(go_at_call 291;refine st (Ap _ _ a0 a1) ?_)|(go_at_call 292;refine st (partOf _ _) ?_));go_ret;exact⟨rI (by rw[G.o];simp),_,rfl⟩
  ·cases h4:(k != 2)
   all_goals
    rw[h1,h3,h4]at G;go_enter func267,ntmps267;go_wp2_with (first|(go_at_call 291;refine st (Ap _ _ a0 a1) ?_)|(go_at_call 292;refine st (partOf _ _) ?_));go_ret;exact⟨rI (by rw[G.o];simp),_,rfl⟩
 ·cases h2:decide (a%2=1)
  ·cases h3:(Pl.kind a==3)
   ·rw[h1,h2,h3]at G;go_enter func267,ntmps267;go_wp2_with (first|(go_at_call 291;refine st (Ap _ _ a0 a1) ?_;rw[h2])|(go_at_call 292;refine st (partOf _ _) ?_));go_ret;exact⟨rI (by rw[G.o];simp),_,rfl⟩
   ·cases h4:(k != 2)
    all_goals
     rw[h1,h2,h3,h4]at G;go_enter func267,ntmps267;go_wp2_with (first|(go_at_call 291;refine st (Ap _ _ a0 a1) ?_;rw[h2])|(go_at_call 292;refine st (partOf _ _) ?_));go_ret;exact⟨rI (by rw[G.o];simp),_,rfl⟩
  ·rw[h1,h2]at G;go_enter func267,ntmps267;go_wp2_with (first|(go_at_call 291;refine st (Ap _ _ a0 a1) ?_;rw[h2])|(go_at_call 292;refine st (partOf _ _) ?_));go_ret;exact⟨rI (by rw[G.o];simp),_,rfl⟩
theorem JU (w:World) (xs:List Int) (s:Int) (n:Nat) (lx:xs.length=512) (hb:bf xs=true) (hs:s=1\/s=2) (hn:(n:Int)+s<=512) :
  Calls prog 294 #[.agg (cellsOf xs),iv s,iv n] w fun e w'=>e=.returned (iv (Pl.rd xs s n))/\Kept 0 0 w w':=by
 rcases hs with rfl|rfl
 ·exact Ep w xs 1 n lx hb (by decide) (by decide) (by omega)
 ·exact Ep w xs 2 n lx hb (by decide) (by decide) (by omega)
theorem aaE {w:World} {q:Nat} {k s a v c:Int} {ty:TypeId} (h:Blk w q #[iv k,iv s,iv a,iv v,iv c] ty):w.cell? (abb q 1)=some (iv s)/\w.cell? (abb q 2)=some (iv a)/\w.cell? (abb q 3)=some (iv v):=
 ⟨h.cell (i:=1) rfl,h.cell (i:=2) rfl,h.cell (i:=3) rfl⟩
theorem YH {w:World} {q:Nat} {k s a v c:Int} {ty:TypeId} (h:Blk w q #[iv k,iv s,iv a,iv v,iv c] ty):w.cell? (abb q 1)=some (iv s)/\w.cell? (abb q 2)=some (iv a):=
 ⟨h.cell (i:=1) rfl,h.cell (i:=2) rfl⟩
namespace Pl
theorem Xo {xs:List Int} {s:Int} {i:Nat} (hb:bf xs=true) (hs:s=1\/s=2) (hi:(i:Int)+s<=xs.length):0<=rd xs s i/\rd xs s i<=(if s=1 then 255 else 65535):=by
 unfold rd;rcases hs with rfl|rfl
 ·rw[if_pos rfl,if_pos rfl];exact dH hb i (by omega)
 ·rw[if_neg (by decide),if_neg (by decide)];have:=dH hb i (by omega);have:=dH hb (i+1) (by omega);omega
theorem Ri (k s a:Int):0<=code k s a/\code k s a<=3:=by
 unfold code;repeat' split
 all_goals omega
theorem Tt {xs:List Int} {k s a v:Int} (hl:xs.length=512) (hb:bf xs=true) (h:eU k s a v=true):0<=lv xs k s a v/\lv xs k s a v<=(if s=1 then 255 else 65535):=by
 obtain⟨_,hs,v0,⟨a0,a1⟩,_⟩:=ry h;unfold lv;split
 ·rename_i hc;have:=sG hc.1 a0;exact Xo hb (by omega) (by omega)
 ·rcases hs with⟨rfl,h1⟩|⟨rfl,h1⟩
  ·rw[if_pos rfl];omega
  ·rw[if_neg (by decide)];omega
theorem Oa {xs:List Int} {k s a v:Int} (hl:xs.length=512) (hb:bf xs=true) (h:eU k s a v=true):fP k s a (lv xs k s a v) (code k s a)=((k != 3)||(code k s a != 0)):=by
 have hv:=Tt hl hb h;have hc:=Ri k s a;obtain⟨hk,hs,_,⟨a0,a1⟩,_⟩:=ry h;have e1:dS k=true:=by simp[dS];omega
 have e2:okv s (lv xs k s a v)=true:=by
  unfold okv top;rcases hs with⟨rfl,_⟩|⟨rfl,_⟩
  ·rw[if_pos rfl]at hv;simp;omega
  ·rw[if_neg (by decide)]at hv;simp;omega
 have e3:addr a=true:=by simp[addr];omega
 have e4:(decide (0<=code k s a)&&decide (code k s a<=3))=true:=by simp;omega
 unfold fP;rw[e1,e2,e3,e4];rfl
end Pl
theorem Blk.Jc {w:World} {b:Nat} {r:Rg} {st:Bool} {ha:Hl} {xs:List Int} {u:Value} {ty:TypeId} (h:Blk w b (cor r xs u st ha) ty) {i:Nat} (hi:i<xs.length) (z:Int):Blk (w.setCell ⟨b,14+i,none⟩ (iv z)) b (cor r (xs.set i z) u st ha) ty:=by
 have:=h.set (14+i) (iv z)
 rwa [Ns hi]at this
theorem Blk.Xc {w:World} {b:Nat} {r:Rg} {st:Bool} {ha:Hl} {xs:List Int} {u:Value} {ty:TypeId} (h:Blk w b (cor r xs u st ha) ty) (hl:xs.length=512) (u':Value):Blk (w.setCell (abb b 526) u') b (cor r xs u' st ha) ty:=by
 have:=h.set 526 u'
 rwa [Nk hl]at this
theorem Hq {w:World} {b:Nat} {r:Rg} {st:Bool} {ha:Hl} {xs:List Int} {u:Value} {ty:TypeId} (h:Blk w b (cor r xs u st ha) ty) (lx:xs.length=512):w.rangeAt b 14 (xs.map (Value.int .i64))/\w.cell? (abb b 526)=some u:=by
 refine⟨?_,h.cell (kQ lx)⟩;intro j v hv
 have hj:j<xs.length:=by
  rcases Nat.lt_or_ge j xs.length with h'|h'
  ·exact h'
  ·rw[List.getElem?_eq_none (by simpa using h')]at hv;cases hv
 refine h.cell ?_;rw[wM hj];simpa[el,hj] using hv
theorem DJ (w:World) {R:Rg} {ST:Bool} {HA:Hl} (b:Nat) (u:Value) (ty:TypeId) (xs:List Int) (n:Nat) (v:Int) (hB:Blk w b (cor R xs u ST HA) ty) (lx:xs.length=512) (hn:n+1<=512) (v0:0<=v) (v1:v<=255) :
  Calls prog 293 #[.pointer (some (abb b 14)),iv 1,iv n,iv v] w fun e w'=>e=.returned (.tuple #[])/\Blk w' b (cor R (xs.set n v) u ST HA) ty/\Kept b (b+1) w w':=by
 have HB:=aba hB;have LX:=aba lx;have c0:=hB.cell (wM (r:=R) (u:=u) (st:=ST) (ha:=HA) (i:=n) (by omega));have f0:=hB.frozen (14+n);have e255:=gY v;have e0:v%256=v:=by omega
 rw[e0]at e255;have i0:(0:Int)<=(n:Int):=by omega
 have i1:(n:Int)<512:=by omega
 clear hB lx e0;go_enter func293,ntmps293;go_wp2_with fail;go_loopw [3,8] (fun x i wr=>(i=iv n/\x=iv v/\wr=w)\/(i=iv ((n:Int)-1)/\Blk wr b (cor R (xs.set n v) u ST HA) ty/\Kept b (b+1) w wr)) (fun _ i _=>(intOf i-n+1).toNat)
 case atStart=>exact .inl ⟨by go_num,rfl,rfl⟩
 case round=>
  rcases hrel with⟨rfl,rfl,rfl⟩|⟨rfl,hb,hk⟩
  ·go_wp2;go_roundw
   case rel=>exact .inr ⟨rfl,HB.o.Jc (by rw[LX.o];omega) v,af (Kept.refl _ _ _) _ _ _ (.inl (by omega))⟩
   case measure=>simp[intOf];omega
  ·have HB2:=aba hb;have HK2:=aba hk;clear hb hk;have hd:decide ((n:Int)<=(n:Int)-1)=false:=by simp;omega
   go_wp2;go_end0;exact⟨rfl,HB2.o,HK2.o⟩
theorem DI (w:World) {R:Rg} {ST:Bool} {HA:Hl} (b:Nat) (u:Value) (ty:TypeId) (xs:List Int) (n:Nat) (v:Int) (hB:Blk w b (cor R xs u ST HA) ty) (lx:xs.length=512) (hn:n+2<=512) (v0:0<=v) (v1:v<=65535) :
  Calls prog 293 #[.pointer (some (abb b 14)),iv 2,iv n,iv v] w fun e w'=>e=.returned (.tuple #[])/\Blk w' b (cor R ((xs.set n (v/256)).set (n+1) (v%256)) u ST HA) ty/\Kept b (b+1) w w':=by
 have HB:=aba hB;have LX:=aba lx;have c1:=hB.cell (wM (r:=R) (u:=u) (st:=ST) (ha:=HA) (i:=n+1) (by omega));have f1:=hB.frozen (14+(n+1));have e255:=gY v;have e256:=gY (v/256);have e0:v/256%256=v/256:=by omega
 rw[e0]at e256;have i0:(0:Int)<=(n:Int):=by omega
 have i1:(n:Int)+1<512:=by omega
 have i2:(0:Int)<=(n:Int)+1:=by omega
 have i3:(n:Int)<512:=by omega
 clear hB lx e0;go_enter func293,ntmps293;go_wp2_with fail;go_loopw [3,8] (fun x i wr=>(i=iv ((n:Int)+1)/\x=iv v/\wr=w)\/(i=iv n/\x=iv (v/256)/\Blk wr b (cor R (xs.set (n+1) (v%256)) u ST HA) ty/\Kept b (b+1) w wr)\/(i=iv ((n:Int)-1)/\Blk wr b (cor R ((xs.set (n+1) (v%256)).set n (v/256)) u ST HA) ty/\Kept b (b+1) w wr)) (fun _ i _=>(intOf i-n+1).toNat)
 case atStart=>exact .inl ⟨by go_num,rfl,rfl⟩
 case round=>
  rcases hrel with⟨rfl,rfl,rfl⟩|⟨rfl,rfl,hb,hk⟩|⟨rfl,hb,hk⟩
  ·go_wp2;go_roundw
   case rel=>exact .inr (.inl ⟨by go_num,by go_num,HB.o.Jc (by rw[LX.o];omega) _,af (Kept.refl _ _ _) _ _ _ (.inl (by omega))⟩)
   case measure=>simp[intOf];omega
  ·have HB2:=aba hb;have HK2:=aba hk;have c0:=hb.cell (wM (r:=R) (u:=u) (st:=ST) (ha:=HA) (i:=n) (by rw[List.length_set,LX.o];omega));have f0:=hb.frozen (14+n);clear hb hk c1 f1;go_wp2;go_roundw
   case rel=>exact .inr (.inr ⟨rfl,HB2.o.Jc (by rw[List.length_set,LX.o];omega) _,af HK2.o _ _ _ (.inl (by omega))⟩)
   case measure=>simp[intOf];omega
  ·have HB2:=aba hb;have HK2:=aba hk;clear hb hk;have hd:decide ((n:Int)<=(n:Int)-1)=false:=by simp;omega
   go_wp2;go_end0;refine⟨rfl,?_,HK2.o⟩;have h:=HB2.o;rw[List.set_comm _ _ (by omega)]at h;exact h
theorem H7 (w:World) {R:Rg} {ST:Bool} {HA:Hl} (b:Nat) (u:Value) (ty:TypeId) (xs:List Int) (s:Int) (n:Nat) (v:Int) (hB:Blk w b (cor R xs u ST HA) ty) (lx:xs.length=512) (hs:(s=1/\v<=255)\/(s=2/\v<=65535)) (hn:(n:Int)+s<=512) (v0:0<=v) :
  Calls prog 293 #[.pointer (some (abb b 14)),iv s,iv n,iv v] w fun e w'=>e=.returned (.tuple #[])/\Blk w' b (cor R (Pl.wr xs s n v) u ST HA) ty/\Kept b (b+1) w w':=by
 rcases hs with⟨rfl,hv⟩|⟨rfl,hv⟩
 ·exact DJ w b u ty xs n v hB lx (by omega) v0 hv
 ·exact DI w b u ty xs n v hB lx (by omega) v0 hv
theorem Bg (w:World) {R:Rg} {ST:Bool} {HA:Hl} (b q:Nat) (u:Value) (xs:List Int) (s:Int) (n:Nat) (v c:Int) (hB:Blk w b (cor R xs u ST HA) HA.t.y) (hQ:Blk w q #[iv 2,iv s,iv n,iv v,iv c] 179) (lx:xs.length=512) (hs:(s=1/\v<=255)\/(s=2/\v<=65535)) (hn:(n:Int)+s<=512) (v0:0<=v) (hne:q≠b) :
  Calls prog 268 #[.pointer (some (abb b 14)),.pointer (some (abb q 0))] w fun e w'=>e=.returned (.tuple #[])/\Blk w' b (cor R (Pl.wr xs s n v) u ST HA) HA.t.y/\Kept b (b+1) w w':=by
 have HB:=aba hB;have HX:=aba lx;have HS:=aba hs;have HN:=aba hn;have HQ:=aba hQ;have q0:=hQ.all;clear hB hQ lx hs hn;go_enter func268,ntmps268;go_wp2_with fail
 go_region_held3 (fun w'=>w'.cell? (abb q 1)=some (iv s)/\w'.cell? (abb q 2)=some (iv n)/\w'.cell? (abb q 3)=some (iv v)) (first|exact aaE Q3.o|go_keep)
  (first|(go_at_call 293;refine(H7 _ b u HA.t.y xs s n v (HB.o.ae (ai (Kept.refl _ _ _))) HX.o HS.o HN.o v0).mono ?_;rintro e w3⟨rfl,hb3,kd⟩;have B3:=aba hb3;have K3:=aba (aP kd);have Q3:=aba (HQ.o.kept (aP kd) (by omega));clear hb3 kd))
 go_wp2_with fail;refine bodyPost_ret (results_none rfl _ _ _) rfl ⟨rfl,B3.o,K3.o⟩
theorem Bh (w:World) {R:Rg} {ST:Bool} {HA:Hl} (b q:Nat) (u:Value) (xs:List Int) (k s:Int) (n:Nat) (v c:Int) (hB:Blk w b (cor R xs u ST HA) HA.t.y) (hQ:Blk w q #[iv k,iv s,iv n,iv v,iv c] 179) (lx:xs.length=512) (hby:bf xs=true) (hk:¬k=2) (hs:s=1\/s=2) (hn:(n:Int)+s<=512) (hne:q≠b) :
  Calls prog 268 #[.pointer (some (abb b 14)),.pointer (some (abb q 0))] w fun e w'=>e=.returned (.tuple #[])/\Blk w' q #[iv k,iv s,iv n,iv (Pl.rd xs s n),iv c] 179/\Kept q (q+1) w w':=by
 have HB:=aba hB;have HX:=aba lx;have HS:=aba hs;have HN:=aba hn;have HQ:=aba hQ;have HBY:=aba hby
 have hu:=underlying154;have hcs:(xs.map (Value.int .i64)).length=512:=by rw[List.length_map,lx]
 have hi:(prog.info? 154).map (·.size)=some (xs.map (Value.int .i64)).length:=by rw[hcs];exact Tryz.yF
 have h1:∀v∈xs.map (Value.int .i64),v.oneCell'=true:=iH;have q0:=hQ.all;have r1:=(Hq hB lx).1;have k2:(k==2)=false:=by simpa using hk
 clear hB hQ lx hs hn hk hby
 go_enter func268,ntmps268;go_wp2_with fail
 go_region_held3 (fun w'=>w'.rangeAt b 14 (xs.map (Value.int .i64))/\w'.cell? (abb q 1)=some (iv s)/\w'.cell? (abb q 2)=some (iv n)) (first|exact⟨(Hq B3.o HX.o).1,YH Q3.o⟩|exact⟨(Hq (B3.o.other _ _ _ (fun e=>hne e.symm)) HX.o).1,YH (Q3.o.set 3 _)⟩|go_keep_ranges|go_keep)
  (first|(go_at_call 294;refine(JU _ xs s n HX.o HBY.o HS.o HN.o).mono ?_;rintro e w3⟨rfl,kd⟩;have K3:=aba (aP kd);have B3:=aba (HB.o.ae (aP kd));have Q3:=aba (HQ.o.ae (aP kd));have c3:=Q3.o.cell (i:=3) rfl;have f3:=Q3.o.frozen 3;clear kd))
 go_wp2_with fail;go_end0;refine⟨rfl,Q3.o.set 3 _,?_⟩;exact af K3.o.any _ _ _ (.inl (by omega))
theorem Gg {w X w3:World} {b q g:Nat} (k:Kept 0 0 w X) (h:FrP (fun i=>i=b\/i=q) X w3) (hq:w.heap.size<=q):Since w b (b+1) g w3 g:=
 ⟨.inl rfl,⟨h.os.trans k.os,h.tape.trans k.tape,h.output.trans k.output,Nat.le_trans k.size h.size,fun i hi hn=>(h.block i (Nat.lt_of_lt_of_le hi k.size) (by unfold own at hn;omega)).trans (k.block i hi (by omega))⟩⟩
theorem H6 (w:World) {R:Rg} {ST:Bool} {HA:Hl} (b:Nat) (xs:List Int) (d:Option Addr) (m cu:Nat) (k s a v c:Int) (hB:Blk w b (cor R xs (.slice d m cu) ST HA) HA.t.y) (lx:xs.length=512) (bm:m<=400) (lo : -9223372036854775808<=v) (hi:v<=9223372036854775807) (hno:(decide (m<400)&&fP k s a v c)=false) :
  Calls prog 269 #[.pointer (some (abb b 14)),.agg #[iv k,iv s,iv a,iv v,iv c]] w fun e w'=>e=.returned (.tuple #[])/\Kept 0 0 w w':=by
 have HB:=aba hB;have l0:=hB.cell (kQ lx);have K0:=aba (kept_alloc w (.cells #[iv k,iv s,iv a,iv v,iv c] 179));have l1:=(hB.alloc (.cells #[iv k,iv s,iv a,iv v,iv c] 179)).cell (kQ lx);clear hB;cases h1:decide ((m:Int)<400)
 ·go_enter func269,ntmps269;go_wp2_with (go_at_call 193;fail);go_end0;exact⟨rfl,K0.o⟩
 ·have h2:fP k s a v c=false:=by
   rw[show decide (m<400)=true from by simp at h1;simp;omega,Bool.true_and]at hno;exact hno
  clear hno;go_enter func269,ntmps269;go_wp2_with (go_at_call 193;refine(rW _ _ _ _ _ _ lo hi).mono ?_;rintro e w'⟨rfl,o,p,rfl⟩;rw[h2]);go_end0;exact⟨rfl,ah (ah K0.o _) _⟩
theorem Hz (w:World) {R:Rg} {ST:Bool} {HA:Hl} (b base g2:Nat) (xs ys:List Int) (m cu:Nat) (k s a v c:Int) (hB:Blk w b (cor R xs (.slice (some (abb g2 0)) m cu) ST HA) HA.t.y) (lx:xs.length=512) (hO:w.ownsRow base 179 5 (.slice (some (abb g2 0)) m cu) m (ys.map (Value.int .i64))) (hb:base<=b) (hbs:base<=w.heap.size) (hne:b≠g2) (bm:m<400) (lo : -9223372036854775808<=v) (hi:v<=9223372036854775807) (hyes:fP k s a v c=true) :
  Calls prog 269 #[.pointer (some (abb b 14)),.agg #[iv k,iv s,iv a,iv v,iv c]] w fun e w'=>∃g3 c3:Nat,e=.returned (.tuple #[])/\Blk w' b (cor R xs (.slice (some (abb g3 0)) (m+1) c3) ST HA) HA.t.y/\w'.ownsRow base 179 5 (.slice (some (abb g3 0)) (m+1) c3) (m+1) ((ys++[k,s,a,v,c]).map (Value.int .i64))/\b≠g3/\Since w b (b+1) g2 w' g3:=by
 obtain⟨i,hi0,hz0,hz1,hz2⟩:=info_parts Tryz.jY;have HB:=aba hB;have HO:=aba hO;have HX:=aba lx;have l0:=hB.cell (kQ lx);have K0:=aba (kept_alloc w (.cells #[iv k,iv s,iv a,iv v,iv c] 179));have l1:=(hB.alloc (.cells #[iv k,iv s,iv a,iv v,iv c] 179)).cell (kQ lx);have h1:decide ((m:Int)<400)=true:=by simp;omega
 clear hB hO;go_enter func269,ntmps269;go_wp2_with (go_at_call 193;refine(rW _ _ _ _ _ _ lo hi).mono ?_;rintro e w'⟨rfl,o,p,rfl⟩;rw[hyes]);have BW:=aba ((((HB.o.alloc (.cells #[iv k,iv s,iv a,iv v,iv c] 179)).alloc o)).alloc p);have AW:=aba (((Blk.new w #[iv k,iv s,iv a,iv v,iv c] 179).alloc o).alloc p);have KW:=aba (ah (ah K0.o o) p);have OW:=aba (((HO.o.alloc (.cells #[iv k,iv s,iv a,iv v,iv c] 179)).alloc o).alloc p);obtain⟨W,hW⟩:∃W:World,W=((w.alloc (.cells #[iv k,iv s,iv a,iv v,iv c] 179)).alloc o).alloc p:=⟨_,rfl⟩
 rw[<-hW]at BW AW KW OW ⊢;have hsz:w.heap.size<W.heap.size:=AW.o.lt;clear hW l0 l1;have z0:=BW.o.cell (kQ HX.o);have a0:=AW.o.all;have y0:∀o,(W.alloc o).cell? (abb b 526)=some (.slice (some (abb g2 0)) m cu):=fun o=>(BW.o.alloc o).cell (kQ HX.o);have H63:Hid (m+1<=maxLen):=aba (by unfold maxLen;omega);have HBY:Hid ((m+1)*40<=140737488355328):=aba (by omega);go_region_law ((refine step_append_lies _ (by rfl) _ _ _ (by rfl) base 179 i _ 5 40 underlying36 hi0 hz0 hz1 hz2 rfl (by omega) (.slice (some (abb g2 0)) m cu) m (ys.map (Value.int .i64)) (by rfl) ((OW.o.alloc _).drew) (abb W.heap.size 0) 1 1 [iv k,iv s,iv a,iv v,iv c] (by rfl) (by rfl) (World.news_of_block (cs:=#[iv k,iv s,iv a,iv v,iv c]) (t:=179) (fr:=(0,0)) (heap_alloc_new W _)) (by simp[Value.oneCell']) (by omega) H63.o HBY.o (by simp;omega) (W.heap.size+1) (by simp) ?_;intro g3 c3 w1 hown1 hgrow hat hlt;have B1:Hid (Blk w1 b (cor R xs (.slice (some (abb g2 0)) m cu) ST HA) HA.t.y):=aba ((hgrow.block b (by have:=BW.o.lt;simp;omega) (by simp[Value.ownBlock];omega)).trans (BW.o.alloc _));have e0:=B1.o.cell (kQ HX.o);have e1:=B1.o.frozen 526;have G1:=aba hgrow;have O1:=aba hown1;clear hgrow hown1))
 all_goals
  go_end0;have lb:=HB.o.lt;have lB:=BW.o.lt;obtain⟨l1,l2⟩:=HO.o.lt g2 rfl
  have hat':g2=g3\/g3=W.heap.size+1:=by
   rcases hat with h|h
   ·exact .inl (Option.some.inj h)
   ·exact .inr h
  have hb3:b≠g3:=by omega
  refine⟨g3,c3,rfl,B1.o.Xc HX.o _,?_,hb3,?_⟩
  ·have h:=O1.o.kept (grownBy_set w1 b 526 (.slice (some (abb g3 0)) (m+1) c3)) (.inr (fun e=>by have h2:g3=b:=Option.some.inj e;omega));rw[List.map_append];exact h
  ·have k1:Kept 0 0 w (W.alloc (.cells #[iv k,iv s,iv a,iv v,iv c] 179)).drew:=ai (ah KW.o _);exact⟨by omega,((kC k1 (by omega)).grown G1.o (fun x hx=>.inr (Option.some.inj hx).symm)).set b 526 _ (.inl (.inl (by omega)))⟩
theorem H8 (w:World) {R:Rg} {ST:Bool} {HA:Hl} (b q base g2:Nat) (xs ys:List Int) (m cu:Nat) (k s a v c:Int) (hB:Blk w b (cor R xs (.slice (some (abb g2 0)) m cu) ST HA) HA.t.y) (hQ:Blk w q #[iv k,iv s,iv a,iv v,iv c] 179) (lx:xs.length=512) (hby:bf xs=true)
  (hO:w.ownsRow base 179 5 (.slice (some (abb g2 0)) m cu) m (ys.map (Value.int .i64))) (hb:base<=b) (hq:base<=q) (n1:q≠b) (n2:b≠g2) (n3:q≠g2) (hask:eU k s a v=true) (hc:Pl.code k s a=0) :
  Calls prog 268 #[.pointer (some (abb b 14)),.pointer (some (abb q 0))] w fun e w'=>e=.returned (.tuple #[])/\Blk w' b (cor R (Pl.nb xs k s a v) (.slice (some (abb g2 0)) m cu) ST HA) HA.t.y/\Blk w' q #[iv k,iv s,iv a,iv (Pl.lv xs k s a v),iv c] 179/\
   w'.ownsRow base 179 5 (.slice (some (abb g2 0)) m cu) m (ys.map (Value.int .i64))/\FrP (fun i=>i=b\/i=q) w w':=by
 obtain⟨hk,hs,v0,⟨a0,a1⟩,hkv⟩:=ry hask;have hlow:=sG hc a0;obtain⟨n,rfl⟩:∃n:Nat,a=(n:Int):=⟨a.toNat,by omega⟩
 by_cases h2:k=2
 ·subst h2;have e1:Pl.nb xs 2 s n v=Pl.wr xs s n v:=by unfold Pl.nb;rw[if_pos ⟨hc,rfl⟩];rfl
  have e2:Pl.lv xs 2 s n v=v:=by unfold Pl.lv;rw[if_neg (by simp)]
  refine(Bg w b q _ xs s n v c hB hQ lx hs (by omega) v0 n1).mono ?_;rintro e w'⟨rfl,hb',hk'⟩;have lb:=hB.lt;refine⟨rfl,by rw[e1];exact hb',by rw[e2];exact hQ.kept hk' (by omega),hO.kept (yJ hk') (.inr (fun e=>by have h3:g2=b:=Option.some.inj e;omega)),kC hk' (by omega)⟩
 ·have e1:Pl.nb xs k s n v=xs:=by unfold Pl.nb;rw[if_neg (fun h=>h2 h.2)]
  have e2:Pl.lv xs k s n v=Pl.rd xs s n:=by unfold Pl.lv;rw[if_pos ⟨hc,h2⟩];rfl
  refine(Bh w b q _ xs k s n v c hB hQ lx hby h2 (by omega) (by omega) n1).mono ?_;rintro e w'⟨rfl,hq',hk'⟩;have lq:=hQ.lt;refine⟨rfl,by rw[e1];exact hB.kept hk' (by omega),by rw[e2];exact hq',hO.kept (yJ hk') (.inr (fun e=>by have h3:g2=q:=Option.some.inj e;omega)),kC hk' (by omega)⟩
theorem TK (w:World) {R:Rg} {ST:Bool} {HA:Hl} (b base g2:Nat) (xs ys:List Int) (m cu:Nat) (k s a v c:Int) (hB:Blk w b (cor R xs (.slice (some (abb g2 0)) m cu) ST HA) HA.t.y) (lx:xs.length=512) (hO:w.ownsRow base 179 5 (.slice (some (abb g2 0)) m cu) m (ys.map (Value.int .i64))) (hb:base<=b) (hne:b≠g2) (bm:m<=400) (lo : -9223372036854775808<=v) (hi:v<=9223372036854775807)
  (m':Nat) (ys':List Int) (hm:m'=if (decide (m<400)&&fP k s a v c)=true then m+1 else m) (hy:ys'=if (decide (m<400)&&fP k s a v c)=true then ys++[k,s,a,v,c] else ys) :
  Calls prog 269 #[.pointer (some (abb b 14)),.agg #[iv k,iv s,iv a,iv v,iv c]] w fun e w'=>∃g3 c3:Nat,e=.returned (.tuple #[])/\Blk w' b (cor R xs (.slice (some (abb g3 0)) m' c3) ST HA) HA.t.y/\w'.ownsRow base 179 5 (.slice (some (abb g3 0)) m' c3) m' (ys'.map (Value.int .i64))/\b≠g3/\Since w b (b+1) g2 w' g3:=by
 cases h:(decide (m<400)&&fP k s a v c)
 ·rw[hm,hy,h];refine(H6 w b xs _ m cu k s a v c hB lx bm lo hi h).mono ?_;rintro e w'⟨rfl,k'⟩;exact⟨g2,cu,rfl,hB.ae k',hO.kept k'.grown (.inr (fun e=>by cases e)),hne,(Since.refl _ _ _ _).any k'⟩
 ·rw[hm,hy,h];simp only[Bool.and_eq_true,decide_eq_true_eq]at h;have lb:=hB.lt;show Calls _ _ _ _ _;exact Hz w b base g2 xs ys m cu k s a v c hB lx hO hb (by omega) hne h.1 lo hi h.2
theorem Vw (w:World) {R:Rg} {ST:Bool} {HA:Hl} (b base g2:Nat) (xs ys:List Int) (m cu:Nat) (k s a v:Int) (hB:Blk w b (cor R xs (.slice (some (abb g2 0)) m cu) ST HA) HA.t.y) (lx:xs.length=512) (hby:bf xs=true)
  (hO:w.ownsRow base 179 5 (.slice (some (abb g2 0)) m cu) m (ys.map (Value.int .i64))) (hb:base<=b) (n2:b≠g2) (bm:m<=400) (hask:eU k s a v=true) (T:Int) (HT:Hid (T=if k=2 then 0 else Pl.lv xs k s a v)) :
  Calls prog 236 #[.pointer (some (abb b 14)),.agg #[iv k,iv s,iv a,iv v,iv 0]] w fun e w'=>∃g3 c3:Nat,e=.returned (.tuple #[iv T,iv (Pl.code k s a)])/\
   Blk w' b (cor R (Pl.nb xs k s a v) (.slice (some (abb g3 0)) (nm m k s a) c3) ST HA) HA.t.y/\w'.ownsRow base 179 5 (.slice (some (abb g3 0)) (nm m k s a) c3) (nm m k s a) ((nl xs ys m k s a v).map (Value.int .i64))/\b≠g3/\Since w b (b+1) g2 w' g3:=by
 obtain⟨_,hs,v0,⟨a0,a1⟩,hkv⟩:=ry hask;have hs':s=1\/s=2:=by omega
 have hlog:=Oa lx hby hask;have hvb:=Tt lx hby hask;have hv1:Pl.lv xs k s a v<=65535:=by split at hvb<;>omega
 obtain⟨hg0,hg1⟩:=hO.lt g2 rfl;have lb:=hB.lt;have SB:=aba hlog;have HV:=aba (And.intro hvb.1 hv1);have HX:=aba lx;have HBY:=aba hby
 have xq:=aba hask;have HB0:=aba hB;have HO0:=aba hO;clear hB hO lx hby hask hlog hvb hs hkv;go_enter func236,ntmps236;go_wp2_with fail;refine(codeOf k s a v 0 _ hs' a0 a1).mono ?_;rintro e w1⟨rfl,o,rfl⟩;obtain⟨C,hC⟩:∃C,C=Pl.code k s a:=⟨_,rfl⟩
 rw[<-hC];have HC:=aba hC;clear hC;have BX:=aba ((HB0.o.alloc (.cells #[iv k,iv s,iv a,iv v,iv C] 179)).alloc o);have OX:=aba ((HO0.o.alloc (.cells #[iv k,iv s,iv a,iv v,iv C] 179)).alloc o);have QX:=aba ((Blk.new w #[iv k,iv s,iv a,iv v,iv C] 179).alloc o);have KX:=aba (ah (kept_alloc w (.cells #[iv k,iv s,iv a,iv v,iv C] 179)) o);obtain⟨X,hX⟩:∃X:World,X=(w.alloc (.cells #[iv k,iv s,iv a,iv v,iv C] 179)).alloc o:=⟨_,rfl⟩
 rw[<-hX]at BX OX QX KX;cases hc:(C==0)
 ·have hc':¬Pl.code k s a=0:=by rw[<-HC.o];simpa using hc
  have e1:Pl.nb xs k s a v=xs:=by unfold Pl.nb;rw[if_neg (fun h=>hc' h.1)]
  have e2:Pl.lv xs k s a v=v:=by unfold Pl.lv;rw[if_neg (fun h=>hc' h.1)]
  have E1:=aba e1;have E2:=aba e2
  have HM:Hid (nm m k s a=if (decide (m<400)&&fP k s a v C)=true then m+1 else m):=aba (by
   have h:=SB.o;rw[e2]at h;rw[HC.o,h];rfl)
  have HY:Hid (nl xs ys m k s a v=if (decide (m<400)&&fP k s a v C)=true then ys++[k,s,a,v,C] else ys):=aba (by
   have h:=SB.o;rw[e2]at h;rw[HC.o,h];unfold nl;rw[e2];rfl)
  clear hc' e1 e2;go_wp2_with fail;rw[<-hX];clear hX;refine(TK X b base g2 xs ys m cu k s a v C BX.o HX.o OX.o hb n2 bm (by omega) (by have:=HV.o;rw[E2.o]at this;omega) _ _ HM.o HY.o).mono ?_;rintro e w4⟨g3,c3,rfl,hb4,ho4,hn4,hk4⟩;have Q4:=hk4.blk QX.o (by omega) (by omega);have B4:=aba hb4;have O4:=aba ho4;have K4:=aba (((Since.refl w b (b+1) g2).any KX.o).trans hk4);have y0:=Q4.all;clear hb4 ho4 hk4 Q4;cases hk2:(k==2)
  ·have E3:Hid (v=T):=aba (by rw[HT.o,if_neg (by simpa using hk2),E2.o]);go_wp2_with fail;go_quiet (fail);go_wp2_with fail;go_ret2;exact⟨g3,c3,rII E3.o HC.o,by rw[E1.o];exact B4.o,O4.o,hn4,K4.o.any (ax (Kept.refl 0 0 _) _)⟩
  ·have E3:Hid (0=T):=aba (by rw[HT.o,if_pos (by simpa using hk2)]);go_wp2_with fail;go_quiet (fail);go_wp2_with fail;go_ret2;exact⟨g3,c3,rII E3.o HC.o,by rw[E1.o];exact B4.o,O4.o,hn4,K4.o.any (ax (Kept.refl 0 0 _) _)⟩
 ·have hc':Pl.code k s a=0:=by rw[<-HC.o];simpa using hc
  have HC0:=aba hc';have HNL:Hid ((Pl.nb xs k s a v).length=512):=aba (by rw[JP];exact HX.o)
  have HM:Hid (nm m k s a=if (decide (m<400)&&fP k s a (Pl.lv xs k s a v) C)=true then m+1 else m):=aba (by
   have h:=SB.o;rw[HC.o,h];rfl)
  have HY:Hid (nl xs ys m k s a v=if (decide (m<400)&&fP k s a (Pl.lv xs k s a v) C)=true then ys++[k,s,a,Pl.lv xs k s a v,C] else ys):=aba (by
   have h:=SB.o;rw[HC.o,h];unfold nl;rfl)
  clear hc';go_wp2_with fail;rw[<-hX];clear hX;refine(H8 X b w.heap.size base g2 xs ys m cu k s a v C BX.o QX.o HX.o HBY.o OX.o hb (by omega) (by omega) n2 (by omega) xq.o HC0.o).mono ?_;rintro e w3⟨rfl,hb3,hq3,ho3,hk3⟩;have B3:=aba hb3;have O3:=aba ho3;have K3:=aba (Gg (g:=g2) KX.o hk3 (Nat.le_refl _));have Q3:=aba hq3;have z0:=hq3.all;clear hb3 ho3 hk3 hq3;go_wp2_with fail;clear z0;refine(TK w3 b base g2 (Pl.nb xs k s a v) ys m cu k s a (Pl.lv xs k s a v) C B3.o HNL.o O3.o hb n2 bm (by have:=HV.o;omega) (by have:=HV.o;omega) _ _ HM.o HY.o).mono ?_;rintro e w4⟨g3,c3,rfl,hb4,ho4,hn4,hk4⟩;have Q4:=hk4.blk Q3.o (by omega) (by omega);have B4:=aba hb4;have O4:=aba ho4;have K4:=aba (K3.o.trans hk4);have y0:=Q4.all;clear hb4 ho4 hk4 Q4;cases hk2:(k==2)
  ·have E3:Hid (Pl.lv xs k s a v=T):=aba (by rw[HT.o,if_neg (by simpa using hk2)]);go_wp2_with fail;go_quiet (fail);go_wp2_with fail;go_ret2;exact⟨g3,c3,rII E3.o HC.o,B4.o,O4.o,hn4,K4.o.any (ax (Kept.refl 0 0 _) _)⟩
  ·have E3:Hid (0=T):=aba (by rw[HT.o,if_pos (by simpa using hk2)]);go_wp2_with fail;go_quiet (fail);go_wp2_with fail;go_ret2;exact⟨g3,c3,rII E3.o HC.o,B4.o,O4.o,hn4,K4.o.any (ax (Kept.refl 0 0 _) _)⟩
theorem Rn (k s a v T:Int) (hC:CAt w lo b g c h) (G:GM c) (hask:eU k s a v=true) (HT:Hid (T=if k=2 then 0 else Pl.lv c.bx k s a v)) :
  Calls prog 236 #[.pointer (some (abb b 14)),.agg #[iv k,iv s,iv a,iv v,iv 0]] w fun e w'=>∃g',e=.returned (.tuple #[iv T,iv (Pl.code k s a)])/\CAt w' lo b g' (c.acc k s a v) h/\Since w b (b+1) g w' g':=by
 obtain⟨cu,hB,hO⟩:=hC;refine(Vw w b lo g c.bx c.bl c.bm cu k s a v hB G.bx G.ok hO.l hO.lo' hO.ne G.bm hask T HT).mono ?_;rintro e w'⟨g3,c3,he,hb,ho,hn,hk⟩;exact⟨g3,he,⟨c3,hb,⟨ho,hO.lo',hn⟩⟩,hk⟩
theorem bW (f:Ft) (w:World):Calls prog 79 #[.agg (ftA f)] w fun e w'=>e=.returned (.bool (f.v != 0))/\Kept 0 0 w w':=by
 go_enter func79,ntmps79;go_wp2;go_ret;exact⟨rfl,kept_alloc _ _⟩
theorem SA {w:World} {q:Nat} {k s a v c:Int} {ty:TypeId} (h:Blk w q #[iv k,iv s,iv a,iv v,iv c] ty):w.cell? (abb q 0)=some (iv k)/\w.cell? (abb q 1)=some (iv s)/\w.cell? (abb q 2)=some (iv a)/\w.cell? (abb q 3)=some (iv v)/\w.cell? (abb q 4)=some (iv c):=
 ⟨h.cell (i:=0) rfl,h.cell (i:=1) rfl,h.cell (i:=2) rfl,h.cell (i:=3) rfl,h.cell (i:=4) rfl⟩
theorem jZ (k s a v:Int) (hC:CAt w lo b g c h) (G:GM c) (hask:eU k s a v=true) (V:Int) (HV:Hid (V=if k=2 then 0 else Pl.lv c.bx k s a v)) (F:Ft) (HF:Hid (F=Mc.dC aI k s a)) :
  Calls prog 187 #[.pointer (some (abb b 0)),.agg #[iv k,iv s,iv a,iv v,iv 0]] w fun e w'=>∃g',e=.returned (.tuple #[iv V,.agg (ftC F)])/\CAt w' lo b g' (c.acc k s a v) h/\Since w b (b+1) g w' g':=by
 obtain⟨l0,l1,l2,l3,l4⟩:=hC.lt;have HC:=aba ((hC.alloc (.cells #[iv k,iv s,iv a,iv v,iv 0] 179)).alloc (.cells (ftC aI) 42));have A0:=aba ((Blk.new w #[iv k,iv s,iv a,iv v,iv 0] 179).alloc (.cells (ftC aI) 42));have F0:=Blk.new (w.alloc (.cells #[iv k,iv s,iv a,iv v,iv 0] 179)) (ftC aI) 42;simp only[World.size_alloc]at F0;replace F0:=aba F0;have K0:=aba (ah (kept_alloc w (.cells #[iv k,iv s,iv a,iv v,iv 0] 179)) (.cells (ftC aI) 42));have HG:=aba G;have xq:=aba hask;clear hC G hask;obtain⟨X,hX⟩:∃X:World,(w.alloc (.cells #[iv k,iv s,iv a,iv v,iv 0] 179)).alloc (.cells (ftC aI) 42)=X:=⟨_,rfl⟩
 rw[hX]at HC A0 F0 K0;obtain⟨a0,a1,a2,a3,a4⟩:=SA A0.o;have hX':(w.alloc (.cells #[iv k,iv s,iv a,iv v,iv 0] 179)).alloc (.cells ftZ 42)=X:=hX;clear hX;go_enter func187,ntmps187;go_wp2_with fail;clear hX'
 go_region_held3 (fun w'=>w'.cell? (abb w.heap.size 0)=some (iv k)/\w'.cell? (abb w.heap.size 1)=some (iv s)/\w'.cell? (abb w.heap.size 2)=some (iv a)/\w'.cell? (abb w.heap.size 3)=some (iv v)/\w'.cell? (abb w.heap.size 4)=some (iv 0)) (first|exact SA A3.o|exact SA (show Blk _ _ _ _ from A0.o)|go_keep)
  (first|(go_at_call 236;refine(Rn _ lo b g c h k s a v V HC.o.drew HG.o xq.o HV).mono ?_;rintro e w3⟨g',rfl,hc3,hs3⟩;have C3:=aba hc3;have S3:=aba (((Since.refl w b (b+1) g).any (ai K0.o)).trans hs3);have A3:=aba (hs3.blk (show Blk X.drew _ _ _ from A0.o) (by omega) (by omega));have F3:=aba (hs3.blk (show Blk X.drew _ _ _ from F0.o) (by omega) (by omega));have n3:=hs3.ne (b:=w.heap.size+1) F0.o.lt (by omega);clear hc3 hs3))
 clear a0 a1 a2 a3 a4;obtain⟨a0,a1,a2,a3,a4⟩:=SA A3.o;have p:=(show Blk w3 (w.heap.size+1) ftZ 42 from F3.o).all;have z:=F3.o.fz;obtain⟨C,hCd⟩:∃C,C=Pl.code k s a:=⟨_,rfl⟩
 rw[<-hCd];unfold Mc.dC at HF;rw[<-hCd]at HF
 have V0:Hid (¬C=0->V=0):=aba (by
  intro hn;rw[HV.o];split
  ·rfl
  ·rename_i h2;obtain⟨_,_,_,_,h5⟩:=ry xq.o;rw[show v=0 by omega];unfold Pl.lv
   rw[if_neg (by rw[<-hCd];exact fun q=>hn q.1)])
 clear hCd HV;cases h0:(C==0)
 ·have EV:=aba (V0.o (by simpa using h0));have e1:(C != 0)=true:=by simpa using h0
  rw[e1]at HF;cases h2:(C==2)
  ·rw[h2]at HF;have q:F=⟨2,0,a,0,k==2⟩:=HF.o;subst q;clear HF e1;go_wp2_with fail;go_region;go_wp2_with fail;have K5:=ai (((((ak w3 (w.heap.size+1) 0 (iv 2)).one 1 (iv 0)).one 2 (iv a)).one 3 (iv 0)).one 4 (.bool (k==2)));refine bodyPost_ret (v:=.tuple #[iv 0,.agg #[iv 2,iv 0,iv a,iv 0,.bool (k==2)]]) ?_ rfl ⟨g',by rw[EV.o];rfl,C3.o.kept K5 (by omega) (by omega),S3.o.mine K5 (by omega)⟩;rw[gQ rfl];go_simp
  ·rw[h2]at HF;have q:F=⟨3,0,a,0,k==2⟩:=HF.o;subst q;clear HF e1;go_wp2_with fail;go_region;go_wp2_with fail;have K5:=ai (((((ak w3 (w.heap.size+1) 0 (iv 3)).one 1 (iv 0)).one 2 (iv a)).one 3 (iv 0)).one 4 (.bool (k==2)));refine bodyPost_ret (v:=.tuple #[iv 0,.agg #[iv 3,iv 0,iv a,iv 0,.bool (k==2)]]) ?_ rfl ⟨g',by rw[EV.o];rfl,C3.o.kept K5 (by omega) (by omega),S3.o.mine K5 (by omega)⟩;rw[gQ rfl];go_simp
 ·have e1:(C != 0)=false:=by simpa using h0
  rw[e1]at HF;have q:F=aI:=HF.o;subst q;clear HF e1;go_wp2_with fail;have K5:=((((ak w3 (w.heap.size+1) 0 (iv 0)).one 1 (iv 0)).one 2 (iv 0)).one 3 (iv 0)).one 4 (.bool false);refine bodyPost_ret (v:=.tuple #[iv V,.agg ftZ]) ?_ rfl ⟨g',rfl,C3.o.kept K5 (by omega) (by omega),S3.o.mine K5 (by omega)⟩;rw[gQ rfl];go_simp
theorem Cb (k e:Int) (w:World):Calls prog 168 #[.agg #[iv 0,iv k,iv e]] w fun r w'=>r=.returned (.iface 228 (.agg #[iv k]))/\Kept 0 0 w w':=by
 go_enter func168,ntmps168;go_wp2;go_ret;exact⟨rfl,kept_alloc w _⟩
theorem BV (k e:Int) (w:World):Calls prog 168 #[.agg #[iv 1,iv k,iv e]] w fun r w'=>r=.returned (.iface 229 (.agg #[iv k]))/\Kept 0 0 w w':=by
 go_enter func168,ntmps168;go_wp2;go_ret;exact⟨rfl,kept_alloc w _⟩
theorem BU (k e:Int) (w:World):Calls prog 168 #[.agg #[iv 2,iv k,iv e]] w fun r w'=>r=.returned (.iface 230 (.agg #[iv k]))/\Kept 0 0 w w':=by
 go_enter func168,ntmps168;go_wp2;go_ret;exact⟨rfl,kept_alloc w _⟩
theorem BQ (k e:Int) (w:World):Calls prog 168 #[.agg #[iv 3,iv k,iv e]] w fun r w'=>r=.returned (.iface 231 (.agg #[iv k]))/\Kept 0 0 w w':=by
 go_enter func168,ntmps168;go_wp2;go_ret;exact⟨rfl,kept_alloc w _⟩
theorem BN (k e:Int) (w:World):Calls prog 168 #[.agg #[iv 4,iv k,iv e]] w fun r w'=>r=.returned (.iface 232 (.agg #[iv k]))/\Kept 0 0 w w':=by
 go_enter func168,ntmps168;go_wp2;go_ret;exact⟨rfl,kept_alloc w _⟩
theorem BM (k e:Int) (w:World):Calls prog 168 #[.agg #[iv 5,iv k,iv e]] w fun r w'=>r=.returned (.iface 234 (.agg #[iv k,iv e]))/\Kept 0 0 w w':=by
 go_enter func168,ntmps168;go_wp2;go_ret;exact⟨rfl,kept_alloc w _⟩
theorem BK (k e:Int) (w:World):Calls prog 168 #[.agg #[iv 6,iv k,iv e]] w fun r w'=>r=.returned (.iface 236 (.agg #[iv e]))/\Kept 0 0 w w':=by
 go_enter func168,ntmps168;go_wp2;go_ret;exact⟨rfl,kept_alloc w _⟩
theorem BJ (k e:Int) (w:World):Calls prog 168 #[.agg #[iv 7,iv k,iv e]] w fun r w'=>r=.returned (.iface 237 (.agg #[iv e]))/\Kept 0 0 w w':=by
 go_enter func168,ntmps168;go_wp2;go_ret;exact⟨rfl,kept_alloc w _⟩
theorem DW (m k e:Int) (w:World) (h:bK m=false):Calls prog 168 #[.agg #[iv m,iv k,iv e]] w fun r w'=>r=.returned .nilIface/\Kept 0 0 w w':=by
 obtain⟨n0,n1,n2,n3,n4,n5,n6,n7⟩:¬m=0/\¬m=1/\¬m=2/\¬m=3/\¬m=4/\¬m=5/\¬m=6/\¬m=7:=by
  simp[bK,within]at h;omega
 go_enter func168,ntmps168;go_wp2;go_ret;exact⟨rfl,kept_alloc w _⟩
theorem JH (k e:Int) (w:World):Calls prog 339 #[.agg #[iv k]] w fun r w'=>r=.returned (.agg #[iv 0,iv k,iv 0])/\Kept 0 0 w w':=by
 go_enter func339,ntmps339;go_wp2;refine bodyPost_ret (v:=.agg #[iv 0,iv k,iv 0]) ?_ rfl ⟨rfl,ah (kept_alloc w _) _⟩;rw[aj rfl];go_simp
theorem JG (k e:Int) (w:World):Calls prog 340 #[.agg #[iv k]] w fun r w'=>r=.returned (.agg #[iv 1,iv k,iv 0])/\Kept 0 0 w w':=by
 go_enter func340,ntmps340;go_wp2;refine bodyPost_ret (v:=.agg #[iv 1,iv k,iv 0]) ?_ rfl ⟨rfl,ah (kept_alloc w _) _⟩;rw[aj rfl];go_simp
theorem JF (k e:Int) (w:World):Calls prog 341 #[.agg #[iv k]] w fun r w'=>r=.returned (.agg #[iv 2,iv k,iv 0])/\Kept 0 0 w w':=by
 go_enter func341,ntmps341;go_wp2;refine bodyPost_ret (v:=.agg #[iv 2,iv k,iv 0]) ?_ rfl ⟨rfl,ah (kept_alloc w _) _⟩;rw[aj rfl];go_simp
theorem JE (k e:Int) (w:World):Calls prog 342 #[.agg #[iv k]] w fun r w'=>r=.returned (.agg #[iv 3,iv k,iv 0])/\Kept 0 0 w w':=by
 go_enter func342,ntmps342;go_wp2;refine bodyPost_ret (v:=.agg #[iv 3,iv k,iv 0]) ?_ rfl ⟨rfl,ah (kept_alloc w _) _⟩;rw[aj rfl];go_simp
theorem JD (k e:Int) (w:World):Calls prog 343 #[.agg #[iv k]] w fun r w'=>r=.returned (.agg #[iv 4,iv k,iv 0])/\Kept 0 0 w w':=by
 go_enter func343,ntmps343;go_wp2;refine bodyPost_ret (v:=.agg #[iv 4,iv k,iv 0]) ?_ rfl ⟨rfl,ah (kept_alloc w _) _⟩;rw[aj rfl];go_simp
theorem JC (k e:Int) (w:World):Calls prog 344 #[.agg #[iv k,iv e]] w fun r w'=>r=.returned (.agg #[iv 5,iv k,iv e])/\Kept 0 0 w w':=by
 go_enter func344,ntmps344;go_wp2;refine bodyPost_ret (v:=.agg #[iv 5,iv k,iv e]) ?_ rfl ⟨rfl,ah (kept_alloc w _) _⟩;rw[aj rfl];go_simp
theorem JB (k e:Int) (w:World):Calls prog 345 #[.agg #[iv e]] w fun r w'=>r=.returned (.agg #[iv 6,iv 0,iv e])/\Kept 0 0 w w':=by
 go_enter func345,ntmps345;go_wp2;refine bodyPost_ret (v:=.agg #[iv 6,iv 0,iv e]) ?_ rfl ⟨rfl,ah (kept_alloc w _) _⟩;rw[aj rfl];go_simp
theorem JA (k e:Int) (w:World):Calls prog 346 #[.agg #[iv e]] w fun r w'=>r=.returned (.agg #[iv 7,iv 0,iv e])/\Kept 0 0 w w':=by
 go_enter func346,ntmps346;go_wp2;refine bodyPost_ret (v:=.agg #[iv 7,iv 0,iv e]) ?_ rfl ⟨rfl,ah (kept_alloc w _) _⟩;rw[aj rfl];go_simp
theorem fn0 (a:Array Value) (w:World):(callFunc 339 a).run prog w=.ok (.enter 339 a) w:=by kernel_rfl
theorem XH (v:Value) (w:World):(method 412 228 v "loop.example/g00389/impl.operand").run prog w=.ok (339,v) w:=by kernel_rfl
theorem fn1 (a:Array Value) (w:World):(callFunc 340 a).run prog w=.ok (.enter 340 a) w:=by kernel_rfl
theorem XG (v:Value) (w:World):(method 412 229 v "loop.example/g00389/impl.operand").run prog w=.ok (340,v) w:=by kernel_rfl
theorem fn2 (a:Array Value) (w:World):(callFunc 341 a).run prog w=.ok (.enter 341 a) w:=by kernel_rfl
theorem XF (v:Value) (w:World):(method 412 230 v "loop.example/g00389/impl.operand").run prog w=.ok (341,v) w:=by kernel_rfl
theorem fn3 (a:Array Value) (w:World):(callFunc 342 a).run prog w=.ok (.enter 342 a) w:=by kernel_rfl
theorem XE (v:Value) (w:World):(method 412 231 v "loop.example/g00389/impl.operand").run prog w=.ok (342,v) w:=by kernel_rfl
theorem fn4 (a:Array Value) (w:World):(callFunc 343 a).run prog w=.ok (.enter 343 a) w:=by kernel_rfl
theorem XD (v:Value) (w:World):(method 412 232 v "loop.example/g00389/impl.operand").run prog w=.ok (343,v) w:=by kernel_rfl
theorem fn5 (a:Array Value) (w:World):(callFunc 344 a).run prog w=.ok (.enter 344 a) w:=by kernel_rfl
theorem XC (v:Value) (w:World):(method 412 234 v "loop.example/g00389/impl.operand").run prog w=.ok (344,v) w:=by kernel_rfl
theorem fn6 (a:Array Value) (w:World):(callFunc 345 a).run prog w=.ok (.enter 345 a) w:=by kernel_rfl
theorem XB (v:Value) (w:World):(method 412 236 v "loop.example/g00389/impl.operand").run prog w=.ok (345,v) w:=by kernel_rfl
theorem fn7 (a:Array Value) (w:World):(callFunc 346 a).run prog w=.ok (.enter 346 a) w:=by kernel_rfl
theorem XA (v:Value) (w:World):(method 412 237 v "loop.example/g00389/impl.operand").run prog w=.ok (346,v) w:=by kernel_rfl
theorem ZH (v:Value) (w:World):(Instr.typeAssert (.iface 228 v) 196 230 true).run prog w=.ok (.tuple #[.agg #[iv 0],.bool false]) w:=by kernel_rfl
theorem ZG (v:Value) (w:World):(Instr.typeAssert (.iface 228 v) 196 231 true).run prog w=.ok (.tuple #[.agg #[iv 0],.bool false]) w:=by kernel_rfl
theorem ZF (v:Value) (w:World):(Instr.typeAssert (.iface 228 v) 196 232 true).run prog w=.ok (.tuple #[.agg #[iv 0],.bool false]) w:=by kernel_rfl
theorem WT (v:Value) (w:World):(Instr.typeAssert (.iface 228 v) 196 234 true).run prog w=.ok (.tuple #[.agg #[iv 0,iv 0],.bool false]) w:=by kernel_rfl
theorem WR (v:Value) (w:World):(Instr.typeAssert (.iface 228 v) 196 236 true).run prog w=.ok (.tuple #[.agg #[iv 0],.bool false]) w:=by kernel_rfl
theorem ZE (v:Value) (w:World):(Instr.typeAssert (.iface 228 v) 196 237 true).run prog w=.ok (.tuple #[.agg #[iv 0],.bool false]) w:=by kernel_rfl
theorem ZC (v:Value) (w:World):(Instr.typeAssert (.iface 229 v) 196 230 true).run prog w=.ok (.tuple #[.agg #[iv 0],.bool false]) w:=by kernel_rfl
theorem ZB (v:Value) (w:World):(Instr.typeAssert (.iface 229 v) 196 231 true).run prog w=.ok (.tuple #[.agg #[iv 0],.bool false]) w:=by kernel_rfl
theorem ZA (v:Value) (w:World):(Instr.typeAssert (.iface 229 v) 196 232 true).run prog w=.ok (.tuple #[.agg #[iv 0],.bool false]) w:=by kernel_rfl
theorem WQ (v:Value) (w:World):(Instr.typeAssert (.iface 229 v) 196 234 true).run prog w=.ok (.tuple #[.agg #[iv 0,iv 0],.bool false]) w:=by kernel_rfl
theorem WP (v:Value) (w:World):(Instr.typeAssert (.iface 229 v) 196 236 true).run prog w=.ok (.tuple #[.agg #[iv 0],.bool false]) w:=by kernel_rfl
theorem Zz (v:Value) (w:World):(Instr.typeAssert (.iface 229 v) 196 237 true).run prog w=.ok (.tuple #[.agg #[iv 0],.bool false]) w:=by kernel_rfl
theorem Zy (v:Value) (w:World):(Instr.typeAssert (.iface 230 v) 196 230 true).run prog w=.ok (.tuple #[v,.bool true]) w:=by kernel_rfl
theorem Zx (v:Value) (w:World):(Instr.typeAssert (.iface 230 v) 196 231 true).run prog w=.ok (.tuple #[.agg #[iv 0],.bool false]) w:=by kernel_rfl
theorem Zw (v:Value) (w:World):(Instr.typeAssert (.iface 230 v) 196 232 true).run prog w=.ok (.tuple #[.agg #[iv 0],.bool false]) w:=by kernel_rfl
theorem WO (v:Value) (w:World):(Instr.typeAssert (.iface 230 v) 196 234 true).run prog w=.ok (.tuple #[.agg #[iv 0,iv 0],.bool false]) w:=by kernel_rfl
theorem WN (v:Value) (w:World):(Instr.typeAssert (.iface 230 v) 196 236 true).run prog w=.ok (.tuple #[.agg #[iv 0],.bool false]) w:=by kernel_rfl
theorem Zv (v:Value) (w:World):(Instr.typeAssert (.iface 230 v) 196 237 true).run prog w=.ok (.tuple #[.agg #[iv 0],.bool false]) w:=by kernel_rfl
theorem Zu (v:Value) (w:World):(Instr.typeAssert (.iface 231 v) 196 230 true).run prog w=.ok (.tuple #[.agg #[iv 0],.bool false]) w:=by kernel_rfl
theorem Zt (v:Value) (w:World):(Instr.typeAssert (.iface 231 v) 196 231 true).run prog w=.ok (.tuple #[v,.bool true]) w:=by kernel_rfl
theorem Zr (v:Value) (w:World):(Instr.typeAssert (.iface 231 v) 196 232 true).run prog w=.ok (.tuple #[.agg #[iv 0],.bool false]) w:=by kernel_rfl
theorem WM (v:Value) (w:World):(Instr.typeAssert (.iface 231 v) 196 234 true).run prog w=.ok (.tuple #[.agg #[iv 0,iv 0],.bool false]) w:=by kernel_rfl
theorem WL (v:Value) (w:World):(Instr.typeAssert (.iface 231 v) 196 236 true).run prog w=.ok (.tuple #[.agg #[iv 0],.bool false]) w:=by kernel_rfl
theorem Zq (v:Value) (w:World):(Instr.typeAssert (.iface 231 v) 196 237 true).run prog w=.ok (.tuple #[.agg #[iv 0],.bool false]) w:=by kernel_rfl
theorem Zp (v:Value) (w:World):(Instr.typeAssert (.iface 232 v) 196 230 true).run prog w=.ok (.tuple #[.agg #[iv 0],.bool false]) w:=by kernel_rfl
theorem Zo (v:Value) (w:World):(Instr.typeAssert (.iface 232 v) 196 231 true).run prog w=.ok (.tuple #[.agg #[iv 0],.bool false]) w:=by kernel_rfl
theorem Zn (v:Value) (w:World):(Instr.typeAssert (.iface 232 v) 196 232 true).run prog w=.ok (.tuple #[v,.bool true]) w:=by kernel_rfl
theorem WJ (v:Value) (w:World):(Instr.typeAssert (.iface 232 v) 196 234 true).run prog w=.ok (.tuple #[.agg #[iv 0,iv 0],.bool false]) w:=by kernel_rfl
theorem WI (v:Value) (w:World):(Instr.typeAssert (.iface 232 v) 196 236 true).run prog w=.ok (.tuple #[.agg #[iv 0],.bool false]) w:=by kernel_rfl
theorem Zm (v:Value) (w:World):(Instr.typeAssert (.iface 232 v) 196 237 true).run prog w=.ok (.tuple #[.agg #[iv 0],.bool false]) w:=by kernel_rfl
theorem Zl (v:Value) (w:World):(Instr.typeAssert (.iface 234 v) 196 230 true).run prog w=.ok (.tuple #[.agg #[iv 0],.bool false]) w:=by kernel_rfl
theorem Zk (v:Value) (w:World):(Instr.typeAssert (.iface 234 v) 196 231 true).run prog w=.ok (.tuple #[.agg #[iv 0],.bool false]) w:=by kernel_rfl
theorem Zj (v:Value) (w:World):(Instr.typeAssert (.iface 234 v) 196 232 true).run prog w=.ok (.tuple #[.agg #[iv 0],.bool false]) w:=by kernel_rfl
theorem WH (v:Value) (w:World):(Instr.typeAssert (.iface 234 v) 196 234 true).run prog w=.ok (.tuple #[v,.bool true]) w:=by kernel_rfl
theorem WG (v:Value) (w:World):(Instr.typeAssert (.iface 234 v) 196 236 true).run prog w=.ok (.tuple #[.agg #[iv 0],.bool false]) w:=by kernel_rfl
theorem Zi (v:Value) (w:World):(Instr.typeAssert (.iface 234 v) 196 237 true).run prog w=.ok (.tuple #[.agg #[iv 0],.bool false]) w:=by kernel_rfl
theorem Zh (v:Value) (w:World):(Instr.typeAssert (.iface 236 v) 196 230 true).run prog w=.ok (.tuple #[.agg #[iv 0],.bool false]) w:=by kernel_rfl
theorem Zg (v:Value) (w:World):(Instr.typeAssert (.iface 236 v) 196 231 true).run prog w=.ok (.tuple #[.agg #[iv 0],.bool false]) w:=by kernel_rfl
theorem Zf (v:Value) (w:World):(Instr.typeAssert (.iface 236 v) 196 232 true).run prog w=.ok (.tuple #[.agg #[iv 0],.bool false]) w:=by kernel_rfl
theorem WF (v:Value) (w:World):(Instr.typeAssert (.iface 236 v) 196 234 true).run prog w=.ok (.tuple #[.agg #[iv 0,iv 0],.bool false]) w:=by kernel_rfl
theorem WE (v:Value) (w:World):(Instr.typeAssert (.iface 236 v) 196 236 true).run prog w=.ok (.tuple #[v,.bool true]) w:=by kernel_rfl
theorem Ze (v:Value) (w:World):(Instr.typeAssert (.iface 236 v) 196 237 true).run prog w=.ok (.tuple #[.agg #[iv 0],.bool false]) w:=by kernel_rfl
theorem Zd (v:Value) (w:World):(Instr.typeAssert (.iface 237 v) 196 230 true).run prog w=.ok (.tuple #[.agg #[iv 0],.bool false]) w:=by kernel_rfl
theorem Zc (v:Value) (w:World):(Instr.typeAssert (.iface 237 v) 196 231 true).run prog w=.ok (.tuple #[.agg #[iv 0],.bool false]) w:=by kernel_rfl
theorem Zb (v:Value) (w:World):(Instr.typeAssert (.iface 237 v) 196 232 true).run prog w=.ok (.tuple #[.agg #[iv 0],.bool false]) w:=by kernel_rfl
theorem WB (v:Value) (w:World):(Instr.typeAssert (.iface 237 v) 196 234 true).run prog w=.ok (.tuple #[.agg #[iv 0,iv 0],.bool false]) w:=by kernel_rfl
theorem Wy (v:Value) (w:World):(Instr.typeAssert (.iface 237 v) 196 236 true).run prog w=.ok (.tuple #[.agg #[iv 0],.bool false]) w:=by kernel_rfl
theorem Za (v:Value) (w:World):(Instr.typeAssert (.iface 237 v) 196 237 true).run prog w=.ok (.tuple #[v,.bool true]) w:=by kernel_rfl
theorem Qy (v:Value) (w:World):Calls prog 234 #[.iface 228 v] w fun r w'=>r=.returned (.bool false)/\w'=w:=by
 have t5:=WT;have t6:=WR;have t7:=ZE;go_enter func234,ntmps234;go_wp2;go_ret;exact⟨rfl,rfl⟩
theorem Qx (v:Value) (w:World):Calls prog 234 #[.iface 229 v] w fun r w'=>r=.returned (.bool false)/\w'=w:=by
 have t5:=WQ;have t6:=WP;have t7:=Zz;go_enter func234,ntmps234;go_wp2;go_ret;exact⟨rfl,rfl⟩
theorem Qw (v:Value) (w:World):Calls prog 234 #[.iface 230 v] w fun r w'=>r=.returned (.bool false)/\w'=w:=by
 have t5:=WO;have t6:=WN;have t7:=Zv;go_enter func234,ntmps234;go_wp2;go_ret;exact⟨rfl,rfl⟩
theorem Qv (v:Value) (w:World):Calls prog 234 #[.iface 231 v] w fun r w'=>r=.returned (.bool false)/\w'=w:=by
 have t5:=WM;have t6:=WL;have t7:=Zq;go_enter func234,ntmps234;go_wp2;go_ret;exact⟨rfl,rfl⟩
theorem Qu (v:Value) (w:World):Calls prog 234 #[.iface 232 v] w fun r w'=>r=.returned (.bool false)/\w'=w:=by
 have t5:=WJ;have t6:=WI;have t7:=Zm;go_enter func234,ntmps234;go_wp2;go_ret;exact⟨rfl,rfl⟩
theorem Qs (v:Value) (w:World):Calls prog 234 #[.iface 234 v] w fun r w'=>r=.returned (.bool true)/\w'=w:=by
 have t5:=WH;have t6:=WG;have t7:=Zi;go_enter func234,ntmps234;go_wp2;go_ret;exact⟨rfl,rfl⟩
theorem Qr (v:Value) (w:World):Calls prog 234 #[.iface 236 v] w fun r w'=>r=.returned (.bool true)/\w'=w:=by
 have t5:=WF;have t6:=WE;have t7:=Ze;go_enter func234,ntmps234;go_wp2;go_ret;exact⟨rfl,rfl⟩
theorem Qq (v:Value) (w:World):Calls prog 234 #[.iface 237 v] w fun r w'=>r=.returned (.bool true)/\w'=w:=by
 have t5:=WB;have t6:=Wy;have t7:=Za;go_enter func234,ntmps234;go_wp2;go_ret;exact⟨rfl,rfl⟩
def W64 (n:Int):Prop := -9223372036854775808<=n/\n<=9223372036854775807
set_option linter.unusedSimpArgs false
theorem iE (a:Addr) (fn:Fn) (m:Mode) (w:World):(store a (.func fn #[] #[]) m).run prog w=stored prog w a (.func fn #[] #[]) m:=run_store prog w a _ m rfl
theorem oJ {B:Nat} {w wt:World} (h:Below B w.drew wt):Below B w wt:=⟨h.os,h.tape,h.output,h.size,h.block⟩
def Box (w:World) (b:Nat) (v s x f:Int) (t:Bool):Prop:=w.heap[b]? = some (.cells #[iv v,iv s,iv x,iv f,.bool t] 273)
theorem Box.later {w wt:World} {b:Nat} {v s x f:Int} {t:Bool} (h:Box w b v s x f t) (hb:Below w.heap.size w wt):Box wt b v s x f t:=by
 have lt:b<w.heap.size:=by
  unfold Box at h;rcases Nat.lt_or_ge b w.heap.size with h'|h'
  ·exact h'
  ·rw[Array.getElem?_eq_none h']at h;cases h
 exact(hb.block b lt).trans h
theorem Box.cells {w:World} {b:Nat} {v s x f:Int} {t:Bool} (h:Box w b v s x f t) :
  w.cell? (abb b 0)=some (iv v)/\w.cell? (abb b 1)=some (iv s)/\w.cell? (abb b 2)=some (iv x)/\w.cell? (abb b 3)=some (iv f)/\w.cell? (abb b 4)=some (.bool t)/\
  w.frozen? (abb b 0)=false/\w.frozen? (abb b 1)=false/\w.frozen? (abb b 2)=false/\w.frozen? (abb b 3)=false/\w.frozen? (abb b 4)=false:=by
 unfold Box at h;refine⟨?_,?_,?_,?_,?_,?_,?_,?_,?_,?_⟩<;>simp[World.cell?,World.frozen?,h]
theorem gJ {fn:Func} {p:Tmp} (h:fn.results=#[.cell p 273]) (tmps:Array Value) {w:World} {b:Nat} {v s x f:Int} {t:Bool} (hp:tmps.getD p undef=.pointer (some (abb b 0))) (hB:Box w b v s x f t) :
  (results fn tmps).run prog w=.ok (.agg #[iv v,iv s,iv x,iv f,.bool t]) w:=
 results_cell_row h tmps w b _ _ _ _ hp hB (underlying273) rfl (by kernel_rfl)
theorem Box.set {w:World} {b:Nat} {v s x f v' s' x' f':Int} {t t':Bool} (h:Box w b v s x f t) :
  Box (((((w.setCell (abb b 0) (iv v')).setCell (abb b 1) (iv s')).setCell (abb b 2) (iv x')).setCell (abb b 3) (iv f')).setCell (abb b 4) (.bool t')) b v' s' x' f' t':=by
 unfold Box at h ⊢;simp[World.setCell,Array.getElem?_modify,h]
theorem Box.ZR (w:World) (v s x f:Int) (t:Bool):Box (w.alloc (.cells #[iv v,iv s,iv x,iv f,.bool t] 273)) w.heap.size v s x f t:=heap_alloc_new w _
theorem Box.two {w:World} {b:Nat} {v s x f:Int} {t:Bool} (h:Box w b v s x f t) (o1 o2:Obj):Box ((w.alloc o1).alloc o2) b v s x f t:=
 h.later (((Below.refl _ w).alloc (Nat.le_refl _) o1).alloc (by simp) o2)
theorem Box.ZJ {w:World} {b:Nat} {v s x f:Int} {t t':Bool} (h:Box w b v s x f t):Box (w.setCell (abb b 4) (.bool t')) b v s x f t':=by
 unfold Box at h ⊢;simp[World.setCell,Array.getElem?_modify,h]
theorem Below.ou {B:Nat} {a w:World} (h:Below B a w) {b:Nat} (hb:B<=b) (v0 v1 v2 v3 v4:Value) :
  Below B a (((((w.setCell (abb b 0) v0).setCell (abb b 1) v1).setCell (abb b 2) v2).setCell (abb b 3) v3).setCell (abb b 4) v4):=
 ((((h.setCell hb _).setCell hb _).setCell hb _).setCell hb _).setCell hb _
theorem Box.zZ (w:World) (v s x f:Int) (t:Bool) (o1:Obj) (o2:Obj):Box (((w.alloc (.cells #[iv v,iv s,iv x,iv f,.bool t] 273)).alloc o1).alloc o2) w.heap.size v s x f t:=by
 unfold Box;rw[Below.heap_alloc _ _ _ (by simp<;>omega),Below.heap_alloc _ _ _ (by simp)];exact heap_alloc_new w _
theorem Box.zY (w:World) (v s x f:Int) (t:Bool) (o1:Obj) (o2:Obj):Box (((w.alloc o1).alloc (.cells #[iv v,iv s,iv x,iv f,.bool t] 273)).alloc o2) (w.heap.size+1) v s x f t:=by
 unfold Box;rw[Below.heap_alloc _ _ _ (by simp)];exact heap_alloc2_new w _ _
theorem rA {a b c d a' b' c' d':Int} {t t':Bool} (ha:a=a') (hb:b=b') (hc:c=c') (hd:d=d') (ht:t=t'):Ending.returned (.agg #[iv a,iv b,iv c,iv d,.bool t])=.returned (.agg #[iv a',iv b',iv c',iv d',.bool t']):=by rw[ha,hb,hc,hd,ht]
theorem aT {fn:Func} {p:Tmp} {ty:TypeId} (h:fn.results=#[.cell p ty]) (tmps:Array Value) (P:Program) (w:World) :
  (results fn tmps).run P w=((asAddr (tmps.getD p undef)).run P w).andThen fun a w₁=>(loadVar ty a).run P w₁:=by
 simp only[results,h];simp[Sem.run_bind,Result.andThen]
theorem Pl.Eh {a q:Int} (h0:0<=a) (h1:a<131072) (h2:a%2=0) (q0:0<=q) (q1:q<=1):bits .or .i64 a q=a+q:=
 bits_join .i64 62 (by decide) iq 1 a q (by omega) (by omega) (by omega) (by omega) (by omega) (by omega)
theorem lowest (v s x f:Int) (t:Bool) (w:World) :
  Calls prog 323 #[.agg #[iv v,iv s,iv x,iv f,.bool t]] w fun e w'=>e=.returned (iv (v%2))/\∃o,w'=w.alloc o:=by
 have hA:=and1 v;go_enter func323,ntmps323;go_wp2;go_ret;exact⟨rfl,_,rfl⟩
theorem aW (v s x f:Int) (t:Bool) (w:World) :
  Calls prog 321 #[.agg #[iv v,iv s,iv x,iv f,.bool t]] w fun e w'=>e=.returned (.agg #[iv v,iv s,iv f,iv f,.bool t])/\∃o1 o2,w'=(w.alloc o1).alloc o2:=by
 go_enter func321,ntmps321;go_wp2;refine bodyPost_ret (v:=.agg #[iv v,iv s,iv f,iv f,.bool t]) ?_ rfl ⟨rfl,_,_,rfl⟩;rw[aT rfl];go_simp
theorem fK (v x f:Int) (t:Bool) (w:World) (h0:0<=v) (h1:v<256) :
  Calls prog 311 #[.agg #[iv v,iv 8,iv x,iv f,.bool t]] w fun e w'=>e=.returned (iv (Pl.hi 1 v))/\∃o,w'=w.alloc o:=by
 have E:Hid (v/128=Pl.hi 1 v):=aba (by simp[Pl.hi,Pl.top];omega);go_enter func311,ntmps311;go_wp2;go_ret;exact⟨rI E.o,_,rfl⟩
theorem qw (v x f i:Int) (t:Bool) (w:World) (h0:0<=v) (h1:v<256) (i0:0<=i) (i1:i<=1) :
  Calls prog 320 #[.agg #[iv v,iv 8,iv x,iv f,.bool t],iv i] w fun e w'=>e=.returned (.agg #[iv (v*2%256+i),iv 8,iv x,iv (Pl.hi 1 v),.bool t])/\∃o1 o2 o3,w'=(((w.alloc o1).alloc o2).alloc o3).drew:=by
 have hO:=Eh (a:=v*2) (q:=i) (by omega) (by omega) (by omega) i0 i1;have hA:=gY (v*2+i);have hE:(v*2+i)%256=v*2%256+i:=by omega
 go_enter func320,ntmps320;go_wp2_with fail;refine(fK v x f t _ h0 h1).mono ?_;rintro e w'⟨rfl,o,rfl⟩;go_wp2_with fail;go_region;go_wp2_with fail;refine bodyPost_ret (v:=.agg #[iv (v*2%256+i),iv 8,iv x,iv (Pl.hi 1 v),.bool t]) ?_ rfl ⟨rfl,_,_,_,rfl⟩;rw[aT rfl];go_simp
theorem kT (v x f i:Int) (t:Bool) (w:World) (h0:0<=v) (h1:v<256) (i0:0<=i) (i1:i<=1) :
  Calls prog 322 #[.agg #[iv v,iv 8,iv x,iv f,.bool t],iv i] w fun e w'=>e=.returned (.agg #[iv (v/2+i*128),iv 8,iv x,iv (v%2),.bool t])/\∃o1 o2 o3,w'=(((w.alloc o1).alloc o2).alloc o3).drew:=by
 have hO:=pI (a:=v/2) (q:=i) (by omega) (by omega) i0 i1;go_enter func322,ntmps322;go_wp2_with fail;refine(lowest v 8 x f t _).mono ?_;rintro e w'⟨rfl,o,rfl⟩;go_wp2_with fail;go_region;go_wp2_with fail;refine bodyPost_ret (v:=.agg #[iv (v/2+i*128),iv 8,iv x,iv (v%2),.bool t]) ?_ rfl ⟨rfl,_,_,_,rfl⟩;rw[aT rfl];go_simp
theorem fJ (v x f:Int) (t:Bool) (w:World) (h0:0<=v) (h1:v<65536) :
  Calls prog 311 #[.agg #[iv v,iv 16,iv x,iv f,.bool t]] w fun e w'=>e=.returned (iv (Pl.hi 2 v))/\∃o,w'=w.alloc o:=by
 have E:Hid (v/32768=Pl.hi 2 v):=aba (by simp[Pl.hi,Pl.top];omega);go_enter func311,ntmps311;go_wp2;go_ret;exact⟨rI E.o,_,rfl⟩
theorem qp (v x f i:Int) (t:Bool) (w:World) (h0:0<=v) (h1:v<65536) (i0:0<=i) (i1:i<=1) :
  Calls prog 320 #[.agg #[iv v,iv 16,iv x,iv f,.bool t],iv i] w fun e w'=>e=.returned (.agg #[iv (v*2%65536+i),iv 16,iv x,iv (Pl.hi 2 v),.bool t])/\∃o1 o2 o3,w'=(((w.alloc o1).alloc o2).alloc o3).drew:=by
 have hO:=Eh (a:=v*2) (q:=i) (by omega) (by omega) (by omega) i0 i1;have hA:=fO (v*2+i);have hE:(v*2+i)%65536=v*2%65536+i:=by omega
 go_enter func320,ntmps320;go_wp2_with fail;refine(fJ v x f t _ h0 h1).mono ?_;rintro e w'⟨rfl,o,rfl⟩;go_wp2_with fail;go_region;go_wp2_with fail;refine bodyPost_ret (v:=.agg #[iv (v*2%65536+i),iv 16,iv x,iv (Pl.hi 2 v),.bool t]) ?_ rfl ⟨rfl,_,_,_,rfl⟩;rw[aT rfl];go_simp
theorem kS (v x f i:Int) (t:Bool) (w:World) (h0:0<=v) (h1:v<65536) (i0:0<=i) (i1:i<=1) :
  Calls prog 322 #[.agg #[iv v,iv 16,iv x,iv f,.bool t],iv i] w fun e w'=>e=.returned (.agg #[iv (v/2+i*32768),iv 16,iv x,iv (v%2),.bool t])/\∃o1 o2 o3,w'=(((w.alloc o1).alloc o2).alloc o3).drew:=by
 have hO:=pG (a:=v/2) (q:=i) (by omega) (by omega) i0 i1;go_enter func322,ntmps322;go_wp2_with fail;refine(lowest v 16 x f t _).mono ?_;rintro e w'⟨rfl,o,rfl⟩;go_wp2_with fail;go_region;go_wp2_with fail;refine bodyPost_ret (v:=.agg #[iv (v/2+i*32768),iv 16,iv x,iv (v%2),.bool t]) ?_ rfl ⟨rfl,_,_,_,rfl⟩;rw[aT rfl];go_simp
def Pl.thr (k:Int):Bool:=(k==6)||(k==7)
theorem Tz (k:Int) (w:World):Calls prog 302 #[iv k] w fun e w'=>e=.returned (.bool (thr k))/\w'=w:=by
 by_cases h:k=6
 all_goals
  go_enter func302,ntmps302;go_wp2;go_ret;exact⟨rB (by simp[thr,h]),rfl⟩
set_option linter.unusedSimpArgs false
theorem AA (b:Bool) (f:Int) (w:World) :
  Calls prog 242 #[.bool b,iv f] w fun e w'=>e=.returned (iv (Pl.fl b f))/\w'=w:=by
 cases b
 all_goals
  go_enter func242,ntmps242;go_wp2;go_ret;exact⟨rfl,rfl⟩
theorem xX (s:Int) (w:World) (s0:0<=s) (s1:s<=2) :
  Calls prog 278 #[iv s] w fun e w'=>e=.returned (iv (8*s))/\w'=w:=by
 go_enter func278,ntmps278;go_wp2;go_ret;exact⟨rI (by omega),rfl⟩
theorem yK (k:Int) (w:World) :
  Calls prog 301 #[iv k] w fun e w'=>e=.returned (.bool (Pl.kin k))/\w'=w:=by
 by_cases h0:0<=k
 all_goals
  by_cases h1:k<=7
  all_goals
   go_enter func301,ntmps301;go_wp2;go_ret;exact⟨rB (by simp[Pl.kin];omega),rfl⟩
theorem wz (f:Int) (w:World) :
  Calls prog 191 #[iv f] w fun e w'=>e=.returned (.bool (Pl.flags f))/\w'=w:=by
 by_cases h0:0<=f
 all_goals
  by_cases h1:f<=31
  all_goals
   go_enter func191,ntmps191;go_wp2;go_ret;exact⟨rB (by simp[Pl.flags];omega),rfl⟩
theorem Pl.five {x f h:Int} {t z:Bool} (hx:x=0\/x=1) (hf:f=0\/f=1) (hh:h=0\/h=1) :
  bits .or .i64 (bits .or .i64 (bits .or .i64 (bits .or .i64 (Pl.fl (f==1) 1) (Pl.fl t 2)) (Pl.fl z 4)) (Pl.fl (h==1) 8)) (Pl.fl (x==1) 16)=f+Pl.fl t 2+(Pl.fl z 4+Pl.fl (h==1) 8)+16*x:=by
 rcases hx with rfl|rfl<;>rcases hf with rfl|rfl<;>rcases hh with rfl|rfl<;>cases t<;>cases z<;>decide
theorem Pl.Lr (s v:Int):(Pl.hi s v==1)=decide (Pl.top s/2<=v):=by
 unfold Pl.hi;split
 ·rename_i h;simp[h]
 ·rename_i h;simp[h]
theorem Vh (v x f:Int) (t:Bool) (w:World) (h0:0<=v) (h1:v<256) (x0:0<=x) (x1:x<=1) (f0:0<=f) (f1:f<=1) :
  Calls prog 282 #[.agg #[iv v,iv 8,iv x,iv f,.bool t]] w fun e w'=>e=.returned (iv (f+Pl.fl t 2+zn 1 v+16*x))/\∃o1 o2,w'=(w.alloc o1).alloc o2:=by
 go_enter func282,ntmps282;go_wp2_with (first|(go_at_call 242;refine st (AA _ _ _) ?_)|(go_at_call 311;refine(fK _ _ _ _ _ h0 h1).mono ?_;rintro e w'⟨rfl,o,rfl⟩));go_ret;obtain⟨b0,b1⟩:=dJ 1 v;refine⟨rI ?_,_,_,rfl⟩;show bits .or .i64 _ _=_;rw[Pl.five (by omega) (by omega) (by omega),Lr];rfl
theorem Vg (v x f:Int) (t:Bool) (w:World) (h0:0<=v) (h1:v<65536) (x0:0<=x) (x1:x<=1) (f0:0<=f) (f1:f<=1) :
  Calls prog 282 #[.agg #[iv v,iv 16,iv x,iv f,.bool t]] w fun e w'=>e=.returned (iv (f+Pl.fl t 2+zn 2 v+16*x))/\∃o1 o2,w'=(w.alloc o1).alloc o2:=by
 go_enter func282,ntmps282;go_wp2_with (first|(go_at_call 242;refine st (AA _ _ _) ?_)|(go_at_call 311;refine(fJ _ _ _ _ _ h0 h1).mono ?_;rintro e w'⟨rfl,o,rfl⟩));go_ret;obtain⟨b0,b1⟩:=dJ 2 v;refine⟨rI ?_,_,_,rfl⟩;show bits .or .i64 _ _=_;rw[Pl.five (by omega) (by omega) (by omega),Lr];rfl
theorem Vf (s v x f W:Int) (t:Bool) (w:World) (h:Pl.Fit s (v,x)) (hW:W=8*s) (f0:0<=f) (f1:f<=1) :
  Calls prog 282 #[.agg #[iv v,iv W,iv x,iv f,.bool t]] w fun e w'=>e=.returned (iv (f+Pl.fl t 2+zn s v+16*x))/\∃o1 o2,w'=(w.alloc o1).alloc o2:=by
 obtain⟨hs,v0,v1,x0,x1⟩:=h;simp only at v0 v1 x0 x1;subst hW;rcases nV hs with⟨rfl,e⟩|⟨rfl,e⟩<;>rw[e]at v1
 ·exact Vh v x f t w v0 v1 x0 x1 f0 f1
 ·exact Vg v x f t w v0 v1 x0 x1 f0 f1
theorem Gh (k s f v:Int) (w:World) (lo : -9223372036854775808<=v) (hi:v<=9223372036854775807) (h:pV k s f v=false) :
  Calls prog 280 #[iv k,iv s,iv f,iv v] w fun e w'=>e=.returned (.tuple #[.agg ftZ,.bool false])/\Below w.heap.size w w':=by
 have H:(okv s v=false)\/(okv s v=true/\Pl.flags f=false)\/(okv s v=true/\Pl.flags f=true/\Pl.kin k=false):=by
  unfold pV at h;unfold Pl.kin;revert h;cases okv s v<;>cases Pl.flags f<;>simp
 clear h;rcases H with h1|⟨h1,h2⟩|⟨h1,h2,h3⟩
 all_goals
  go_enter func280,ntmps280;go_wp2_with (first|(go_at_call 120;refine st (bY _ _ _ lo hi) ?_)|(go_at_call 191;refine st (wz _ _) ?_)|(go_at_call 301;refine st (yK _ _) ?_));refine bodyPost_ret (v:=.tuple #[.agg ftZ,.bool false]) ?_ rfl ⟨rfl,?_⟩
  ·rw[results_cell_tmp rfl];go_simp
  ·(repeat' (first|with_reducible exact Below.refl _ _|with_reducible refine Below.drew ?_|with_reducible refine Below.alloc ?_ ?_ _|(simp;done)|(simp;omega)))
def Pl.AO (k f:Int):Int:=if 6<=k then f/16 else 0
theorem rowOf (k s f v:Int) (w:World) (h:pV k s f v=true) :
  Calls prog 280 #[iv k,iv s,iv f,iv v] w fun e w'=>e=.returned (.tuple #[.agg #[iv v,iv (8*s),iv (f/16),iv (AO k f),.bool false],.bool true])/\Below w.heap.size w w':=by
 obtain⟨k0,k1,h1,f0,f1,hs,v0,v1,_,_⟩:=pU h;have h2:Pl.flags f=true:=by simp[Pl.flags,f0,f1]
 have h3:Pl.kin k=true:=by simp[Pl.kin,k0,k1]
 have vb:v<65536:=by
  simp only at v1
  rcases nV hs with⟨_,e⟩|⟨_,e⟩<;>rw[e]at v1<;>omega
 simp only at v0 v1
 clear h v1;have s0:0<=s:=by omega
 have s1:s<=2:=by omega
 cases hx:thr k
 ·have E:Hid (0=AO k f):=aba (by
   have hx2:=hx;simp[thr]at hx2
   simp[AO];omega)
  have HX:=aba hx;clear hx;go_enter func280,ntmps280;go_wp2_with (first|(go_at_call 120;refine st (bY _ _ _ (by omega) (by omega)) ?_)|(go_at_call 191;refine st (wz _ _) ?_)|(go_at_call 301;refine st (yK _ _) ?_)|(go_at_call 278;refine st (xX _ _ s0 s1) ?_)|(go_at_call 302;refine st (Tz _ _) ?_;rw[HX.o]));refine bodyPost_ret (v:=.tuple #[.agg #[iv v,iv (8*s),iv (f/16),iv 0,.bool false],.bool true]) ?_ rfl ⟨by rw[E.o],?_⟩
  ·rw[results_cell_tmp rfl];go_simp
  ·(repeat' (first|with_reducible exact Below.refl _ _|with_reducible refine Below.drew ?_|with_reducible refine Below.alloc ?_ ?_ _|(simp;done)|(simp;omega)))
 ·have E:Hid (f/16=AO k f):=aba (by
   have hx2:=hx;simp[thr]at hx2
   simp[AO];omega)
  have HX:=aba hx;clear hx;go_enter func280,ntmps280;go_wp2_with (first|(go_at_call 120;refine st (bY _ _ _ (by omega) (by omega)) ?_)|(go_at_call 191;refine st (wz _ _) ?_)|(go_at_call 301;refine st (yK _ _) ?_)|(go_at_call 278;refine st (xX _ _ s0 s1) ?_)|(go_at_call 302;refine st (Tz _ _) ?_;rw[HX.o]));refine bodyPost_ret (v:=.tuple #[.agg #[iv v,iv (8*s),iv (f/16),iv (f/16),.bool false],.bool true]) ?_ rfl ⟨by rw[E.o],?_⟩
  ·rw[results_cell_tmp rfl];go_simp
  ·(repeat' (first|with_reducible exact Below.refl _ _|with_reducible refine Below.drew ?_|with_reducible refine Below.alloc ?_ ?_ _|(simp;done)|(simp;omega)))
end Go.Proofs.YtgikibaajanjiaaGreatDoor
