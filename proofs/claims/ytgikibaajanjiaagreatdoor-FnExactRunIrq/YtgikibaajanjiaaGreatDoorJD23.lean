/- Part 23 of what the last text leans on. -/
import Derived.Test.YtgikibaajanjiaaGreatDoorJD22
import Derived.Defers
import Derived.Recover
set_option maxRecDepth 100000
set_option maxHeartbeats 16000000
namespace Go.Proofs.YtgikibaajanjiaaGreatDoor
open Pl
open Go.RowKit Go.Proofs.Tryz
set_option linter.unusedVariables false
theorem Blk.gb {w w':World} {b:Nat} {cs:Array Value} {ty:TypeId} {row:Option Nat} (h:Blk w b cs ty) (k:w.grownBy w' row) (hn:row≠some b):Blk w' b cs ty:=(k.block b h.lt (fun e=>hn e.symm)).trans h
theorem yl (d:Option Addr) (n c:Nat):(Value.slice d n c).ownBlock=blk d:=by cases d<;>rfl
theorem qM {w w':World} {base n m cap size:Nat} {e:TypeId} {d:Option Addr} {xs:List Value} (h:w.ownsRow base e size (.slice d n cap) m xs) (hb:∀g,blk d=some g->w'.heap[g]? = w.heap[g]?):w'.ownsRow base e size (.slice d n cap) m xs:=by
 rcases h with⟨hl,⟨e1,e0⟩|⟨g',cap',cur,e1,h1,hgg,rest⟩⟩
 ·exact⟨hl,.inl ⟨e1,e0⟩⟩
 ·cases e1;exact⟨hl,.inr ⟨g',_,cur,rfl,h1,(hb g' rfl).trans hgg,rest⟩⟩
def Tld (w:World) (base:Nat) (d:Option Addr) (cap:Nat) (vs:List Int):Prop:=w.ownsRow base 3 1 (.slice d vs.length cap) vs.length (vs.map (Value.int .i64))
section
variable {w w':World} {base:Nat} {d:Option Addr} {cap:Nat} {vs:List Int}
theorem Tld.nil (w:World) (base:Nat):Tld w base none 0 []:=World.ownsRow_nil _ _ _ _
theorem Tld.lt (h:Tld w base d cap vs):∀g,blk d=some g->base<=g/\g<w.heap.size:=fun g e=>World.ownsRow.lt h g (by rw[yl];exact e)
theorem Tld.kept {x y:Nat} (h:Tld w base d cap vs) (k:Kept x y w w') (hn:∀g,blk d=some g->¬(x<=g/\g<y)):Tld w' base d cap vs:=qM h (fun g e=>k.block g (h.lt g e).2 (hn g e))
theorem Tld.any (h:Tld w base d cap vs) (k:Kept 0 0 w w'):Tld w' base d cap vs:=h.kept k (by omega)
theorem Tld.since {lo hi g g':Nat} (h:Tld w base d cap vs) (k:Since w lo hi g w' g') (hn:∀z,blk d=some z->¬own lo hi g z):Tld w' base d cap vs:=qM h (fun z e=>k.2.block z (h.lt z e).2 (hn z e))
theorem Tld.slot (h:Tld w base d cap vs):aK w base w.heap.size d vs:=by
 rcases h.2 with⟨e,e0⟩|⟨g,c,cur,e,hb,hr⟩
 ·injection e with e1 e2 e3
  exact .inl ⟨e1,List.eq_nil_of_length_eq_zero e2⟩
 ·injection e with e1 e2 e3
  subst e1;exact zx h
theorem DC {ops:Array Oper} {rest:List Oper} {o:Oper} {a:Act} {Q:Exit->Act->World->Prop} (hgd:o.guard=none) (s x:Operand) (ho:o.op=.call {callee:=.builtin .append,args:=#[s,x],argTypes:=#[22,22]}) (V:Int)
  (hs:a.eval s=.slice d vs.length cap) (h:Tld w base d cap vs) (B:Nat) (hB:w.heap.size=B) (hx:a.eval x=.slice (some (abb B 0)) 1 1) (hb:base<=B) (hl:vs.length<=100000)
  (K:∀g c w',Tld w' base (some (abb g 0)) c (vs++[V])->(w.alloc (.cells #[iv V] 3)).grownBy w' (blk d)->(blk d=some g\/g=B+1)->g<w'.heap.size->wpList prog ops Q rest (a.put o.dst (.slice (some (abb g 0)) (vs++[V]).length c)) w') :
  wpList prog ops Q (o :: rest) a (w.alloc (.cells #[iv V] 3)):=by
 subst hB;obtain⟨i0,hi0,hz0,hz1,hz2⟩:=info_parts Tryz.info3;refine wpList_append_lies _ hgd s x _ ho base 3 i0 (.int .i64 0) 1 8 underlying22 hi0 hz0 hz1 hz2 rfl (by decide) _ vs.length _ hs (h.any (kept_alloc w _)) (abb w.heap.size 0) 1 1 [iv V] hx rfl (World.news_of_block (cs:=#[iv V]) (t:=3) (fr:=(0,0)) (heap_alloc_new w _)) (by simp[Value.oneCell']) (by decide) (by unfold maxLen;omega) (by omega) (by simp;omega) (w.heap.size+1) (by simp) ?_;intro g c w' o5 k5 hg5 l5;have el:(vs++[V]).length=vs.length+1:=by simp
 have em:(vs++[V]).map (Value.int .i64)=vs.map (Value.int .i64)++[iv V]:=by simp
 have:=K g c w' (by unfold Tld;rw[el,em];exact o5) (by rw[<-yl d vs.length cap];exact k5) (by rw[<-yl d vs.length cap];exact hg5) l5
 rw[el]at this;exact this
end
theorem CpO.gb {w w':World} {base O gd ga g1 g2:Nat} {c:Cp} {row:Option Nat} (h:CpO w base O c gd ga g1 g2) (k:w.grownBy w' row) (hn:∀z,row=some z->z≠gd/\z≠ga/\z≠g1/\z≠g2):CpO w' base O c gd ga g1 g2:=by
 have:=k.size
 have h1:=h.d1;have h2:=h.a1;have h3:=h.b1;have h4:=h.l1;exact⟨h.d.kept k (fun e=>(hn _ e.symm).1 rfl),h.a.kept k (fun e=>(hn _ e.symm).2.1 rfl),h.b.kept k (fun e=>(hn _ e.symm).2.2.1 rfl),h.l.kept k (fun e=>(hn _ e.symm).2.2.2 rfl),h.d0,by omega,h.a0,by omega,h.b0,by omega,h.l0,by omega,h.dO,h.aO,h.bO,h.lO,h.n1,h.n2,h.n3,h.n4,h.n5,h.n6⟩
theorem CAt.gb {w w':World} {lo b g:Nat} {c:Mc} {h:Hl} {row:Option Nat} (a:CAt w lo b g c h) (k:w.grownBy w' row) (h1:row≠some b) (h2:row≠some g):CAt w' lo b g c h:=by
 obtain⟨cu,hB,hO⟩:=a;exact⟨cu,Blk.gb hB k h1,⟨qM hO.l (fun z e=>k.block z (by have:g=z:=Option.some.inj e;have:=hO.lt;omega) (fun e2=>h2 (e2.symm.trans e.symm))),hO.lo',hO.ne⟩⟩
theorem Eu {w W w':World} {row:Option Nat} (h:Kept 0 0 w W) (k:W.grownBy w' row) (hn:∀z,row=some z->w.heap.size<=z):Kept 0 0 w w':=
 ⟨k.os.trans h.os,k.tape.trans h.tape,k.output.trans h.output,Nat.le_trans h.size k.size,fun i hi hh=>(k.block i (Nat.lt_of_lt_of_le hi h.size) (fun e=>by have:=hn i e.symm;omega)).trans (h.block i hi hh)⟩
structure MR (w wr:World) (O:Nat) (cs rz:Array Value) (ty:TypeId) (X:Cp) (gd ga g1 g2:Nat) (d:Option Addr):Prop where
 o:Blk wr O cs ty
 c:CpO wr (w.heap.size+2) O X gd ga g1 g2
 r:Blk wr (w.heap.size+1) rz ty
 k:Kept 0 0 w wr
 lo:w.heap.size+2<=O
 n:∀z,blk d=some z->z≠O/\z≠gd/\z≠ga/\z≠g1/\z≠g2/\w.heap.size+2<=z/\z<wr.heap.size
section
variable {w wr:World} {O:Nat} {cs rz:Array Value} {ty:TypeId} {X:Cp} {gd ga g1 g2:Nat} {d:Option Addr}
theorem MR.any {Y:World} (h:MR w wr O cs rz ty X gd ga g1 g2 d) (k:Kept 0 0 wr Y):MR w Y O cs rz ty X gd ga g1 g2 d:=
 ⟨h.o.ae k,h.c.kept k (by omega),h.r.ae k,h.k.trans k,h.lo,fun z e=>by have:=h.n z e;have:=k.size;omega⟩
theorem MR.grow {w5:World} {o:Obj} {g B:Nat} (h:MR w wr O cs rz ty X gd ga g1 g2 d) (k:(wr.alloc o).grownBy w5 (blk d)) (hB:wr.heap.size=B) (hg:blk d=some g\/g=B+1) (hl:g<w5.heap.size):MR w w5 O cs rz ty X gd ga g1 g2 (some (abb g 0)):=by
 subst hB;have h':=h.any (kept_alloc wr o);have hs:=h.k.size;have hlo:=h.lo;refine⟨h'.o.gb k (fun e=>(h.n _ e).1 rfl),h'.c.gb k (fun z e=>by have:=h.n z e;omega),h'.r.gb k (fun e=>by have:=h.n _ e;omega),Eu h'.k k (fun z e=>by have:=h.n z e;omega),hlo,fun z e => ?_⟩;have e:g=z:=Option.some.inj e;subst e;have hO:=h.o.lt;have:=h.c.d1;have:=h.c.a1;have:=h.c.b1;have:=h.c.l1;rcases hg with hg|hg
 ·have:=h.n _ hg;omega
 ·omega
end
structure PR (w wr:World) (lo P g:Nat) (X:Cp) (h:Hl) (rz:Array Value) (ty:TypeId) (d:Option Addr):Prop where
 c:CAt wr lo P g (Mc.ofC X) h
 r:Blk wr (w.heap.size+1) rz ty
 k:Kept 0 0 w wr
 lo:w.heap.size+2<=lo
 n:∀z,blk d=some z->z≠P/\z≠g/\w.heap.size+2<=z/\z<wr.heap.size
section
variable {w wr:World} {lo P g:Nat} {X:Cp} {h:Hl} {rz:Array Value} {ty:TypeId} {d:Option Addr}
theorem PR.any {Y:World} (a:PR w wr lo P g X h rz ty d) (k:Kept 0 0 wr Y):PR w Y lo P g X h rz ty d:=
 ⟨a.c.any k,a.r.ae k,a.k.trans k,a.lo,fun z e=>by have:=a.n z e;have:=k.size;omega⟩
theorem PR.step {Y:World} {g':Nat} {N:Cp} {h':Hl} (a:PR w wr lo P g X h rz ty d) (hc:CAt Y lo P g' (Mc.ofC N) h') (hs:Since wr P (P+1) g Y g'):PR w Y lo P g' N h' rz ty d:=by
 obtain⟨l0,l1,l2,l3,l4⟩:=a.c.lt;have hl:=a.lo;have hw:=a.k.size;have:=hs.size;refine⟨hc,hs.2.blk a.r (by unfold own;omega),Aa a.k hs (by omega) (by omega),hl,fun z e => ?_⟩;have:=a.n z e;rcases hs.1 with e1|e1<;>omega
theorem PR.grow {w5:World} {o:Obj} {q B:Nat} (a:PR w wr lo P g X h rz ty d) (k:(wr.alloc o).grownBy w5 (blk d)) (hB:wr.heap.size=B) (hg:blk d=some q\/q=B+1) (hl:q<w5.heap.size):PR w w5 lo P g X h rz ty (some (abb q 0)):=by
 subst hB;have h':=a.any (kept_alloc wr o);have hs:=a.k.size;have hlo:=a.lo;obtain⟨l0,l1,l2,l3,l4⟩:=a.c.lt;refine⟨h'.c.gb k (fun e=>(a.n _ e).1 rfl) (fun e=>(a.n _ e).2.1 rfl),h'.r.gb k (fun e=>by have:=a.n _ e;omega),Eu h'.k k (fun z e=>by have:=a.n z e;omega),hlo,fun z e => ?_⟩;have e:q=z:=Option.some.inj e;subst e;rcases hg with hg|hg
 ·have:=a.n _ hg;omega
 ·omega
end
def RunIn (w w':World) (C:Cp) (L:List Int) (a b e q d:Option Addr):Prop:=
 lT w' w.heap.size C a b e q/\aK w' w.heap.size w'.heap.size d L/\(∀z,blk d=some z->blk a≠some z/\blk b≠some z/\blk e≠some z/\blk q≠some z)/\Kept 0 0 w w'
theorem zG {w w':World} (k:Kept 0 0 w w'):RunIn w w' QV [] none none none none none:=⟨MN _ _,.inl ⟨rfl,rfl⟩,(fun z e=>by cases e),k⟩
theorem PR.Xl {w wr Y Z:World} {lo P g cap:Nat} {X:Cp} {h:Hl} {rz:Array Value} {ty:TypeId} {d a b e q:Option Addr} {vs:List Int} (p:PR w wr lo P g X h rz ty d) (t:Tld wr (w.heap.size+2) d cap vs) (hi:lT Y lo X a b e q) (k6:Kept 0 0 wr Y) (hn:∀z,blk a=some z\/blk b=some z\/blk e=some z\/blk q=some z->z=g\/wr.heap.size<=z) (k:Kept (w.heap.size+1) (w.heap.size+2) Y Z):RunIn w Z X vs a b e q d:=by
 have hl:=p.lo;refine⟨hi.mvs k (by omega) (by omega),((t.any k6).kept k (fun z e=>by have:=p.n z e;omega)).slot.wide (by omega) (Nat.le_refl _),fun z e1 => ?_,aB (p.k.trans k6) k (by omega)⟩;have:=p.n z e1;refine⟨?_,?_,?_,?_⟩
 ·intro e2;have:=hn z (.inl e2);omega
 ·intro e2;have:=hn z (.inr (.inl e2));omega
 ·intro e2;have:=hn z (.inr (.inr (.inl e2)));omega
 ·intro e2;have:=hn z (.inr (.inr (.inr e2)));omega
theorem Own.irw {w:World} {g:Nat} {xs:List Int} (h:Own w g xs):aF w (some (abb g 0)) xs:=h.row
theorem XP (w:World) (x:Iq) (gd cd ga cA g1 c1 g2 c2 base O:Nat) (h:CpO w base O x.c gd ga g1 g2) (hO:O<w.heap.size) (hok:jr x=true) (hl:x.c.bl.length=5*x.c.bm) :
  Calls prog 89 #[.agg (irA x (some (abb gd 0)) (some (abb ga 0)) (some (abb g1 0)) (some (abb g2 0)) cd cA c1 c2)] w fun r w'=>∃gd' cd' ga' cA' g1' c1' g2' c2':Nat,r=.returned (.tuple #[.agg (irA (Pl.bnd x) (some (abb gd' 0)) (some (abb ga' 0)) (some (abb g1' 0)) (some (abb g2' 0)) cd' cA' c1' c2'),iv (lG x)])/\CpO w' base O (Pl.bnd x).c gd' ga' g1' g2'/\(∀z,z<w.heap.size->z≠gd/\z≠ga/\z≠g1/\z≠g2->z≠gd'/\z≠ga'/\z≠g1'/\z≠g2')/\Kept 0 0 w w':=by
 cases hI:Dw x
 ·refine(XQ w x _ _ _ _ cd cA c1 c2 h.d.irw h.a.irw h.b.irw h.l.irw hok hl hI).mono ?_;rintro r w'⟨gd',cd',ga',cA',g1',c1',g2',c2',mid,rfl,hc,k⟩;have:=hc.d0;have:=hc.d1;have:=hc.a0;have:=hc.a1;have:=hc.b0;have:=hc.b1;have q:=hc.l.lt g2' rfl;have:=h.d0;have:=h.d1;exact⟨gd',cd',ga',cA',g1',c1',g2',c2',rfl,hc.cpO (by omega) (.inl hO),fun z hz _=>by omega,k⟩
 ·obtain⟨e1,e2⟩:=NJ hI;refine(XR w x _ _ _ _ cd cA c1 c2 hI).mono ?_;rintro r w'⟨rfl,k⟩;exact⟨gd,cd,ga,cA,g1,c1,g2,c2,by rw[e1,e2],by rw[e1];exact h.kept k (by omega),fun z _ hz=>hz,k⟩
def Pl.kE:Nat->Iq->Iq × List Int
 | 0,x=>(x,[])
 | n+1,x=>((kE n (Pl.bnd x)).1,lG x :: (kE n (Pl.bnd x)).2)
def Pl.nZ (x:Iq) (n:Int):Bool:=jr x&&within n 0 60
def Pl.rqX (x:Iq) (n:Int):Iq:=bif nZ x n then (kE n.toNat x).1 else U7
def Pl.rqL (x:Iq) (n:Int):List Int:=bif nZ x n then (kE n.toNat x).2 else []
theorem Pl.xK:∀(n:Nat) (x:Iq),jr x=true->x.c.bl.length=5*x.c.bm->jr (kE n x).1=true/\(kE n x).1.c.bl.length=5*(kE n x).1.c.bm/\(kE n x).2.length=n
 | 0,x,h,hl=>⟨h,hl,rfl⟩
 | n+1,x,h,hl=>by
  obtain⟨g1,g2⟩:=wK h hl;obtain⟨a1,a2,a3⟩:=xK n (Pl.bnd x) g1 g2;exact⟨a1,a2,by show(lG x :: (kE n (Pl.bnd x)).2).length=n+1;simp[a3]⟩
theorem Pl.Jm {x:Iq} {n:Int} (h:nZ x n=false):jr x=false\/(jr x=true/\(decide (0<=n)&&decide (n<=60))=false):=by
 unfold nZ at h;cases h1:jr x
 ·exact .inl rfl
 ·rw[h1,Bool.true_and]at h;exact .inr ⟨rfl,h⟩
theorem Pl.Jl {x Y:Iq} {m:Nat} {vs:List Int} (ho:nZ x (m:Int)=true) (hk:¬vs.length<m) (hr:kE m x=((kE (m-vs.length) Y).1,vs++(kE (m-vs.length) Y).2)):rqX x (m:Int)=Y/\rqL x (m:Int)=vs:=by
 rw[show m-vs.length=0 by omega]at hr;unfold rqX rqL;rw[ho,show(m:Int).toNat=m from rfl,hr];exact⟨rfl,List.append_nil vs⟩
theorem Pl.Td {x Y:Iq} {m:Nat} {vs:List Int} (hk:vs.length<m) (hr:kE m x=((kE (m-vs.length) Y).1,vs++(kE (m-vs.length) Y).2)):kE m x=((kE (m-(vs.length+1)) (Pl.bnd Y)).1,(vs++[lG Y])++(kE (m-(vs.length+1)) (Pl.bnd Y)).2):=by
 rw[hr,show m-vs.length=(m-(vs.length+1))+1 by omega];simp[kE]
def qJ (w:World) (x:Iq) (n:Int) (r:Ending) (w':World):Prop:=∃(a' b' e' q' d':Option Addr) (ca' cb' ce' cq' cd':Nat),r=.returned (.tuple #[.agg (irA (rqX x n) a' b' e' q' ca' cb' ce' cq'),.slice d' (rqL x n).length cd',.bool (nZ x n)])/\RunIn w w' (rqX x n).c (rqL x n) a' b' e' q' d'
theorem DV {w w':World} {x:Iq} {n:Int} {r:Ending} (a' b' e' q' d':Option Addr) (ca' cb' ce' cq' cd':Nat) (h:r=.returned (.tuple #[.agg (irA (rqX x n) a' b' e' q' ca' cb' ce' cq'),.slice d' (rqL x n).length cd',.bool (nZ x n)])) (k:RunIn w w' (rqX x n).c (rqL x n) a' b' e' q' d'):qJ w x n r w':=⟨a',b',e',q',d',ca',cb',ce',cq',cd',h,k⟩
theorem MR.dm {w wr Y Z:World} {O:Nat} {cs cs' rz:Array Value} {ty:TypeId} {X N:Cp} {gd ga g1 g2 hd ha h1 h2:Nat} {d:Option Addr} (h:MR w wr O cs rz ty X gd ga g1 g2 d) (k:Kept 0 0 wr Y) (hc:CpO Y (w.heap.size+2) O N hd ha h1 h2) (hz:∀z,z<wr.heap.size->z≠gd/\z≠ga/\z≠g1/\z≠g2->z≠hd/\z≠ha/\z≠h1/\z≠h2) (k2:Kept O (O+1) Y Z) (hb:Blk Z O cs' ty):MR w Z O cs' rz ty N hd ha h1 h2 d:=by
 have hl:=h.lo;have hy:=k.size;have hz2:=k2.size;refine⟨hb,hc.kept k2 (by omega),(h.r.ae k).kept k2 (by omega),aB (h.k.trans k) k2 (by omega),hl,fun z e => ?_⟩;have q:=h.n z e;have q2:=hz z q.2.2.2.2.2.2 ⟨q.2.1,q.2.2.1,q.2.2.2.1,q.2.2.2.2.1⟩;exact⟨q.1,q2.1,q2.2.1,q2.2.2.1,q2.2.2.2,q.2.2.2.2.2.1,by omega⟩
theorem MR.ZM {w wr Y Z:World} {O:Nat} {cs rz:Array Value} {ty:TypeId} {X:Cp} {gd ga g1 g2 cap mid hd ha h1 h2 c2:Nat} {d:Option Addr} {vs:List Int} (h:MR w wr O cs rz ty X gd ga g1 g2 d) (t:Tld wr (w.heap.size+2) d cap vs) (k:Kept 0 0 wr Y) (hc:CO Y wr.heap.size mid X hd ha h1 h2 c2) (k2:Kept (w.heap.size+1) (w.heap.size+2) Y Z):RunIn w Z X vs (some (abb hd 0)) (some (abb ha 0)) (some (abb h1 0)) (some (abb h2 0)) d:=by
 have hl:=h.lo;have hO:=h.o.lt;have q:=hc.l.lt h2 rfl;have:=hc.d0;have:=hc.d1;have:=hc.a0;have:=hc.a1;have:=hc.b0;have:=hc.b1;refine⟨(hc.vH (lo:=w.heap.size) k2 (by omega) (by omega)).Yp,((t.any k).kept k2 (fun z e=>by have:=h.n z e;omega)).slot.wide (by omega) (Nat.le_refl _),fun z e => ?_,aB (h.k.trans k) k2 (by omega)⟩;have:=h.n z e;refine⟨?_,?_,?_,?_⟩<;>(intro e2;have e3:=Option.some.inj e2;simp at e3;omega)
theorem uX (w:World) (x:Iq) (n:Int) (a b e q:Option Addr) (ca cb ce cq:Nat) (ha:aF w a x.c.r.xs) (hb:aF w b x.c.r.ys) (he:aF w e x.c.bx) (hq:aF w q x.c.bl) (lx:x.c.r.xs.length<=2000000) (ly:x.c.r.ys.length<=2000000) (lb:x.c.bx.length<=2000000) (ll:x.c.bl.length=5*x.c.bm) (lm:x.c.bm<=2000000) (hs:nZ x n=false) :
  Calls prog 48 #[.agg (irA x a b e q ca cb ce cq),iv n] w fun r w'=>qJ w x n r w':=by
 have K0:=aba (ah (kept_alloc w (.cells (irA x a b e q ca cb ce cq) 81)) (.cells iqZ 81));have BA:=aba ((Blk.new w (irA x a b e q ca cb ce cq) 81).alloc (.cells iqZ 81));have R0:=Blk.new (w.alloc (.cells (irA x a b e q ca cb ce cq) 81)) iqZ 81;simp only[World.size_alloc]at R0;replace R0:=aba R0;obtain⟨X,hX⟩:∃X:World,(w.alloc (.cells (irA x a b e q ca cb ce cq) 81)).alloc (.cells iqZ 81)=X:=⟨_,rfl⟩
 rw[hX]at K0 BA R0;have sX:w.heap.size+1<X.heap.size:=R0.o.lt;have HA:=aba (ha.ag K0.o);have HB:=aba (hb.ag K0.o);have HE:=aba (he.ag K0.o);have HQ:=aba (hq.ag K0.o);clear ha hb he hq;have p:=BA.o.all;have EC:Hid (rqX x n=U7/\rqL x n=[]):=aba (by unfold rqX rqL;rw[hs];exact⟨rfl,rfl⟩);have HS9:=aba hs;rcases Jm hs with h1|⟨h1,h2⟩
 all_goals
  first|(have HN:=aba h2;clear h2)|skip
  clear hs;go_enter func48,ntmps48;go_wp2_with (first|(go_at_call 75;refine st (dF _ _ _ _) ?_;rw[HN.o])|(go_at_call 88;refine(uh _ x a b e q ca cb ce cq HA.o HB.o HE.o HQ.o lx ly lb ll lm).mono ?_;rintro e9 W1⟨rfl,k9⟩;rw[h1];have K1:=aba k9;have p1:=(BA.o.ae k9).all;have r1:=(R0.o.ae k9).all;have rf1:=(R0.o.ae k9).fz;clear k9 p));have s1:=K1.o.size;refine bodyPost_ret (v:=.tuple #[.agg iqZ,.slice none 0 0,.bool false]) ?_ rfl (DV none none none none none 0 0 0 0 0 (by rw[EC.o.1,EC.o.2,HS9.o];rfl) (by rw[EC.o.1,EC.o.2];exact zG (aB (K0.o.trans K1.o) dC (by omega))));rw[lL rfl];go_simp
theorem wV (w:World) (x:Iq) (n:Int) (a b e q:Option Addr) (ca cb ce cq:Nat) (ha:aF w a x.c.r.xs) (hb:aF w b x.c.r.ys) (he:aF w e x.c.bx) (hq:aF w q x.c.bl) (lx:x.c.r.xs.length<=2000000) (ly:x.c.r.ys.length<=2000000) (lb:x.c.bx.length<=2000000) (ll:x.c.bl.length=5*x.c.bm) (lm:x.c.bm<=2000000) (hs:nZ x n=true) :
  Calls prog 48 #[.agg (irA x a b e q ca cb ce cq),iv n] w fun r w'=>qJ w x n r w':=by
 have q9:jr x=true/\(0<=n/\n<=60):=by simpa[nZ,within] using hs
 obtain⟨h1,hn0,hn1⟩:=q9;obtain⟨m,rfl⟩:∃m:Nat,n=(m:Int):=⟨n.toNat,by omega⟩
 have hm:m<=60:=by omega
 have HN:Hid ((decide (0<=(m:Int))&&decide ((m:Int)<=60))=true):=aba (by simp;omega);have HS9:=aba hs;have HC:=aba (pJ h1).1;clear hs hn0 hn1;have K0:=aba (ah (kept_alloc w (.cells (irA x a b e q ca cb ce cq) 81)) (.cells iqZ 81));have BA:=aba ((Blk.new w (irA x a b e q ca cb ce cq) 81).alloc (.cells iqZ 81));have R0:=Blk.new (w.alloc (.cells (irA x a b e q ca cb ce cq) 81)) iqZ 81;simp only[World.size_alloc]at R0;replace R0:=aba R0;obtain⟨X,hX⟩:∃X:World,(w.alloc (.cells (irA x a b e q ca cb ce cq) 81)).alloc (.cells iqZ 81)=X:=⟨_,rfl⟩
 rw[hX]at K0 BA R0;have sX:w.heap.size+1<X.heap.size:=R0.o.lt;have HA:=aba (ha.ag K0.o);have HB:=aba (hb.ag K0.o);have HE:=aba (he.ag K0.o);have HQ:=aba (hq.ag K0.o);clear ha hb he hq;have p:=BA.o.all;go_enter func48,ntmps48;go_wp2_with (first|(go_at_call 75;refine st (dF _ _ _ _) ?_;rw[HN.o])|(go_at_call 88;refine(uh _ x a b e q ca cb ce cq HA.o HB.o HE.o HQ.o lx ly lb ll lm).mono ?_;rintro e9 W1⟨rfl,k9⟩;rw[h1];have K1:=aba k9;have p1:=(BA.o.ae k9).all;have r1:=(R0.o.ae k9).all;have rf1:=(R0.o.ae k9).fz;clear k9 p)|(go_at_call 90;refine(Tj _ x a b e q ca cb ce cq (HA.o.ag K1.o) (HB.o.ag K1.o) (HE.o.ag K1.o) (HQ.o.ag K1.o) HC.o ll).mono ?_;rintro e9 W2⟨gd,cd,ga,cA,g1,c1,g2,c2,mid,rfl,hc9,k9⟩;have z1:X.heap.size<=W1.heap.size:=K1.o.size;have z2:=k9.size;have M0:Hid (MR w (W2.alloc (.cells (irA x (some (abb gd 0)) (some (abb ga 0)) (some (abb g1 0)) (some (abb g2 0)) cd cA c1 c2) 81)) W2.heap.size (irA x (some (abb gd 0)) (some (abb ga 0)) (some (abb g1 0)) (some (abb g2 0)) cd cA c1 c2) iqZ 81 x.c gd ga g1 g2 none):=aba ⟨Blk.new W2 _ _,(hc9.cpO (base:=w.heap.size+2) (O:=W2.heap.size) (by omega) (.inr (Nat.le_refl _))).kept (kept_alloc W2 _) (by omega),(R0.o.ae (K1.o.trans k9)).alloc _,ah ((K0.o.trans K1.o).trans k9) _,by omega,by intro z e;cases e⟩;clear hc9 k9 r1 rf1 p1));clear hX;go_loopw [1,8] (fun j v wr=>∃(Y:Iq) (gd cd ga cA g1 c1 g2 c2:Nat) (d:Option Addr) (cap:Nat) (vs:List Int),vs.length<=m/\j=iv ((m-vs.length:Nat):Int)/\v=.slice d vs.length cap/\jr Y=true/\Y.c.bl.length=5*Y.c.bm/\kE m x=((kE (m-vs.length) Y).1,vs++(kE (m-vs.length) Y).2)/\MR w wr W2.heap.size (irA Y (some (abb gd 0)) (some (abb ga 0)) (some (abb g1 0)) (some (abb g2 0)) cd cA c1 c2) iqZ 81 Y.c gd ga g1 g2 d/\Tld wr (w.heap.size+2) d cap vs) (fun j _ _=>(intOf j).toNat)
 case atStart=>exact⟨x,gd,cd,ga,cA,g1,c1,g2,c2,none,0,[],Nat.zero_le _,rfl,rfl,h1,ll,rfl,M0.o,Tld.nil _ _⟩
 case round=>
  clear M0;obtain⟨Y,gd,cd,ga,cA,g1,c1,g2,c2,d,cap,vs,hk,rfl,rfl,hok,hbl,hrec,hM,hT⟩:=hrel;have M:=aba hM;have TT:=aba hT;have Oa:=aba hrec;have hO:=hM.lo;have hOl:=hM.o.lt;have hws:=hM.k.size;have HY:=aba (wK hok hbl);have oo:=hM.o.all;clear hM hT hrec;by_cases h:vs.length<m
  ·have REC:=aba (Td h Oa.o);have HB9:=XP wr Y gd cd ga cA g1 c1 g2 c2 (w.heap.size+2) W2.heap.size M.o.c hOl hok hbl;obtain⟨N,hN⟩:∃N,N=Pl.bnd Y:=⟨_,rfl⟩
   obtain⟨V,hV⟩:∃V,V=lG Y:=⟨_,rfl⟩
   rw[<-hN,<-hV]at REC;rw[<-hN]at HY;simp only[<-hN,<-hV]at HB9;have dk:(0:Int)<((m-vs.length:Nat):Int):=by omega
   clear hN hV hok hbl;go_upto_region 9 with (go_at_call 89;refine HB9.mono ?_;rintro e9 W3⟨gd',cd',ga',cA',g1',c1',g2',c2',rfl,hc9,hz9,k9⟩;have C3:=aba hc9;have Z3:=aba hz9;have K3:=aba k9;have l3:=(Blk.new W3 (irA N (some (abb gd' 0)) (some (abb ga' 0)) (some (abb g1' 0)) (some (abb g2' 0)) cd' cA' c1' c2') 81).all;have o3:=((M.o.o.ae k9).alloc (.cells (irA N (some (abb gd' 0)) (some (abb ga' 0)) (some (abb g1' 0)) (some (abb g2' 0)) cd' cA' c1' c2') 81)).all;have of3:=((M.o.o.ae k9).alloc (.cells (irA N (some (abb gd' 0)) (some (abb ga' 0)) (some (abb g1' 0)) (some (abb g2' 0)) cd' cA' c1' c2') 81)).fz;have z3:=k9.size;clear hc9 hz9 k9 oo);have MZ:=M.o.dm (ah K3.o (.cells (irA N (some (abb gd' 0)) (some (abb ga' 0)) (some (abb g1' 0)) (some (abb g2' 0)) cd' cA' c1' c2') 81)) (C3.o.kept (kept_alloc W3 _) (by omega)) Z3.o (dC (w:=W3.alloc (.cells (irA N (some (abb gd' 0)) (some (abb ga' 0)) (some (abb g1' 0)) (some (abb g2' 0)) cd' cA' c1' c2') 81)) (p:=W2.heap.size) (v0:=(.slice (some (abb gd' 0)) N.c.r.xs.length cd')) (v1:=(.slice (some (abb ga' 0)) N.c.r.ys.length cA')) (v2:=(iv N.c.r.o)) (v3:=(iv N.c.r.p)) (v4:=(iv N.c.r.f)) (v5:=(iv N.c.r.m)) (v6:=(.bool N.c.r.s)) (v7:=(.bool N.c.r.t)) (v8:=(.slice (some (abb g1' 0)) N.c.bx.length c1')) (v9:=(.slice (some (abb g2' 0)) N.c.bm c2')) (v10:=(.bool N.c.st)) (v11:=(.bool N.c.ha)) (v12:=(iv N.l)) (v13:=(.bool N.e))) (Blk.DI ((M.o.o.ae K3.o).alloc _));have TZ:=Tld.kept (TT.o.any (ah K3.o (.cells (irA N (some (abb gd' 0)) (some (abb ga' 0)) (some (abb g1' 0)) (some (abb g2' 0)) cd' cA' c1' c2') 81))) (dC (w:=W3.alloc (.cells (irA N (some (abb gd' 0)) (some (abb ga' 0)) (some (abb g1' 0)) (some (abb g2' 0)) cd' cA' c1' c2') 81)) (p:=W2.heap.size) (v0:=(.slice (some (abb gd' 0)) N.c.r.xs.length cd')) (v1:=(.slice (some (abb ga' 0)) N.c.r.ys.length cA')) (v2:=(iv N.c.r.o)) (v3:=(iv N.c.r.p)) (v4:=(iv N.c.r.f)) (v5:=(iv N.c.r.m)) (v6:=(.bool N.c.r.s)) (v7:=(.bool N.c.r.t)) (v8:=(.slice (some (abb g1' 0)) N.c.bx.length c1')) (v9:=(.slice (some (abb g2' 0)) N.c.bm c2')) (v10:=(.bool N.c.st)) (v11:=(.bool N.c.ha)) (v12:=(iv N.l)) (v13:=(.bool N.e))) (fun z e=>by have:=M.o.n z e;omega);obtain⟨Z,hZ⟩:∃Z:World,Z=(((((((((((((((W3.alloc (.cells (irA N (some (abb gd' 0)) (some (abb ga' 0)) (some (abb g1' 0)) (some (abb g2' 0)) cd' cA' c1' c2') 81)).setCell (abb W2.heap.size 0) (.slice (some (abb gd' 0)) N.c.r.xs.length cd')).setCell (abb W2.heap.size 1) (.slice (some (abb ga' 0)) N.c.r.ys.length cA')).setCell (abb W2.heap.size 2) (iv N.c.r.o)).setCell (abb W2.heap.size 3) (iv N.c.r.p)).setCell (abb W2.heap.size 4) (iv N.c.r.f)).setCell (abb W2.heap.size 5) (iv N.c.r.m)).setCell (abb W2.heap.size 6) (.bool N.c.r.s)).setCell (abb W2.heap.size 7) (.bool N.c.r.t)).setCell (abb W2.heap.size 8) (.slice (some (abb g1' 0)) N.c.bx.length c1')).setCell (abb W2.heap.size 9) (.slice (some (abb g2' 0)) N.c.bm c2')).setCell (abb W2.heap.size 10) (.bool N.c.st)).setCell (abb W2.heap.size 11) (.bool N.c.ha)).setCell (abb W2.heap.size 12) (iv N.l)).setCell (abb W2.heap.size 13) (.bool N.e)):=⟨_,rfl⟩
   rw[<-hZ]at MZ TZ ⊢;have sZ:w.heap.size+2<=Z.heap.size:=by have:=MZ.o.lt;omega
   replace MZ:=aba MZ;replace TZ:=aba TZ;clear hZ l3 o3 of3;go_wp2_with (at_builtin;refine DC rfl (.tmp 32) (.tmp 34) rfl V rfl TZ.o Z.heap.size rfl rfl sZ (by omega) ?_;intro g5 cq5 w5 t5 k5 hg5 l5;have M5:=aba (MZ.o.grow k5 rfl hg5 l5);have T5:=aba t5;clear t5 k5 hg5);go_roundw
   case rel=>exact⟨N,gd',cd',ga',cA',g1',c1',g2',c2',some (abb g5 0),cq5,vs++[V],by simp;omega,by simp only[List.length_append,List.length_cons,List.length_nil];go_num,by simp,HY.o.1,HY.o.2,by rw[List.length_append];exact REC.o,M5.o,T5.o⟩
   case measure=>simp[intOf];omega
  ·have RES:=aba (Jl HS9.o h Oa.o);have HCY:=aba (pJ hok).1;have HBL:=aba hbl;have dk:¬(0:Int)<((m-vs.length:Nat):Int):=by omega
   clear hok hbl;go_wp2_with (go_at_call 90;refine(Tj _ Y _ _ _ _ cd cA c1 c2 M.o.c.d.irw M.o.c.a.irw M.o.c.b.irw M.o.c.l.irw HCY.o HBL.o).mono ?_;rintro e9 W4⟨gd',cd',ga',cA',g1',c1',g2',c2',mid',rfl,hc9,k9⟩;have C4:=aba hc9;have K4:=aba k9;have rr:=(M.o.r.ae k9).all;have rf:=(M.o.r.ae k9).fz;clear hc9 k9 oo);refine bodyPost_ret (v:=.tuple #[.agg (irA Y (some (abb gd' 0)) (some (abb ga' 0)) (some (abb g1' 0)) (some (abb g2' 0)) cd' cA' c1' c2'),.slice d vs.length cap,.bool true]) ?_ rfl (DV _ _ _ _ d cd' cA' c1' c2' cap (by rw[RES.o.1,RES.o.2,HS9.o]) (by rw[RES.o.1,RES.o.2];exact M.o.ZM TT.o K4.o C4.o dC));rw[lL rfl];go_simp
theorem BU (w:World) (x:Iq) (n:Int) (a b e q:Option Addr) (ca cb ce cq:Nat) (ha:aF w a x.c.r.xs) (hb:aF w b x.c.r.ys) (he:aF w e x.c.bx) (hq:aF w q x.c.bl) (lx:x.c.r.xs.length<=2000000) (ly:x.c.r.ys.length<=2000000) (lb:x.c.bx.length<=2000000) (ll:x.c.bl.length=5*x.c.bm) (lm:x.c.bm<=2000000) :
  Calls prog 48 #[.agg (irA x a b e q ca cb ce cq),iv n] w fun r w'=>qJ w x n r w':=by
 cases hs:nZ x n
 ·exact uX w x n a b e q ca cb ce cq ha hb he hq lx ly lb ll lm hs
 ·exact wV w x n a b e q ca cb ce cq ha hb he hq lx ly lb ll lm hs
theorem uQ {P:Program} {ops:Array Oper} {Q:Exit->Act->World->Prop} {id:Nat} {a:Act} {w:World} (I:Act->Array Bool->Act->World->Prop) (hm:P.follows .mixedOrders=true) (hB:PV .any ops=true)
  (hstart:I a (Array.replicate ops.size false) a w.drew)
  (hfin:∀l A w,I a l A w->(∀i,i<ops.size->l.getD i true=true)->Q .normal A w)
  (hstep:∀l A w i,I a l A w->(∀j k,j<ops.size->xQ .any ops j k=true->l.getD k true=false->l.getD j true=false)->i∈Region.ready .any ops l->wpOp P ops Q i (I a (l.setIfInBounds i true)) A w) :
  (Code.region id ops true).wp P Q a w:=by
 refine qF (fun l A w=>I a l A w/\∀j k,j<ops.size->xQ .any ops j k=true->l.getD k true=false->l.getD j true=false) hm hB ⟨hstart,fun j k hj _ _=>kU hj⟩ (fun l A w h hl=>hfin l A w h.1 hl) ?_;intro l A w i h hi;refine wpOp_mono (fun a' w' h'=>⟨h',?_⟩) (hstep l A w i h.1 h.2 hi);intro j k hj hw hk
 have hk0:l.getD k true=false:=by
  cases q:l.getD k true
  ·rfl
  ·rw[GZ q]at hk;cases hk
 by_cases e:j=i
 ·subst e;have:=ay hi k hw;rw[hk0]at this;cases this
 ·rw[getD_set_ne e];exact h.2 j k hj hw hk0
theorem Once.not {l:Array Bool} {i j:Nat} {p:Prop} (h:l.getD j true=false) (hn:j≠i):Once (l.setIfInBounds i true) j p:=fun e=>by rw[getD_set_ne hn,h]at e;cases e
theorem xk {P:Program} {o:Oper} {a:Act} {w:World} {K:Act->World->Prop} {Q:Exit->Act->World->Prop} {E:Prop} {b:Bool} (h:b=true) (g:Oper.wp P o a w K Q):if b=true then Oper.wp P o a w K Q else E:=by rw[if_pos h];exact g
abbrev tlq (l:Int) (e:Bool):Tl:=⟨#[iv l,.bool e],176⟩
theorem Tryz.Qh:(prog.info? 176).map (fun i=>(i.zero,i.size))=some (some (.agg (cor ⟨[0,0,0,0],[0,0,0,0],0,0,0,0,false,false⟩ zeros (.slice none 0 0) false ⟨false,tlq 0 false⟩)),531):=by kernel_rfl
theorem xG {r:Rg} {xs:List Int} {u:Value} {st ha e:Bool} {l:Int} (hl:xs.length=512):(cor r xs u st ⟨ha,tlq l e⟩).size=531:=by
 have:(bkR r).size=14:=rfl
 simp[cor,this,cellsOf_size,hl]
theorem Nj (r:Rg) (xs:List Int) (u:Value) (st ha:Bool) (l:Int) (e:Bool) (lx:xs.length=512) (A:Array Value) (hA:A.size=531):laid 530 #[.bool e] (laid 529 #[iv l] (laid 0 (cor r xs u st ⟨ha,tl0⟩) A))=cor r xs u st ⟨ha,tlq l e⟩:=by
 have hc:(cor r xs u st ⟨ha,tl0⟩).size=529:=pW lx;apply Array.ext_getElem?;intro i;rw[kN 530 _ _ (by simp only[fG,hA];exact Nat.le_refl 531),kN 529 _ _ (by simp only[fG,hA];exact Nat.le_succ 530),kN 0 _ _ (by rw[hA,hc];decide),hc];by_cases h1:i<529
 ·rw[if_neg (by simp;omega),if_neg (by simp;omega),if_pos (by omega)];rw[show cor r xs u st ⟨ha,tlq l e⟩=cor r xs u st ⟨ha,tl0⟩++#[iv l,.bool e] from by simp[cor,Array.append_assoc]];rw[Array.getElem?_append_left (by rw[hc];exact h1)];rfl
 ·by_cases h2:i<531
  ·have:i=529\/i=530:=by omega
   rcases this with rfl|rfl
   ·rw[if_neg (by simp),if_pos (by simp),show(529:Nat)=529+0 from rfl,Dn lx];rfl
   ·rw[if_pos (by simp),show(530:Nat)=529+1 from rfl,Dn lx];rfl
  ·rw[if_neg (by simp;omega),if_neg (by simp;omega),if_neg (by omega),Array.getElem?_eq_none (by omega),Array.getElem?_eq_none (by rw[xG lx];omega)]
theorem Dh (cs A:Array Value) (u v:Value) (hu:u.cells=#[u]) (hv:v.cells=#[v]) (hc:cs.size=529) (hA:A.size=531) :
  Instr.fill (#[(0,529),(529,1),(530,1)][·]?) A [(0,.agg cs),(1,u),(2,v)]=some (laid 530 #[v] (laid 529 #[u] (laid 0 cs A))):=by
 have h1:(laid 0 cs A).size=531:=by rw[fG,hA]
 have h2:(laid 529 #[u] (laid 0 cs A)).size=531:=by rw[fG,h1]
 have e1:cs.zipIdx.foldl (fun a (x:Value × Nat)=>a.setIfInBounds (0+x.2) x.1) A=laid 0 cs A:=rfl;have e2:(#[u]:Array Value).zipIdx.foldl (fun a (x:Value × Nat)=>a.setIfInBounds (529+x.2) x.1) (laid 0 cs A)=laid 529 #[u] (laid 0 cs A):=rfl;unfold Instr.fill;simp only[Value.cells,List.getElem?_toArray,List.getElem?_cons_zero];rw[if_neg (by simp[hc,hA])];rw[e1];unfold Instr.fill;simp only[hu,List.getElem?_cons_succ,List.getElem?_cons_zero];rw[if_neg (by simp[h1]),e2];unfold Instr.fill;simp only[hv,List.getElem?_cons_succ,List.getElem?_cons_zero];rw[if_neg (by simp[h2])];unfold Instr.fill;rfl
theorem Kq (r:Rg) (xs:List Int) (u:Value) (st ha:Bool) (l:Int) (e:Bool) (lx:xs.length=512) :
  prog.built 176 [(0,.agg (cor r xs u st ⟨ha,tl0⟩)),(1,iv l),(2,.bool e)]=some (cor r xs u st ⟨ha,tlq l e⟩):=by
 have hp:(match prog.underlying 176 with|some (.struct fields)=>fields.toList.mapM (fun f=>(prog.info? f.type).map fun i=>(f.offset,i.size))|_=>none)=some [(0,529),(529,1),(530,1)]:=by kernel_rfl
 obtain⟨Z,hZ⟩:∃Z,Z=cor ⟨[0,0,0,0],[0,0,0,0],0,0,0,0,false,false⟩ zeros (.slice none 0 0) false ⟨false,tlq 0 false⟩:=⟨_,rfl⟩
 have hz:Z.size=531:=by rw[hZ];exact xG eX
 have e:prog.built 176 [(0,.agg (cor r xs u st ⟨ha,tl0⟩)),(1,iv l),(2,.bool e)]=Instr.fill (#[(0,529),(529,1),(530,1)][·]?) Z [(0,.agg (cor r xs u st ⟨ha,tl0⟩)),(1,iv l),(2,.bool e)]:=by
  have hi:=Tryz.Qh;rw[<-hZ]at hi;unfold Program.built;cases h1:prog.info? 176 with
  | none=>rw[h1]at hi;cases hi
  | some it=>
   rw[h1]at hi;have hz:it.zero=some (.agg Z):=congrArg (fun o=>(o.map Prod.fst).getD none) hi;cases h2:prog.underlying 176 with
   | none=>rw[h2]at hp;cases hp
   | some d=>
    rw[h2]at hp;cases d
    case struct fields=>
     have hp':fields.toList.mapM (fun f=>(prog.info? f.type).map fun i=>(f.offset,i.size))=some [(0,529),(529,1),(530,1)]:=hp;simp only[hz,hp'];rfl
    all_goals cases hp
 rw[e,Dh _ Z (iv l) _ rfl rfl (pW lx) hz,Nj r xs u st ha l _ lx Z hz]
theorem ownsRow_base {w:World} {base lo n m cap size:Nat} {e:TypeId} {d:Option Addr} {xs:List Value} (h:w.ownsRow base e size (.slice d n cap) m xs) (hb:lo<=base):w.ownsRow lo e size (.slice d n cap) m xs:=by
 rcases h with⟨hl,⟨e1,e0⟩|⟨g',cap',cur,e1,h1,hgg,rest⟩⟩
 ·exact⟨hl,.inl ⟨e1,e0⟩⟩
 ·exact⟨hl,.inr ⟨g',cap',cur,e1,Nat.le_trans hb h1,hgg,rest⟩⟩
theorem CAt.base {w:World} {lo lo' b g:Nat} {c:Mc} {h:Hl} (a:CAt w lo b g c h) (hb:lo'<=lo):CAt w lo' b g c h:=by
 obtain⟨cu,hB,hO⟩:=a;exact⟨cu,hB,⟨ownsRow_base hO.l hb,Nat.le_trans hb hO.lo',hO.ne⟩⟩
theorem MP {r:Rg} {xs:List Int} {u:Value} {st ha:Bool} (lx:xs.length=512):(prog.info? 159).map (·.size)=some (cor r xs u st ⟨ha,tl0⟩).size:=by
 rw[pW lx];exact(zero_of_info Tryz.Af).2
theorem CS (w:World) (x:Iq) (a b e q:Option Addr) (ca cb ce cq:Nat) (ha:aF w a x.c.r.xs) (hb:aF w b x.c.r.ys) (he:aF w e x.c.bx) (hq:aF w q x.c.bl) (lx:x.c.r.xs.length=4) (ly:x.c.r.ys.length=4) (lb:x.c.bx.length=512) (ll:x.c.bl.length=5*x.c.bm) (lm:x.c.bm<=400) :
  Calls prog 92 #[.agg (irA x a b e q ca cb ce cq)] w fun r w'=>∃p g:Nat,r=.returned (.pointer (some (abb p 0)))/\CAt w' w.heap.size p g (Mc.ofC x.c) ⟨x.c.ha,tlq x.l x.e⟩/\Kept 0 0 w w':=by
 have K0:=aba (kept_alloc w (.cells (irA x a b e q ca cb ce cq) 81));have B0:=aba (Blk.new w (irA x a b e q ca cb ce cq) 81);obtain⟨X,hX⟩:∃X:World,w.alloc (.cells (irA x a b e q ca cb ce cq) 81)=X:=⟨_,rfl⟩
 rw[hX]at K0 B0;have sX:w.heap.size<X.heap.size:=B0.o.lt;have HA:=aba (ha.ag K0.o);have HB:=aba (hb.ag K0.o);have HE:=aba (he.ag K0.o);have HQ:=aba (hq.ag K0.o);have LX:=aba lx;have LY:=aba ly;have LB:=aba lb;have LL:=aba ll;clear ha hb he hq lx ly lb ll;go_enter func92,ntmps92;go_wp2_with fail;refine uQ (fun A0 l A W=>∃p gg cu pp:Nat,FR [3,4,5,6,7,8,9,10,11,12,13,2] A0 A/\Once l 0 (A.tmps[3]? = some (.pointer (some (abb w.heap.size 0))))/\Once l 1 (A.tmps[4]? = some (.agg (cpA x.c a b e q ca cb ce cq)))/\Once l 2 (A.tmps[5]? = some (.pointer (some (abb p 0))))/\Once l 3 (A.tmps[6]? = some (.pointer (some (abb p 0))))/\Once l 4 (A.tmps[7]? = some (.agg (cor x.c.r x.c.bx (.slice (some (abb gg 0)) x.c.bm cu) x.c.st ⟨x.c.ha,tl0⟩)))/\Once l 5 (A.tmps[8]? = some (.pointer (some (abb w.heap.size 12))))/\Once l 6 (A.tmps[9]? = some (iv x.l))/\Once l 7 (A.tmps[10]? = some (.pointer (some (abb w.heap.size 13))))/\Once l 8 (A.tmps[11]? = some (.bool x.e))/\Once l 9 (A.tmps[12]? = some (.agg (cor x.c.r x.c.bx (.slice (some (abb gg 0)) x.c.bm cu) x.c.st ⟨x.c.ha,tlq x.l x.e⟩)))/\Once l 10 (A.tmps[13]? = some (.pointer (some (abb pp 0))))/\Once l 11 (A.tmps[2]? = some (.pointer (some (abb pp 0))))/\Once l 2 (Blk W p (cor x.c.r x.c.bx (.slice (some (abb gg 0)) x.c.bm cu) x.c.st ⟨x.c.ha,tl0⟩) 159/\CLg W X.heap.size p gg cu x.c.bl x.c.bm)/\Once l 10 (∃g2,CAt W X.heap.size pp g2 (Mc.ofC x.c) ⟨x.c.ha,tlq x.l x.e⟩)/\Kept 0 0 X W) (by kernel_rfl) (by kernel_rfl) ?start ?fin ?step
 case start=>exact⟨0,0,0,0,FR.refl _ _,au (by decide),au (by decide),au (by decide),au (by decide),au (by decide),au (by decide),au (by decide),au (by decide),au (by decide),au (by decide),au (by decide),au (by decide),au (by decide),au (by decide),ai (Kept.refl _ _ _)⟩
 case fin=>
  intro l A W h hl;obtain⟨p,gg,cu,pp,hFR,o0,o1,o2,o3,o4,o5,o6,o7,o8,o9,o10,o11,ox,oy,hK⟩:=h;have g11:=o11 (hl 11 (by decide));have QX:=aba (oy (hl 10 (by decide)));have QQ:=aba hK;have hc9:=hFR.chain;simp only[List.foldl]at hc9;rw[iW g11]at hc9;clear ox oy hl hK hFR g11 o0 o1 o2 o3 o4 o5 o6 o7 o8 o9 o10 o11;generalize A.tmps.getD 3 undef=s3 at hc9;generalize A.tmps.getD 4 undef=s4 at hc9;generalize A.tmps.getD 5 undef=s5 at hc9;generalize A.tmps.getD 6 undef=s6 at hc9;generalize A.tmps.getD 7 undef=s7 at hc9;generalize A.tmps.getD 8 undef=s8 at hc9;generalize A.tmps.getD 9 undef=s9 at hc9;generalize A.tmps.getD 10 undef=s10 at hc9;generalize A.tmps.getD 11 undef=s11 at hc9;generalize A.tmps.getD 12 undef=s12 at hc9;generalize A.tmps.getD 13 undef=s13 at hc9;subst hc9;go_simp;have K1:=aba (K0.o.trans QQ.o);clear hX;go_wp2_with fail;go_ret;obtain⟨g2,hc⟩:=QX.o;exact⟨pp,g2,rfl,CAt.base hc (by omega),K1.o⟩
 case step=>
  intro l A W i hI hcl hm;obtain⟨p,gg,cu,pp,hFR,o0,o1,o2,o3,o4,o5,o6,o7,o8,o9,o10,o11,ox,oy,hK⟩:=hI;obtain⟨hi1,hi2⟩:=jg hm;have hsz:Hid (13<A.tmps.size):=aba (by rw[hFR.size];simp);have m1:A.tmps[1]? = some (.pointer (some (abb w.heap.size 0))):=(hFR.o 1 (by decide)).trans rfl;rcases i with _|_|_|_|_|_|_|_|_|_|_|_|i
  ·refine wpOp_step rfl (fun KK hK2 => ?_);go_simp;exact hK2 (A.put (some 3) (.pointer (some (abb w.heap.size 0)))) _ ⟨p,gg,cu,pp,hFR.put (by decide) _,.now (put_eq (by have hz:=hsz.o;omega)),o1.past (by decide) (fun h=>(aA (by decide)).trans h),o2.past (by decide) (fun h=>(aA (by decide)).trans h),o3.past (by decide) (fun h=>(aA (by decide)).trans h),o4.past (by decide) (fun h=>(aA (by decide)).trans h),o5.past (by decide) (fun h=>(aA (by decide)).trans h),o6.past (by decide) (fun h=>(aA (by decide)).trans h),o7.past (by decide) (fun h=>(aA (by decide)).trans h),o8.past (by decide) (fun h=>(aA (by decide)).trans h),o9.past (by decide) (fun h=>(aA (by decide)).trans h),o10.past (by decide) (fun h=>(aA (by decide)).trans h),o11.past (by decide) (fun h=>(aA (by decide)).trans h),ox.past (by decide) id,oy.past (by decide) id,hK⟩
  ·have e0:=o0 (ay hm 0 (by kernel_rfl));have y:=(B0.o.ae hK).all;refine wpOp_step rfl (fun KK hK2 => ?_);go_simp;exact hK2 (A.put (some 4) (.agg (cpA x.c a b e q ca cb ce cq))) _ ⟨p,gg,cu,pp,hFR.put (by decide) _,o0.past (by decide) (fun h=>(aA (by decide)).trans h),.now (put_eq (by have hz:=hsz.o;omega)),o2.past (by decide) (fun h=>(aA (by decide)).trans h),o3.past (by decide) (fun h=>(aA (by decide)).trans h),o4.past (by decide) (fun h=>(aA (by decide)).trans h),o5.past (by decide) (fun h=>(aA (by decide)).trans h),o6.past (by decide) (fun h=>(aA (by decide)).trans h),o7.past (by decide) (fun h=>(aA (by decide)).trans h),o8.past (by decide) (fun h=>(aA (by decide)).trans h),o9.past (by decide) (fun h=>(aA (by decide)).trans h),o10.past (by decide) (fun h=>(aA (by decide)).trans h),o11.past (by decide) (fun h=>(aA (by decide)).trans h),ox.past (by decide) id,oy.past (by decide) id,hK⟩
  ·have e1:=o1 (ay hm 1 (by kernel_rfl));have n3:=hcl 3 2 (by decide) (by kernel_rfl) hi2;have n4:=hcl 4 3 (by decide) (by kernel_rfl) n3;have n9:=hcl 9 4 (by decide) (by kernel_rfl) n4;refine wpOp_step rfl (fun KK hK2 => ?_);go_simp;refine(Vq W x.c a b e q ca cb ce cq (HA.o.ag hK) (HB.o.ag hK) (HE.o.ag hK) (HQ.o.ag hK) LX.o LY.o LB.o LL.o lm).mono ?_;rintro r9 y⟨p',gg',rfl,⟨cu',hb9,hl9⟩,kd⟩;replace hl9:CLg y X.heap.size p' gg' cu' x.c.bl x.c.bm:=⟨ownsRow_base hl9.l hK.size,Nat.le_trans hK.size hl9.lo',hl9.ne⟩
   go_simp;exact hK2 (A.put (some 5) (.pointer (some (abb p' 0)))) _ ⟨p',gg',cu',pp,hFR.put (by decide) _,o0.past (by decide) (fun h=>(aA (by decide)).trans h),o1.past (by decide) (fun h=>(aA (by decide)).trans h),.now (put_eq (by have hz:=hsz.o;omega)),Once.not n3 (by decide),Once.not n4 (by decide),o5.past (by decide) (fun h=>(aA (by decide)).trans h),o6.past (by decide) (fun h=>(aA (by decide)).trans h),o7.past (by decide) (fun h=>(aA (by decide)).trans h),o8.past (by decide) (fun h=>(aA (by decide)).trans h),Once.not n9 (by decide),o10.past (by decide) (fun h=>(aA (by decide)).trans h),o11.past (by decide) (fun h=>(aA (by decide)).trans h),.now ⟨hb9,hl9⟩,oy.past (by decide) (fun h=>by obtain⟨g2,h⟩:=h;exact⟨g2,h.any kd⟩),(hK.trans kd)⟩
  ·have e2:=o2 (ay hm 2 (by kernel_rfl));refine wpOp_step rfl (fun KK hK2 => ?_);go_simp;exact hK2 (A.put (some 6) (.pointer (some (abb p 0)))) _ ⟨p,gg,cu,pp,hFR.put (by decide) _,o0.past (by decide) (fun h=>(aA (by decide)).trans h),o1.past (by decide) (fun h=>(aA (by decide)).trans h),o2.past (by decide) (fun h=>(aA (by decide)).trans h),.now (put_eq (by have hz:=hsz.o;omega)),o4.past (by decide) (fun h=>(aA (by decide)).trans h),o5.past (by decide) (fun h=>(aA (by decide)).trans h),o6.past (by decide) (fun h=>(aA (by decide)).trans h),o7.past (by decide) (fun h=>(aA (by decide)).trans h),o8.past (by decide) (fun h=>(aA (by decide)).trans h),o9.past (by decide) (fun h=>(aA (by decide)).trans h),o10.past (by decide) (fun h=>(aA (by decide)).trans h),o11.past (by decide) (fun h=>(aA (by decide)).trans h),ox.past (by decide) id,oy.past (by decide) id,hK⟩
  ·have e3:=o3 (ay hm 3 (by kernel_rfl));have t2:l.getD 2 true=true:=by cases q2:l.getD 2 true;(have n3:=hcl 3 2 (by decide) (by kernel_rfl) q2;rw[ay hm 3 (by kernel_rfl)]at n3;cases n3);rfl
   have oq:=ox t2;refine wpOp_step rfl (fun KK hK2=>xk rfl ?_);refine wp_load_row 159 (.tmp 6) rfl p (iW e3) 159 _ (0,0) _ oq.1 underlying159 rfl (MP LB.o) ?_;exact hK2 (A.put (some 7) (.agg (cor x.c.r x.c.bx (.slice (some (abb gg 0)) x.c.bm cu) x.c.st ⟨x.c.ha,tl0⟩))) _ ⟨p,gg,cu,pp,hFR.put (by decide) _,o0.past (by decide) (fun h=>(aA (by decide)).trans h),o1.past (by decide) (fun h=>(aA (by decide)).trans h),o2.past (by decide) (fun h=>(aA (by decide)).trans h),o3.past (by decide) (fun h=>(aA (by decide)).trans h),.now (put_eq (by have hz:=hsz.o;omega)),o5.past (by decide) (fun h=>(aA (by decide)).trans h),o6.past (by decide) (fun h=>(aA (by decide)).trans h),o7.past (by decide) (fun h=>(aA (by decide)).trans h),o8.past (by decide) (fun h=>(aA (by decide)).trans h),o9.past (by decide) (fun h=>(aA (by decide)).trans h),o10.past (by decide) (fun h=>(aA (by decide)).trans h),o11.past (by decide) (fun h=>(aA (by decide)).trans h),ox.past (by decide) id,oy.past (by decide) id,hK⟩
  ·refine wpOp_step rfl (fun KK hK2 => ?_);go_simp;exact hK2 (A.put (some 8) (.pointer (some (abb w.heap.size 12)))) _ ⟨p,gg,cu,pp,hFR.put (by decide) _,o0.past (by decide) (fun h=>(aA (by decide)).trans h),o1.past (by decide) (fun h=>(aA (by decide)).trans h),o2.past (by decide) (fun h=>(aA (by decide)).trans h),o3.past (by decide) (fun h=>(aA (by decide)).trans h),o4.past (by decide) (fun h=>(aA (by decide)).trans h),.now (put_eq (by have hz:=hsz.o;omega)),o6.past (by decide) (fun h=>(aA (by decide)).trans h),o7.past (by decide) (fun h=>(aA (by decide)).trans h),o8.past (by decide) (fun h=>(aA (by decide)).trans h),o9.past (by decide) (fun h=>(aA (by decide)).trans h),o10.past (by decide) (fun h=>(aA (by decide)).trans h),o11.past (by decide) (fun h=>(aA (by decide)).trans h),ox.past (by decide) id,oy.past (by decide) id,hK⟩
  ·have e5:=o5 (ay hm 5 (by kernel_rfl));have y:=(B0.o.ae hK).all;refine wpOp_step rfl (fun KK hK2 => ?_);go_simp;exact hK2 (A.put (some 9) (iv x.l)) _ ⟨p,gg,cu,pp,hFR.put (by decide) _,o0.past (by decide) (fun h=>(aA (by decide)).trans h),o1.past (by decide) (fun h=>(aA (by decide)).trans h),o2.past (by decide) (fun h=>(aA (by decide)).trans h),o3.past (by decide) (fun h=>(aA (by decide)).trans h),o4.past (by decide) (fun h=>(aA (by decide)).trans h),o5.past (by decide) (fun h=>(aA (by decide)).trans h),.now (put_eq (by have hz:=hsz.o;omega)),o7.past (by decide) (fun h=>(aA (by decide)).trans h),o8.past (by decide) (fun h=>(aA (by decide)).trans h),o9.past (by decide) (fun h=>(aA (by decide)).trans h),o10.past (by decide) (fun h=>(aA (by decide)).trans h),o11.past (by decide) (fun h=>(aA (by decide)).trans h),ox.past (by decide) id,oy.past (by decide) id,hK⟩
  ·refine wpOp_step rfl (fun KK hK2 => ?_);go_simp;exact hK2 (A.put (some 10) (.pointer (some (abb w.heap.size 13)))) _ ⟨p,gg,cu,pp,hFR.put (by decide) _,o0.past (by decide) (fun h=>(aA (by decide)).trans h),o1.past (by decide) (fun h=>(aA (by decide)).trans h),o2.past (by decide) (fun h=>(aA (by decide)).trans h),o3.past (by decide) (fun h=>(aA (by decide)).trans h),o4.past (by decide) (fun h=>(aA (by decide)).trans h),o5.past (by decide) (fun h=>(aA (by decide)).trans h),o6.past (by decide) (fun h=>(aA (by decide)).trans h),.now (put_eq (by have hz:=hsz.o;omega)),o8.past (by decide) (fun h=>(aA (by decide)).trans h),o9.past (by decide) (fun h=>(aA (by decide)).trans h),o10.past (by decide) (fun h=>(aA (by decide)).trans h),o11.past (by decide) (fun h=>(aA (by decide)).trans h),ox.past (by decide) id,oy.past (by decide) id,hK⟩
  ·have e7:=o7 (ay hm 7 (by kernel_rfl));have y:=(B0.o.ae hK).all;refine wpOp_step rfl (fun KK hK2 => ?_);go_simp;exact hK2 (A.put (some 11) (.bool x.e)) _ ⟨p,gg,cu,pp,hFR.put (by decide) _,o0.past (by decide) (fun h=>(aA (by decide)).trans h),o1.past (by decide) (fun h=>(aA (by decide)).trans h),o2.past (by decide) (fun h=>(aA (by decide)).trans h),o3.past (by decide) (fun h=>(aA (by decide)).trans h),o4.past (by decide) (fun h=>(aA (by decide)).trans h),o5.past (by decide) (fun h=>(aA (by decide)).trans h),o6.past (by decide) (fun h=>(aA (by decide)).trans h),o7.past (by decide) (fun h=>(aA (by decide)).trans h),.now (put_eq (by have hz:=hsz.o;omega)),o9.past (by decide) (fun h=>(aA (by decide)).trans h),o10.past (by decide) (fun h=>(aA (by decide)).trans h),o11.past (by decide) (fun h=>(aA (by decide)).trans h),ox.past (by decide) id,oy.past (by decide) id,hK⟩
  ·have e4:=o4 (ay hm 4 (by kernel_rfl));have e6:=o6 (ay hm 6 (by kernel_rfl));have e8:=o8 (ay hm 8 (by kernel_rfl));refine wpOp_step rfl (fun KK hK2=>xk rfl ?_)
   have hbt:prog.built 176 (#[(0,Operand.tmp 7),(1,Operand.tmp 9),(2,Operand.tmp 11)].map fun (z:Nat × Operand)=>(z.1,A.eval z.2)).toList=some (cor x.c.r x.c.bx (.slice (some (abb gg 0)) x.c.bm cu) x.c.st ⟨x.c.ha,tlq x.l x.e⟩):=by
    have a1:A.eval (.tmp 7)=.agg (cor x.c.r x.c.bx (.slice (some (abb gg 0)) x.c.bm cu) x.c.st ⟨x.c.ha,tl0⟩):=iW e4;have a2:A.eval (.tmp 9)=iv x.l:=iW e6;have a3:A.eval (.tmp 11)=.bool x.e:=iW e8;simp only[List.map_toArray,List.map_cons,List.map_nil,a1,a2,a3];exact Kq _ _ _ _ _ _ _ LB.o
   refine wp_build 176 #[(0,.tmp 7),(1,.tmp 9),(2,.tmp 11)] rfl (by rw[hbt];rfl) ?_;rw[hbt];exact hK2 (A.put (some 12) (.agg (cor x.c.r x.c.bx (.slice (some (abb gg 0)) x.c.bm cu) x.c.st ⟨x.c.ha,tlq x.l x.e⟩))) _ ⟨p,gg,cu,pp,hFR.put (by decide) _,o0.past (by decide) (fun h=>(aA (by decide)).trans h),o1.past (by decide) (fun h=>(aA (by decide)).trans h),o2.past (by decide) (fun h=>(aA (by decide)).trans h),o3.past (by decide) (fun h=>(aA (by decide)).trans h),o4.past (by decide) (fun h=>(aA (by decide)).trans h),o5.past (by decide) (fun h=>(aA (by decide)).trans h),o6.past (by decide) (fun h=>(aA (by decide)).trans h),o7.past (by decide) (fun h=>(aA (by decide)).trans h),o8.past (by decide) (fun h=>(aA (by decide)).trans h),.now (put_eq (by have hz:=hsz.o;omega)),o10.past (by decide) (fun h=>(aA (by decide)).trans h),o11.past (by decide) (fun h=>(aA (by decide)).trans h),ox.past (by decide) id,oy.past (by decide) id,hK⟩
  ·have e9:=o9 (ay hm 9 (by kernel_rfl));have n11:=hcl 11 10 (by decide) (by kernel_rfl) hi2;have t2:l.getD 2 true=true:=by cases q2:l.getD 2 true;(have n9:=hcl 9 4 (by decide) (by kernel_rfl) (hcl 4 3 (by decide) (by kernel_rfl) (hcl 3 2 (by decide) (by kernel_rfl) q2));rw[ay hm 9 (by kernel_rfl)]at n9;cases n9);rfl
   have oq:=ox t2;refine wpOp_step rfl (fun KK hK2 => ?_);go_simp;exact hK2 (A.put (some 13) (.pointer (some (abb W.heap.size 0)))) _ ⟨p,gg,cu,W.heap.size,hFR.put (by decide) _,o0.past (by decide) (fun h=>(aA (by decide)).trans h),o1.past (by decide) (fun h=>(aA (by decide)).trans h),o2.past (by decide) (fun h=>(aA (by decide)).trans h),o3.past (by decide) (fun h=>(aA (by decide)).trans h),o4.past (by decide) (fun h=>(aA (by decide)).trans h),o5.past (by decide) (fun h=>(aA (by decide)).trans h),o6.past (by decide) (fun h=>(aA (by decide)).trans h),o7.past (by decide) (fun h=>(aA (by decide)).trans h),o8.past (by decide) (fun h=>(aA (by decide)).trans h),o9.past (by decide) (fun h=>(aA (by decide)).trans h),.now (put_eq (by have hz:=hsz.o;omega)),Once.not n11 (by decide),ox.past (by decide) (fun h=>⟨h.1.alloc _,h.2.any (kept_alloc W _)⟩),.now ⟨gg,cu,Blk.new W _ _,⟨bg oq.2.l (kept_alloc W _) (by omega),hK.size,by have:=oq.2.lt;show W.heap.size≠gg;omega⟩⟩,(ah hK _)⟩
  ·have e10:=o10 (ay hm 10 (by kernel_rfl));refine wpOp_step rfl (fun KK hK2 => ?_);go_simp;exact hK2 (A.put (some 2) (.pointer (some (abb pp 0)))) _ ⟨p,gg,cu,pp,hFR.put (by decide) _,o0.past (by decide) (fun h=>(aA (by decide)).trans h),o1.past (by decide) (fun h=>(aA (by decide)).trans h),o2.past (by decide) (fun h=>(aA (by decide)).trans h),o3.past (by decide) (fun h=>(aA (by decide)).trans h),o4.past (by decide) (fun h=>(aA (by decide)).trans h),o5.past (by decide) (fun h=>(aA (by decide)).trans h),o6.past (by decide) (fun h=>(aA (by decide)).trans h),o7.past (by decide) (fun h=>(aA (by decide)).trans h),o8.past (by decide) (fun h=>(aA (by decide)).trans h),o9.past (by decide) (fun h=>(aA (by decide)).trans h),o10.past (by decide) (fun h=>(aA (by decide)).trans h),.now (put_eq (by have hz:=hsz.o;omega)),ox.past (by decide) id,oy.past (by decide) id,hK⟩
  ·simp at hi1
   omega
section
variable {w:World} {lo b g:Nat} {c:Mc} {h l:Int} {e:Bool}
theorem CAt.cL {ha:Bool} (a:CAt w lo b g c ⟨ha,tlq l e⟩) (lb:c.bx.length=512):w.cell? (abb b 529)=some (iv l):=a.cTl lb (i:=0) rfl
theorem CAt.cE {ha:Bool} (a:CAt w lo b g c ⟨ha,tlq l e⟩) (lb:c.bx.length=512):w.cell? (abb b 530)=some (.bool e):=a.cTl lb (i:=1) rfl
theorem CAt.ZK {ha:Bool} (a:CAt w lo b g c ⟨ha,tlq l e⟩) (lb:c.bx.length=512) (v:Bool):CAt (w.setCell (abb b 530) (.bool v)) lo b g c ⟨ha,tlq l v⟩:=a.ZI lb 1 (.bool v)
end
theorem Ku (w:World) (lo b g:Nat) (x:Iq) (ha:Bool) (hC:CAt w lo b g (Mc.ofC x.c) ⟨ha,tlq x.l x.e⟩) (lb:x.c.bx.length=512) :
  Calls prog 144 #[.pointer (some (abb b 0))] w fun r w'=>r=.returned (iv (Pl.pend x))/\Kept 0 0 w w':=by
 have q0:=hC.cL lb;have q1:=hC.cE lb;have q2:w.cell? (abb b 11)=some (iv x.c.r.m):=hC.cM;clear hC;rcases Bool.eq_false_or_eq_true x.e with he|he
 ·have E:Hid (Pl.pend x=7):=aba (by unfold Pl.pend;rw[he];rfl);rw[he]at q1;clear he;go_enter func144,ntmps144;go_wp2_with fail;go_ret;exact⟨by rw[E.o];rfl,Kept.refl _ _ _⟩
 ·rw[he]at q1;by_cases hm:x.c.r.m<x.l
  ·have E:Hid (Pl.pend x=x.l):=aba (by unfold Pl.pend;rw[he];simp[hm]);clear he;go_enter func144,ntmps144;go_wp2_with fail;go_region;go_wp2_with fail;go_ret;exact⟨by rw[E.o];rfl,ai (Kept.refl _ _ _)⟩
  ·have E:Hid (Pl.pend x=0):=aba (by unfold Pl.pend;rw[he];simp[hm]);clear he;go_enter func144,ntmps144;go_wp2_with fail;go_region;go_wp2_with fail;go_ret;exact⟨by rw[E.o];rfl,ai (Kept.refl _ _ _)⟩
theorem CAt.le2 {w:World} {lo b g:Nat} {x:Iq} {ha:Bool} (a:CAt w lo b g (Mc.ofC x.c) ⟨ha,tlq x.l x.e⟩) (lb:x.c.bx.length=512):w.cell? (abb b 529)=some (iv x.l)/\w.cell? (abb b 530)=some (.bool x.e):=⟨a.cL lb,a.cE lb⟩
theorem ZY (w:World) (lo b g:Nat) (x:Iq) (hC:CAt w lo b g (Mc.ofC x.c) ⟨x.c.ha,tlq x.l x.e⟩) (G:GM (Mc.ofC x.c)) :
  Calls prog 94 #[.pointer (some (abb b 0))] w fun r w'=>∃(a' b' e' q':Option Addr) (ca' cb' ce' cq':Nat),r=.returned (.agg (irA x a' b' e' q' ca' cb' ce' cq'))/\lT w' lo x.c a' b' e' q'/\Kept 0 0 w w'/\(∀z,blk a'=some z\/blk b'=some z\/blk e'=some z\/blk q'=some z->z=g\/w.heap.size<=z):=by
 obtain⟨l0,l1,l2,l3,l4⟩:=hC.lt;have K0:=aba (kept_alloc w (.cells iqZ 81));have R0:=aba (Blk.new w iqZ 81);have C0:=aba (hC.alloc (.cells iqZ 81));have HG:=aba G;have LB:Hid (x.c.bx.length=512):=aba G.bx;clear hC G;obtain⟨X,hX⟩:∃X:World,w.alloc (.cells iqZ 81)=X:=⟨_,rfl⟩
 rw[hX]at K0 R0 C0;have sX:w.heap.size<X.heap.size:=R0.o.lt;obtain⟨i0,i1⟩:=C0.o.le2 LB.o;go_enter func94,ntmps94;go_wp2_with fail;clear hX
 go_region_held3 (fun w'=>w'.cell? (abb b 529)=some (iv x.l)/\w'.cell? (abb b 530)=some (.bool x.e)) (first|with_reducible exact C4.o.le2 LB.o|with_reducible exact C0.o.drew.le2 LB.o|exact(C4.o.kept dC (by omega) (by omega)).le2 LB.o)
  (first|(go_at_call 67;refine(Yx _ lo b g (Mc.ofC x.c) ⟨x.c.ha,tlq x.l x.e⟩ C0.o.drew HG.o).mono ?_;rw[show(Mc.ofC x.c).cpu (Hl.mk x.c.ha (tlq x.l x.e)).a=x.c from rfl];rintro e9 w4⟨a',b',e',q',ca',cb',ce',cq',rfl,hi4,kd,hn4⟩;unfold Vp;have k4:=aN kd;have C4:=aba (C0.o.any k4);have R4:=aba (R0.o.ae k4);have p:=R4.o.all;have pf:=R4.o.fz;have I4:=aba hi4;have N4:=aba hn4;have K4:=aba k4;clear kd k4 hi4 hn4))
 go_wp2_with fail;have s4:=K4.o.size;refine bodyPost_ret (v:=.agg (irA x a' b' e' q' ca' cb' ce' cq')) ?_ rfl ⟨a',b',e',q',ca',cb',ce',cq',rfl,?_,aB (K0.o.trans K4.o) dC (Nat.le_refl _),fun z hz => ?_⟩
 ·rw[aj rfl];go_simp
 ·refine I4.o.pst dC (fun z hz => ?_);have:=N4.o z hz;have h9:X.drew.heap.size=X.heap.size:=rfl;omega
 ·have:=N4.o z hz
  have h9:X.drew.heap.size=X.heap.size:=rfl;omega
theorem Qe (v:Int) (w:World):Calls prog 97 #[iv v] w fun r w'=>r=.returned (.bool (decide (0<=v)&&decide (v<=7)))/\w'=w:=by
 by_cases h:0<=v
 all_goals
  go_enter func97,ntmps97;go_wp2_with fail;go_ret;exact⟨by first|(simp[h];done)|(simp;omega),rfl⟩
theorem uo (w:World) (x:Iq) (a b e q:Option Addr) (ca cb ce cq:Nat) (ha:Came w a x.c.r.xs) (hb:Came w b x.c.r.ys) (he:Came w e x.c.bx) (hq:Came w q x.c.bl) (lx:x.c.r.xs.length<=2000000) (ly:x.c.r.ys.length<=2000000) (lb:x.c.bx.length<=2000000) (ll:x.c.bl.length=5*x.c.bm) (lm:x.c.bm<=2000000) (wf:WfR x.c.r) :
  Calls prog 91 #[.agg (irA x a b e q ca cb ce cq)] w fun r w'=>r=.returned (.bool (jr x))/\Kept 0 0 w w':=by
 have K0:=aba (kept_alloc w (.cells (irA x a b e q ca cb ce cq) 81));have BA:=aba (Blk.new w (irA x a b e q ca cb ce cq) 81);obtain⟨X,hX⟩:∃X:World,w.alloc (.cells (irA x a b e q ca cb ce cq) 81)=X:=⟨_,rfl⟩
 rw[hX]at K0 BA;have HA:=aba (ha.ag K0.o);have HB:=aba (hb.ag K0.o);have HE:=aba (he.ag K0.o);have HQ:=aba (hq.ag K0.o);clear ha hb he hq;have p:=BA.o.all;cases h1:dY x.c
 all_goals
  have E:Hid (jr x=(dY x.c&&(decide (0<=x.l)&&decide (x.l<=7)))):=aba rfl;rw[h1]at E;go_enter func91,ntmps91;go_wp2_with (first|(go_at_call 84;refine(Ag _ x.c a b e q ca cb ce cq HA.o HB.o HE.o HQ.o lx ly lb ll lm wf).mono ?_;rintro e9 W1⟨rfl,k9⟩;rw[h1];have K1:=aba (K0.o.trans k9);have p1:=(BA.o.ae k9).all;clear k9)|(go_at_call 97;refine st (Qe _ _) ?_));go_ret;exact⟨by rw[E.o];simp,K1.o⟩
def qw (F:Ft) (r:Bool):PanicEntry:={v:=.iface 42 (.agg (ftA F)),recovered:=r}
theorem EJ (F:Ft) (w:World) (h:(F.v != 0)=false):Calls prog 200 #[.agg (ftA F)] w fun e w'=>e=.returned (.tuple #[])/\Kept 0 0 w w':=by
 have K0:=aba (kept_alloc w (.cells (ftA F) 42));go_enter func200,ntmps200;go_wp2_with (go_at_call 79;refine(bV F _).mono ?_;rintro e w2⟨rfl,k2⟩;rw[h]);go_end0;exact⟨rfl,K0.o.trans k2⟩
theorem EG (F:Ft) (w:World) (h:(F.v != 0)=true):Calls prog 200 #[.agg (ftA F)] w fun e w'=>e=.panicked [qw F false]/\Kept 0 0 w w':=by
 have K0:=aba (kept_alloc w (.cells (ftA F) 42));have B0:=aba (Blk.new w (ftA F) 42);go_enter func200,ntmps200;go_wp2_with (go_at_call 79;refine(bV F _).mono ?_;rintro e w2⟨rfl,k2⟩;rw[h];have q:=(B0.o.ae k2).all);exact⟨rfl,rfl,K0.o.trans k2⟩
theorem taF (v:Value) (w:World):(Instr.typeAssert (.iface 42 v) 20 42 true).run prog w=.ok (.tuple #[v,.bool true]) w:=by kernel_rfl
theorem Dk (q b:Nat) (F:Ft) (w:World) (hq:(w.alloc (.cells (ftA F) 42)).cell? (abb q 0)=some (.pointer (some (abb b 0)))) (x:Bool) (hc:(w.alloc (.cells (ftA F) 42)).cell? (abb b 528)=some (.bool x)) (hz:(w.alloc (.cells (ftA F) 42)).frozen? (abb b 528)=false) :
  CallsD prog 196 #[.pointer (some (abb q 0))] (.panicking [qw F false]) w fun e u' w'=>e=.returned (.tuple #[])/\u'=.panicking [qw F true]/\w'=(w.alloc (.cells (ftA F) 42)).setCell (abb b 528) (.bool true):=by
 refine callsD_of_wpS func196 rfl fun c₀ cs hu => ?_;unfold qw at hu;apply wpS_seq;apply wpS_region;simp[wpOpsS,go_sem,recoverD,hu,ntmps196,Exit.thenS];have ta:=taF;refine wpS_of_wp ?_;go_wp2;exact⟨rfl,.panicking [qw F true],rfl,.tuple #[],results_none rfl _ _ _,rfl,rfl,rfl⟩
theorem MC (q:Nat) (w:World) :
  CallsD prog 196 #[.pointer (some (abb q 0))] .returning w fun e u' w'=>e=.returned (.tuple #[])/\u'=.returning/\w'=w:=by
 refine callsD_of_wpS func196 rfl fun c₀ cs hu => ?_;apply wpS_seq;apply wpS_region;simp[wpOpsS,go_sem,recoverD,hu,ntmps196,Exit.thenS];refine wpS_of_wp ?_;go_wp2;cases c₀;simp_all [bodyPostS,results,f196]
theorem EE (f:Ft) (w:World):Calls prog 240 #[.agg (ftA f)] w fun e w'=>e=.returned (.bool (pU f.v))/\Kept 0 0 w w':=by
 have H:f.v=2\/¬f.v=2/\(f.v=3\/¬f.v=3):=by omega
 rcases H with h2|⟨h2,h3|h3⟩
 all_goals
  obtain⟨v,pc,ad,wo,wr⟩:=f;simp only at h2;try simp only at h3
  try subst h2
  try subst h3
  go_enter func240,ntmps240;go_wp2;go_ret;exact⟨rB (by simp[pU, *]),kept_alloc _ _⟩
theorem NQ (r:Rg) (f:Ft) (w:World):Calls prog 241 #[.agg (bkR r),.agg (ftA f)] w fun e w'=>e=.returned (iv (iq r.s f))/\Kept 0 0 w w':=by
 have K0:=aba (ah (kept_alloc w (.cells (bkR r) 151)) (.cells (ftA f) 42));have e1:IntKind.i64.wrap (fl1 f.wr 1+fl1 r.s 2)=fl1 f.wr 1+fl1 r.s 2:=by cases f.wr<;>cases r.s<;>decide
 unfold bkR at K0 ⊢;go_enter func241,ntmps241;go_wp2_with fail;go_quiet (first|(go_at_call 242;exact Calls.quiet_of_same (Ap _ _ _))|fail);go_wp2_with fail;go_ret;exact⟨rI rfl,ax K0.o _⟩
theorem H7 (w:World) (r:Rg) (f:Ft) (hg:Pl.Good r) :
  Calls prog 197 #[.agg (bkR r),.agg (ftA f)] w fun e w'=>∃(g c:Nat),e=.returned (.slice (some (abb g 0)) (iJ r f).length c)/\w.heap.size<=g/\g<w'.heap.size/\Own w' g (iJ r f)/\Kept 0 0 w w':=by
 have HG:=aba hg;clear hg;have K0:=aba (ah (kept_alloc w (.cells (bkR r) 151)) (.cells (ftA f) 42));have BC0:=aba ((Blk.new w (bkR r) 151).alloc (.cells (ftA f) 42));have BF0:=Blk.new (w.alloc (.cells (bkR r) 151)) (ftA f) 42;simp only[World.size_alloc]at BF0;replace BF0:=aba BF0;obtain⟨X,hX⟩:∃X:World,(w.alloc (.cells (bkR r) 151)).alloc (.cells (ftA f) 42)=X:=⟨_,rfl⟩
 rw[hX]at K0 BC0 BF0;have nX:X.heap.size=w.heap.size+2:=by simp[<-hX]
 obtain⟨i,hi0,hz0,hz1,hz2⟩:=info_parts Tryz.info3;have H63:Hid (2+3<=maxLen):=aba (by unfold maxLen;omega);go_enter func197,ntmps197;go_wp2_with fail;go_region_held3 (fun w'=>(∀i,w'.cell? ⟨w.heap.size,i,none⟩=((#[iv (el r.xs 0),iv (el r.xs 1),iv (el r.xs 2),iv (el r.xs 3),iv (el r.ys 0),iv (el r.ys 1),iv (el r.ys 2),iv (el r.ys 3),iv r.o,iv r.p,iv r.f,iv r.m,.bool r.s,.bool r.t]:Array Value))[i]?)/\(∀i,w'.cell? ⟨w.heap.size+1,i,none⟩=(ftA f)[i]?)) (first|exact⟨BC3.o.all,BF3.o.all⟩|exact⟨(BC3.o.alloc _).all,(BF3.o.alloc _).all⟩|exact⟨(show Blk _ _ _ _ from BC0.o).all,(show Blk _ _ _ _ from BF0.o).all⟩) (first|(go_at_call 199;refine(lC r _ HG.o.f0 HG.o.f1 HG.o.m0 HG.o.m1).mono ?_;rintro e9 w3⟨rfl,k3⟩;have K3:=aba (K0.o.trans (aN k3));have BC3:=aba (BC0.o.ae (aN k3));have BF3:=aba (BF0.o.ae (aN k3));clear k3));have BC4:=aba (BC3.o.alloc (.cells #[iv f.pc,iv (Pl.status r)] 3));have BF4:=aba (BF3.o.alloc (.cells #[iv f.pc,iv (Pl.status r)] 3));have BR4:=aba (Blk.new w3 #[iv f.pc,iv (Pl.status r)] 3);have K4:=aba (ah K3.o (.cells #[iv f.pc,iv (Pl.status r)] 3));have n3:=BF3.o.lt;have hs3:w.heap.size<=w3.heap.size:=by omega
 obtain⟨X4,hX4⟩:∃X:World,w3.alloc (.cells #[iv f.pc,iv (Pl.status r)] 3)=X:=⟨_,rfl⟩
 rw[hX4]at BC4 BF4 BR4 K4;have p:=BF4.o.all;have p2:=BC4.o.all;cases h:pU f.v
 ·have E:Hid (iJ r f=[f.pc,Pl.status r]):=aba (by simp[iJ,h]);go_wp2_with (first|(go_at_call 240;refine(EE f _).mono ?_;rintro e9 w4⟨rfl,k4⟩;rw[h];have BC5:=aba (BC4.o.ae k4);have BF5:=aba (BF4.o.ae k4);have BR5:=aba (BR4.o.ae k4);have K5:=aba (K4.o.trans k4);clear k4));go_ret;exact⟨_,_,by rw[E.o];rfl,hs3,BR5.o.lt,by rw[E.o];exact iF (xs:=[f.pc,Pl.status r]) BR5.o,K5.o⟩
 ·have E:Hid (iJ r f=[f.pc,Pl.status r,f.wo,f.ad,iq r.s f]):=aba (by simp[iJ,h]);go_wp2_with (first|(go_at_call 240;refine(EE f _).mono ?_;rintro e9 w4⟨rfl,k4⟩;rw[h];have BC5:=aba (BC4.o.ae k4);have BF5:=aba (BF4.o.ae k4);have BR5:=aba (BR4.o.ae k4);have K5:=aba (K4.o.trans k4);clear k4));clear p p2;go_region_held3 (fun w'=>(∀i,w'.cell? ⟨w.heap.size,i,none⟩=((#[iv (el r.xs 0),iv (el r.xs 1),iv (el r.xs 2),iv (el r.xs 3),iv (el r.ys 0),iv (el r.ys 1),iv (el r.ys 2),iv (el r.ys 3),iv r.o,iv r.p,iv r.f,iv r.m,.bool r.s,.bool r.t]:Array Value))[i]?)/\(∀i,w'.cell? ⟨w.heap.size+1,i,none⟩=(ftA f)[i]?)) (first|exact⟨BC7.o.all,BF7.o.all⟩|exact⟨BC6.o.all,BF6.o.all⟩|exact⟨(BC6.o.alloc _).all,(BF6.o.alloc _).all⟩|exact⟨(show Blk _ _ _ _ from BC5.o).all,(show Blk _ _ _ _ from BF5.o).all⟩) (first|(go_at_call 241;refine(NQ r f _).mono ?_;rintro e9 w5⟨rfl,k5⟩;have K6:=aba (K5.o.trans (aN k5));have BC6:=aba (BC5.o.ae (aN k5));have BF6:=aba (BF5.o.ae (aN k5));have BR6:=aba (BR5.o.ae (aN k5));clear k5)|(refine step_append_lies _ (by rfl) _ _ _ (by rfl) w3.heap.size 3 i (iv 0) 1 8 underlying22 hi0 hz0 hz1 hz2 rfl (by decide) (.slice (some (abb w3.heap.size 0)) 2 2) 2 [iv f.pc,iv (Pl.status r)] (by rfl) (Gg (BR6.o.alloc _)) (abb w5.heap.size 0) 3 3 [iv f.wo,iv f.ad,iv (iq r.s f)] (by rfl) (by rfl) (World.news_of_block (cs:=#[iv f.wo,iv f.ad,iv (iq r.s f)]) (t:=3) (fr:=(0,0)) (heap_alloc_new w5 _)) (by simp[Value.oneCell']) (by decide) H63.o (by decide) (by have:=BR6.o.lt;simp;omega) (w5.heap.size+1) (by simp) ?_;intro g3 c3 w7 hown hgrow hat hlt;have O7:=aba hown;have G7:=aba hgrow;have hl6:=BR6.o.lt;have BC7:Hid (Blk w7 w.heap.size (bkR r) 151):=aba ((hgrow.block w.heap.size (by have:=BC6.o.lt;simp;omega) (by simp[Value.ownBlock];omega)).trans (BC6.o.alloc _));have BF7:Hid (Blk w7 (w.heap.size+1) (ftA f) 42):=aba ((hgrow.block (w.heap.size+1) (by have:=BF6.o.lt;simp;omega) (by simp[Value.ownBlock];omega)).trans (BF6.o.alloc _));clear hown hgrow));go_wp2_with fail;go_ret;have kk:=jZ G7.o (lo:=w3.heap.size) (hi:=w3.heap.size+1) (by intro j hj;have h5:w3.heap.size=j:=Option.some.inj hj;omega);obtain⟨p3,p4⟩:=O7.o.lt g3 rfl;exact⟨g3,c3,by rw[E.o];rfl,by omega,p4,by rw[E.o];exact iZ (xs:=[f.pc,Pl.status r,f.wo,f.ad,iq r.s f]) O7.o,aB (ah K6.o (.cells #[iv f.wo,iv f.ad,iv (iq r.s f)] 3)) kk (by omega)⟩
end Go.Proofs.YtgikibaajanjiaaGreatDoor
