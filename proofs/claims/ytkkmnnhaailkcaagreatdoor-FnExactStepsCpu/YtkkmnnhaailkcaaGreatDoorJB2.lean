/- Part 2 of what the last text leans on. -/
import Derived.Test.YtkkmnnhaailkcaaGreatDoorJB1
import Derived.BigQuiet
import Derived.Deep.QuietTactic
import Derived.Deep.AppendLies
import Derived.BigRegion
import Derived.Deep.DeepCutAuto
import Derived.Deep.RegionWith
set_option maxRecDepth 100000
set_option maxHeartbeats 16000000
namespace Go.Proofs.YtkkmnnhaailkcaaGreatDoor.Pl
set_option linter.unusedVariables false
def hi (s v:Int):Int:=if top s/2≤v then 1 else 0
def fell (k s v:Int):Int:=if k%2=0 then hi s v else v%2
def inn (k s x v:Int):Int:=if k=1 then hi s v else if k=4∨k=5 then fell k s v else if 6≤k then x else 0
def nv (k s x v:Int):Int:=if k%2=0 then v*2%top s+inn k s x v else v/2+inn k s x v*(top s/2)
def nx (k s x v:Int):Int:=if k=4∨k=5 then x else fell k s v
def vfl (k s x v:Int):Bool:=decide (k=0)&&(hi s v != hi s (nv k s x v))
def zn (s v:Int):Int:=fl (v==0) 4+fl (decide (top s/2≤v)) 8
def onF (k s x v:Int):Int:=fell k s v+fl (vfl k s x v) 2+zn s (nv k s x v)+16*nx k s x v
def stp (k s:Int) (p:Int × Int):Int × Int:=(nv k s p.2 p.1,nx k s p.2 p.1)
def st (k s:Int) (p:Int × Int):Nat→Int × Int
 | 0=>p
 | n+1=>stp k s (st k s p n)
def ov (k s:Int) (p:Int × Int):Nat→Bool
 | 0=>false
 | n+1=>ov k s p n||vfl k s (st k s p n).2 (st k s p n).1
def byF (k s:Int) (p:Int × Int):Nat→Int
 | 0=>fl (decide (p.2≠0)&&decide (6≤k)) 1+zn s p.1+16*p.2
 | n+1=>fell k s (st k s p n).1+fl (ov k s p (n+1)) 2+zn s (st k s p (n+1)).1+16*(st k s p (n+1)).2
def Fit (s:Int) (p:Int × Int):Prop:=(s=1∨s=2)∧0≤p.1∧p.1<top s∧0≤p.2∧p.2≤1
theorem dX (s v:Int):0≤hi s v∧hi s v≤1:=by unfold hi;split<;>omega
theorem nX (k s v:Int):0≤fell k s v∧fell k s v≤1:=by
 have:=dX s v
 unfold fell;split<;>omega
theorem TK (k s x v:Int) (x0:0≤x) (x1:x≤1):0≤inn k s x v∧inn k s x v≤1:=by
 have:=dX s v
 have:=nX k s v
 unfold inn;repeat' split
 all_goals omega
theorem DC (k s x v:Int) (x0:0≤x) (x1:x≤1):0≤nx k s x v∧nx k s x v≤1:=by
 have:=nX k s v
 unfold nx;split<;>omega
theorem og {s:Int} (h:s=1∨s=2):(s=1∧top s=256)∨(s=2∧top s=65536):=by
 rcases h with rfl|rfl
 ·exact .inl ⟨rfl,rfl⟩
 ·exact .inr ⟨rfl,rfl⟩
theorem NE {k s:Int} {p:Int × Int} (h:Fit s p):Fit s (stp k s p):=by
 obtain ⟨hs,v0,v1,x0,x1⟩:=h
 have i:=TK k s p.2 p.1 x0 x1
 have n:=DC k s p.2 p.1 x0 x1
 refine ⟨hs,?_,?_,n.1,n.2⟩
 all_goals
  unfold stp nv
  rcases og hs with ⟨_,e⟩|⟨_,e⟩
  all_goals
   simp only [e] at v1 ⊢
   generalize inn k s p.2 p.1=q at i
   split
   ·omega
   ·have:q=0∨q=1:=by omega
    rcases this with rfl|rfl<;>omega
theorem oZ {k s:Int} {p:Int × Int} (h:Fit s p) (n:Nat):Fit s (st k s p n):=by
 induction n with
 | zero=>exact h
 | succ n ih=>exact NE ih
theorem Qz (s v:Int):0≤zn s v∧zn s v≤12:=by
 unfold zn
 cases (v==0)<;>cases decide (top s/2≤v)<;>simp [fl]
theorem QV (b:Bool) (n:Int) (h:0≤n):0≤fl b n∧fl b n≤n:=by cases b<;>simp [fl,h]
theorem GG {k s:Int} {p:Int × Int} (h:Fit s p) (n:Nat):∃c o:Int,byF k s p n=c+o+zn s (st k s p n).1+16*(st k s p n).2∧0≤c∧c≤1∧(o=0∨o=2):=by
 cases n with
 | zero=>
  have:=QV (decide (p.2≠0)&&decide (6≤k)) 1 (by decide)
  exact ⟨_,0,by show _=_;simp only [byF,st];omega,this.1,this.2,.inl rfl⟩
 | succ n=>
  have:=nX k s (st k s p n).1
  refine ⟨_,fl (ov k s p (n+1)) 2,rfl,this.1,this.2,?_⟩
  cases ov k s p (n+1)<;>simp [fl]
theorem Me {k s:Int} {p:Int × Int} (h:Fit s p) (n:Nat):0≤byF k s p n∧byF k s p n≤31∧byF k s p n/16=(st k s p n).2:=by
 obtain ⟨c,o,e,c0,c1,ho⟩:=GG (k:=k) h n
 have z:=Qz s (st k s p n).1
 obtain ⟨_,_,_,x0,x1⟩:=oZ (k:=k) h n
 omega
theorem SI {k s:Int} {p:Int × Int} (h:Fit s p):0≤onF k s p.2 p.1∧onF k s p.2 p.1≤31∧onF k s p.2 p.1/16=nx k s p.2 p.1:=by
 have f:=nX k s p.1
 have v:=QV (vfl k s p.2 p.1) 2 (by decide)
 have z:=Qz s (nv k s p.2 p.1)
 obtain ⟨_,_,_,x0,x1⟩:=h
 have x:=DC k s p.2 p.1 x0 x1
 have v2:fl (vfl k s p.2 p.1) 2=0∨fl (vfl k s p.2 p.1) 2=2:=by cases vfl k s p.2 p.1<;>simp [fl]
 unfold onF
 omega
def qi (k s f v:Int):Bool:=(decide (0≤k)&&decide (k≤7))&&(okv s v&&flags f)
def cnt (n:Int):Bool:=decide (0≤n)&&decide (n≤63)
def qM (k s f v n:Int):Bool:=qi k s f v&&cnt n
def jg (k s f v n:Int):Int:=if qM k s f v n=true then (st k s (v,f/16) n.toNat).1 else 0
def oL (k s f v n:Int):Int:=if qM k s f v n=true then byF k s (v,f/16) n.toNat else 0
def kin (k:Int):Bool:=decide (0≤k)&&decide (k≤7)
def left (k:Int):Bool:=kin k&&decide (k%2=0)
theorem IV {s v:Int} (h:okv s v=true):s=1∨s=2:=by
 simp [okv] at h
 exact h.1
theorem qh {k s f v:Int} (h:qi k s f v=true):0≤k∧k≤7∧okv s v=true∧0≤f∧f≤31∧Fit s (v,f/16):=by
 simp only [qi,Bool.and_eq_true,decide_eq_true_eq] at h
 obtain ⟨⟨k0,k1⟩,ho,hf⟩:=h
 obtain ⟨f0,f1⟩:=rU hf
 have ht:=aQ ho
 exact ⟨k0,k1,ho,f0,f1,IV ho,ht.2.1,ht.2.2,by show 0≤f/16;omega,by show f/16≤1;omega⟩
theorem Qj {k s f v n:Int} (h:qi k s f v=true) (n0:0≤n) (n1:n≤63):qM k s f v n=true:=by simp [qM,cnt,h,n0,n1]
theorem ML (a:Int):bits .and .i64 a 15=a%16:=by
 show IntKind.i64.wrap ((BitVec.ofInt 64 a &&& BitVec.ofInt 64 15).toNat:Int)=_
 rw [BitVec.toNat_and,BitVec.toNat_ofInt,show (BitVec.ofInt 64 15).toNat=2^4-1 from by decide,Nat.and_two_pow_sub_one_eq_mod,IntKind.wrap_i64]
 omega
theorem SB (n:Int) (h0:0≤n) (h1:n≤99):bits .or .i64 (n/10*16) (n%10)=n/10*16+n%10:=
 bits_join .i64 62 (by decide) iC 4 (n/10*16) (n%10) (by omega) (by omega) (by omega) (by omega) (by omega) (by omega)
def bcd (v:Int):Bool:=(decide (0≤v)&&decide (v≤255))&&(decide (v/16≤9)&&decide (v%16≤9))
def num (v:Int):Int:=v/16*10+v%16
def ofN (n:Int):Int:=n/10*16+n%10
def fF (x a b:Int):Bool:=bit x&&(bcd a&&bcd b)
def CG (x a b:Int):Int:=if num a-num b-x<0 then num a-num b-x+100 else num a-num b-x
def Ld (x a b:Int):Int:=if num a-num b-x<0 then 1 else 0
def aV (x a b:Int):Int:=if fF x a b=true then ofN ((num a+num b+x)%100) else 0
def aC (x a b:Int):Int:=if fF x a b=true then (num a+num b+x)/100 else 0
def sV (x a b:Int):Int:=if fF x a b=true then ofN (CG x a b) else 0
def sC (x a b:Int):Int:=if fF x a b=true then Ld x a b else 0
def ug (v:Int):Int:=if bcd v=true then ofN (99-num v) else 0
theorem qm {v:Int} (h:bcd v=true):0≤v∧v≤255∧v/16≤9∧v%16≤9:=by
 simp [bcd] at h;omega
theorem UJ {v:Int} (h0:0≤v) (h1:v≤255) (h2:v/16≤9) (h3:v%16≤9):bcd v=true:=by
 simp [bcd,h0,h1,h2,h3]
theorem lY {v:Int} (h:bcd v=true):0≤num v∧num v≤99:=by have:=qm h;unfold num;omega
theorem xY {n:Int} (h0:0≤n) (h1:n≤99):bcd (ofN n)=true:=by
 unfold ofN;exact UJ (by omega) (by omega) (by omega) (by omega)
theorem Oh {n:Int} (h0:0≤n) (h1:n≤99):num (ofN n)=n:=by unfold num ofN;omega
theorem uF {x a b:Int} (h:fF x a b=true):0≤x∧x≤1∧bcd a=true∧bcd b=true:=by
 simp only [fF,Bool.and_eq_true] at h
 have:=ui h.1
 exact ⟨this.1,this.2,h.2.1,h.2.2⟩
theorem lH {x a b:Int} (h0:0≤x) (h1:x≤1) (ha:bcd a=true) (hb:bcd b=true):fF x a b=true:=by
 simp [fF,bit,h0,h1,ha,hb]
theorem Ee {x a b:Int} (h:fF x a b=true):0≤CG x a b∧CG x a b≤99:=by
 obtain ⟨x0,x1,ha,hb⟩:=uF h
 have:=lY ha
 have:=lY hb
 unfold CG
 split<;>omega
theorem Es {x a b:Int} (h:fF x a b=true):aV x a b=ofN ((num a+num b+x)%100):=by simp [aV,h]
theorem Et {x a b:Int} (h:fF x a b=true):aC x a b=(num a+num b+x)/100:=by simp [aC,h]
theorem Il {x a b:Int} (h:fF x a b=true):sV x a b=ofN (CG x a b):=by simp [sV,h]
theorem QD {x a b:Int} (h:fF x a b=true):sC x a b=Ld x a b:=by simp [sC,h]
theorem Ar (x a b:Int):0≤aC x a b∧aC x a b≤1:=by
 by_cases h:fF x a b=true
 ·obtain ⟨x0,x1,ha,hb⟩:=uF h
  have:=lY ha
  have:=lY hb
  rw [Et h];omega
 ·simp [aC,h]
theorem Dp (x a b:Int):0≤sC x a b∧sC x a b≤1:=by
 unfold sC Ld
 split
 ·split<;>omega
 ·omega
theorem yX {x a b:Int} (h:fF x a b=true):bcd (aV x a b)=true:=by rw [Es h];exact xY (by omega) (by omega)
theorem xO {x a b:Int} (h:fF x a b=true):bcd (sV x a b)=true:=by rw [Il h];exact xY (Ee h).1 (Ee h).2
structure Cp where
 r:Rg
 bx:List Int
 bl:List Int
 bm:Nat
 st:Bool
 ha:Bool
structure Ft where
 v:Int
 pc:Int
 ad:Int
 wo:Int
 wr:Bool
structure Mc where
 r:Rg
 bx:List Int
 bl:List Int
 bm:Nat
 st:Bool
 f:Ft
def aI:Ft:=⟨0,0,0,0,false⟩
def Ae:Cp:=⟨Yi,[],[],0,false,false⟩
def ik (c:Cp):Bool:=sW c.r&&(fK c.bx c.bl c.bm && !(c.st&&c.ha))
namespace Mc
def fine (c:Mc):Bool:=c.f.v==0
def ofC (c:Cp):Mc:=⟨c.r,c.bx,c.bl,c.bm,c.st,aI⟩
def cpu (c:Mc) (h:Bool):Cp:=⟨c.r,c.bx,c.bl,c.bm,c.st,h⟩
def fE (f:Ft) (k s a:Int):Ft:=bif (code k s a != 0)&&(f.v==0) then {f with v:=bif code k s a==2 then 3 else 2,ad:=a,wr:=k==2} else f
def acc (c:Mc) (k s a v:Int):Mc:={c with bx:=nb c.bx k s a v,bl:=nl c.bx c.bl c.bm k s a v,bm:=nm c.bm k s a,f:=fE c.f k s a}
def jI (c:Mc) (k s a v:Int):Int:=lv c.bx k s a v
def fU (c:Mc) (k:Nat) (v:Int):Mc:={c with r:={c.r with ys:=c.r.ys.set k v}}
def aK (c:Mc) (v:Int):Mc:={c with r:={c.r with p:=v}}
def aF (c:Mc) (v:Int):Mc:={c with r:={c.r with f:=v}}
def dB (c:Mc) (r:Rg):Mc:={c with r:=r}
def spA (c:Mc):Int:=(el c.r.ys 3-2)%65536
def push (c:Mc) (v:Int):Mc:=bif (c.acc 2 2 c.spA v).fine then (c.acc 2 2 c.spA v).fU 3 c.spA else c.acc 2 2 c.spA v
def pop (c:Mc):Mc:=bif (c.acc 1 2 (el c.r.ys 3) 0).fine then (c.acc 1 2 (el c.r.ys 3) 0).fU 3 ((el c.r.ys 3+2)%65536) else c.acc 1 2 (el c.r.ys 3) 0
def eu (c:Mc):Int:=c.jI 1 2 (el c.r.ys 3) 0
def fe0 (c:Mc):Mc:={c with f:={c.f with pc:=c.r.p}}
def fe1 (c:Mc):Mc:=c.fe0.acc 3 2 c.r.p 0
def feW (c:Mc):Int:=c.fe0.jI 3 2 c.r.p 0
def fe2 (c:Mc):Mc:={c.fe1 with f:={c.fe1.f with wo:=c.feW}}
def feA (c:Mc):Int:=(c.r.p+2)%65536
def fe3 (c:Mc):Mc:=bif fH c.feW==2 then c.fe2.acc 3 2 c.feA 0 else c.fe2
def feN (c:Mc):Int:=bif fH c.feW==2 then c.fe2.jI 3 2 c.feA 0 else 0
def feX (c:Mc):In:=decode c.feW c.feN
def fe4 (c:Mc):Mc:={c.fe3 with f:={c.fe3.f with v:=4}}
def fetch (c:Mc):Mc:=bif !c.fe1.fine then c.fe1 else bif !c.fe3.fine then c.fe3 else bif !dH c.feX then c.fe4 else c.fe3
def az (c:Mc):In:=bif c.fe1.fine&&(c.fe3.fine&&dH c.feX) then c.feX else vP
def bH (c:Mc):Int:=bif c.fe1.fine&&(c.fe3.fine&&dH c.feX) then fH c.feW else 0
def low (c:Mc) (z k:Int):Int:=el c.r.xs k.toNat%top z
def gU (m:Int):Bool:=(m==0)||((m==1)||(m==7))
def plc (c:Mc) (z m k e:Int):Mc:=c.dB (dA c.r z m k e)
def read (c:Mc) (z m k e:Int):Mc:=bif gU m then c else (c.plc z m k e).acc 1 z (dm c.r z m k e) 0
def bf (c:Mc) (z m k e:Int):Int:=bif m==0 then c.low z k else bif m==1 then el c.r.ys k.toNat else bif m==7 then e else (c.plc z m k e).jI 1 z (dm c.r z m k e) 0
def readA (c:Mc) (z m k e:Int):Int:=bif gU m then 0 else dm c.r z m k e
def write (c:Mc) (z m k a v:Int):Mc:=bif m==0 then c.dB (jy c.r z k v) else c.acc 2 z a v
def place (c:Mc) (z m k e:Int):Mc:=bif m==0 then c else c.plc z m k e
def iR (c:Mc) (z m k e:Int):Int:=bif m==0 then 0 else dm c.r z m k e
def put (c:Mc) (z k v:Int):Mc:=c.dB (jy c.r z k v)
def data (c:Mc) (z k v:Int):Mc:=(c.aF (aS z c.r.f v)).put z k v
def raise (c:Mc) (v:Int):Mc:={c with f:={c.f with v:=v,pc:=c.r.p}}
def vec (c:Mc) (v:Int):Mc:={c with f:={c.f with v:=v}}
def two' (d:Mc) (x:In) (q v:Int):Mc:=
 bif x.op==8 then d.aF (oK x.z d.r.f q v)
 else bif x.op==3 then (d.aF (jm x.z 0 q v)).put x.z x.r (qY x.z 0 q v)
 else bif x.op==4 then (d.aF (gJ x.z 0 q v)).put x.z x.r (kV x.z 0 q v)
 else bif x.op==5 then d.data x.z x.r (bits .and .i64 q v)
 else bif x.op==6 then d.data x.z x.r (bits .or .i64 q v)
 else bif x.op==7 then d.data x.z x.r (bits .xor .i64 q v)
 else d.data x.z x.r v
def two (c:Mc) (x:In):Mc:=bif (c.read x.z x.m x.k x.e).fine then (c.read x.z x.m x.k x.e).two' x ((c.read x.z x.m x.k x.e).low x.z x.r) (c.bf x.z x.m x.k x.e) else c.read x.z x.m x.k x.e
def IR (c:Mc) (x:In):Mc:=(((c.place x.z x.m x.k x.e).write x.z x.m x.k (c.iR x.z x.m x.k x.e) 0)).aF (aS x.z c.r.f 0)
def one' (c d:Mc) (x:In) (a v:Int):Mc:=
 bif x.s==1 then (d.write x.z x.m x.k a (kV x.z 0 0 v)).aF (gJ x.z 0 0 v)
 else bif x.s==2 then (d.write x.z x.m x.k a (top x.z-1-v)).aF (aS x.z c.r.f (top x.z-1-v))
 else d.aF (aS x.z c.r.f v)
def one (c:Mc) (x:In):Mc:=
 bif x.s==0 then c.IR x
 else bif (c.read x.z x.m x.k x.e).fine then c.one' (c.read x.z x.m x.k x.e) x (c.readA x.z x.m x.k x.e) (c.bf x.z x.m x.k x.e) else c.read x.z x.m x.k x.e
def iH (c:Mc) (x:In):Mc:=
 bif x.s==0 then c.pop.aK c.eu
 else bif x.s==1 then (bif !c.pop.fine then c.pop else bif !c.pop.pop.fine then c.pop.pop else (c.pop.pop.aK c.pop.eu).dB (bQ (c.pop.pop.aK c.pop.eu).r (c.eu%1024)))
 else bif x.s==3 then {c.dB (bQ c.r x.e) with st:=true}
 else bif x.s==4 then c.raise (18+x.r)
 else bif x.s==5 then c.data 2 x.r (lW (el c.r.xs x.r.toNat))
 else bif x.s==6 then c.data 2 x.r (ni (el c.r.xs x.r.toNat%256))
 else c
def IY (c:Mc) (x:In) (p:Int):Mc:=(c.data 2 x.r (p%65536)).aF (bits .or .i64 (c.data 2 x.r (p%65536)).r.f (fl (decide (65535<p)) 2))
def jr (d:Mc) (x:In) (v:Int):Mc:=
 bif x.op==16 then d.IY x (el d.r.xs x.r.toNat*v)
 else bif v==0 then d.raise 5 else d.data 2 x.r (el d.r.xs x.r.toNat/v)
def product (c:Mc) (x:In):Mc:=bif (c.read 2 x.m x.k x.e).fine then (c.read 2 x.m x.k x.e).jr x (c.bf 2 x.m x.k x.e) else c.read 2 x.m x.k x.e
def xOf (c:Mc):Int:=c.r.f/16%2
def kK (c:Mc) (s a b:Int):Int:=bif s==1 then sV c.xOf a b else aV c.xOf a b
def lU (c:Mc) (s a b:Int):Int:=bif s==1 then sC c.xOf a b else aC c.xOf a b
def nD (c:Mc) (s a b:Int):Int:=fl ((c.kK s a b==0)&&(c.r.f/4%2==1)) 4+c.lU s a b*17
def kR (c:Mc) (x:In) (a b:Int):Mc:=bif bcd a&&bcd b then (c.aF (c.nD x.s a b)).put 1 x.r (c.kK x.s a b) else c.vec 4
def jB (c:Mc) (x:In):Mc:=c.kR x (el c.r.xs x.r.toNat%256) (el c.r.xs x.k.toNat%256)
def jump (c:Mc) (x:In) (at_:Int):Mc:=
 bif x.op==13 then (bif tst (x.s+8*x.r) c.r.f then c.aK ((at_+2+x.e)%65536) else c)
 else bif x.s==1 then (bif ((c.place 2 x.m x.k x.e).push c.r.p).fine then ((c.place 2 x.m x.k x.e).push c.r.p).aK (c.iR 2 x.m x.k x.e) else (c.place 2 x.m x.k x.e).push c.r.p)
 else (c.place 2 x.m x.k x.e).aK (c.iR 2 x.m x.k x.e)
def from' (c:Mc) (x:In):Mc:=((c.place x.z x.m x.k x.e).write x.z x.m x.k (c.iR x.z x.m x.k x.e) (c.low x.z x.r)).aF (aS x.z c.r.f (c.low x.z x.r))
def stat (c:Mc) (x:In):Mc:=bif x.s==0 then c.dB (bQ c.r x.e) else c.dB {c.r with xs:=c.r.xs.set x.r.toNat (status c.r)}
def doI (c:Mc) (x:In) (at_:Int):Mc:=
 bif x.op==9 then (bif (c.read 2 x.m x.k x.e).fine then (c.read 2 x.m x.k x.e).fU x.r.toNat (c.bf 2 x.m x.k x.e) else c.read 2 x.m x.k x.e)
 else bif x.op==10 then (c.place 2 x.m x.k x.e).fU x.r.toNat (c.iR 2 x.m x.k x.e)
 else bif x.op==2 then c.from' x
 else bif x.op==11 then c.one x
 else bif x.op==12 then (c.aF (oL x.s x.z c.r.f (c.low x.z x.r) (x.k+1))).put x.z x.r (jg x.s x.z c.r.f (c.low x.z x.r) (x.k+1))
 else bif (x.op==13)||(x.op==14) then c.jump x at_
 else bif x.op==15 then c.iH x
 else bif (x.op==16)||(x.op==17) then c.product x
 else bif x.op==18 then c.jB x
 else bif x.op==19 then c.stat x
 else c.two x
def s1 (c:Mc):Mc:=bif c.fetch.fine&&(iW c.az && !c.fetch.r.s) then c.fetch.vec 8 else c.fetch
def s2 (c:Mc):Mc:=bif c.s1.fine then (c.s1.aK ((c.r.p+2*c.bH)%65536)).doI c.az c.r.p else c.s1
end Mc
def stepM (c:Cp):Mc:=(Mc.ofC c).s2
def au (c:Cp):Cp:=bif (stepM c).fine then (stepM c).cpu false else ⟨c.r,(stepM c).bx,(stepM c).bl,(stepM c).bm,c.st,false⟩
def dh (c:Cp):Ft:=bif (stepM c).fine then aI else (stepM c).f
end Go.Proofs.YtkkmnnhaailkcaaGreatDoor.Pl
namespace Go.Proofs.YtkkmnnhaailkcaaGreatDoor
abbrev cpA (c:Pl.Cp) (a b e q:Option Addr) (ca cb ce cq:Nat):Array Value:=#[.slice a c.r.xs.length ca,.slice b c.r.ys.length cb,iv c.r.o,iv c.r.p,iv c.r.f,iv c.r.m,.bool c.r.s,.bool c.r.t,.slice e c.bx.length ce,.slice q c.bm cq,.bool c.st,.bool c.ha]
abbrev ftA (f:Pl.Ft):Array Value:=#[iv f.v,iv f.pc,iv f.ad,iv f.wo,.bool f.wr]
open Go.RowKit Go.Proofs.Tryz
set_option linter.unusedVariables false
structure Aw (p q:Option Nat) (w w':World):Prop where
 os:w'.os=w.os
 tape:w'.tape=w.tape
 output:w'.output=w.output
 size:w.heap.size≤w'.heap.size
 block:∀k,k<w.heap.size→some k≠p→some k≠q→w'.heap[k]? = w.heap[k]?
theorem QS {p q:Option Nat} {w X w1 w2:World} (k:Kept 0 0 w X) (g1:X.grownBy w1 p) (g2:w1.grownBy w2 q):Aw p q w w2:=
 ⟨(g2.os.trans g1.os).trans k.os,(g2.tape.trans g1.tape).trans k.tape,(g2.output.trans g1.output).trans k.output,Nat.le_trans k.size (Nat.le_trans g1.size g2.size),fun i hi h1 h2=>
  (g2.block i (Nat.lt_of_lt_of_le (Nat.lt_of_lt_of_le hi k.size) g1.size) h2).trans ((g1.block i (Nat.lt_of_lt_of_le hi k.size) h1).trans (k.block i hi (by omega)))⟩
theorem Own.xq {w w':World} {g:Nat} {xs:List Int} {p q:Option Nat} (h:Own w g xs) (k:Aw p q w w') (h1:some g≠p) (h2:some g≠q):Own w' g xs:=by
 intro i hi
 obtain ⟨hc,hf⟩:=h i hi
 have e:=k.block g (World.block_lt_of_cell? _ _ hc) h1 h2
 exact ⟨by rw [World.cell?_of_block (w:=w) e];exact hc,by rw [World.frozen?_of_block (w:=w) e];exact hf⟩
theorem bg.xq {w w':World} {lo hi:Nat} {a:Option Addr} {xs:List Int} {p q:Option Nat} (h:bg w lo hi a xs) (k:Aw p q w w') (h1:∀g,blk a=some g→some g≠p) (h2:∀g,blk a=some g→some g≠q):bg w' lo hi a xs:=by
 rcases h with h|⟨g,ea,b0,b1,ho⟩
 ·exact .inl h
 ·exact .inr ⟨g,ea,b0,b1,ho.xq k (h1 g (by rw [ea];rfl)) (h2 g (by rw [ea];rfl))⟩
theorem Fe (w:World) (lo hi:Nat) (o pc fl mk:Int) (su tr:Bool) (a b:Option Addr) (ca cb:Nat) (xs ys:List Int) (q:Int) (ha:bg w lo hi a xs) (hb:bg w lo hi b ys) (hab:∀g,blk a=some g→blk b≠some g) (hh:hi≤w.heap.size) (lx:xs.length≤2000000) (ly:ys.length≤2000000) (q0:0≤q) (q1:q≤10000000) :
  Calls prog 36 #[.agg #[.slice a xs.length ca,.slice b ys.length cb,iv o,iv pc,iv fl,iv mk,.bool su,.bool tr],iv q] w fun e w'=>e=.returned (iv (q+(xs.length:Int)+(ys.length:Int)))∧bg w' lo hi a (marks q xs.length)∧bg w' lo hi b (marks (q+(xs.length:Int)) ys.length)∧Kept lo hi w w'∧Aw (blk a) (blk b) w w':=by
 have HA:=hide ha
 have HB:=hide hb
 have HAB:=hide hab
 clear ha hb hab
 go_enter func36,ntmps36
 go_wp2_with fail
 have k0:=kept_alloc w (.cells #[.slice a xs.length ca,.slice b ys.length cb,iv o,iv pc,iv fl,iv mk,.bool su,.bool tr] 31)
 have s0:=HA.o.kept k0 (by omega)
 have t0:=HB.o.kept k0 (by omega)
 refine (vM _ lo ca a xs q (s0.slot (by simp;omega)) lx q0 (by omega)).mono ?_
 rintro e w1 ⟨rfl,s1,g1⟩
 have k1:=pX g1 s0.yS
 have s1':=s0.again s1
 have B0:=(Blk.new w #[.slice a xs.length ca,.slice b ys.length cb,iv o,iv pc,iv fl,iv mk,.bool su,.bool tr] 31).kept k1 (by omega)
 have c1:=B0.cell (i:=1) rfl
 have t1:bg w1 lo hi b ys:=by
  rcases t0 with t|⟨g,eb,b0,b1,ho⟩
  ·exact .inl t
  ·refine .inr ⟨g,eb,b0,b1,ho.kept g1 ?_⟩
   intro e
   exact HAB.o g e.symm (by rw [eb];rfl)
 have HG1:=hide g1
 have HK0:=hide k0
 have HK1:=hide ((k0.any (lo:=lo) (hi:=hi)).trans k1)
 have HS1:=hide s1'
 have HT1:=hide t1
 clear k0 s0 t0 s1 g1 k1 s1' t1 B0
 go_wp2_with fail
 refine (vM _ lo cb b ys (q+(xs.length:Int)) (HT1.o.slot (Nat.le_trans hh HK1.o.size)) ly (by omega) (by omega)).mono ?_
 rintro e w2 ⟨rfl,s2,g2⟩
 have k2:=pX g2 HT1.o.yS
 have HS2:Hid (bg w2 lo hi a (marks q xs.length)):=hide (by
  rcases HS1.o with t|⟨g,ea,b0,b1,ho⟩
  ·exact .inl t
  ·refine .inr ⟨g,ea,b0,b1,ho.kept g2 ?_⟩
   intro e
   exact HAB.o g (by rw [ea];rfl) e.symm)
 have HT2:=hide (HT1.o.again s2)
 have HK2:=hide (HK1.o.trans k2)
 have HB2:=hide (QS HK0.o HG1.o g2)
 clear s2 g2 k2
 go_wp2_with fail
 go_ret
 exact ⟨rfl,HS2.o,HT2.o,HK2.o,HB2.o⟩
theorem Je (w:World) (lo hi:Nat) (a b:Option Addr) (ca cb m:Nat) (xs ys:List Int) (q:Int) (ha:bg w lo hi a xs) (hb:bg w lo hi b ys) (hab:∀g,blk a=some g→blk b≠some g) (hh:hi≤w.heap.size) (lx:xs.length≤2000000) (ly:ys.length=5*m) (bm:m≤2000000) (q0:0≤q) (q1:q≤10000000) :
  Calls prog 37 #[.agg #[.slice a xs.length ca,.slice b m cb],iv q] w fun e w'=>e=.returned (iv (q+(xs.length:Int)+5*(m:Int)))∧bg w' lo hi a (marks q xs.length)∧bg w' lo hi b (marks (q+(xs.length:Int)) (5*m))∧Kept lo hi w w'∧Aw (blk a) (blk b) w w':=by
 have HY:=hide ly
 have HA:=hide ha
 have HB:=hide hb
 have HAB:=hide hab
 clear ly ha hb hab
 go_enter func37,ntmps37
 go_wp2_with fail
 have k0:=kept_alloc w (.cells #[.slice a xs.length ca,.slice b m cb] 34)
 have s0:=HA.o.kept k0 (by omega)
 have t0:=HB.o.kept k0 (by omega)
 refine (vM _ lo ca a xs q (s0.slot (by simp;omega)) lx q0 (by omega)).mono ?_
 rintro e w1 ⟨rfl,s1,g1⟩
 have k1:=pX g1 s0.yS
 have s1':=s0.again s1
 have B0:=(Blk.new w #[.slice a xs.length ca,.slice b m cb] 34).kept k1 (by omega)
 have c1:=B0.cell (i:=1) rfl
 have t1:bg w1 lo hi b ys:=by
  rcases t0 with t|⟨g,eb,b0,b1,ho⟩
  ·exact .inl t
  ·refine .inr ⟨g,eb,b0,b1,ho.kept g1 ?_⟩
   intro e
   exact HAB.o g e.symm (by rw [eb];rfl)
 have HG1:=hide g1
 have HK0:=hide k0
 have HK1:=hide ((k0.any (lo:=lo) (hi:=hi)).trans k1)
 have HS1:=hide s1'
 have HT1:=hide t1
 clear k0 s0 t0 s1 g1 k1 s1' t1 B0
 go_wp2_with fail
 refine (Fb _ lo cb m b ys (q+(xs.length:Int)) (HT1.o.slot (Nat.le_trans hh HK1.o.size)) HY.o bm (by omega) (by omega)).mono ?_
 rintro e w2 ⟨rfl,s2,g2⟩
 have k2:=pX g2 HT1.o.yS
 have HS2:Hid (bg w2 lo hi a (marks q xs.length)):=hide (by
  rcases HS1.o with t|⟨g,ea,b0,b1,ho⟩
  ·exact .inl t
  ·refine .inr ⟨g,ea,b0,b1,ho.kept g2 ?_⟩
   intro e
   exact HAB.o g (by rw [ea];rfl) e.symm)
 have HT2:=hide (HT1.o.again s2)
 have HK2:=hide (HK1.o.trans k2)
 have HB2:=hide (QS HK0.o HG1.o g2)
 clear s2 g2 k2
 go_wp2_with fail
 go_ret
 exact ⟨rfl,HS2.o,HT2.o,HK2.o,HB2.o⟩
structure Dh (w:World) (lo hi:Nat) (c:Pl.Cp) (a b e q:Option Addr):Prop where
 d:bg w lo hi a c.r.xs
 a':bg w lo hi b c.r.ys
 b':bg w lo hi e c.bx
 l:bg w lo hi q c.bl
 n1:∀g,blk a=some g→blk b≠some g
 n2:∀g,blk a=some g→blk e≠some g
 n3:∀g,blk a=some g→blk q≠some g
 n4:∀g,blk b=some g→blk e≠some g
 n5:∀g,blk b=some g→blk q≠some g
 n6:∀g,blk e=some g→blk q≠some g
theorem Dh.kept {w w':World} {l h lo hi:Nat} {c:Pl.Cp} {a b e q:Option Addr} (s:Dh w l h c a b e q) (k:Kept lo hi w w') (hd:h≤lo∨hi≤l∨hi≤lo):Dh w' l h c a b e q:=
 ⟨s.d.kept k hd,s.a'.kept k hd,s.b'.kept k hd,s.l.kept k hd,s.n1,s.n2,s.n3,s.n4,s.n5,s.n6⟩
def szC (n m k j:Nat) (left:Int):Int:=if szB n m left<0 then -1 else szB k j (szB n m left)
theorem NC {n m k j:Nat} {left:Int} (h:¬szC n m k j left<0):(n:Int)+(m:Int)+(k:Int)+(j:Int)≤left:=by
 unfold szC at h
 split at h
 ·exact absurd (by decide) h
 ·rename_i h1
  have a1:=Dn h1
  have a2:=Dn h
  unfold szB at a2
  split at a2
  ·omega
  ·split at a2<;>omega
theorem RS {n m:Nat} {left:Int} (h:¬szB n m left<0):0≤szB n m left∧szB n m left≤left:=by
 unfold szB at h ⊢
 split
 ·rename_i h1;rw [if_pos h1] at h;exact absurd (by decide) h
 ·rename_i h1
  rw [if_neg h1] at h
  split
  ·rename_i h2;rw [if_pos h2] at h;exact absurd (by decide) h
  ·omega
theorem wZ {n m:Nat} {left:Int} (h:szB n m left<0):szB n m left = -1:=by
 unfold szB at h ⊢
 split
 ·rfl
 ·rename_i h1
  rw [if_neg h1] at h
  split
  ·rfl
  ·rename_i h2;rw [if_neg h2] at h;omega
theorem QA (w:World) (c:Pl.Cp) (a b e q:Option Addr) (ca cb ce cq:Nat) (left:Int) (lx:c.r.xs.length≤9223372036854775807) (ly:c.r.ys.length≤9223372036854775807) (lb:c.bx.length≤9223372036854775807) (lm:c.bm≤9223372036854775807) (l0:0≤left) (l1:left≤2000000) :
  Calls prog 7 #[.agg (cpA c a b e q ca cb ce cq),iv left] w fun r w'=>r=.returned (iv (szC c.r.xs.length c.r.ys.length c.bx.length c.bm left))∧Kept 0 0 w w':=by
 have K0:=hide (kept_alloc w (.cells (cpA c a b e q ca cb ce cq) 29))
 have B0:=hide (Blk.new w (cpA c a b e q ca cb ce cq) 29)
 by_cases h:szB c.r.xs.length c.r.ys.length left<0
 ·have E:Hid (szC c.r.xs.length c.r.ys.length c.bx.length c.bm left = -1):=hide (by simp [szC,h])
  have e1:=wZ h
  go_enter func7,ntmps7
  go_wp2_with fail
  refine (Ho _ _ _ _ _ _ _ _ _ _ _ _ _ left lx ly l0 l1).mono ?_
  rintro e9 w1 ⟨rfl,k⟩
  rw [e1]
  have HK:=hide (K0.o.trans k)
  clear k
  go_wp2_with fail
  go_ret
  exact ⟨rI E.o.symm,HK.o⟩
 ·obtain ⟨s0,s1⟩:=RS h
  have E:Hid (szC c.r.xs.length c.r.ys.length c.bx.length c.bm left=szB c.bx.length c.bm (szB c.r.xs.length c.r.ys.length left)):=hide (by simp [szC,h])
  revert h s0 s1 E
  generalize hS:szB c.r.xs.length c.r.ys.length left=S
  have HS:=hide hS
  clear hS
  intro h s0 s1 E
  by_cases h2:szB c.bx.length c.bm S<0
  all_goals
   have E2:=hide (fun q=>@wZ c.bx.length c.bm S q)
   go_enter func7,ntmps7
   go_wp2_with fail
   refine (Ho _ _ _ _ _ _ _ _ _ _ _ _ _ left lx ly l0 l1).mono ?_
   rintro e9 w1 ⟨rfl,k⟩
   rw [HS.o]
   have HK:=hide (K0.o.trans k)
   have B1:=hide (B0.o.af k)
   clear k
   have i8:=B1.o.cell (i:=8) rfl
   have i9:=B1.o.cell (i:=9) rfl
   go_wp2_with fail
   refine (Vq _ _ _ _ _ _ _ S lb lm s0 (by omega)).mono ?_
   rintro e9 w2 ⟨rfl,k⟩
   have HK2:=hide (HK.o.trans k)
   clear k i8 i9
   go_wp2_with fail
   go_ret
   first
    | exact ⟨rI E.o.symm,HK2.o⟩
    | exact ⟨rI (by rw [E.o,E2.o h2]),HK2.o⟩
theorem yJ (w:World) (f:Pl.Ft) :
  Calls prog 21 #[.agg (ftA f),.agg (ftA f)] w fun r w'=>r=.returned (.bool true)∧Kept 0 0 w w':=by
 have HK0:=hide (ah (kept_alloc w (.cells (ftA f) 49)) (.cells (ftA f) 49))
 go_enter func21,ntmps21
 go_wp2_with fail
 go_ret
 exact ⟨rfl,HK0.o⟩
theorem Ed (w:World) (c:Pl.Cp) (a b e q a2 b2 e2 q2:Option Addr) (ca cb ce cq ca2 cb2 ce2 cq2:Nat) (ha:aJ w a c.r.xs) (hb:aJ w b c.r.ys) (he:aJ w e c.bx) (hq:aJ w q c.bl) (ha2:aJ w a2 c.r.xs) (hb2:aJ w b2 c.r.ys) (he2:aJ w e2 c.bx) (hq2:aJ w q2 c.bl) (lx:c.r.xs.length≤2000000) (ly:c.r.ys.length≤2000000) (lb:c.bx.length≤2000000) (ll:c.bl.length=5*c.bm) (lm:c.bm≤2000000) :
  Calls prog 11 #[.agg (cpA c a b e q ca cb ce cq),.agg (cpA c a2 b2 e2 q2 ca2 cb2 ce2 cq2)] w fun r w'=>r=.returned (.bool true)∧Kept 0 0 w w':=by
 have K0:=hide (ah (kept_alloc w (.cells (cpA c a b e q ca cb ce cq) 36)) (.cells (cpA c a2 b2 e2 q2 ca2 cb2 ce2 cq2) 36))
 have B0:=(Blk.new w (cpA c a b e q ca cb ce cq) 36).alloc (.cells (cpA c a2 b2 e2 q2 ca2 cb2 ce2 cq2) 36)
 have B1:=Blk.new (w.alloc (.cells (cpA c a b e q ca cb ce cq) 36)) (cpA c a2 b2 e2 q2 ca2 cb2 ce2 cq2) 36
 simp only [World.size_alloc] at B1
 obtain ⟨X,hX⟩:∃X:World,(w.alloc (.cells (cpA c a b e q ca cb ce cq) 36)).alloc (.cells (cpA c a2 b2 e2 q2 ca2 cb2 ce2 cq2) 36)=X:=⟨_,rfl⟩
 rw [hX] at K0 B0 B1
 have HB0:=hide B0
 have HB1:=hide B1
 have i0:=B0.all
 have j0:=B1.all
 have HL:=hide ll
 have HE:=hide (he.ai K0.o)
 have HQ:=hide (hq.ai K0.o)
 have HE2:=hide (he2.ai K0.o)
 have HQ2:=hide (hq2.ai K0.o)
 have HA:=hide (ha.ai K0.o)
 have HB:=hide (hb.ai K0.o)
 have HA2:=hide (ha2.ai K0.o)
 have YJ:=hide (hb2.ai K0.o)
 clear B0 B1 ll ha hb he hq ha2 hb2 he2 hq2
 go_enter func11,ntmps11
 go_wp2_with fail
 refine (TW _ c.r.o c.r.p c.r.f c.r.m c.r.s c.r.t a b a2 b2 ca cb ca2 cb2 c.r.xs c.r.ys HA.o HB.o HA2.o YJ.o lx ly).mono ?_
 rintro e9 w1 ⟨rfl,k⟩
 have K1:=hide (K0.o.trans k)
 have C0:=hide (HB0.o.af k)
 have C1:=hide (HB1.o.af k)
 have HE':=hide (HE.o.ai k)
 have HQ':=hide (HQ.o.ai k)
 have HE2':=hide (HE2.o.ai k)
 have HQ2':=hide (HQ2.o.ai k)
 clear k i0 j0
 have i8:=C0.o.all
 have j8:=C1.o.all
 go_wp2_with fail
 refine (Wv _ e q e2 q2 ce cq ce2 cq2 c.bm c.bm c.bx c.bl c.bx c.bl HE'.o HQ'.o HE2'.o HQ2'.o lb lb HL.o HL.o lm lm).mono ?_
 rintro e9 w2 ⟨rfl,k⟩
 rw [show (decide (c.bx=c.bx)&&decide (c.bl=c.bl))=true from by simp]
 have K2:=hide (K1.o.trans k)
 have D0:=hide (C0.o.af k)
 have D1:=hide (C1.o.af k)
 clear k
 have i10:=D0.o.cell (i:=10) rfl
 have i11:=D0.o.cell (i:=11) rfl
 have j10:=D1.o.cell (i:=10) rfl
 have j11:=D1.o.cell (i:=11) rfl
 go_wp2_with fail
 go_ret
 exact ⟨rfl,K2.o⟩
def Pl.mkC (c:Pl.Cp) (k:Int):Pl.Cp:={c with r:={c.r with xs:=marks k c.r.xs.length,ys:=marks (k+(c.r.xs.length:Int)) c.r.ys.length},bx:=marks (k+(c.r.xs.length:Int)+(c.r.ys.length:Int)) c.bx.length,bl:=marks (k+(c.r.xs.length:Int)+(c.r.ys.length:Int)+(c.bx.length:Int)) (5*c.bm)}
def Pl.mkN (c:Pl.Cp) (k:Int):Int:=k+(c.r.xs.length:Int)+(c.r.ys.length:Int)+(c.bx.length:Int)+5*(c.bm:Int)
theorem DJ (w:World) (lo hi:Nat) (c:Pl.Cp) (a b e q:Option Addr) (ca cb ce cq:Nat) (hs:Dh w lo hi c a b e q) (hh:hi≤w.heap.size) (lx:c.r.xs.length≤2000000) (ly:c.r.ys.length≤2000000) (lb:c.bx.length≤2000000) (ll:c.bl.length=5*c.bm) (lm:c.bm≤2000000) :
  Calls prog 12 #[.agg (cpA c a b e q ca cb ce cq),iv 1] w fun r w'=>r=.returned (iv (Pl.mkN c 1))∧Dh w' lo hi (Pl.mkC c 1) a b e q∧Kept lo hi w w':=by
 have E:Hid (Pl.mkN c 1=1+(c.r.xs.length:Int)+(c.r.ys.length:Int)+(c.bx.length:Int)+5*(c.bm:Int)):=hide rfl
 have K0:=hide (kept_alloc w (.cells (cpA c a b e q ca cb ce cq) 36))
 have B0:=Blk.new w (cpA c a b e q ca cb ce cq) 36
 have HS:=hide (hs.kept K0.o (by omega))
 have hsz:hi≤(w.alloc (.cells (cpA c a b e q ca cb ce cq) 36)).heap.size:=by simp;omega
 obtain ⟨X,hX⟩:∃X:World,w.alloc (.cells (cpA c a b e q ca cb ce cq) 36)=X:=⟨_,rfl⟩
 rw [hX] at K0 B0 HS hsz
 have HB0:=hide B0
 have i0:=B0.all
 have HL:=hide ll
 clear B0 ll hs
 go_enter func12,ntmps12
 go_wp2_with fail
 refine (Fe _ lo hi c.r.o c.r.p c.r.f c.r.m c.r.s c.r.t a b ca cb c.r.xs c.r.ys 1 HS.o.d HS.o.a' HS.o.n1 hsz (by omega) (by omega) (by decide) (by decide)).mono ?_
 rintro e9 w1 ⟨rfl,s1,s2,k,kb⟩
 have K1:=hide ((K0.o.any (lo:=lo) (hi:=hi)).trans k)
 have C0:=hide (HB0.o.kept k (by omega))
 have HM1:=hide s1
 have HM2:=hide s2
 have HE:=hide (HS.o.b'.xq kb (fun g h1 h2=>HS.o.n2 g h2.symm h1) (fun g h1 h2=>HS.o.n4 g h2.symm h1))
 have HQ:=hide (HS.o.l.xq kb (fun g h1 h2=>HS.o.n3 g h2.symm h1) (fun g h1 h2=>HS.o.n5 g h2.symm h1))
 have hz1:=k.size
 clear k kb s1 s2 i0
 have i8:=C0.o.cell (i:=8) rfl
 have i9:=C0.o.cell (i:=9) rfl
 go_wp2_with fail
 refine (Je _ lo hi e q ce cq c.bm c.bx c.bl (1+(c.r.xs.length:Int)+(c.r.ys.length:Int)) HE.o HQ.o HS.o.n6 (by omega) lb HL.o lm (by omega) (by omega)).mono ?_
 rintro e9 w2 ⟨rfl,s3,s4,k,kb⟩
 have K2:=hide (K1.o.trans k)
 have HM3:=hide s3
 have HM4:=hide s4
 have HN1:=hide (HM1.o.xq kb (fun g h1 h2=>HS.o.n2 g h1 h2.symm) (fun g h1 h2=>HS.o.n3 g h1 h2.symm))
 have HN2:=hide (HM2.o.xq kb (fun g h1 h2=>HS.o.n4 g h1 h2.symm) (fun g h1 h2=>HS.o.n5 g h1 h2.symm))
 clear k kb s3 s4
 go_wp2_with fail
 go_ret
 exact ⟨rI E.o.symm,⟨HN1.o,HN2.o,HM3.o,HM4.o,HS.o.n1,HS.o.n2,HS.o.n3,HS.o.n4,HS.o.n5,HS.o.n6⟩,K2.o⟩
theorem DY (w:World) (c:Pl.Cp) (a b e q:Option Addr) (ca cb ce cq:Nat) (ha:aJ w a (Pl.mkC c 1).r.xs) (hb:aJ w b (Pl.mkC c 1).r.ys) (he:aJ w e (Pl.mkC c 1).bx) (hq:aJ w q (Pl.mkC c 1).bl) (lx:c.r.xs.length≤400000) (ly:c.r.ys.length≤400000) (lb:c.bx.length≤2000000) (lm:c.bm≤2000000) :
  Calls prog 13 #[.agg (cpA c a b e q ca cb ce cq),iv 1] w fun r w'=>r=.returned (iv (Pl.mkN c 1))∧Kept 0 0 w w':=by
 have E:Hid (Pl.mkN c 1=1+(c.r.xs.length:Int)+(c.r.ys.length:Int)+(c.bx.length:Int)+5*(c.bm:Int)):=hide rfl
 have K0:=hide (kept_alloc w (.cells (cpA c a b e q ca cb ce cq) 36))
 have B0:=Blk.new w (cpA c a b e q ca cb ce cq) 36
 have HA:=hide (ha.ai K0.o)
 have HB:=hide (hb.ai K0.o)
 have HE:=hide (he.ai K0.o)
 have HQ:=hide (hq.ai K0.o)
 obtain ⟨X,hX⟩:∃X:World,w.alloc (.cells (cpA c a b e q ca cb ce cq) 36)=X:=⟨_,rfl⟩
 rw [hX] at K0 B0 HA HB HE HQ
 have HB0:=hide B0
 have i0:=B0.all
 clear B0 ha hb he hq
 go_enter func13,ntmps13
 go_wp2_with fail
 refine (J7 _ c.r.o c.r.p c.r.f c.r.m c.r.s c.r.t a b ca cb c.r.xs.length c.r.ys.length 1 HA.o HB.o (by omega) (by omega) (by decide) (by decide)).mono ?_
 rintro e9 w1 ⟨rfl,k⟩
 have K1:=hide (K0.o.trans k)
 have C0:=hide (HB0.o.af k)
 have HE':=hide (HE.o.ai k)
 have HQ':=hide (HQ.o.ai k)
 clear k i0
 have i8:=C0.o.cell (i:=8) rfl
 have i9:=C0.o.cell (i:=9) rfl
 go_wp2_with fail
 refine (OO _ e q ce cq c.bx.length c.bm (1+(c.r.xs.length:Int)+(c.r.ys.length:Int)) HE'.o HQ'.o lb lm (by omega) (by omega)).mono ?_
 rintro e9 w2 ⟨rfl,k⟩
 have K2:=hide (K1.o.trans k)
 clear k
 go_wp2_with fail
 go_ret
 exact ⟨rI E.o.symm,K2.o⟩
theorem Blk.VG {w:World} {b:Nat} {u0 u1 u2 u3 u4 u5 u6 u7 u8 u9 u10 u11 v0 v1 v2 v3 v4 v5 v6 v7:Value} {ty:TypeId} (h:Blk w b #[u0,u1,u2,u3,u4,u5,u6,u7,u8,u9,u10,u11] ty):Blk ((((((((w.setCell ⟨b,0,none⟩ v0).setCell ⟨b,1,none⟩ v1).setCell ⟨b,2,none⟩ v2).setCell ⟨b,3,none⟩ v3).setCell ⟨b,4,none⟩ v4).setCell ⟨b,5,none⟩ v5).setCell ⟨b,6,none⟩ v6).setCell ⟨b,7,none⟩ v7) b #[v0,v1,v2,v3,v4,v5,v6,v7,u8,u9,u10,u11] ty:=by
 have h0:Blk (w.setCell ⟨b,0,none⟩ v0) b #[v0,u1,u2,u3,u4,u5,u6,u7,u8,u9,u10,u11] ty:=h.set 0 v0
 have h1:Blk ((w.setCell ⟨b,0,none⟩ v0).setCell ⟨b,1,none⟩ v1) b #[v0,v1,u2,u3,u4,u5,u6,u7,u8,u9,u10,u11] ty:=h0.set 1 v1
 have h2:Blk (((w.setCell ⟨b,0,none⟩ v0).setCell ⟨b,1,none⟩ v1).setCell ⟨b,2,none⟩ v2) b #[v0,v1,v2,u3,u4,u5,u6,u7,u8,u9,u10,u11] ty:=h1.set 2 v2
 have h3:Blk ((((w.setCell ⟨b,0,none⟩ v0).setCell ⟨b,1,none⟩ v1).setCell ⟨b,2,none⟩ v2).setCell ⟨b,3,none⟩ v3) b #[v0,v1,v2,v3,u4,u5,u6,u7,u8,u9,u10,u11] ty:=h2.set 3 v3
 have h4:Blk (((((w.setCell ⟨b,0,none⟩ v0).setCell ⟨b,1,none⟩ v1).setCell ⟨b,2,none⟩ v2).setCell ⟨b,3,none⟩ v3).setCell ⟨b,4,none⟩ v4) b #[v0,v1,v2,v3,v4,u5,u6,u7,u8,u9,u10,u11] ty:=h3.set 4 v4
 have h5:Blk ((((((w.setCell ⟨b,0,none⟩ v0).setCell ⟨b,1,none⟩ v1).setCell ⟨b,2,none⟩ v2).setCell ⟨b,3,none⟩ v3).setCell ⟨b,4,none⟩ v4).setCell ⟨b,5,none⟩ v5) b #[v0,v1,v2,v3,v4,v5,u6,u7,u8,u9,u10,u11] ty:=h4.set 5 v5
 have h6:Blk (((((((w.setCell ⟨b,0,none⟩ v0).setCell ⟨b,1,none⟩ v1).setCell ⟨b,2,none⟩ v2).setCell ⟨b,3,none⟩ v3).setCell ⟨b,4,none⟩ v4).setCell ⟨b,5,none⟩ v5).setCell ⟨b,6,none⟩ v6) b #[v0,v1,v2,v3,v4,v5,v6,u7,u8,u9,u10,u11] ty:=h5.set 6 v6
 have h7:Blk ((((((((w.setCell ⟨b,0,none⟩ v0).setCell ⟨b,1,none⟩ v1).setCell ⟨b,2,none⟩ v2).setCell ⟨b,3,none⟩ v3).setCell ⟨b,4,none⟩ v4).setCell ⟨b,5,none⟩ v5).setCell ⟨b,6,none⟩ v6).setCell ⟨b,7,none⟩ v7) b #[v0,v1,v2,v3,v4,v5,v6,v7,u8,u9,u10,u11] ty:=h6.set 7 v7
 exact h7
theorem Blk.qK {w:World} {b:Nat} {u0 u1 u2 u3 u4 u5 u6 u7 u8 u9 u10 u11 v8 v9 v10 v11:Value} {ty:TypeId} (h:Blk w b #[u0,u1,u2,u3,u4,u5,u6,u7,u8,u9,u10,u11] ty):Blk ((((w.setCell ⟨b,8,none⟩ v8).setCell ⟨b,9,none⟩ v9).setCell ⟨b,10,none⟩ v10).setCell ⟨b,11,none⟩ v11) b #[u0,u1,u2,u3,u4,u5,u6,u7,v8,v9,v10,v11] ty:=by
 have h0:Blk (w.setCell ⟨b,8,none⟩ v8) b #[u0,u1,u2,u3,u4,u5,u6,u7,v8,u9,u10,u11] ty:=h.set 8 v8
 have h1:Blk ((w.setCell ⟨b,8,none⟩ v8).setCell ⟨b,9,none⟩ v9) b #[u0,u1,u2,u3,u4,u5,u6,u7,v8,v9,u10,u11] ty:=h0.set 9 v9
 have h2:Blk (((w.setCell ⟨b,8,none⟩ v8).setCell ⟨b,9,none⟩ v9).setCell ⟨b,10,none⟩ v10) b #[u0,u1,u2,u3,u4,u5,u6,u7,v8,v9,v10,u11] ty:=h1.set 10 v10
 have h3:Blk ((((w.setCell ⟨b,8,none⟩ v8).setCell ⟨b,9,none⟩ v9).setCell ⟨b,10,none⟩ v10).setCell ⟨b,11,none⟩ v11) b #[u0,u1,u2,u3,u4,u5,u6,u7,v8,v9,v10,v11] ty:=h2.set 11 v11
 exact h3
theorem Dl (w:World) (c:Pl.Cp) (a b e q:Option Addr) (ca cb ce cq:Nat) (ha:aJ w a c.r.xs) (hb:aJ w b c.r.ys) (he:aJ w e c.bx) (hq:aJ w q c.bl) (lx:c.r.xs.length≤2000000) (ly:c.r.ys.length≤2000000) (lb:c.bx.length≤2000000) (ll:c.bl.length=5*c.bm) (lm:c.bm≤2000000) :
  Calls prog 9 #[.agg (cpA c a b e q ca cb ce cq)] w fun r w'=>∃g1 g2 g3 g4:Nat,r=.returned (.agg (cpA c (some ⟨g1,0,none⟩) (some ⟨g2,0,none⟩) (some ⟨g3,0,none⟩) (some ⟨g4,0,none⟩) c.r.xs.length c.r.ys.length c.bx.length c.bm))∧Dh w' w.heap.size w'.heap.size c (some ⟨g1,0,none⟩) (some ⟨g2,0,none⟩) (some ⟨g3,0,none⟩) (some ⟨g4,0,none⟩)∧Kept 0 0 w w':=by
 have k0:Kept 0 0 w (((w.alloc (.cells (cpA c a b e q ca cb ce cq) 29)).alloc (.cells cpZ 36)).alloc (.cells cpZ 36)):=ah (ah (kept_alloc _ _) _) _
 have BA:=((Blk.new w (cpA c a b e q ca cb ce cq) 29).alloc (.cells cpZ 36)).alloc (.cells cpZ 36)
 have BR:=(Blk.new (w.alloc (.cells (cpA c a b e q ca cb ce cq) 29)) cpZ 36).alloc (.cells cpZ 36)
 have BO:=Blk.new ((w.alloc (.cells (cpA c a b e q ca cb ce cq) 29)).alloc (.cells cpZ 36)) cpZ 36
 simp only [World.size_alloc] at BR BO
 obtain ⟨X,hX⟩:∃X:World,(((w.alloc (.cells (cpA c a b e q ca cb ce cq) 29)).alloc (.cells cpZ 36)).alloc (.cells cpZ 36))=X:=⟨_,rfl⟩
 rw [hX] at k0 BA BR BO
 have n0:=BO.lt
 have K0:=hide k0
 have HBA:=hide BA
 have HBR:=hide BR
 have HBO:=hide BO
 have HA:=hide (ha.ai k0)
 have HB:=hide (hb.ai k0)
 have HE:=hide he
 have HQ:=hide hq
 have HL:=hide ll
 have i0:=BA.all
 clear k0 BA BR BO ha hb he hq ll
 go_enter func9,ntmps9
 go_wp2_with fail
 refine (RP _ c.r.o c.r.p c.r.f c.r.m c.r.s c.r.t a b ca cb c.r.xs c.r.ys HA.o HB.o lx ly).mono ?_
 rintro e9 w1 ⟨g1,g2,rfl,o1,o2,l1,l2,l3,k⟩
 have HA1:=hide (HBA.o.af k)
 have HR1:=hide (HBR.o.af k)
 have HO1:=hide (HBO.o.af k)
 have K1:=hide (K0.o.trans k)
 have k1s:=k.size
 have OW1:=hide o1
 have OW2:=hide o2
 clear k o1 o2 i0
 have o0:=HO1.o.cell (i:=0) rfl
 have o1:=HO1.o.cell (i:=1) rfl
 have o2:=HO1.o.cell (i:=2) rfl
 have o3:=HO1.o.cell (i:=3) rfl
 have o4:=HO1.o.cell (i:=4) rfl
 have o5:=HO1.o.cell (i:=5) rfl
 have o6:=HO1.o.cell (i:=6) rfl
 have o7:=HO1.o.cell (i:=7) rfl
 have of0:=HO1.o.fz
 have K2:Kept 0 0 w ((((((((w1.setCell ⟨w.heap.size+2,0,none⟩ (.slice (some ⟨g1,0,none⟩) c.r.xs.length c.r.xs.length)).setCell ⟨w.heap.size+2,1,none⟩ (.slice (some ⟨g2,0,none⟩) c.r.ys.length c.r.ys.length)).setCell ⟨w.heap.size+2,2,none⟩ (iv c.r.o)).setCell ⟨w.heap.size+2,3,none⟩ (iv c.r.p)).setCell ⟨w.heap.size+2,4,none⟩ (iv c.r.f)).setCell ⟨w.heap.size+2,5,none⟩ (iv c.r.m)).setCell ⟨w.heap.size+2,6,none⟩ (.bool c.r.s)).setCell ⟨w.heap.size+2,7,none⟩ (.bool c.r.t)):=(ag (ag (ag (ag (ag (ag (ag (ag K1.o _ _ _ (.inr (by omega))) _ _ _ (.inr (by omega))) _ _ _ (.inr (by omega))) _ _ _ (.inr (by omega))) _ _ _ (.inr (by omega))) _ _ _ (.inr (by omega))) _ _ _ (.inr (by omega))) _ _ _ (.inr (by omega)))
 have HO2:Blk ((((((((w1.setCell ⟨w.heap.size+2,0,none⟩ (.slice (some ⟨g1,0,none⟩) c.r.xs.length c.r.xs.length)).setCell ⟨w.heap.size+2,1,none⟩ (.slice (some ⟨g2,0,none⟩) c.r.ys.length c.r.ys.length)).setCell ⟨w.heap.size+2,2,none⟩ (iv c.r.o)).setCell ⟨w.heap.size+2,3,none⟩ (iv c.r.p)).setCell ⟨w.heap.size+2,4,none⟩ (iv c.r.f)).setCell ⟨w.heap.size+2,5,none⟩ (iv c.r.m)).setCell ⟨w.heap.size+2,6,none⟩ (.bool c.r.s)).setCell ⟨w.heap.size+2,7,none⟩ (.bool c.r.t)) (w.heap.size+2) #[.slice (some ⟨g1,0,none⟩) c.r.xs.length c.r.xs.length,.slice (some ⟨g2,0,none⟩) c.r.ys.length c.r.ys.length,iv c.r.o,iv c.r.p,iv c.r.f,iv c.r.m,.bool c.r.s,.bool c.r.t,.slice none 0 0,.slice none 0 0,.bool false,.bool false] 36:=Blk.VG HO1.o
 have HA2:Blk ((((((((w1.setCell ⟨w.heap.size+2,0,none⟩ (.slice (some ⟨g1,0,none⟩) c.r.xs.length c.r.xs.length)).setCell ⟨w.heap.size+2,1,none⟩ (.slice (some ⟨g2,0,none⟩) c.r.ys.length c.r.ys.length)).setCell ⟨w.heap.size+2,2,none⟩ (iv c.r.o)).setCell ⟨w.heap.size+2,3,none⟩ (iv c.r.p)).setCell ⟨w.heap.size+2,4,none⟩ (iv c.r.f)).setCell ⟨w.heap.size+2,5,none⟩ (iv c.r.m)).setCell ⟨w.heap.size+2,6,none⟩ (.bool c.r.s)).setCell ⟨w.heap.size+2,7,none⟩ (.bool c.r.t)) w.heap.size (cpA c a b e q ca cb ce cq) 29:=((((((((HA1.o.other _ _ _ (by omega)).other _ _ _ (by omega)).other _ _ _ (by omega)).other _ _ _ (by omega)).other _ _ _ (by omega)).other _ _ _ (by omega)).other _ _ _ (by omega)).other _ _ _ (by omega))
 have HR2:Blk ((((((((w1.setCell ⟨w.heap.size+2,0,none⟩ (.slice (some ⟨g1,0,none⟩) c.r.xs.length c.r.xs.length)).setCell ⟨w.heap.size+2,1,none⟩ (.slice (some ⟨g2,0,none⟩) c.r.ys.length c.r.ys.length)).setCell ⟨w.heap.size+2,2,none⟩ (iv c.r.o)).setCell ⟨w.heap.size+2,3,none⟩ (iv c.r.p)).setCell ⟨w.heap.size+2,4,none⟩ (iv c.r.f)).setCell ⟨w.heap.size+2,5,none⟩ (iv c.r.m)).setCell ⟨w.heap.size+2,6,none⟩ (.bool c.r.s)).setCell ⟨w.heap.size+2,7,none⟩ (.bool c.r.t)) (w.heap.size+1) cpZ 36:=((((((((HR1.o.other _ _ _ (by omega)).other _ _ _ (by omega)).other _ _ _ (by omega)).other _ _ _ (by omega)).other _ _ _ (by omega)).other _ _ _ (by omega)).other _ _ _ (by omega)).other _ _ _ (by omega))
 have P1:Own ((((((((w1.setCell ⟨w.heap.size+2,0,none⟩ (.slice (some ⟨g1,0,none⟩) c.r.xs.length c.r.xs.length)).setCell ⟨w.heap.size+2,1,none⟩ (.slice (some ⟨g2,0,none⟩) c.r.ys.length c.r.ys.length)).setCell ⟨w.heap.size+2,2,none⟩ (iv c.r.o)).setCell ⟨w.heap.size+2,3,none⟩ (iv c.r.p)).setCell ⟨w.heap.size+2,4,none⟩ (iv c.r.f)).setCell ⟨w.heap.size+2,5,none⟩ (iv c.r.m)).setCell ⟨w.heap.size+2,6,none⟩ (.bool c.r.s)).setCell ⟨w.heap.size+2,7,none⟩ (.bool c.r.t)) g1 c.r.xs:=((((((((OW1.o.setOther _ _ _ (by omega)).setOther _ _ _ (by omega)).setOther _ _ _ (by omega)).setOther _ _ _ (by omega)).setOther _ _ _ (by omega)).setOther _ _ _ (by omega)).setOther _ _ _ (by omega)).setOther _ _ _ (by omega))
 have P2:Own ((((((((w1.setCell ⟨w.heap.size+2,0,none⟩ (.slice (some ⟨g1,0,none⟩) c.r.xs.length c.r.xs.length)).setCell ⟨w.heap.size+2,1,none⟩ (.slice (some ⟨g2,0,none⟩) c.r.ys.length c.r.ys.length)).setCell ⟨w.heap.size+2,2,none⟩ (iv c.r.o)).setCell ⟨w.heap.size+2,3,none⟩ (iv c.r.p)).setCell ⟨w.heap.size+2,4,none⟩ (iv c.r.f)).setCell ⟨w.heap.size+2,5,none⟩ (iv c.r.m)).setCell ⟨w.heap.size+2,6,none⟩ (.bool c.r.s)).setCell ⟨w.heap.size+2,7,none⟩ (.bool c.r.t)) g2 c.r.ys:=((((((((OW2.o.setOther _ _ _ (by omega)).setOther _ _ _ (by omega)).setOther _ _ _ (by omega)).setOther _ _ _ (by omega)).setOther _ _ _ (by omega)).setOther _ _ _ (by omega)).setOther _ _ _ (by omega)).setOther _ _ _ (by omega))
 have szY:((((((((w1.setCell ⟨w.heap.size+2,0,none⟩ (.slice (some ⟨g1,0,none⟩) c.r.xs.length c.r.xs.length)).setCell ⟨w.heap.size+2,1,none⟩ (.slice (some ⟨g2,0,none⟩) c.r.ys.length c.r.ys.length)).setCell ⟨w.heap.size+2,2,none⟩ (iv c.r.o)).setCell ⟨w.heap.size+2,3,none⟩ (iv c.r.p)).setCell ⟨w.heap.size+2,4,none⟩ (iv c.r.f)).setCell ⟨w.heap.size+2,5,none⟩ (iv c.r.m)).setCell ⟨w.heap.size+2,6,none⟩ (.bool c.r.s)).setCell ⟨w.heap.size+2,7,none⟩ (.bool c.r.t)).heap.size=w1.heap.size:=by simp [World.setCell]
 obtain ⟨Y,hY⟩:∃Y:World,((((((((w1.setCell ⟨w.heap.size+2,0,none⟩ (.slice (some ⟨g1,0,none⟩) c.r.xs.length c.r.xs.length)).setCell ⟨w.heap.size+2,1,none⟩ (.slice (some ⟨g2,0,none⟩) c.r.ys.length c.r.ys.length)).setCell ⟨w.heap.size+2,2,none⟩ (iv c.r.o)).setCell ⟨w.heap.size+2,3,none⟩ (iv c.r.p)).setCell ⟨w.heap.size+2,4,none⟩ (iv c.r.f)).setCell ⟨w.heap.size+2,5,none⟩ (iv c.r.m)).setCell ⟨w.heap.size+2,6,none⟩ (.bool c.r.s)).setCell ⟨w.heap.size+2,7,none⟩ (.bool c.r.t))=Y:=⟨_,rfl⟩
 rw [hY] at K2 HO2 HA2 HR2 P1 P2 szY
 replace K2:=hide K2
 replace HO2:=hide HO2
 replace HA2:=hide HA2
 replace HR2:=hide HR2
 replace P1:=hide P1
 replace P2:=hide P2
 have i8:=HA2.o.cell (i:=8) rfl
 have i9:=HA2.o.cell (i:=9) rfl
 go_wp2_with fail
 clear hX hY o0 of0 o1 o2 o3 o4 o5 o6 o7
 refine (U4 _ e q ce cq c.bm c.bx c.bl (HE.o.ai K2.o) (HQ.o.ai K2.o) lb HL.o lm).mono ?_
 rintro e9 w2 ⟨g3,g4,rfl,o3,o4,l4,l5,l6,k⟩
 have EA:=hide (HA2.o.af k)
 have ER:=hide (HR2.o.af k)
 have EO:=hide (HO2.o.af k)
 have K3:=hide (K2.o.trans k)
 have k3s:=k.size
 have P3:=hide (P1.o.ai k (by omega))
 have P4:=hide (P2.o.ai k (by omega))
 have P5:=hide o3
 have P6:=hide o4
 clear k o3 o4
 have o8:=EO.o.all
 have of8:=EO.o.fz
 have i10:=EA.o.cell (i:=10) rfl
 have i11:=EA.o.cell (i:=11) rfl
 have K4:Kept 0 0 w ((((w2.setCell ⟨w.heap.size+2,8,none⟩ (.slice (some ⟨g3,0,none⟩) c.bx.length c.bx.length)).setCell ⟨w.heap.size+2,9,none⟩ (.slice (some ⟨g4,0,none⟩) c.bm c.bm)).setCell ⟨w.heap.size+2,10,none⟩ (.bool c.st)).setCell ⟨w.heap.size+2,11,none⟩ (.bool c.ha)):=(ag (ag (ag (ag K3.o _ _ _ (.inr (by omega))) _ _ _ (.inr (by omega))) _ _ _ (.inr (by omega))) _ _ _ (.inr (by omega)))
 have FO:Blk ((((w2.setCell ⟨w.heap.size+2,8,none⟩ (.slice (some ⟨g3,0,none⟩) c.bx.length c.bx.length)).setCell ⟨w.heap.size+2,9,none⟩ (.slice (some ⟨g4,0,none⟩) c.bm c.bm)).setCell ⟨w.heap.size+2,10,none⟩ (.bool c.st)).setCell ⟨w.heap.size+2,11,none⟩ (.bool c.ha)) (w.heap.size+2) (cpA c (some ⟨g1,0,none⟩) (some ⟨g2,0,none⟩) (some ⟨g3,0,none⟩) (some ⟨g4,0,none⟩) c.r.xs.length c.r.ys.length c.bx.length c.bm) 36:=Blk.qK EO.o
 have FR:Blk ((((w2.setCell ⟨w.heap.size+2,8,none⟩ (.slice (some ⟨g3,0,none⟩) c.bx.length c.bx.length)).setCell ⟨w.heap.size+2,9,none⟩ (.slice (some ⟨g4,0,none⟩) c.bm c.bm)).setCell ⟨w.heap.size+2,10,none⟩ (.bool c.st)).setCell ⟨w.heap.size+2,11,none⟩ (.bool c.ha)) (w.heap.size+1) cpZ 36:=((((ER.o.other _ _ _ (by omega)).other _ _ _ (by omega)).other _ _ _ (by omega)).other _ _ _ (by omega))
 have Q1:Own ((((w2.setCell ⟨w.heap.size+2,8,none⟩ (.slice (some ⟨g3,0,none⟩) c.bx.length c.bx.length)).setCell ⟨w.heap.size+2,9,none⟩ (.slice (some ⟨g4,0,none⟩) c.bm c.bm)).setCell ⟨w.heap.size+2,10,none⟩ (.bool c.st)).setCell ⟨w.heap.size+2,11,none⟩ (.bool c.ha)) g1 c.r.xs:=((((P3.o.setOther _ _ _ (by omega)).setOther _ _ _ (by omega)).setOther _ _ _ (by omega)).setOther _ _ _ (by omega))
 have Q2:Own ((((w2.setCell ⟨w.heap.size+2,8,none⟩ (.slice (some ⟨g3,0,none⟩) c.bx.length c.bx.length)).setCell ⟨w.heap.size+2,9,none⟩ (.slice (some ⟨g4,0,none⟩) c.bm c.bm)).setCell ⟨w.heap.size+2,10,none⟩ (.bool c.st)).setCell ⟨w.heap.size+2,11,none⟩ (.bool c.ha)) g2 c.r.ys:=((((P4.o.setOther _ _ _ (by omega)).setOther _ _ _ (by omega)).setOther _ _ _ (by omega)).setOther _ _ _ (by omega))
 have Q3:Own ((((w2.setCell ⟨w.heap.size+2,8,none⟩ (.slice (some ⟨g3,0,none⟩) c.bx.length c.bx.length)).setCell ⟨w.heap.size+2,9,none⟩ (.slice (some ⟨g4,0,none⟩) c.bm c.bm)).setCell ⟨w.heap.size+2,10,none⟩ (.bool c.st)).setCell ⟨w.heap.size+2,11,none⟩ (.bool c.ha)) g3 c.bx:=((((P5.o.setOther _ _ _ (by omega)).setOther _ _ _ (by omega)).setOther _ _ _ (by omega)).setOther _ _ _ (by omega))
 have Q4:Own ((((w2.setCell ⟨w.heap.size+2,8,none⟩ (.slice (some ⟨g3,0,none⟩) c.bx.length c.bx.length)).setCell ⟨w.heap.size+2,9,none⟩ (.slice (some ⟨g4,0,none⟩) c.bm c.bm)).setCell ⟨w.heap.size+2,10,none⟩ (.bool c.st)).setCell ⟨w.heap.size+2,11,none⟩ (.bool c.ha)) g4 c.bl:=((((P6.o.setOther _ _ _ (by omega)).setOther _ _ _ (by omega)).setOther _ _ _ (by omega)).setOther _ _ _ (by omega))
 have szV:((((w2.setCell ⟨w.heap.size+2,8,none⟩ (.slice (some ⟨g3,0,none⟩) c.bx.length c.bx.length)).setCell ⟨w.heap.size+2,9,none⟩ (.slice (some ⟨g4,0,none⟩) c.bm c.bm)).setCell ⟨w.heap.size+2,10,none⟩ (.bool c.st)).setCell ⟨w.heap.size+2,11,none⟩ (.bool c.ha)).heap.size=w2.heap.size:=by simp [World.setCell]
 obtain ⟨V,hV⟩:∃V:World,((((w2.setCell ⟨w.heap.size+2,8,none⟩ (.slice (some ⟨g3,0,none⟩) c.bx.length c.bx.length)).setCell ⟨w.heap.size+2,9,none⟩ (.slice (some ⟨g4,0,none⟩) c.bm c.bm)).setCell ⟨w.heap.size+2,10,none⟩ (.bool c.st)).setCell ⟨w.heap.size+2,11,none⟩ (.bool c.ha))=V:=⟨_,rfl⟩
 rw [hV] at K4 FO FR Q1 Q2 Q3 Q4 szV
 replace K4:=hide K4
 replace FO:=hide FO
 replace FR:=hide FR
 replace Q1:=hide Q1
 replace Q2:=hide Q2
 replace Q3:=hide Q3
 replace Q4:=hide Q4
 have m0:=FO.o.all
 have r0:=FR.o.all
 have rf0:=FR.o.fz
 go_wp2_with fail
 clear hV
 have FF:Blk ((((((((((((V.setCell ⟨w.heap.size+1,0,none⟩ (.slice (some ⟨g1,0,none⟩) c.r.xs.length c.r.xs.length)).setCell ⟨w.heap.size+1,1,none⟩ (.slice (some ⟨g2,0,none⟩) c.r.ys.length c.r.ys.length)).setCell ⟨w.heap.size+1,2,none⟩ (iv c.r.o)).setCell ⟨w.heap.size+1,3,none⟩ (iv c.r.p)).setCell ⟨w.heap.size+1,4,none⟩ (iv c.r.f)).setCell ⟨w.heap.size+1,5,none⟩ (iv c.r.m)).setCell ⟨w.heap.size+1,6,none⟩ (.bool c.r.s)).setCell ⟨w.heap.size+1,7,none⟩ (.bool c.r.t)).setCell ⟨w.heap.size+1,8,none⟩ (.slice (some ⟨g3,0,none⟩) c.bx.length c.bx.length)).setCell ⟨w.heap.size+1,9,none⟩ (.slice (some ⟨g4,0,none⟩) c.bm c.bm)).setCell ⟨w.heap.size+1,10,none⟩ (.bool c.st)).setCell ⟨w.heap.size+1,11,none⟩ (.bool c.ha)) (w.heap.size+1) (cpA c (some ⟨g1,0,none⟩) (some ⟨g2,0,none⟩) (some ⟨g3,0,none⟩) (some ⟨g4,0,none⟩) c.r.xs.length c.r.ys.length c.bx.length c.bm) 36:=Blk.qK (Blk.VG FR.o)
 refine bodyPost_ret (v:=.agg (cpA c (some ⟨g1,0,none⟩) (some ⟨g2,0,none⟩) (some ⟨g3,0,none⟩) (some ⟨g4,0,none⟩) c.r.xs.length c.r.ys.length c.bx.length c.bm)) ?_ rfl ⟨g1,g2,g3,g4,rfl,⟨.inr ⟨g1,rfl,by omega,?_,?_⟩,.inr ⟨g2,rfl,by omega,?_,?_⟩,.inr ⟨g3,rfl,by omega,?_,?_⟩,.inr ⟨g4,rfl,by omega,?_,?_⟩,?_,?_,?_,?_,?_,?_⟩,?_⟩
 ·exact results_cell_row rfl _ _ _ _ _ (0,0) _ rfl FF underlying36 rfl (by kernel_rfl)
 ·simp [World.setCell];omega
 ·exact ((((((((((((Q1.o.setOther _ _ _ (by omega)).setOther _ _ _ (by omega)).setOther _ _ _ (by omega)).setOther _ _ _ (by omega)).setOther _ _ _ (by omega)).setOther _ _ _ (by omega)).setOther _ _ _ (by omega)).setOther _ _ _ (by omega)).setOther _ _ _ (by omega)).setOther _ _ _ (by omega)).setOther _ _ _ (by omega)).setOther _ _ _ (by omega))
 ·simp [World.setCell];omega
 ·exact ((((((((((((Q2.o.setOther _ _ _ (by omega)).setOther _ _ _ (by omega)).setOther _ _ _ (by omega)).setOther _ _ _ (by omega)).setOther _ _ _ (by omega)).setOther _ _ _ (by omega)).setOther _ _ _ (by omega)).setOther _ _ _ (by omega)).setOther _ _ _ (by omega)).setOther _ _ _ (by omega)).setOther _ _ _ (by omega)).setOther _ _ _ (by omega))
 ·simp [World.setCell];omega
 ·exact ((((((((((((Q3.o.setOther _ _ _ (by omega)).setOther _ _ _ (by omega)).setOther _ _ _ (by omega)).setOther _ _ _ (by omega)).setOther _ _ _ (by omega)).setOther _ _ _ (by omega)).setOther _ _ _ (by omega)).setOther _ _ _ (by omega)).setOther _ _ _ (by omega)).setOther _ _ _ (by omega)).setOther _ _ _ (by omega)).setOther _ _ _ (by omega))
 ·simp [World.setCell];omega
 ·exact ((((((((((((Q4.o.setOther _ _ _ (by omega)).setOther _ _ _ (by omega)).setOther _ _ _ (by omega)).setOther _ _ _ (by omega)).setOther _ _ _ (by omega)).setOther _ _ _ (by omega)).setOther _ _ _ (by omega)).setOther _ _ _ (by omega)).setOther _ _ _ (by omega)).setOther _ _ _ (by omega)).setOther _ _ _ (by omega)).setOther _ _ _ (by omega))
 ·intro g h1 h2;simp [blk] at h1 h2;omega
 ·intro g h1 h2;simp [blk] at h1 h2;omega
 ·intro g h1 h2;simp [blk] at h1 h2;omega
 ·intro g h1 h2;simp [blk] at h1 h2;omega
 ·intro g h1 h2;simp [blk] at h1 h2;omega
 ·intro g h1 h2;simp [blk] at h1 h2;omega
 ·exact (ag (ag (ag (ag (ag (ag (ag (ag (ag (ag (ag (ag K4.o _ _ _ (.inr (by omega))) _ _ _ (.inr (by omega))) _ _ _ (.inr (by omega))) _ _ _ (.inr (by omega))) _ _ _ (.inr (by omega))) _ _ _ (.inr (by omega))) _ _ _ (.inr (by omega))) _ _ _ (.inr (by omega))) _ _ _ (.inr (by omega))) _ _ _ (.inr (by omega))) _ _ _ (.inr (by omega))) _ _ _ (.inr (by omega)))
theorem dZ (n:Int) (w:World):Calls prog 75 #[iv n] w fun e w'=>e=.returned (.bool (Pl.aT n))∧w'=w:=by
 go_enter func75,ntmps75
 go_wp2_with (go_at_call 40;refine st (dY _ _ _ _) ?_)
 go_ret
 exact ⟨rfl,rfl⟩
theorem pG (n:Int) (w:World):Calls prog 135 #[iv n] w fun e w'=>e=.returned (.bool (Pl.jV n))∧w'=w:=by
 go_enter func135,ntmps135
 go_wp2
 go_ret
 exact ⟨rfl,rfl⟩
theorem eU (w:World) (m k e:Int) :
  Calls prog 137 #[.agg #[iv m,iv k,iv e]] w fun r w'=>r=.returned (.bool (Pl.iY m k e))∧Kept 0 0 w w':=by
 have HK:=hide (kept_alloc w (.cells #[iv m,iv k,iv e] 107))
 have G:Hid (Pl.iY m k e=(Pl.dE m&&(Pl.within k 0 3&&((decide (m<6)||(k==0))&&(Pl.aT e&&(Pl.jV m||(e==0))))))):=hide rfl
 cases h1:Pl.dE m
 ·go_enter func137,ntmps137
  go_wp2_with (first|(go_at_call 40;refine st (dY _ _ _ _) ?_;rw [show (decide (0≤m)&&decide (m≤7))=Pl.dE m from rfl,h1];have Z1:True:=trivial))
  go_ret
  exact ⟨rB (by rw [G.o,h1];simp),HK.o⟩
 ·cases h2:Pl.within k 0 3
  ·go_enter func137,ntmps137
   go_wp2_with (first|(go_at_call 40;have z:=Z1;refine st (dY _ _ _ _) ?_;rw [show (decide (0≤k)&&decide (k≤3))=Pl.within k 0 3 from rfl,h2])|(go_at_call 40;refine st (dY _ _ _ _) ?_;rw [show (decide (0≤m)&&decide (m≤7))=Pl.dE m from rfl,h1];have Z1:True:=trivial))
   go_ret
   exact ⟨rB (by rw [G.o,h1,h2];simp),HK.o⟩
  ·cases h3:decide (6≤m)
   ·have q3:decide (m<6)=true:=by simp at h3 ⊢;omega
    cases h4:Pl.aT e
    ·go_enter func137,ntmps137
     go_wp2_with (first|(go_at_call 40;have z:=Z1;refine st (dY _ _ _ _) ?_;rw [show (decide (0≤k)&&decide (k≤3))=Pl.within k 0 3 from rfl,h2])|(go_at_call 40;refine st (dY _ _ _ _) ?_;rw [show (decide (0≤m)&&decide (m≤7))=Pl.dE m from rfl,h1];have Z1:True:=trivial)|(go_at_call 75;refine st (dZ _ _) ?_;rw [h4]))
     go_ret
     exact ⟨rB (by rw [G.o,h1,h2,q3,h4];simp),HK.o⟩
    ·cases h5:Pl.jV m
     ·cases h6:(e==0)
      all_goals
       go_enter func137,ntmps137
       go_wp2_with (first|(go_at_call 40;have z:=Z1;refine st (dY _ _ _ _) ?_;rw [show (decide (0≤k)&&decide (k≤3))=Pl.within k 0 3 from rfl,h2])|(go_at_call 40;refine st (dY _ _ _ _) ?_;rw [show (decide (0≤m)&&decide (m≤7))=Pl.dE m from rfl,h1];have Z1:True:=trivial)|(go_at_call 75;refine st (dZ _ _) ?_;rw [h4])|(go_at_call 135;refine st (pG _ _) ?_;rw [h5]))
       go_ret
       exact ⟨rB (by rw [G.o,h1,h2,q3,h4,h5,h6];simp),HK.o⟩
     ·go_enter func137,ntmps137
      go_wp2_with (first|(go_at_call 40;have z:=Z1;refine st (dY _ _ _ _) ?_;rw [show (decide (0≤k)&&decide (k≤3))=Pl.within k 0 3 from rfl,h2])|(go_at_call 40;refine st (dY _ _ _ _) ?_;rw [show (decide (0≤m)&&decide (m≤7))=Pl.dE m from rfl,h1];have Z1:True:=trivial)|(go_at_call 75;refine st (dZ _ _) ?_;rw [h4])|(go_at_call 135;refine st (pG _ _) ?_;rw [h5]))
      go_ret
      exact ⟨rB (by rw [G.o,h1,h2,q3,h4,h5];simp),HK.o⟩
   ·have q3:decide (m<6)=false:=by simp at h3 ⊢;omega
    cases h7:(k != 0)
    ·have q7:(k==0)=true:=by simpa using h7
     cases h4:Pl.aT e
     ·go_enter func137,ntmps137
      go_wp2_with (first|(go_at_call 40;have z:=Z1;refine st (dY _ _ _ _) ?_;rw [show (decide (0≤k)&&decide (k≤3))=Pl.within k 0 3 from rfl,h2])|(go_at_call 40;refine st (dY _ _ _ _) ?_;rw [show (decide (0≤m)&&decide (m≤7))=Pl.dE m from rfl,h1];have Z1:True:=trivial)|(go_at_call 75;refine st (dZ _ _) ?_;rw [h4]))
      go_ret
      exact ⟨rB (by rw [G.o,h1,h2,q3,q7,h4];simp),HK.o⟩
     ·cases h5:Pl.jV m
      ·cases h6:(e==0)
       all_goals
        go_enter func137,ntmps137
        go_wp2_with (first|(go_at_call 40;have z:=Z1;refine st (dY _ _ _ _) ?_;rw [show (decide (0≤k)&&decide (k≤3))=Pl.within k 0 3 from rfl,h2])|(go_at_call 40;refine st (dY _ _ _ _) ?_;rw [show (decide (0≤m)&&decide (m≤7))=Pl.dE m from rfl,h1];have Z1:True:=trivial)|(go_at_call 75;refine st (dZ _ _) ?_;rw [h4])|(go_at_call 135;refine st (pG _ _) ?_;rw [h5]))
        go_ret
        exact ⟨rB (by rw [G.o,h1,h2,q3,q7,h4,h5,h6];simp),HK.o⟩
      ·go_enter func137,ntmps137
       go_wp2_with (first|(go_at_call 40;have z:=Z1;refine st (dY _ _ _ _) ?_;rw [show (decide (0≤k)&&decide (k≤3))=Pl.within k 0 3 from rfl,h2])|(go_at_call 40;refine st (dY _ _ _ _) ?_;rw [show (decide (0≤m)&&decide (m≤7))=Pl.dE m from rfl,h1];have Z1:True:=trivial)|(go_at_call 75;refine st (dZ _ _) ?_;rw [h4])|(go_at_call 135;refine st (pG _ _) ?_;rw [h5]))
       go_ret
       exact ⟨rB (by rw [G.o,h1,h2,q3,q7,h4,h5];simp),HK.o⟩
    ·have q7:(k==0)=false:=by simpa using h7
     go_enter func137,ntmps137
     go_wp2_with (first|(go_at_call 40;have z:=Z1;refine st (dY _ _ _ _) ?_;rw [show (decide (0≤k)&&decide (k≤3))=Pl.within k 0 3 from rfl,h2])|(go_at_call 40;refine st (dY _ _ _ _) ?_;rw [show (decide (0≤m)&&decide (m≤7))=Pl.dE m from rfl,h1];have Z1:True:=trivial))
     go_ret
     exact ⟨rB (by rw [G.o,h1,h2,q3,q7];simp),HK.o⟩
theorem sS (n:Int) (w:World):Calls prog 76 #[iv n] w fun e w'=>e=.returned (.bool (Pl.within n 0 31))∧w'=w:=by
 go_enter func76,ntmps76
 go_wp2_with (go_at_call 40;refine st (dY _ _ _ _) ?_)
 go_ret
 exact ⟨rfl,rfl⟩
theorem gK (w:World) (a:Option Addr) (ca:Nat) (xs:List Int) (ha:aJ w a xs) (lx:xs.length≤2000000) :
  Calls prog 74 #[.slice a xs.length ca] w fun e w'=>e=.returned (.bool (Pl.jc xs))∧w'=w:=by
 have HA:=hide ha
 clear ha
 go_enter func74,ntmps74
 go_wp2
 go_loop [4,7] (fun _ j=>∃k:Nat,k≤xs.length∧j=iv k∧∀i,i<k→Pl.aT (el xs i)=true) (fun _ j=>xs.length-(intOf j).toNat)
 case atStart=>exact ⟨0,Nat.zero_le _,rfl,fun i hi=>absurd hi (Nat.not_lt_zero i)⟩
 case round=>
  obtain ⟨k,hk,rfl,heq⟩:=hrel
  have HE:=hide heq
  clear heq
  by_cases hlt:k<xs.length
  ·obtain ⟨g1,o1,rfl,hc1⟩:=HA.o k hlt
   rw [show xs[k]?.getD 0=el xs k from rfl] at hc1
   cases hb:Pl.aT (el xs k)
   ·go_wp2_with (go_at_call 75;refine st (dZ _ _) ?_;rw [hb])
    go_ret
    exact ⟨rB (Pl.UN hlt hb).symm,rfl⟩
   ·go_wp2_with (go_at_call 75;refine st (dZ _ _) ?_;rw [hb])
    go_round
    case rel=>exact ⟨k+1,by omega,by go_num,kX HE.o hb⟩
    case measure=>simp [intOf];omega
  ·have E:Hid (Pl.jc xs=decide ((xs.length:Int)=4)):=hide (Pl.UM (fun i hi=>HE.o i (by omega)))
   cases h4:((xs.length:Int)==4)
   all_goals
    go_wp2
    go_ret
    exact ⟨rB (by rw [E.o];simp at h4;simp [h4]),rfl⟩
theorem kL (w:World) (r:Pl.Rg) (a b:Option Addr) (ca cb:Nat) (ha:aJ w a r.xs) (hb:aJ w b r.ys) (lx:r.xs.length≤2000000) (ly:r.ys.length≤2000000) :
  Calls prog 48 #[.agg #[.slice a r.xs.length ca,.slice b r.ys.length cb,iv r.o,iv r.p,iv r.f,iv r.m,.bool r.s,.bool r.t]] w fun e w'=>e=.returned (.bool (Pl.sW r))∧Kept 0 0 w w':=by
 have HA:=hide ha
 have HB:=hide hb
 have HK:=hide (kept_alloc w (.cells #[.slice a r.xs.length ca,.slice b r.ys.length cb,iv r.o,iv r.p,iv r.f,iv r.m,.bool r.s,.bool r.t] 31))
 clear ha hb
 have G:Hid (Pl.sW r=(Pl.jc r.xs&&(Pl.jc r.ys&&(Pl.aT r.o&&(Pl.aT r.p&&(Pl.within r.f 0 31&&Pl.within r.m 0 7)))))):=hide rfl
 cases h1:Pl.jc r.xs
 ·go_enter func48,ntmps48
  go_wp2_with (first|(go_at_call 74;refine st (gK _ a ca r.xs (HA.o.ai HK.o) lx) ?_;rw [h1];have Z1:True:=trivial))
  go_ret
  exact ⟨rB (by rw [G.o,h1];simp),HK.o⟩
 ·cases h2:Pl.jc r.ys
  ·go_enter func48,ntmps48
   go_wp2_with (first|(go_at_call 74;have z:=Z1;refine st (gK _ b cb r.ys (HB.o.ai HK.o) ly) ?_;rw [h2])|(go_at_call 74;refine st (gK _ a ca r.xs (HA.o.ai HK.o) lx) ?_;rw [h1];have Z1:True:=trivial))
   go_ret
   exact ⟨rB (by rw [G.o,h1,h2];simp),HK.o⟩
  ·cases h3:Pl.aT r.o
   ·go_enter func48,ntmps48
    go_wp2_with (first|(go_at_call 74;have z:=Z1;refine st (gK _ b cb r.ys (HB.o.ai HK.o) ly) ?_;rw [h2])|(go_at_call 74;refine st (gK _ a ca r.xs (HA.o.ai HK.o) lx) ?_;rw [h1];have Z1:True:=trivial)|(go_at_call 75;refine st (dZ r.o _) ?_;rw [h3];have Z3:True:=trivial))
    go_ret
    exact ⟨rB (by rw [G.o,h1,h2,h3];simp),HK.o⟩
   ·cases h4:Pl.aT r.p
    ·go_enter func48,ntmps48
     go_wp2_with (first|(go_at_call 74;have z:=Z1;refine st (gK _ b cb r.ys (HB.o.ai HK.o) ly) ?_;rw [h2])|(go_at_call 74;refine st (gK _ a ca r.xs (HA.o.ai HK.o) lx) ?_;rw [h1];have Z1:True:=trivial)|(go_at_call 75;have z:=Z3;refine st (dZ r.p _) ?_;rw [h4])|(go_at_call 75;refine st (dZ r.o _) ?_;rw [h3];have Z3:True:=trivial))
     go_ret
     exact ⟨rB (by rw [G.o,h1,h2,h3,h4];simp),HK.o⟩
    ·cases h5:Pl.within r.f 0 31
     ·go_enter func48,ntmps48
      go_wp2_with (first|(go_at_call 74;have z:=Z1;refine st (gK _ b cb r.ys (HB.o.ai HK.o) ly) ?_;rw [h2])|(go_at_call 74;refine st (gK _ a ca r.xs (HA.o.ai HK.o) lx) ?_;rw [h1];have Z1:True:=trivial)|(go_at_call 75;have z:=Z3;refine st (dZ r.p _) ?_;rw [h4])|(go_at_call 75;refine st (dZ r.o _) ?_;rw [h3];have Z3:True:=trivial)|(go_at_call 76;refine st (sS _ _) ?_;rw [h5]))
      go_ret
      exact ⟨rB (by rw [G.o,h1,h2,h3,h4,h5];simp),HK.o⟩
     ·cases h6:Pl.within r.m 0 7
      ·go_enter func48,ntmps48
       go_wp2_with (first|(go_at_call 74;have z:=Z1;refine st (gK _ b cb r.ys (HB.o.ai HK.o) ly) ?_;rw [h2])|(go_at_call 74;refine st (gK _ a ca r.xs (HA.o.ai HK.o) lx) ?_;rw [h1];have Z1:True:=trivial)|(go_at_call 75;have z:=Z3;refine st (dZ r.p _) ?_;rw [h4])|(go_at_call 75;refine st (dZ r.o _) ?_;rw [h3];have Z3:True:=trivial)|(go_at_call 76;refine st (sS _ _) ?_;rw [h5])|(go_at_call 40;refine st (dY _ _ _ _) ?_;rw [show (decide (0≤r.m)&&decide (r.m≤7))=Pl.within r.m 0 7 from rfl,h6]))
       go_ret
       exact ⟨rB (by rw [G.o,h1,h2,h3,h4,h5,h6];simp),HK.o⟩
      ·go_enter func48,ntmps48
       go_wp2_with (first|(go_at_call 74;have z:=Z1;refine st (gK _ b cb r.ys (HB.o.ai HK.o) ly) ?_;rw [h2])|(go_at_call 74;refine st (gK _ a ca r.xs (HA.o.ai HK.o) lx) ?_;rw [h1];have Z1:True:=trivial)|(go_at_call 75;have z:=Z3;refine st (dZ r.p _) ?_;rw [h4])|(go_at_call 75;refine st (dZ r.o _) ?_;rw [h3];have Z3:True:=trivial)|(go_at_call 76;refine st (sS _ _) ?_;rw [h5])|(go_at_call 40;refine st (dY _ _ _ _) ?_;rw [show (decide (0≤r.m)&&decide (r.m≤7))=Pl.within r.m 0 7 from rfl,h6]))
       go_ret
       exact ⟨rB (by rw [G.o,h1,h2,h3,h4,h5,h6];simp),HK.o⟩
theorem OL (b:Bool) (f:Int) (w:World):Calls prog 146 #[.bool b,iv f] w fun e w'=>e=.returned (iv (Pl.fl1 b f))∧w'=w:=by
 cases b
 all_goals
  go_enter func146,ntmps146
  go_wp2
  go_ret
  exact ⟨rfl,rfl⟩
theorem w64 {n:Int} (h0 : -9223372036854775808≤n) (h1:n≤9223372036854775807):IntKind.i64.wrap n=n:=by rw [IntKind.wrap_i64];omega
theorem Kt (b:Bool) (n:Int) (h:0≤n):0≤Pl.fl1 b n∧Pl.fl1 b n≤n:=by cases b<;>simp [Pl.fl1]<;>omega
theorem Ba (w:World) (r:Pl.Rg) (a b:Option Addr) (ca cb:Nat) (hg:Pl.Good r) :
  Calls prog 115 #[.agg #[.slice a r.xs.length ca,.slice b r.ys.length cb,iv r.o,iv r.p,iv r.f,iv r.m,.bool r.s,.bool r.t]] w fun e w'=>e=.returned (iv (Pl.status r))∧Kept 0 0 w w':=by
 have HK:=hide (kept_alloc w (.cells #[.slice a r.xs.length ca,.slice b r.ys.length cb,iv r.o,iv r.p,iv r.f,iv r.m,.bool r.s,.bool r.t] 31))
 have f0:=hg.f0
 have f1:=hg.f1
 have m0:=hg.m0
 have m1:=hg.m1
 clear hg
 obtain ⟨s0,s1⟩:=Kt r.s 256 (by decide)
 obtain ⟨t0,t1⟩:=Kt r.t 512 (by decide)
 have e1:IntKind.i64.wrap (32*r.m)=32*r.m:=w64 (by omega) (by omega)
 have e2:IntKind.i64.wrap (r.f+32*r.m)=r.f+32*r.m:=w64 (by omega) (by omega)
 have e3:IntKind.i64.wrap (r.f+32*r.m+Pl.fl1 r.s 256)=r.f+32*r.m+Pl.fl1 r.s 256:=w64 (by omega) (by omega)
 have e4:IntKind.i64.wrap (r.f+32*r.m+Pl.fl1 r.s 256+Pl.fl1 r.t 512)=r.f+32*r.m+Pl.fl1 r.s 256+Pl.fl1 r.t 512:=w64 (by omega) (by omega)
 go_enter func115,ntmps115
 go_wp2_with fail
 go_quiet (first|(go_at_call 146;exact Calls.quiet_of_same (OL _ _ _))|fail)
 go_wp2_with fail
 go_ret
 exact ⟨rI rfl,ax HK.o _⟩
theorem vI {w:World} {g base size:Nat} {e:TypeId} (h:Blk w g #[] e) (hb:base≤g):w.ownsRow base e size (.slice (some ⟨g,0,none⟩) 0 0) 0 []:=
 ⟨by simp,.inr ⟨g,0,#[],rfl,hb,h,Nat.le_refl _,Nat.zero_le _,by simp,by simp⟩⟩
theorem xx {ops:Array Oper} {rest:List Oper} {o:Oper} {a:Act} {w:World} {Q:Exit→Act→World→Prop} (hgd:o.guard=none) (s x:Operand)
  (ho:o.op=.call {callee:=.builtin .append,args:=#[s,x],argTypes:=#[22,22]}) (base g:Nat) (hs:a.eval s=.slice (some ⟨g,0,none⟩) 0 0) (hg:Blk w g #[] 3) (hbg:base≤g)
  (sp:Option Addr) (n c:Nat) (xs:List Int) (hx:a.eval x=.slice sp n c) (hr:aJ w sp xs) (hn:xs.length=n) (bn:n≤2000000) (H:Nat) (hH:w.heap.size=H)
  (h:∀(g' cap:Nat) (w':World),w'.ownsRow base 3 1 (.slice (some ⟨g',0,none⟩) n cap) n (xs.map (Value.int .i64))→Kept g (g+1) w w'→(g'=g∨g'=H)→g'<w'.heap.size→wpList prog ops Q rest (a.put o.dst (.slice (some ⟨g',0,none⟩) n cap)) w') :
  wpList prog ops Q (o :: rest) a w:=by
 obtain ⟨i,hi,hz0,hz1,hz2⟩:=info_parts Tryz.info3
 have hlt:=hg.lt
 by_cases h0:n=0
 ·subst h0
  obtain rfl:xs=[]:=List.eq_nil_of_length_eq_zero hn
  have hl0:∀(x:Addr),(loadCells x 0).run prog w=.ok #[] w:=fun x=>by simpa using run_loadCells_list (P:=prog) w x [] (by simp)
  have hrun:(Builtin.append_ #[22,22] o.type #[.slice (some ⟨g,0,none⟩) 0 0,.slice sp 0 c]).run prog w=.ok (.slice (some ⟨g,0,none⟩) 0 0) w:=by
   cases sp<;>simp [Builtin.append_,run_underlying underlying22,Builtin.lenOf,Builtin.firstCells,sizeOf,typeInfo,hi,storeCells,hl0]
  refine wpList_plain hgd fun K hK => ?_
  unfold Oper.wp
  simp [execOp,ho,resolve,invoke,builtin,hs,hx,hrun,Result.andThen]
  exact hK _ _ (h g 0 w (vI hg hbg) (Kept.refl _ _ _) (.inl rfl) hlt)
 ·obtain ⟨ga,oa,rfl,_⟩:=hr 0 (by omega)
  refine wpList_append_lies _ hgd s x 22 ho base 3 i (iv 0) 1 8 underlying22 hi hz0 hz1 hz2 rfl (by decide) (.slice (some ⟨g,0,none⟩) 0 0) 0 [] hs (vI hg hbg) ⟨ga,oa,none⟩ n c (xs.map (Value.int .i64)) hx (by simp [hn]) (iU hr) iL (by omega) (by unfold maxLen;omega) (by omega) (by omega) H hH ?_
  intro g' cap w' h1 h2 h3 h4
  simp only [Nat.zero_add,List.nil_append] at h1 ⊢
  refine h g' cap w' h1 (pX h2 (by intro j hj;have h5:g=j:=Option.some.inj hj;omega)) ?_ h4
  rcases h3 with h3|h3
  ·exact .inl (Option.some.inj h3).symm
  ·exact .inr h3
def Au (w:World) (base:Nat) (r:Pl.Rg) (a b:Option Addr):Prop:=bg w base w.heap.size a r.xs∧bg w base w.heap.size b r.ys∧(∀g,blk a=some g→blk b≠some g)
theorem Au.kept {w w':World} {base:Nat} {r:Pl.Rg} {a b:Option Addr} (h:Au w base r a b) (k:Kept 0 0 w w'):Au w' base r a b:=
 ⟨(h.1.kept k (by omega)).wide (Nat.le_refl _) k.size,(h.2.1.kept k (by omega)).wide (Nat.le_refl _) k.size,h.2.2⟩
def gz (w:World) (lo hi:Nat) (r:Pl.Rg) (a b:Option Addr):Prop:=bg w lo hi a r.xs∧bg w lo hi b r.ys∧(∀g,blk a=some g→blk b≠some g)
theorem gz.kept {w w':World} {lo hi l h':Nat} {r:Pl.Rg} {a b:Option Addr} (h:gz w lo hi r a b) (k:Kept l h' w w') (hd:hi≤l∨h'≤lo∨h'≤l):gz w' lo hi r a b:=⟨h.1.kept k hd,h.2.1.kept k hd,h.2.2⟩
theorem gz.set {w:World} {lo hi:Nat} {r:Pl.Rg} {a b:Option Addr} (h:gz w lo hi r a b) (x i:Nat) (v:Value) (hx:hi≤x∨x<lo):gz (w.setCell ⟨x,i,none⟩ v) lo hi r a b:=
 h.kept (ag (Kept.refl x (x+1) w) x i v (.inl ⟨Nat.le_refl _,by omega⟩)) (by omega)
theorem gz.zk {w:World} {lo hi g k:Nat} {r:Pl.Rg} {b:Option Addr} (h:gz w lo hi r (some ⟨g,0,none⟩) b) (z:Int) (h0:0<r.xs.length):gz (w.setCell ⟨g,k,none⟩ (iv z)) lo hi {r with xs:=r.xs.set k z} (some ⟨g,0,none⟩) b:=by
 obtain ⟨h1,h2,h3⟩:=h
 refine ⟨?_,?_,h3⟩
 ·rcases h1 with ⟨h1,_⟩|⟨g',e1,b0,b1,ho⟩
  ·cases h1
  ·cases e1
   exact .inr ⟨g,rfl,b0,b1,ho.set z⟩
 ·rcases h2 with h2|⟨g',e1,b0,b1,ho⟩
  ·exact .inl h2
  ·refine .inr ⟨g',e1,b0,b1,ho.setOther _ _ _ (fun ee => ?_)⟩
   exact h3 g rfl (by rw [e1,ee];rfl)
theorem gz.vz {w:World} {lo hi g k:Nat} {r:Pl.Rg} {a:Option Addr} (h:gz w lo hi r a (some ⟨g,0,none⟩)) (z:Int) (h0:0<r.ys.length):gz (w.setCell ⟨g,k,none⟩ (iv z)) lo hi {r with ys:=r.ys.set k z} a (some ⟨g,0,none⟩):=by
 obtain ⟨h1,h2,h3⟩:=h
 refine ⟨?_,?_,h3⟩
 ·rcases h1 with h1|⟨g',e1,b0,b1,ho⟩
  ·exact .inl h1
  ·refine .inr ⟨g',e1,b0,b1,ho.setOther _ _ _ (fun ee => ?_)⟩
   exact h3 g' (by rw [e1];rfl) (by rw [ee];rfl)
 ·rcases h2 with ⟨h2,_⟩|⟨g',e1,b0,b1,ho⟩
  ·cases h2
  ·cases e1
   exact .inr ⟨g,rfl,b0,b1,ho.set z⟩
theorem NI (w:World) (r:Pl.Rg) (a b:Option Addr) (ca cb:Nat) (ha:aJ w a r.xs) (hb:aJ w b r.ys) (lx:r.xs.length≤2000000) (ly:r.ys.length≤2000000) :
  Calls prog 64 #[.agg #[.slice a r.xs.length ca,.slice b r.ys.length cb,iv r.o,iv r.p,iv r.f,iv r.m,.bool r.s,.bool r.t]] w fun e w'=>∃(a' b':Option Addr) (ca' cb':Nat),e=.returned (.agg #[.slice a' r.xs.length ca',.slice b' r.ys.length cb',iv r.o,iv r.p,iv r.f,iv r.m,.bool r.s,.bool r.t])∧Au w' w.heap.size r a' b'∧Kept 0 0 w w':=by
 have HA:=hide ha
 have HB:=hide hb
 clear ha hb
 have K0:=hide (ah (ah (kept_alloc w (.cells #[.slice a r.xs.length ca,.slice b r.ys.length cb,iv r.o,iv r.p,iv r.f,iv r.m,.bool r.s,.bool r.t] 31)) (.cells #[.slice none 0 0,.slice none 0 0,iv 0,iv 0,iv 0,iv 0,.bool false,.bool false] 31)) (.cells #[] 3))
 have B0:=hide (((Blk.new w #[.slice a r.xs.length ca,.slice b r.ys.length cb,iv r.o,iv r.p,iv r.f,iv r.m,.bool r.s,.bool r.t] 31).alloc (.cells #[.slice none 0 0,.slice none 0 0,iv 0,iv 0,iv 0,iv 0,.bool false,.bool false] 31)).alloc (.cells #[] 3))
 have B1:=(Blk.new (w.alloc (.cells #[.slice a r.xs.length ca,.slice b r.ys.length cb,iv r.o,iv r.p,iv r.f,iv r.m,.bool r.s,.bool r.t] 31)) #[.slice none 0 0,.slice none 0 0,iv 0,iv 0,iv 0,iv 0,.bool false,.bool false] 31).alloc (.cells #[] 3)
 have B2:=Blk.new ((w.alloc (.cells #[.slice a r.xs.length ca,.slice b r.ys.length cb,iv r.o,iv r.p,iv r.f,iv r.m,.bool r.s,.bool r.t] 31)).alloc (.cells #[.slice none 0 0,.slice none 0 0,iv 0,iv 0,iv 0,iv 0,.bool false,.bool false] 31)) #[] 3
 simp only [World.size_alloc] at B1 B2
 replace B1:=hide B1
 replace B2:=hide B2
 go_enter func64,ntmps64
 go_wp2_with (at_builtin;refine xx rfl (.tmp 3) (.tmp 5) rfl w.heap.size (w.heap.size+1+1) rfl B2.o (by omega) a r.xs.length ca r.xs rfl (HA.o.ai K0.o) rfl lx (w.heap.size+1+1+1) (by simp) ?_)
 intro g1 c1 w1 o1 k1 hg1 l1
 have C0:=hide (B0.o.kept k1 (by omega))
 have C1:=hide (B1.o.kept k1 (by omega))
 have d3:=C0.o.cell (i:=0) rfl
 have f3:=C0.o.frozen 0
 have n0:=B2.o.lt
 have n1:=k1.size
 obtain ⟨p1,p2⟩:=o1.lt g1 rfl
 have D0:=hide ((C0.o.set 0 (.slice (some ⟨g1,0,none⟩) r.xs.length c1)).alloc (.cells #[] 3))
 have D1:=hide ((C1.o.other w.heap.size 0 (.slice (some ⟨g1,0,none⟩) r.xs.length c1) (by omega)).alloc (.cells #[] 3))
 have O1:=hide ((o1.kept (grownBy_set w1 w.heap.size 0 (.slice (some ⟨g1,0,none⟩) r.xs.length c1)) (.inr (fun e=>by have h3:g1=w.heap.size:=Option.some.inj e;omega))).alloc (.cells #[] 3))
 have K1:=hide (ah (ag (bP K0.o k1 (by omega)) w.heap.size 0 (.slice (some ⟨g1,0,none⟩) r.xs.length c1) (.inr (Nat.le_refl _))) (.cells #[] 3))
 have E2:=Blk.new (w1.setCell ⟨w.heap.size,0,none⟩ (.slice (some ⟨g1,0,none⟩) r.xs.length c1)) #[] 3
 simp only [World.size_setCell] at E2
 replace E2:=hide E2
 have q4:=D0.o.cell (i:=1) rfl
 clear o1 k1 B0 B1 B2 C0 C1
 go_wp2_with (at_builtin;refine xx rfl (.tmp 8) (.tmp 10) rfl w.heap.size w1.heap.size rfl E2.o (by omega) b r.ys.length cb r.ys rfl (HB.o.ai K1.o) rfl ly (w1.heap.size+1) (by simp) ?_)
 intro g2 c2 w2 o2 k2 hg2 l2
 clear q4 d3 f3
 have F0:=D0.o.kept k2 (by omega)
 have F1:=D1.o.kept k2 (by omega)
 obtain ⟨p3,p4⟩:=o2.lt g2 rfl
 have n2:=k2.size
 simp only [World.size_alloc,World.size_setCell] at n2
 have P1:=hide (O1.o.kept (yj k2) (.inr (fun e=>by have h3:g1=w1.heap.size:=Option.some.inj e;omega)))
 have P2:=hide o2
 have K2:=hide (bP K1.o k2 (by omega))
 have x0:=F0.all
 have v1':=F0.frozen 1
 have y0:=F1.all
 have u0:=F1.fz
 have G1:=hide F1
 have hne:g1≠g2:=by omega
 clear F0 F1 o2 k2
 go_wp2_with fail
 refine bodyPost_ret (v:=.agg #[.slice (some ⟨g1,0,none⟩) r.xs.length c1,.slice (some ⟨g2,0,none⟩) r.ys.length c2,iv r.o,iv r.p,iv r.f,iv r.m,.bool r.s,.bool r.t]) ?_ rfl ?_
 ·exact results_cell_row rfl _ _ _ _ _ (0,0) _ rfl (((((((((G1.o.other _ _ _ (by omega)).set _ _).set _ _).set _ _).set _ _).set _ _).set _ _).set _ _).set _ _) underlying31 rfl (by kernel_rfl)
 ·refine ⟨some ⟨g1,0,none⟩,some ⟨g2,0,none⟩,c1,c2,rfl,⟨.inr ⟨g1,rfl,by omega,by simp;omega,?_⟩,.inr ⟨g2,rfl,by omega,by simp;omega,?_⟩,?_⟩,?_⟩
  ·exact ((((((((((nO P1.o).setOther _ _ _ (by omega)).setOther _ _ _ (by omega)).setOther _ _ _ (by omega)).setOther _ _ _ (by omega)).setOther _ _ _ (by omega)).setOther _ _ _ (by omega)).setOther _ _ _ (by omega)).setOther _ _ _ (by omega)).setOther _ _ _ (by omega))
  ·exact ((((((((((nO P2.o).setOther _ _ _ (by omega)).setOther _ _ _ (by omega)).setOther _ _ _ (by omega)).setOther _ _ _ (by omega)).setOther _ _ _ (by omega)).setOther _ _ _ (by omega)).setOther _ _ _ (by omega)).setOther _ _ _ (by omega)).setOther _ _ _ (by omega))
  ·intro g hg hh
   simp [blk] at hg hh
   omega
  ·exact (ag (ag (ag (ag (ag (ag (ag (ag (ag K2.o _ _ _ (.inr (by omega))) _ _ _ (.inr (by omega))) _ _ _ (.inr (by omega))) _ _ _ (.inr (by omega))) _ _ _ (.inr (by omega))) _ _ _ (.inr (by omega))) _ _ _ (.inr (by omega))) _ _ _ (.inr (by omega))) _ _ _ (.inr (by omega)))
theorem uQ {p:Int→Prop} (h:∀m:Fin 1024,p (m.val:Int)) {n:Int} (h0:0≤n) (h1:n≤1023):p n:=by
 have:=h ⟨n.toNat,by omega⟩
 have e:((n.toNat:Nat):Int)=n:=by omega
 simpa [e] using this
theorem QC {n:Int} (h0:0≤n) (h1:n≤1023):(bits .and .i64 n 256 != 0)=Pl.dK n:=uQ (p:=fun n=>(bits .and .i64 n 256 != 0)=Pl.dK n) (by decide +kernel) h0 h1
theorem QB {n:Int} (h0:0≤n) (h1:n≤1023):(bits .and .i64 n 512 != 0)=Pl.fG n:=uQ (p:=fun n=>(bits .and .i64 n 512 != 0)=Pl.fG n) (by decide +kernel) h0 h1
theorem Vr {n:Int} (h0:0≤n) (h1:n≤1023):bits .and .i64 n 31=n%32:=uQ (p:=fun n=>bits .and .i64 n 31=n%32) (by decide +kernel) h0 h1
theorem st7 {n:Int} (h0:0≤n) (h1:n≤1023):bits .and .i64 (n/32) 7=n/32%8:=uQ (p:=fun n=>bits .and .i64 (n/32) 7=n/32%8) (by decide +kernel) h0 h1
theorem Hu (w:World) (lo hi:Nat) (r:Pl.Rg) (a b:Option Addr) (ca cb:Nat) (n:Int) (hr:gz w lo hi r a b) (hh:hi≤w.heap.size) (hg:Pl.Good r) (h0:0≤n) (h1:n≤1023) :
  Calls prog 80 #[.agg #[.slice a r.xs.length ca,.slice b r.ys.length cb,iv r.o,iv r.p,iv r.f,iv r.m,.bool r.s,.bool r.t],iv n] w fun e w'=>e=.returned (.agg #[.slice a (Pl.bQ r n).xs.length ca,.slice b (Pl.bQ r n).ys.length cb,iv (Pl.bQ r n).o,iv (Pl.bQ r n).p,iv (Pl.bQ r n).f,iv (Pl.bQ r n).m,.bool (Pl.bQ r n).s,.bool (Pl.bQ r n).t])∧gz w' lo hi (Pl.bQ r n) a b∧Kept lo hi w w':=by
 have e1:=QC h0 h1
 have e2:=QB h0 h1
 have e3:=Vr h0 h1
 have e4:=st7 h0 h1
 have HR:=hide hr
 by_cases hs:Pl.dK n=r.s
 ·have q1:(Pl.dK n != r.s)=false:=by simp [hs]
  have E:Hid (Pl.bQ r n={r with t:=Pl.fG n,m:=n/32%8,f:=n%32}):=hide (by unfold Pl.bQ;rw [if_pos hs,hs])
  clear hr
  go_enter func80,ntmps80
  go_wp2_with fail
  refine bodyPost_ret (v:=.agg #[.slice a r.xs.length ca,.slice b r.ys.length cb,iv r.o,iv r.p,iv (n%32),iv (n/32%8),.bool r.s,.bool (Pl.fG n)]) ?_ rfl ?_
  ·rw [aj rfl];go_simp
  ·rw [E.o]
   exact ⟨rfl,HR.o.kept (ah (kept_alloc _ _) _) (by omega),(ah (kept_alloc _ _) _).any⟩
 ·have q1:(Pl.dK n==r.s)=false:=by simpa using hs
  have E:Hid (Pl.bQ r n={r with ys:=r.ys.set 3 r.o,o:=el r.ys 3,s:=Pl.dK n,t:=Pl.fG n,m:=n/32%8,f:=n%32}):=hide (by unfold Pl.bQ;rw [if_neg hs])
  have h4:=hg.a4
  have hl:(3:Int)<(r.ys.length:Int):=by omega
  have HL:=hide h4
  clear h4
  obtain ⟨s1,s2,s3⟩:=hr
  rcases s2 with ⟨_,e⟩|⟨g,rfl,b0,b1,hown⟩
  ·rw [e] at hl;simp at hl
  ·have b9:g<w.heap.size:=by omega
   have HO:=hide hown
   have HX:=hide s1
   have HN:=hide s3
   have c3:w.cell? ⟨g,3,none⟩=some (iv (el r.ys 3)):=(hown 3 (by have:=HL.o;omega)).1
   have f3:=(hown 3 (by have:=HL.o;omega)).2
   clear hown s1 s3 hs
   go_enter func80,ntmps80
   go_wp2_with fail
   refine bodyPost_ret (v:=.agg #[.slice a r.xs.length ca,.slice (some ⟨g,0,none⟩) r.ys.length cb,iv (el r.ys 3),iv r.p,iv (n%32),iv (n/32%8),.bool (Pl.dK n),.bool (Pl.fG n)]) ?_ rfl ?_
   ·rw [aj rfl];go_simp
   ·rw [E.o]
    refine ⟨?_,(HR.o.vz (k:=3) r.o (by have:=HL.o;omega)).kept (ah (kept_alloc _ _) _) (by omega),(ag (Kept.refl _ _ _) _ _ _ (.inl ⟨b0,b1⟩)).trans (ah (kept_alloc _ _) _).any⟩
    simp
theorem UL (x:Nat):x &&& 65280=x/256%256*256:=by
 apply Nat.eq_of_testBit_eq
 intro i
 rw [Nat.testBit_and,show (65280:Nat)=(2^8-1)*2^8 from by decide,Nat.testBit_mul_two_pow,Nat.testBit_two_pow_sub_one,show x/256%256*256=x/2^8%2^8*2^8 from rfl,Nat.testBit_mul_two_pow,Nat.testBit_mod_two_pow,Nat.testBit_div_two_pow]
 by_cases h:8≤i
 ·have e:i-8+8=i:=by omega
  simp [h,e,Bool.and_comm]
 ·simp [h]
theorem MK (a:Int):bits .and .i64 a 65280=a/256%256*256:=by
 show IntKind.i64.wrap ((BitVec.ofInt 64 a &&& BitVec.ofInt 64 65280).toNat:Int)=_
 rw [BitVec.toNat_and,BitVec.toNat_ofInt,show (BitVec.ofInt 64 65280).toNat=65280 from by decide,UL,IntKind.wrap_i64]
 omega
theorem N7 {x v:Int} (h0:0≤x) (h1:x≤65535) (v0:0≤v) (v1:v≤255):bits .or .i64 (bits .and .i64 x 65280) v=x/256*256+v:=by
 rw [MK,show x/256%256=x/256 from by omega]
 exact bits_join .i64 62 (by decide) Pl.iC 8 (x/256*256) v (by omega) (by omega) (by omega) (by omega) (by omega) (by omega)
theorem NH (w:World) (lo hi:Nat) (r:Pl.Rg) (a b:Option Addr) (ca cb:Nat) (z k v:Int) (hr:gz w lo hi r a b) (hh:hi≤w.heap.size) (hg:Pl.Good r) (hz:z=1∨z=2) (k0:0≤k) (k1:k≤3) (hv:Pl.okv z v=true) :
  Calls prog 110 #[.agg #[.slice a r.xs.length ca,.slice b r.ys.length cb,iv r.o,iv r.p,iv r.f,iv r.m,.bool r.s,.bool r.t],iv z,iv k,iv v] w fun e w'=>e=.returned (.agg #[.slice a (Pl.jy r z k v).xs.length ca,.slice b (Pl.jy r z k v).ys.length cb,iv (Pl.jy r z k v).o,iv (Pl.jy r z k v).p,iv (Pl.jy r z k v).f,iv (Pl.jy r z k v).m,.bool (Pl.jy r z k v).s,.bool (Pl.jy r z k v).t])∧gz w' lo hi (Pl.jy r z k v) a b∧Kept lo hi w w':=by
 obtain ⟨kn,rfl⟩:∃kn:Nat,k=(kn:Int):=⟨k.toNat,by omega⟩
 have HR:=hide hr
 have h4:=hg.d4
 have hl:(kn:Int)<(r.xs.length:Int):=by omega
 have HL:=hide h4
 obtain ⟨x0,x1⟩:=hg.dw kn (by omega)
 clear h4
 obtain ⟨s1,s2,s3⟩:=hr
 rcases s1 with ⟨_,e⟩|⟨g,rfl,b0,b1,hown⟩
 ·rw [e] at hl;simp at hl;omega
 ·have c3:w.cell? ⟨g,kn,none⟩=some (iv (el r.xs kn)):=(hown kn (by omega)).1
  have f3:=(hown kn (by omega)).2
  have b9:g<w.heap.size:=by omega
  clear hown s2 s3
  rcases hz with rfl|rfl
  ·obtain ⟨v0,v1⟩:0≤v∧v≤255:=by simp [Pl.okv,Pl.top] at hv;omega
   have hb:=N7 x0 x1 v0 v1
   have E:Hid (Pl.jy r 1 (kn:Int) v={r with xs:=r.xs.set kn (el r.xs kn/256*256+v)}):=hide (by simp [Pl.jy])
   go_enter func110,ntmps110
   go_upto_region 2 with fail
   obtain ⟨X,hX⟩:∃X:World,X=(w.alloc (.cells #[.slice (some ⟨g,0,none⟩) r.xs.length ca,.slice b r.ys.length cb,iv r.o,iv r.p,iv r.f,iv r.m,.bool r.s,.bool r.t] 31)).alloc (.cells #[.slice none 0 0,.slice none 0 0,iv 0,iv 0,iv 0,iv 0,.bool false,.bool false] 31):=⟨_,rfl⟩
   have KX:Hid (Kept 0 0 w X):=hide (by rw [hX];exact ah (kept_alloc _ _) _)
   have B0:Hid (Blk X w.heap.size #[.slice (some ⟨g,0,none⟩) r.xs.length ca,.slice b r.ys.length cb,iv r.o,iv r.p,iv r.f,iv r.m,.bool r.s,.bool r.t] 31):=hide (by rw [hX];exact (Blk.new w _ _).alloc _)
   have R0:Hid (Blk X (w.heap.size+1) #[.slice none 0 0,.slice none 0 0,iv 0,iv 0,iv 0,iv 0,.bool false,.bool false] 31):=hide (by rw [hX];have:=Blk.new (w.alloc (.cells #[.slice (some ⟨g,0,none⟩) r.xs.length ca,.slice b r.ys.length cb,iv r.o,iv r.p,iv r.f,iv r.m,.bool r.s,.bool r.t] 31)) #[.slice none 0 0,.slice none 0 0,iv 0,iv 0,iv 0,iv 0,.bool false,.bool false] 31;simpa only [World.size_alloc] using this)
   rw [←hX]
   have d3:X.cell? ⟨g,kn,none⟩=some (iv (el r.xs kn)):=by rw [hX];go_simp
   have g3:X.frozen? ⟨g,kn,none⟩=false:=by rw [hX];go_simp
   clear hX c3 f3
   have y0:=B0.o.cell (i:=0) rfl
   go_region
   have A3:=((HR.o.kept (KX.o) (by omega)).zk (k:=kn) (el r.xs kn/256*256+v) (by have:=HL.o;omega)).kept (ae (Kept.refl 0 0 _)) (by omega)
   have K3:Kept lo hi w (X.setCell ⟨g,kn,none⟩ (iv (el r.xs kn/256*256+v))).drew:=ae (ag KX.o.any _ _ _ (.inl ⟨b0,b1⟩))
   have B1:Hid (Blk (X.setCell ⟨g,kn,none⟩ (iv (el r.xs kn/256*256+v))).drew w.heap.size #[.slice (some ⟨g,0,none⟩) r.xs.length ca,.slice b r.ys.length cb,iv r.o,iv r.p,iv r.f,iv r.m,.bool r.s,.bool r.t] 31):=hide (B0.o.other _ _ _ (by omega))
   have R1:Hid (Blk (X.setCell ⟨g,kn,none⟩ (iv (el r.xs kn/256*256+v))).drew (w.heap.size+1) #[.slice none 0 0,.slice none 0 0,iv 0,iv 0,iv 0,iv 0,.bool false,.bool false] 31):=hide (R0.o.other _ _ _ (by omega))
   have nR:=R1.o.lt
   obtain ⟨Y,hY⟩:∃Y:World,Y=(X.setCell ⟨g,kn,none⟩ (iv (el r.xs kn/256*256+v))).drew:=⟨_,rfl⟩
   rw [←hY] at A3 K3 B1 R1 nR ⊢
   clear hY d3 g3 y0
   have m0:=B1.o.all
   have n0:=R1.o.all
   have nf0:=R1.o.fz
   go_wp2_with fail
   refine bodyPost_ret (v:=.agg #[.slice (some ⟨g,0,none⟩) r.xs.length ca,.slice b r.ys.length cb,iv r.o,iv r.p,iv r.f,iv r.m,.bool r.s,.bool r.t]) ?_ rfl ?_
   ·rw [aj rfl];go_simp
   ·rw [E.o]
    refine ⟨?_,((((((((A3.set _ _ _ (.inl (by omega))).set _ _ _ (.inl (by omega))).set _ _ _ (.inl (by omega))).set _ _ _ (.inl (by omega))).set _ _ _ (.inl (by omega))).set _ _ _ (.inl (by omega))).set _ _ _ (.inl (by omega))).set _ _ _ (.inl (by omega))),(ag (ag (ag (ag (ag (ag (ag (ag K3 _ _ _ (.inr (by omega))) _ _ _ (.inr (by omega))) _ _ _ (.inr (by omega))) _ _ _ (.inr (by omega))) _ _ _ (.inr (by omega))) _ _ _ (.inr (by omega))) _ _ _ (.inr (by omega))) _ _ _ (.inr (by omega)))⟩
    simp
  ·have E:Hid (Pl.jy r 2 (kn:Int) v={r with xs:=r.xs.set kn v}):=hide (by simp [Pl.jy])
   go_enter func110,ntmps110
   go_wp2_with fail
   refine bodyPost_ret (v:=.agg #[.slice (some ⟨g,0,none⟩) r.xs.length ca,.slice b r.ys.length cb,iv r.o,iv r.p,iv r.f,iv r.m,.bool r.s,.bool r.t]) ?_ rfl ?_
   ·rw [aj rfl];go_simp
   ·rw [E.o]
    refine ⟨?_,(HR.o.zk (k:=kn) v (by have:=HL.o;omega)).kept (ah (kept_alloc _ _) _) (by omega),(ag (Kept.refl _ _ _) _ _ _ (.inl ⟨b0,b1⟩)).trans (ah (kept_alloc _ _) _).any⟩
    simp
theorem Hy (z k:Int) (w:World):Calls prog 181 #[iv z,iv k] w fun e w'=>e=.returned (iv (Pl.byN z k))∧w'=w:=by
 by_cases h1:z=1
 ·subst h1
  cases h2:(k != 3)
  all_goals
   have q:Hid (k=3∨k≠3):=hide (by omega)
   go_enter func181,ntmps181
   go_wp2
   go_ret
   simp at h2
   exact ⟨rI (by simp [Pl.byN,h2]),rfl⟩
 ·have q1:(z==1)=false:=by simpa using h1
  go_enter func181,ntmps181
  go_wp2
  go_ret
  exact ⟨rI (by simp [Pl.byN,h1]),rfl⟩
theorem UF (z k:Int):1≤Pl.byN z k∧Pl.byN z k≤2:=by unfold Pl.byN;split<;>omega
theorem EP (w:World) (lo hi:Nat) (r:Pl.Rg) (a b:Option Addr) (ca cb:Nat) (z m k e:Int) (hr:gz w lo hi r a b) (hh:hi≤w.heap.size) (hg:Pl.Good r) (k0:0≤k) (k1:k≤3) (e0:0≤e) (e1:e≤65535) (hm:m=2∨m=3∨m=4∨m=5∨m=6) :
  Calls prog 142 #[.agg #[.slice a r.xs.length ca,.slice b r.ys.length cb,iv r.o,iv r.p,iv r.f,iv r.m,.bool r.s,.bool r.t],iv z,.agg #[iv m,iv k,iv e]] w fun e' w'=>e'=.returned (.tuple #[.agg #[.slice a (Pl.dA r z m k e).xs.length ca,.slice b (Pl.dA r z m k e).ys.length cb,iv (Pl.dA r z m k e).o,iv (Pl.dA r z m k e).p,iv (Pl.dA r z m k e).f,iv (Pl.dA r z m k e).m,.bool (Pl.dA r z m k e).s,.bool (Pl.dA r z m k e).t],iv (Pl.dm r z m k e)])∧gz w' lo hi (Pl.dA r z m k e) a b∧Kept lo hi w w':=by
 obtain ⟨kn,rfl⟩:∃kn:Nat,k=(kn:Int):=⟨k.toNat,by omega⟩
 have HR:=hide hr
 have h4:=hg.a4
 have hl:(kn:Int)<(r.ys.length:Int):=by omega
 have HL:=hide h4
 obtain ⟨x0,x1⟩:=hg.aw kn (by omega)
 obtain ⟨y0,y1⟩:=UF z (kn:Int)
 clear h4
 obtain ⟨s1,s2,s3⟩:=hr
 rcases s2 with ⟨_,ee⟩|⟨g,rfl,b0,b1,hown⟩
 ·rw [ee] at hl;simp at hl;omega
 ·have c3:w.cell? ⟨g,kn,none⟩=some (iv (el r.ys kn)):=(hown kn (by omega)).1
  have f3:=(hown kn (by omega)).2
  have b9:g<w.heap.size:=by omega
  have b2:g<w.heap.size+1:=by omega
  have b3:g<w.heap.size+1+1:=by omega
  clear hown s1 s3
  have KX:=hide (ah (ah (kept_alloc w (.cells #[.slice a r.xs.length ca,.slice (some ⟨g,0,none⟩) r.ys.length cb,iv r.o,iv r.p,iv r.f,iv r.m,.bool r.s,.bool r.t] 31)) (.cells #[iv m,iv (kn:Int),iv e] 107)) (.cells #[.slice none 0 0,.slice none 0 0,iv 0,iv 0,iv 0,iv 0,.bool false,.bool false] 31))
  rcases hm with rfl|rfl|rfl|rfl|rfl
  ·have E:Hid (Pl.dA r z 2 (kn:Int) e=r):=hide (by simp [Pl.dA])
   have EV:Hid (Pl.dm r z 2 (kn:Int) e=el r.ys kn):=hide (by simp [Pl.dm])
   go_enter func142,ntmps142
   go_wp2_with fail
   refine bodyPost_ret (v:=.tuple #[.agg #[.slice a r.xs.length ca,.slice (some ⟨g,0,none⟩) r.ys.length cb,iv r.o,iv r.p,iv r.f,iv r.m,.bool r.s,.bool r.t],iv (el r.ys kn)]) ?_ rfl ?_
   ·rw [results_cell_tmp rfl];go_simp
   ·rw [E.o,EV.o]
    exact ⟨rfl,HR.o.kept (ah (ah (kept_alloc _ _) _) _) (by omega),(ah (ah (kept_alloc _ _) _) _).any⟩
  ·have E:Hid (Pl.dA r z 3 (kn:Int) e={r with ys:=r.ys.set kn ((el r.ys kn+Pl.byN z kn)%65536)}):=hide (by simp [Pl.dA])
   have EV:Hid (Pl.dm r z 3 (kn:Int) e=el r.ys kn):=hide (by simp [Pl.dm])
   have hb:=Pl.gu (el r.ys kn+Pl.byN z kn)
   generalize hN:Pl.byN z (kn:Int)=N at y0 y1 E hb
   have HN:=hide hN
   clear hN
   go_enter func142,ntmps142
   go_upto_region 4 with fail
   obtain ⟨X,hX⟩:∃X:World,X=((w.alloc (.cells #[.slice a r.xs.length ca,.slice (some ⟨g,0,none⟩) r.ys.length cb,iv r.o,iv r.p,iv r.f,iv r.m,.bool r.s,.bool r.t] 31)).alloc (.cells #[iv 3,iv (kn:Int),iv e] 107)).alloc (.cells #[.slice none 0 0,.slice none 0 0,iv 0,iv 0,iv 0,iv 0,.bool false,.bool false] 31):=⟨_,rfl⟩
   have KY:Hid (Kept 0 0 w X):=hide (by rw [hX];exact ah (ah (kept_alloc _ _) _) _)
   have B0:Hid (Blk X w.heap.size #[.slice a r.xs.length ca,.slice (some ⟨g,0,none⟩) r.ys.length cb,iv r.o,iv r.p,iv r.f,iv r.m,.bool r.s,.bool r.t] 31):=hide (by rw [hX];exact ((Blk.new w _ _).alloc _).alloc _)
   have Q0:Hid (Blk X (w.heap.size+1) #[iv 3,iv (kn:Int),iv e] 107):=hide (by rw [hX];have:=(Blk.new (w.alloc (.cells #[.slice a r.xs.length ca,.slice (some ⟨g,0,none⟩) r.ys.length cb,iv r.o,iv r.p,iv r.f,iv r.m,.bool r.s,.bool r.t] 31)) #[iv 3,iv (kn:Int),iv e] 107).alloc (.cells #[.slice none 0 0,.slice none 0 0,iv 0,iv 0,iv 0,iv 0,.bool false,.bool false] 31);simpa only [World.size_alloc] using this)
   have R0:Hid (Blk X (w.heap.size+1+1) #[.slice none 0 0,.slice none 0 0,iv 0,iv 0,iv 0,iv 0,.bool false,.bool false] 31):=hide (by rw [hX];have:=Blk.new ((w.alloc (.cells #[.slice a r.xs.length ca,.slice (some ⟨g,0,none⟩) r.ys.length cb,iv r.o,iv r.p,iv r.f,iv r.m,.bool r.s,.bool r.t] 31)).alloc (.cells #[iv 3,iv (kn:Int),iv e] 107)) #[.slice none 0 0,.slice none 0 0,iv 0,iv 0,iv 0,iv 0,.bool false,.bool false] 31;simpa only [World.size_alloc] using this)
   rw [←hX]
   have d3:X.cell? ⟨g,kn,none⟩=some (iv (el r.ys kn)):=by rw [hX];go_simp
   have g3:X.frozen? ⟨g,kn,none⟩=false:=by rw [hX];go_simp
   clear hX c3 f3 KX
   have t0:=B0.o.cell (i:=1) rfl
   have t1:=Q0.o.cell (i:=1) rfl
   have hw64:IntKind.i64.wrap (el r.ys kn+N)=el r.ys kn+N:=w64 (by omega) (by omega)
   go_region_with (first|(go_at_call 181;refine (Hy _ _ _).mono ?_;rw [HN.o];rintro e w' ⟨rfl,hw⟩;have hw2:=hw.symm;clear hw;subst hw2)|fail)
   all_goals
    obtain ⟨Y,hY⟩:∃Y:World,Y=(X.setCell ⟨g,kn,none⟩ (iv ((el r.ys kn+N)%65536))).drew:=⟨_,rfl⟩
    rw [←hY]
    have A3:gz Y lo hi {r with ys:=r.ys.set kn ((el r.ys kn+N)%65536)} a (some ⟨g,0,none⟩):=by
     rw [hY]
     exact ((HR.o.kept (KY.o) (by omega)).vz (k:=kn) ((el r.ys kn+N)%65536) (by have:=HL.o;omega)).kept (ae (Kept.refl 0 0 _)) (by omega)
    have K3:Kept lo hi w Y:=by
     rw [hY]
     exact ae (ag KY.o.any _ _ _ (.inl ⟨b0,b1⟩))
    have B1:Hid (Blk Y w.heap.size #[.slice a r.xs.length ca,.slice (some ⟨g,0,none⟩) r.ys.length cb,iv r.o,iv r.p,iv r.f,iv r.m,.bool r.s,.bool r.t] 31):=hide (by rw [hY];exact B0.o.other _ _ _ (by omega))
    have R1:Hid (Blk Y (w.heap.size+1+1) #[.slice none 0 0,.slice none 0 0,iv 0,iv 0,iv 0,iv 0,.bool false,.bool false] 31):=hide (by rw [hY];exact R0.o.other _ _ _ (by omega))
    have nR:=R1.o.lt
    clear hY d3 g3 t0 t1 hb hw64
    have mm0:=B1.o.all
    have nn0:=R1.o.all
    have nnf0:=R1.o.fz
    go_wp2_with fail
    refine bodyPost_ret (v:=.tuple #[.agg #[.slice a r.xs.length ca,.slice (some ⟨g,0,none⟩) r.ys.length cb,iv r.o,iv r.p,iv r.f,iv r.m,.bool r.s,.bool r.t],iv (el r.ys kn)]) ?_ rfl ?_
    ·rw [results_cell_tmp rfl];go_simp
    ·rw [E.o,EV.o]
     refine ⟨?_,((((((((A3.set _ _ _ (.inl (by omega))).set _ _ _ (.inl (by omega))).set _ _ _ (.inl (by omega))).set _ _ _ (.inl (by omega))).set _ _ _ (.inl (by omega))).set _ _ _ (.inl (by omega))).set _ _ _ (.inl (by omega))).set _ _ _ (.inl (by omega))),(ag (ag (ag (ag (ag (ag (ag (ag K3 _ _ _ (.inr (by omega))) _ _ _ (.inr (by omega))) _ _ _ (.inr (by omega))) _ _ _ (.inr (by omega))) _ _ _ (.inr (by omega))) _ _ _ (.inr (by omega))) _ _ _ (.inr (by omega))) _ _ _ (.inr (by omega)))⟩
     simp
  ·have E:Hid (Pl.dA r z 4 (kn:Int) e={r with ys:=r.ys.set kn ((el r.ys kn-Pl.byN z kn)%65536)}):=hide (by simp [Pl.dA])
   have EV:Hid (Pl.dm r z 4 (kn:Int) e=(el r.ys kn-Pl.byN z kn)%65536):=hide (by simp [Pl.dm])
   have hb:=Pl.gu (el r.ys kn-Pl.byN z kn)
   generalize hN:Pl.byN z (kn:Int)=N at y0 y1 E EV hb
   have HN:=hide hN
   clear hN
   go_enter func142,ntmps142
   go_wp2_with (go_at_call 181;refine (Hy _ _ _).mono ?_;rw [HN.o];rintro e w' ⟨rfl,hw⟩;have hw2:=hw.symm;clear hw;subst hw2)
   refine bodyPost_ret (v:=.tuple #[.agg #[.slice a r.xs.length ca,.slice (some ⟨g,0,none⟩) r.ys.length cb,iv r.o,iv r.p,iv r.f,iv r.m,.bool r.s,.bool r.t],iv ((el r.ys kn-N)%65536)]) ?_ rfl ?_
   ·rw [results_cell_tmp rfl];go_simp
   ·rw [E.o,EV.o]
    refine ⟨?_,(HR.o.vz (k:=kn) _ (by have:=HL.o;omega)).kept (ah (ah (kept_alloc _ _) _) _) (by omega),(ag (Kept.refl _ _ _) _ _ _ (.inl ⟨b0,b1⟩)).trans (ah (ah (kept_alloc _ _) _) _).any⟩
    simp
  ·have E:Hid (Pl.dA r z 5 (kn:Int) e=r):=hide (by simp [Pl.dA])
   have EV:Hid (Pl.dm r z 5 (kn:Int) e=(el r.ys kn+e)%65536):=hide (by simp [Pl.dm])
   have hb:=Pl.gu (el r.ys kn+e)
   go_enter func142,ntmps142
   go_wp2_with fail
   refine bodyPost_ret (v:=.tuple #[.agg #[.slice a r.xs.length ca,.slice (some ⟨g,0,none⟩) r.ys.length cb,iv r.o,iv r.p,iv r.f,iv r.m,.bool r.s,.bool r.t],iv ((el r.ys kn+e)%65536)]) ?_ rfl ?_
   ·rw [results_cell_tmp rfl];go_simp
   ·rw [E.o,EV.o]
    exact ⟨rfl,HR.o.kept (ah (ah (kept_alloc _ _) _) _) (by omega),(ah (ah (kept_alloc _ _) _) _).any⟩
  ·have E:Hid (Pl.dA r z 6 (kn:Int) e=r):=hide (by simp [Pl.dA])
   have EV:Hid (Pl.dm r z 6 (kn:Int) e=e):=hide (by simp [Pl.dm])
   go_enter func142,ntmps142
   go_wp2_with fail
   refine bodyPost_ret (v:=.tuple #[.agg #[.slice a r.xs.length ca,.slice (some ⟨g,0,none⟩) r.ys.length cb,iv r.o,iv r.p,iv r.f,iv r.m,.bool r.s,.bool r.t],iv e]) ?_ rfl ?_
   ·rw [results_cell_tmp rfl];go_simp
   ·rw [E.o,EV.o]
    exact ⟨rfl,HR.o.kept (ah (ah (kept_alloc _ _) _) _) (by omega),(ah (ah (kept_alloc _ _) _) _).any⟩
end Go.Proofs.YtkkmnnhaailkcaaGreatDoor
