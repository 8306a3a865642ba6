/- Part 1 of what the last text leans on. -/
import Derived.WalkKit
import Derived.Test.YtgikibaajanjiaaGreatDoorProg
import Derived.WalkSpells
import Derived.WalkLawsBesides
import Derived.OpenShut
import Derived.Deep.QuietTactic
import Derived.BigQuiet
import Derived.RegionTactic
import Derived.ChangeAlike
import Derived.BigRegion
import Derived.Deep.RegionWith
import Derived.Laws.Rows
import Derived.Laws.ResultCell
import Derived.Laws.CopyOwn
import Derived.Maps.AppendAt
import Derived.Laws.AppendOwnNone
import Derived.Deep.AppendLies
set_option maxRecDepth 100000
set_option maxHeartbeats 16000000
namespace Go.RowKit
theorem Hid.o {p:Prop} (h:Hid p):p:=h
end Go.RowKit
namespace Go.Proofs.YtgikibaajanjiaaGreatDoor.Pl
theorem gY (a:Int):bits .and .i64 a 255=a%256:=by
 show IntKind.i64.wrap ((BitVec.ofInt 64 a &&& BitVec.ofInt 64 255).toNat:Int)=_
 rw[BitVec.toNat_and,BitVec.toNat_ofInt,show(BitVec.ofInt 64 255).toNat=2^8-1 from by decide,Nat.and_two_pow_sub_one_eq_mod,IntKind.wrap_i64];omega
theorem fO (a:Int):bits .and .i64 a 65535=a%65536:=by
 show IntKind.i64.wrap ((BitVec.ofInt 64 a &&& BitVec.ofInt 64 65535).toNat:Int)=_
 rw[BitVec.toNat_and,BitVec.toNat_ofInt,show(BitVec.ofInt 64 65535).toNat=2^16-1 from by decide,Nat.and_two_pow_sub_one_eq_mod,IntKind.wrap_i64];omega
theorem and1 (a:Int):bits .and .i64 a 1=a%2:=by
 show IntKind.i64.wrap ((BitVec.ofInt 64 a &&& BitVec.ofInt 64 1).toNat:Int)=_
 rw[BitVec.toNat_and,BitVec.toNat_ofInt,show(BitVec.ofInt 64 1).toNat=2^1-1 from by decide,Nat.and_two_pow_sub_one_eq_mod,IntKind.wrap_i64];omega
def top (s:Int):Int:=if s=1 then 256 else 65536
def okv (s v:Int):Bool:=(decide (s=1)||decide (s=2))&&(decide (0<=v)&&decide (v<top s))
def sg (s v:Int):Int:=if top s/2<=v then v-top s else v
def fl (b:Bool) (f:Int):Int:=if b then f else 0
def four (c v z n:Bool):Int:=fl c 17+fl v 2+fl z 4+fl n 8
def oP (s v:Int):Int:=if okv s v=true then sg s v else 0
def bit (x:Int):Bool:=decide (0<=x)&&decide (x<=1)
def two (s x a b:Int):Bool:=okv s a&&(okv s b&&bit x)
def flags (f:Int):Bool:=decide (0<=f)&&decide (f<=31)
def iI (s plain signed:Int):Int:=four (plain%top s != plain) (sg s (plain%top s) != signed) (plain%top s==0) (decide (sg s (plain%top s)<0))
def tY (s x a b:Int):Int:=if two s x a b=true then (a+b+x)%top s else 0
def sD (s x a b:Int):Int:=if two s x a b=true then iI s (a+b+x) (sg s a+sg s b+x) else 0
def lV (s x a b:Int):Int:=if two s x a b=true then (a-b-x)%top s else 0
def kK (s x a b:Int):Int:=if two s x a b=true then iI s (a-b-x) (sg s a-sg s b-x) else 0
theorem TC (c v z n:Bool):bits .or .i64 (bits .or .i64 (bits .or .i64 (fl c 17) (fl v 2)) (fl z 4)) (fl n 8)=four c v z n:=by
 cases c<;>cases v<;>cases z<;>cases n<;>decide
theorem Lm (c v z n:Bool):bits .or .i64 (bits .or .i64 (fl c 17) (fl v 2)) (bits .or .i64 (fl z 4) (fl n 8))=four c v z n:=by
 cases c<;>cases v<;>cases z<;>cases n<;>decide
theorem Qu (c v z n:Bool):0<=four c v z n/\four c v z n<=31:=by
 cases c<;>cases v<;>cases z<;>cases n<;>decide
theorem aS {s v:Int} (h:okv s v=true):(s=1/\top s=256\/s=2/\top s=65536)/\0<=v/\v<top s:=by
 simp[okv]at h;obtain⟨h1,h2,h3⟩:=h;refine⟨?_,h2,h3⟩;rcases h1 with rfl|rfl
 ·exact .inl ⟨rfl,rfl⟩
 ·exact .inr ⟨rfl,rfl⟩
theorem NR (t:Int) (h0:0<=t) (h1:t<=31):bits .andNot .i64 t 16=bits .and .i64 t 15:=by
 obtain⟨n,rfl⟩:=Int.eq_ofNat_of_zero_le h0;have k:∀m:Fin 32,bits .andNot .i64 ((m.val:Nat):Int) 16=bits .and .i64 ((m.val:Nat):Int) 15:=by decide
 exact k ⟨n,by omega⟩
theorem lK {s v:Int} (h:okv s v=true):oP s v=sg s v:=by simp[oP,h]
theorem Ec {v:Int} (h0:0<=v) (h1:v<256):okv 1 v=true:=by simp[okv,top,h0,h1]
theorem PI {v:Int} (h0:0<=v) (h1:v<65536):okv 2 v=true:=by simp[okv,top,h0,h1]
theorem oU {v:Int} (h0:0<=v) (h1:v<256) : -128<=sg 1 v/\sg 1 v<=127:=by simp[sg,top];omega
theorem oQ {v:Int} (h0:0<=v) (h1:v<65536) : -32768<=sg 2 v/\sg 2 v<=32767:=by simp[sg,top];omega
theorem BJ {s x a b:Int} (h:two s x a b=true):okv s a=true/\okv s b=true/\bit x=true:=by
 simpa[two] using h
theorem tK {x:Int} (h:bit x=true):0<=x/\x<=1:=by simpa[bit] using h
theorem rP {x:Int} (h:flags x=true):0<=x/\x<=31:=by simpa[flags] using h
theorem Yb (p q:Int):bits .or .i64 (bits .or .i64 (bits .or .i64 (fl (p%256 != p) 17) (fl (oP 1 (p%256) != q) 2)) (fl (p%256==0) 4)) (fl (decide (oP 1 (p%256)<0)) 8)=iI 1 p q:=by
 rw[TC,lK (Ec (by omega) (by omega))];rfl
theorem kept2 (p q:Int):bits .or .i64 (bits .or .i64 (bits .or .i64 (fl (p%65536 != p) 17) (fl (oP 2 (p%65536) != q) 2)) (fl (p%65536==0) 4)) (fl (decide (oP 2 (p%65536)<0)) 8)=iI 2 p q:=by
 rw[TC,lK (PI (by omega) (by omega))];rfl
theorem mQ (a b:Int):(a != b)=(b != a):=by rw[Bool.eq_iff_iff];simp;omega
theorem Xy {v:Int} (h0:0<=v) (h1:v<256):decide (128<=v)=decide (sg 1 v<0):=by
 rw[Bool.eq_iff_iff];simp[sg,top];omega
theorem Xx {v:Int} (h0:0<=v) (h1:v<65536):decide (32768<=v)=decide (sg 2 v<0):=by
 rw[Bool.eq_iff_iff];simp[sg,top];omega
theorem IV (p q:Int):bits .or .i64 (bits .or .i64 (fl (p != p%256) 17) (fl (q != sg 1 (p%256)) 2)) (bits .or .i64 (fl (p%256==0) 4) (fl (decide (128<=p%256)) 8))=iI 1 p q:=by
 rw[Lm,Xy (by omega) (by omega),mQ p,mQ q];rfl
theorem IU (p q:Int):bits .or .i64 (bits .or .i64 (fl (p != p%65536) 17) (fl (q != sg 2 (p%65536)) 2)) (bits .or .i64 (fl (p%65536==0) 4) (fl (decide (32768<=p%65536)) 8))=iI 2 p q:=by
 rw[Lm,Xx (by omega) (by omega),mQ p,mQ q];rfl
theorem VZ {p:Int} (h:p<256):decide (p<0)=(p != p%256):=by rw[Bool.eq_iff_iff];simp;omega
theorem below2 {p:Int} (h:p<65536):decide (p<0)=(p != p%65536):=by rw[Bool.eq_iff_iff];simp;omega
theorem O6 (p q:Int) (h:p<256):bits .or .i64 (bits .or .i64 (fl (decide (p<0)) 17) (fl (q != sg 1 (p%256)) 2)) (bits .or .i64 (fl (p%256==0) 4) (fl (decide (128<=p%256)) 8))=iI 1 p q:=by
 rw[VZ h,IV]
theorem OZ (p q:Int) (h:p<65536):bits .or .i64 (bits .or .i64 (fl (decide (p<0)) 17) (fl (q != sg 2 (p%65536)) 2)) (bits .or .i64 (fl (p%65536==0) 4) (fl (decide (32768<=p%65536)) 8))=iI 2 p q:=by
 rw[below2 h,IU]
theorem Ac (s p q:Int):0<=iI s p q/\iI s p q<=31:=Qu _ _ _ _
theorem ni (s x a b:Int):0<=kK s x a b/\kK s x a b<=31:=by
 unfold kK;split
 ·exact Ac _ _ _
 ·omega
theorem Fe (s x a b:Int):0<=sD s x a b/\sD s x a b<=31:=by
 unfold sD;split
 ·exact Ac _ _ _
 ·omega
theorem or_comm (a b:Int):bits .or .i64 a b=bits .or .i64 b a:=by
 show IntKind.i64.wrap ((BitVec.ofInt 64 a ||| BitVec.ofInt 64 b).toNat:Int)=IntKind.i64.wrap ((BitVec.ofInt 64 b ||| BitVec.ofInt 64 a).toNat:Int)
 rw[BitVec.or_comm]
def og (s f a b:Int):Int:=if (two s 0 a b&&flags f)=true then bits .or .i64 (bits .and .i64 (kK s 0 a b) 15) (bits .and .i64 f 16) else 0
def dB (s f v:Int):Int:=if (okv s v&&flags f)=true then bits .or .i64 (bits .and .i64 f 16) (bits .or .i64 (fl (v==0) 4) (fl (decide (sg s v<0)) 8)) else 0
def mM (v:Int):Int:=if okv 1 v=true then sg 1 v%65536 else 0
def lU (v:Int):Int:=if okv 2 v=true then v%256*256+v/256 else 0
theorem keptSelf {s v:Int} (h:okv s v=true):iI s v (sg s v)=bits .or .i64 (fl (v==0) 4) (fl (decide (sg s v<0)) 8):=by
 obtain⟨hs,h0,h1⟩:=aS h;have e:v%top s=v:=Int.emod_eq_of_lt h0 h1;unfold iI;rw[e,bne_self_eq_false,bne_self_eq_false];cases (v==0)<;>cases decide (sg s v<0)<;>decide
theorem ik (n:Int) (h₀:0<=n) (h₁:n<2^62):IntKind.i64.wrap n=n:=by rw[IntKind.wrap_i64];omega
theorem OH (v:Int) (h0:0<=v) (h1:v<65536):bits .or .i64 (v/256) (v%256*256)=v%256*256+v/256:=by
 rw[or_comm];exact bits_join .i64 62 (by decide) ik 8 (v%256*256) (v/256) (by omega) (by omega) (by omega) (by omega) (by omega) (by omega)
end Go.Proofs.YtgikibaajanjiaaGreatDoor.Pl
namespace Go.Proofs.YtgikibaajanjiaaGreatDoor
abbrev abb (b i:Nat):Go.Addr:=⟨b,i,none⟩
def Pl.zz:=0
open Pl
open Go.RowKit Go.Proofs.Tryz
set_option linter.unusedVariables false
abbrev iv (n:Int):Value:=.int .i64 n
abbrev ftZ:Array Value:=#[.int .i64 0,.int .i64 0,.int .i64 0,.int .i64 0,.bool false]
abbrev cpZ:Array Value:=#[.slice none 0 0,.slice none 0 0,.int .i64 0,.int .i64 0,.int .i64 0,.int .i64 0,.bool false,.bool false,.slice none 0 0,.slice none 0 0,.bool false,.bool false]
abbrev inA (op z r m k e s:Int):Array Value:=#[.int .i64 op,.int .i64 z,.int .i64 r,.int .i64 m,.int .i64 k,.int .i64 e,.int .i64 s]
theorem st {P:Program} {f:FuncId} {a:Array Value} {w:World} {r:Ending} {Q:Ending->World->Prop} (h:Calls P f a w fun e w'=>e=r/\w'=w) (q:Q r w):Calls P f a w Q:=h.mono (by rintro e w'⟨rfl,rfl⟩;exact q)
theorem aba {p:Prop} (h:p):Hid p:=h
theorem rI {a b:Int} (h:a=b):Ending.returned (.int .i64 a)=.returned (.int .i64 b):=by rw[h]
theorem rB {a b:Bool} (h:a=b):Ending.returned (.bool a)=.returned (.bool b):=by rw[h]
theorem rIB {a b:Int} {c d:Bool} (h:a=b) (k:c=d):Ending.returned (.tuple #[.int .i64 a,.bool c])=.returned (.tuple #[.int .i64 b,.bool d]):=by rw[h,k]
theorem rII {a b c d:Int} (h:a=b) (k:c=d):Ending.returned (.tuple #[.int .i64 a,.int .i64 c])=.returned (.tuple #[.int .i64 b,.int .i64 d]):=by rw[h,k]
theorem lW {a b c d:Int} {e f:Bool} (h:a=b) (k:c=d) (l:e=f):Ending.returned (.tuple #[.int .i64 a,.int .i64 c,.bool e])=.returned (.tuple #[.int .i64 b,.int .i64 d,.bool f]):=by rw[h,k,l]
theorem dF (n lo hi:Int) (w:World) :
  Calls prog 75 #[.int .i64 n,.int .i64 lo,.int .i64 hi] w fun e w'=>e=.returned (.bool (decide (lo<=n)&&decide (n<=hi)))/\w'=w:=by
 by_cases h0:lo<=n
 all_goals
  by_cases h1:n<=hi
  all_goals
   go_enter func75,ntmps75;go_wp2;go_ret;exact⟨rB (by simp;omega),rfl⟩
theorem grownBy_set (w:World) (b o:Nat) (v:Value):w.grownBy (w.setCell ⟨b,o,none⟩ v) (some b):=
 ⟨rfl,rfl,rfl,by simp,fun k hk hne=>Below.heap_setCell _ _ _ _ (fun e=>hne (by rw[e]))⟩
theorem grownBy_trans {a b c:World} {row:Option Nat} (h:a.grownBy b row) (k:b.grownBy c row):a.grownBy c row:=
 ⟨k.os.trans h.os,k.tape.trans h.tape,k.output.trans h.output,Nat.le_trans h.size k.size,fun i hi hne=>(k.block i (Nat.lt_of_lt_of_le hi h.size) hne).trans (h.block i hi hne)⟩
theorem grownBy_drew {a b:World} {row:Option Nat} (h:a.grownBy b row):a.grownBy b.drew row:=⟨h.os,h.tape,h.output,h.size,h.block⟩
def aF (w:World) (a:Option Addr) (xs:List Int):Prop:=
 ∀i:Nat,i<xs.length->∃g off:Nat,a=some ⟨g,off,none⟩/\w.cell? ⟨g,off+i,none⟩=some (iv (xs[i]?.getD 0))
theorem aF.kept {w w':World} {a:Option Addr} {xs:List Int} (h:aF w a xs) (hg:w.grownBy w' none):aF w' a xs:=by
 intro i hi;obtain⟨g,off,ea,hc⟩:=h i hi;exact⟨g,off,ea,hg.cell hc (by simp)⟩
theorem tu {xs ys:List Int} (hl:xs.length=ys.length) (h:∀i,i<xs.length->xs[i]?.getD 0=ys[i]?.getD 0):xs=ys:=by
 apply List.ext_getElem hl;intro i h1 h2;have:=h i h1;simpa[h1,h2] using this
theorem kW {p:Nat->Prop} {k:Nat} (h:∀i,i<k->p i) (hk:p k):∀i,i<k+1->p i:=by
 intro i hi;by_cases e:i=k
 ·rw[e];exact hk
 ·exact h i (by omega)
theorem qP (w:World) (a b:Option Addr) (ca cb:Nat) (xs ys:List Int) (ha:aF w a xs) (hb:aF w b ys) (lx:xs.length<=2000000) (ly:ys.length<=2000000) :
  Calls prog 38 #[.slice a xs.length ca,.slice b ys.length cb] w fun e w'=>e=.returned (.bool (decide (xs=ys)))/\w.grownBy w' none:=by
 by_cases hl:xs.length=ys.length
 ·have kl:(((xs.length:Nat):Int) != ((ys.length:Nat):Int))=false:=by simp[hl]
  have HL:Hid (xs.length=ys.length):=hl;clear hl;go_enter func38,ntmps38;go_wp2;go_loopw [5] (fun j wr=>∃k:Nat,k<=xs.length/\j=iv k/\(∀i,i<k->xs[i]?.getD 0=ys[i]?.getD 0)/\w.grownBy wr none) (fun j _=>xs.length-(intOf j).toNat)
  case atStart=>exact⟨0,Nat.zero_le _,rfl,fun i hi=>absurd hi (Nat.not_lt_zero i),World.grownBy.refl _ _⟩
  case round=>
   obtain⟨k,hk,rfl,heq,hg⟩:=hrel;by_cases hlt:k<xs.length
   ·obtain⟨g1,o1,rfl,hc1⟩:=ha.kept hg k hlt;obtain⟨g2,o2,rfl,hc2⟩:=hb.kept hg k (by have:=HL.o;omega);have hlt2:k<ys.length:=by have:=HL.o;omega
    have HE:Hid (∀i,i<k->xs[i]?.getD 0=ys[i]?.getD 0):=heq;clear heq ha hb;by_cases he:xs[k]=ys[k]
    ·have ke:(xs[k] != ys[k])=false:=by simpa using he
     have HK:Hid (xs[k]=ys[k]):=he;clear he;go_wp2;go_region;go_wp2;go_roundw
     case rel=>exact⟨k+1,by omega,by go_num,kW HE.o (by simpa[hlt,hlt2] using HK.o),grownBy_drew hg⟩
     case measure=>simp[intOf];omega
    ·have ke:(xs[k] != ys[k])=true:=by simpa using he
     have HK:Hid (¬xs[k]=ys[k]):=he;clear he;go_wp2;go_region;go_wp2;go_ret;exact⟨rB (by symm;rw[decide_eq_false_iff_not];intro e;apply HK.o;simp[e]),grownBy_drew hg⟩
   ·have HE:Hid (∀i,i<k->xs[i]?.getD 0=ys[i]?.getD 0):=heq;clear heq;go_wp2;go_ret;exact⟨rB (by symm;rw[decide_eq_true_iff];exact tu HL.o (fun i hi=>HE.o i (by omega))),hg⟩
 ·have kl:(((xs.length:Nat):Int) != ((ys.length:Nat):Int))=true:=by rw[bne_iff_ne];omega
  have HL:Hid (¬xs.length=ys.length):=hl;clear hl;go_enter func38,ntmps38;go_wp2;go_ret;exact⟨rB (by symm;rw[decide_eq_false_iff_not];intro e;apply HL.o;rw[e]),World.grownBy.refl _ _⟩
def Own (w:World) (g:Nat) (xs:List Int):Prop:=
 ∀i:Nat,i<xs.length->w.cell? ⟨g,i,none⟩=some (iv (xs[i]?.getD 0))/\w.frozen? ⟨g,i,none⟩=false
theorem Own.kept {w w':World} {g:Nat} {xs:List Int} {row:Option Nat} (h:Own w g xs) (hg:w.grownBy w' row) (hne:some g≠row):Own w' g xs:=by
 intro i hi;obtain⟨hc,hf⟩:=h i hi;exact⟨hg.cell hc hne,by rw[World.frozen?_of_block (w:=w) (hg.block g (World.block_lt_of_cell? _ _ hc) hne)];exact hf⟩
theorem Own.row {w:World} {g:Nat} {xs:List Int} (h:Own w g xs):aF w (some (abb g 0)) xs:=by
 intro i hi;exact⟨g,0,rfl,by simpa using (h i hi).1⟩
theorem Own.set {w:World} {g k:Nat} {xs:List Int} (h:Own w g xs) (z:Int):Own (w.setCell ⟨g,k,none⟩ (iv z)) g (xs.set k z):=by
 intro i hi;rw[List.length_set]at hi;obtain⟨hc,hf⟩:=h i hi;refine⟨?_,by simpa using hf⟩;by_cases e:k=i
 ·subst e;rw[World.cell?_setCell_same _ _ _ hc];simp[hi]
 ·rw[World.cell?_setCell_other _ _ _ _ (fun q=>e (congrArg Addr.off q)),hc];simp[e]
theorem iZ {w:World} {base g n cap:Nat} {xs:List Int} (h:w.ownsRow base 3 1 (.slice (some (abb g 0)) n cap) n (xs.map (Value.int .i64))):Own w g xs:=by
 intro i hi;have hc:=h.cells (g:=g) rfl i (iv (xs[i]?.getD 0)) (by simp[hi]);have hadd:((abb g 0):Addr).add i=⟨g,i,none⟩:=by unfold Addr.add;split<;>simp_all
 rw[hadd]at hc;refine⟨hc,?_⟩;rcases h.2 with⟨e,_⟩|⟨g',cap',cur,e,_,hgg,_⟩
 ·cases e
 ·cases e;simp[World.frozen?,hgg]
theorem copied {w wr:World} {xs zs:List Int} {k:Nat} (hlt:k<xs.length) (hl:zs.length=xs.length) (hown:Own wr w.heap.size zs) (heq:∀i,i<k->zs[i]?.getD 0=xs[i]?.getD 0) (hsz:w.heap.size<wr.heap.size) (hg:w.grownBy wr none) :
  ∃(k':Nat) (zs':List Int),k'<=xs.length/\Value.int .i64 ((k:Int)+1)=iv k'/\zs'.length=xs.length/\Own (wr.setCell ⟨w.heap.size,k,none⟩ (iv xs[k])) w.heap.size zs'/\(∀i,i<k'->zs'[i]?.getD 0=xs[i]?.getD 0)/\w.heap.size<(wr.setCell ⟨w.heap.size,k,none⟩ (iv xs[k])).heap.size/\w.grownBy (wr.setCell ⟨w.heap.size,k,none⟩ (iv xs[k])) none:=by
 refine⟨k+1,zs.set k xs[k],by omega,by go_num,by simpa using hl,hown.set _,?_,by simpa using hsz,?_⟩
 ·intro i hi;by_cases e:k=i
  ·subst e;simp[hl,hlt]
  ·rw[List.getElem?_set_ne e];exact heq i (by omega)
 ·exact⟨hg.os,hg.tape,hg.output,by simpa using hg.size,fun j hj hne=>(Below.heap_setCell _ _ _ _ (by simp;omega)).trans (hg.block j hj hne)⟩
theorem Tryz.info3:(prog.info? 3).map (fun i=>(i.zero,i.size,i.bytes))=some (some (iv 0),1,8):=by kernel_rfl
theorem BK (w:World) (a:Option Addr) (ca:Nat) (xs:List Int) (ha:aF w a xs) (lx:xs.length<=2000000) :
  Calls prog 51 #[.slice a xs.length ca] w fun e w'=>e=.returned (.slice (some (abb w.heap.size 0)) xs.length xs.length)/\Own w' w.heap.size xs/\w.heap.size<w'.heap.size/\w.grownBy w' none:=by
 obtain⟨i,hi,hz0,hz1,hz2⟩:=info_parts Tryz.info3;go_enter func51,ntmps51;go_wp2_with (first|(at_make;refine wpList_make_full _ rfl _ _ 22 rfl w.heap.size 3 i (iv 0) 1 underlying22 hi hz0 hz1 _ _ _ _ xs.length rfl rfl rfl rfl ?c1 ?c2 ?c3 ?_))
 case c1=>rw[hz2];omega
 case c2=>unfold maxLen;omega
 case c3=>exact Nat.le_refl _
 intro w1 hown hg
 have ho:Own w1 w.heap.size (List.replicate xs.length 0):=iZ (base:=w.heap.size) (n:=xs.length) (cap:=xs.length) (by
  have e:(madeCells #[Value.int .i64 0] xs.length).toList=(List.replicate xs.length (0:Int)).map (Value.int .i64):=by
   rw[toList_madeCells_one];simp
  rw[<-e];exact hown)
 have hs:w.heap.size<w1.heap.size:=(hown.lt _ rfl).2;clear hown;go_wp2;go_loopw [4] (fun j wr=>∃(k:Nat) (zs:List Int),k<=xs.length/\j=iv k/\zs.length=xs.length/\Own wr w.heap.size zs/\(∀i,i<k->zs[i]?.getD 0=xs[i]?.getD 0)/\w.heap.size<wr.heap.size/\w.grownBy wr none) (fun j _=>xs.length-(intOf j).toNat)
 case atStart=>exact⟨0,_,Nat.zero_le _,rfl,by simp,ho,fun i hi=>absurd hi (Nat.not_lt_zero i),hs,hg⟩
 case round=>
  obtain⟨k,zs,hk,rfl,hl,hown,heq,hsz,hgr⟩:=hrel;by_cases hlt:k<xs.length
  ·obtain⟨g1,o1,rfl,hc1⟩:=ha.kept hgr k hlt;obtain⟨hc2,hf2⟩:=hown k (by omega);have HE:Hid (∀i,i<k->zs[i]?.getD 0=xs[i]?.getD 0):=heq;have HL:Hid (zs.length=xs.length):=hl;clear heq ha hl;go_wp2;go_roundw
   case rel=>exact copied hlt HL.o hown HE.o hsz hgr
   case measure=>simp[intOf];omega
  ·have HE:Hid (∀i,i<k->zs[i]?.getD 0=xs[i]?.getD 0):=heq;have HL:Hid (zs.length=xs.length):=hl;clear heq hl;go_wp2;go_ret;have e:zs=xs:=tu HL.o (fun i hi=>HE.o i (by have:=HL.o;omega));exact⟨rfl,by rw[<-e];exact hown,hsz,hgr⟩
def marks (k:Int) (n:Nat):List Int:=(List.range n).map (fun (i:Nat)=>k+(i:Int))
theorem qo (k:Int) (n:Nat):(marks k n).length=n:=by simp[marks]
theorem vN (k:Int) (n i:Nat) (h:i<n):(marks k n)[i]?.getD 0=k+(i:Int):=by simp[marks,h]
theorem marked {w wr:World} {g n:Nat} {q:Int} {zs:List Int} {k:Nat} (hlt:k<n) (hl:zs.length=n) (hown:Own wr g zs) (heq:∀i,i<k->zs[i]?.getD 0=q+(i:Int)) (hg:w.grownBy wr (some g)) :
  ∃(k':Nat) (zs':List Int),k'<=n/\Value.int .i64 ((k:Int)+1)=iv k'/\Value.int .i64 (q+(k:Int)+1)=iv (q+(k':Int))/\zs'.length=n/\Own (wr.setCell ⟨g,k,none⟩ (iv (q+(k:Int)))) g zs'/\(∀i,i<k'->zs'[i]?.getD 0=q+(i:Int))/\w.grownBy (wr.setCell ⟨g,k,none⟩ (iv (q+(k:Int)))) (some g):=by
 refine⟨k+1,zs.set k (q+(k:Int)),by omega,by go_num,by rw[show q+(k:Int)+1=q+((k+1:Nat):Int) from by omega],by simpa using hl,hown.set _,?_,grownBy_trans hg (grownBy_set _ _ _ _)⟩;intro i hi;by_cases e:k=i
 ·subst e;simp[hl,hlt]
 ·rw[List.getElem?_set_ne e];exact heq i (by omega)
theorem zT (w:World) (g ca:Nat) (xs:List Int) (q:Int) (ha:Own w g xs) (lx:xs.length<=2000000) (q0:0<=q) (q1:q<=100000000) :
  Calls prog 39 #[.slice (some (abb g 0)) xs.length ca,iv q] w fun e w'=>e=.returned (iv (q+(xs.length:Int)))/\Own w' g (marks q xs.length)/\w.grownBy w' (some g):=by
 go_enter func39,ntmps39;go_wp2;go_loopw [1,5] (fun m j wr=>∃(k:Nat) (zs:List Int),k<=xs.length/\j=iv k/\m=iv (q+(k:Int))/\zs.length=xs.length/\Own wr g zs/\(∀i,i<k->zs[i]?.getD 0=q+(i:Int))/\w.grownBy wr (some g)) (fun _ j _=>xs.length-(intOf j).toNat)
 case atStart=>exact⟨0,xs,Nat.zero_le _,rfl,by simp,rfl,ha,fun i hi=>absurd hi (Nat.not_lt_zero i),World.grownBy.refl _ _⟩
 case round=>
  obtain⟨k,zs,hk,rfl,rfl,hl,hown,heq,hgr⟩:=hrel;have HE:Hid (∀i,i<k->zs[i]?.getD 0=q+(i:Int)):=heq;have HL:Hid (zs.length=xs.length):=hl;by_cases hlt:k<xs.length
  ·obtain⟨hc2,hf2⟩:=hown k (by omega);clear heq ha hl;go_wp2;go_roundw
   case rel=>exact marked hlt HL.o hown HE.o hgr
   case measure=>simp[intOf];omega
  ·clear heq hl;obtain rfl:k=xs.length:=by omega
   go_wp2;go_ret;have e:zs=marks q xs.length:=tu (by rw[qo];exact HL.o) (fun i hi=>by rw[vN q _ i (by have:=HL.o;omega)];exact HE.o i (by have:=HL.o;omega));exact⟨rfl,by rw[<-e];exact hown,hgr⟩
theorem pK (w:World) (a:Option Addr) (ca n:Nat) (q:Int) (ha:aF w a (marks q n)) (lx:n<=2000000) (q0:0<=q) (q1:q<=100000000) :
  Calls prog 40 #[.slice a n ca,iv q] w fun e w'=>e=.returned (iv (q+(n:Int)))/\w.grownBy w' none:=by
 go_enter func40,ntmps40;go_wp2;go_loopw [1,5] (fun m j wr=>∃k:Nat,k<=n/\j=iv k/\m=iv (q+(k:Int))/\w.grownBy wr none) (fun _ j _=>n-(intOf j).toNat)
 case atStart=>exact⟨0,Nat.zero_le _,rfl,by simp,World.grownBy.refl _ _⟩
 case round=>
  obtain⟨k,hk,rfl,rfl,hgr⟩:=hrel;by_cases hlt:k<n
  ·obtain⟨g1,o1,rfl,hc1⟩:=ha.kept hgr k (by rw[qo];exact hlt);rw[vN q n k hlt]at hc1;clear ha;go_wp2;go_roundw
   case rel=>exact⟨k+1,by omega,by go_num,by rw[show q+(k:Int)+1=q+((k+1:Nat):Int) from by omega],hgr⟩
   case measure=>simp[intOf];omega
  ·obtain rfl:k=n:=by omega
   go_wp2;go_ret;exact⟨rfl,hgr⟩
def V9 (xs:List Int):Prop:=∀i:Nat,i<xs.length -> -9223372036854775808<=xs[i]?.getD 0/\xs[i]?.getD 0<=9223372036854775807
def Slot (w:World) (base:Nat) (a:Option Addr) (xs:List Int):Prop:=
 (a=none/\xs=[])\/∃g:Nat,a=some (abb g 0)/\base<=g/\g<w.heap.size/\Own w g xs
def blk (a:Option Addr):Option Nat:=a.map Addr.block
theorem aF.below {w w':World} {a:Option Addr} {xs:List Int} (h:aF w a xs) (hb:Below w.heap.size w w'):aF w' a xs:=by
 intro i hi;obtain⟨g,off,ea,hc⟩:=h i hi;exact⟨g,off,ea,by rw[hb.cell (World.block_lt_of_cell? _ _ hc)];exact hc⟩
theorem Eh (w:World) (ca:Nat) (q:Int):Calls prog 39 #[.slice none 0 ca,iv q] w fun e w'=>e=.returned (iv q)/\w'=w:=by
 go_enter func39,ntmps39;go_wp2;go_loop [1,5] (fun m j=>m=iv q/\j=iv 0) (fun _ _=>0)
 case atStart=>exact⟨rfl,rfl⟩
 case round=>
  obtain⟨rfl,rfl⟩:=hrel;go_wp2;go_ret;exact⟨rfl,rfl⟩
theorem vO (w:World) (base ca:Nat) (a:Option Addr) (xs:List Int) (q:Int) (h:Slot w base a xs) (lx:xs.length<=2000000) (q0:0<=q) (q1:q<=100000000) :
  Calls prog 39 #[.slice a xs.length ca,iv q] w fun e w'=>e=.returned (iv (q+(xs.length:Int)))/\Slot w' base a (marks q xs.length)/\w.grownBy w' (blk a):=by
 rcases h with⟨rfl,rfl⟩|⟨g,rfl,hb,hlt,ho⟩
 ·refine(Eh w ca q).mono ?_;rintro e w'⟨rfl,rfl⟩;exact⟨by simp,.inl ⟨rfl,by simp[marks]⟩,World.grownBy.refl _ _⟩
 ·refine(zT w g ca xs q ho lx q0 q1).mono ?_;rintro e w'⟨rfl,ho',hg⟩;exact⟨rfl,.inr ⟨g,rfl,hb,Nat.lt_of_lt_of_le hlt hg.size,ho'⟩,hg⟩
def el (xs:List Int) (i:Nat):Int:=xs[i]?.getD 0
theorem grownBy_alloc {a b:World} {row:Option Nat} (h:a.grownBy b row) (o:Obj):a.grownBy (b.alloc o) row:=
 ⟨h.os,h.tape,h.output,Nat.le_trans h.size (by simp),fun k hk hne=>(Below.heap_alloc _ _ _ (Nat.lt_of_lt_of_le hk h.size)).trans (h.block k hk hne)⟩
theorem aj {fn:Func} {p:Tmp} {ty:TypeId} (h:fn.results=#[.cell p ty]) (tmps:Array Value) (P:Program) (w:World) :
  (results fn tmps).run P w=((asAddr (tmps.getD p undef)).run P w).andThen fun a w₁=>(loadVar ty a).run P w₁:=by
 simp only[results,h];simp[Sem.run_bind,Result.andThen]
structure Kept (lo hi:Nat) (w w':World):Prop where
 os:w'.os=w.os
 tape:w'.tape=w.tape
 output:w'.output=w.output
 size:w.heap.size<=w'.heap.size
 block:∀k,k<w.heap.size->¬(lo<=k/\k<hi)->w'.heap[k]? = w.heap[k]?
theorem Kept.refl (lo hi:Nat) (w:World):Kept lo hi w w:=⟨rfl,rfl,rfl,Nat.le_refl _,fun _ _ _=>rfl⟩
theorem Kept.trans {lo hi:Nat} {a b c:World} (h:Kept lo hi a b) (k:Kept lo hi b c):Kept lo hi a c:=
 ⟨k.os.trans h.os,k.tape.trans h.tape,k.output.trans h.output,Nat.le_trans h.size k.size,fun i hi hn=>(k.block i (Nat.lt_of_lt_of_le hi h.size) hn).trans (h.block i hi hn)⟩
theorem Kept.wide {lo hi lo' hi':Nat} {a b:World} (h:Kept lo hi a b) (hl:∀k,lo<=k->k<hi->lo'<=k/\k<hi'):Kept lo' hi' a b:=
 ⟨h.os,h.tape,h.output,h.size,fun i hi hn=>h.block i hi (fun q=>hn (hl i q.1 q.2))⟩
theorem Kept.any {lo hi:Nat} {a b:World} (h:Kept 0 0 a b):Kept lo hi a b:=h.wide (by omega)
theorem aU {w w':World} (h:w.grownBy w' none):Kept 0 0 w w':=⟨h.os,h.tape,h.output,h.size,fun k hk _=>h.block k hk (by simp)⟩
theorem nG {w w':World} (h:Below w.heap.size w w'):Kept 0 0 w w':=⟨h.os,h.tape,h.output,h.size,fun k hk _=>h.block k hk⟩
theorem Kept.below {w w':World} (h:Kept 0 0 w w'):Below w.heap.size w w':=⟨h.os,h.tape,h.output,h.size,fun k hk=>h.block k hk (by omega)⟩
theorem Kept.grown {w w':World} (h:Kept 0 0 w w'):w.grownBy w' none:=⟨h.os,h.tape,h.output,h.size,fun k hk _=>h.block k hk (by omega)⟩
theorem jZ {w w':World} {row:Option Nat} {lo hi:Nat} (h:w.grownBy w' row) (hr:∀g,row=some g->lo<=g/\g<hi):Kept lo hi w w':=
 ⟨h.os,h.tape,h.output,h.size,fun k hk hn=>h.block k hk (fun e=>hn (hr k e.symm))⟩
theorem kept_alloc (w:World) (o:Obj):Kept 0 0 w (w.alloc o):=nG ((Below.refl _ w).alloc (Nat.le_refl _) o)
theorem ai {lo hi:Nat} {w w':World} (h:Kept lo hi w w'):Kept lo hi w w'.drew:=⟨h.os,h.tape,h.output,h.size,h.block⟩
theorem ax {lo hi:Nat} {w w':World} (h:Kept lo hi w w') (n:Nat):Kept lo hi w (w'.drewN n):=⟨h.os,h.tape,h.output,h.size,h.block⟩
theorem aT {w w1 w2:World} {lo hi:Nat} (h:Below w.heap.size w w1) (k:Kept lo hi w1 w2) (hl:w.heap.size<=lo\/hi<=lo):Below w.heap.size w w2:=
 ⟨k.os.trans h.os,k.tape.trans h.tape,k.output.trans h.output,Nat.le_trans h.size k.size,fun i hi=>(k.block i (Nat.lt_of_lt_of_le hi h.size) (by omega)).trans (h.block i hi)⟩
theorem Own.lt {w:World} {g:Nat} {xs:List Int} (h:Own w g xs) (hx:0<xs.length):g<w.heap.size:=World.block_lt_of_cell? _ _ (h 0 hx).1
theorem Own.ag {w w':World} {g:Nat} {xs:List Int} {lo hi:Nat} (h:Own w g xs) (k:Kept lo hi w w') (hn:¬(lo<=g/\g<hi)):Own w' g xs:=by
 intro i hi';obtain⟨hc,hf⟩:=h i hi';have e:=k.block g (World.block_lt_of_cell? _ _ hc) hn;exact⟨by rw[World.cell?_of_block (w:=w) e];exact hc,by rw[World.frozen?_of_block (w:=w) e];exact hf⟩
def aK (w:World) (lo hi:Nat) (a:Option Addr) (xs:List Int):Prop:=
 (a=none/\xs=[])\/∃g:Nat,a=some (abb g 0)/\lo<=g/\g<hi/\Own w g xs
theorem aK.kept {w w':World} {l h lo hi:Nat} {a:Option Addr} {xs:List Int} (s:aK w l h a xs) (k:Kept lo hi w w') (hd:h<=lo\/hi<=l\/hi<=lo):aK w' l h a xs:=by
 rcases s with s|⟨g,ea,g0,g1,ho⟩
 ·exact .inl s
 ·exact .inr ⟨g,ea,g0,g1,ho.ag k (by omega)⟩
theorem aK.wide {w:World} {l h l' h':Nat} {a:Option Addr} {xs:List Int} (s:aK w l h a xs) (hl:l'<=l) (hh:h<=h'):aK w l' h' a xs:=by
 rcases s with s|⟨g,ea,g0,g1,ho⟩
 ·exact .inl s
 ·exact .inr ⟨g,ea,by omega,by omega,ho⟩
theorem aK.row {w:World} {l h:Nat} {a:Option Addr} {xs:List Int} (s:aK w l h a xs):aF w a xs:=by
 rcases s with⟨_,rfl⟩|⟨g,rfl,_,_,ho⟩
 ·intro i hi;exact absurd hi (Nat.not_lt_zero i)
 ·exact ho.row
theorem aK.slot {w:World} {l h:Nat} {a:Option Addr} {xs:List Int} (s:aK w l h a xs) (hh:h<=w.heap.size):Slot w l a xs:=by
 rcases s with s|⟨g,ea,g0,g1,ho⟩
 ·exact .inl s
 ·exact .inr ⟨g,ea,g0,by omega,ho⟩
theorem aK.again {w w':World} {l h:Nat} {a:Option Addr} {xs ys:List Int} {b:Nat} (s:aK w l h a xs) (s':Slot w' b a ys):aK w' l h a ys:=by
 rcases s' with⟨rfl,rfl⟩|⟨g',rfl,_,_,ho⟩
 ·exact .inl ⟨rfl,rfl⟩
 ·rcases s with⟨e,_⟩|⟨g,e,g0,g1,_⟩
  ·cases e
  ·cases e;exact .inr ⟨g',rfl,g0,g1,ho⟩
theorem aK.mg {w:World} {l h:Nat} {a:Option Addr} {xs:List Int} (s:aK w l h a xs):∀g,blk a=some g->l<=g/\g<h:=by
 intro g hg;rcases s with⟨rfl,_⟩|⟨g',rfl,g0,g1,_⟩
 ·simp[blk]at hg
 ·simp[blk]at hg;omega
def Blk (w:World) (b:Nat) (cs:Array Value) (ty:TypeId):Prop:=w.heap[b]? = some (.cells cs ty)
theorem Blk.lt {w:World} {b:Nat} {cs:Array Value} {ty:TypeId} (h:Blk w b cs ty):b<w.heap.size:=by
 unfold Blk at h;rcases Nat.lt_or_ge b w.heap.size with h'|h'
 ·exact h'
 ·rw[Array.getElem?_eq_none h']at h;cases h
theorem Blk.kept {w w':World} {b:Nat} {cs:Array Value} {ty:TypeId} {lo hi:Nat} (h:Blk w b cs ty) (k:Kept lo hi w w') (hn:¬(lo<=b/\b<hi)):Blk w' b cs ty:=(k.block b h.lt hn).trans h
theorem Blk.ae {w w':World} {b:Nat} {cs:Array Value} {ty:TypeId} (h:Blk w b cs ty) (k:Kept 0 0 w w'):Blk w' b cs ty:=h.kept k (by omega)
theorem Blk.cell {w:World} {b:Nat} {cs:Array Value} {ty:TypeId} (h:Blk w b cs ty) {i:Nat} {v:Value} (hi:cs[i]? = some v):w.cell? ⟨b,i,none⟩=some v:=by
 unfold Blk at h;simp[World.cell?,h,hi]
theorem Blk.frozen {w:World} {b:Nat} {cs:Array Value} {ty:TypeId} (h:Blk w b cs ty) (i:Nat):w.frozen? ⟨b,i,none⟩=false:=by
 unfold Blk at h;simp[World.frozen?,h]
theorem Blk.set {w:World} {b:Nat} {cs:Array Value} {ty:TypeId} (h:Blk w b cs ty) (i:Nat) (v:Value):Blk (w.setCell ⟨b,i,none⟩ v) b (cs.setIfInBounds i v) ty:=by
 unfold Blk at h ⊢;simp[World.setCell,Array.getElem?_modify,h]
theorem Blk.other {w:World} {b:Nat} {cs:Array Value} {ty:TypeId} (h:Blk w b cs ty) (c i:Nat) (v:Value) (hn:b≠c):Blk (w.setCell ⟨c,i,none⟩ v) b cs ty:=
 (Below.heap_setCell _ _ _ _ (by simpa using hn)).trans h
theorem Blk.new (w:World) (cs:Array Value) (ty:TypeId):Blk (w.alloc (.cells cs ty)) w.heap.size cs ty:=heap_alloc_new w _
theorem Blk.alloc {w:World} {b:Nat} {cs:Array Value} {ty:TypeId} (h:Blk w b cs ty) (o:Obj):Blk (w.alloc o) b cs ty:=(Below.heap_alloc _ _ _ h.lt).trans h
theorem af {w w':World} {lo hi:Nat} (h:Kept lo hi w w') (b i:Nat) (v:Value) (hb:(lo<=b/\b<hi)\/w.heap.size<=b):Kept lo hi w (w'.setCell ⟨b,i,none⟩ v):=
 ⟨h.os,h.tape,h.output,by simpa using h.size,fun k hk hn=>(Below.heap_setCell _ _ _ _ (by simp;omega)).trans (h.block k hk hn)⟩
theorem ah {w w':World} {lo hi:Nat} (h:Kept lo hi w w') (o:Obj):Kept lo hi w (w'.alloc o):=
 ⟨h.os,h.tape,h.output,Nat.le_trans h.size (by simp),fun k hk hn=>(Below.heap_alloc _ _ _ (Nat.lt_of_lt_of_le hk h.size)).trans (h.block k hk hn)⟩
theorem Own.setOther {w:World} {g:Nat} {xs:List Int} (h:Own w g xs) (b i:Nat) (v:Value) (hn:g≠b):Own (w.setCell ⟨b,i,none⟩ v) g xs:=by
 intro j hj;obtain⟨hc,hf⟩:=h j hj;exact⟨by rw[World.cell?_setCell_other _ _ _ _ (fun e=>hn (congrArg Addr.block e).symm)];exact hc,by simpa using hf⟩
theorem aF.ag {w w':World} {a:Option Addr} {xs:List Int} (h:aF w a xs) (k:Kept 0 0 w w'):aF w' a xs:=h.kept k.grown
def Came (w:World) (a:Option Addr) (xs:List Int):Prop:=aF w a xs/\V9 xs
theorem Came.ag {w w':World} {a:Option Addr} {xs:List Int} (h:Came w a xs) (k:Kept 0 0 w w'):Came w' a xs:=⟨h.1.ag k,h.2⟩
theorem Came.below {w w':World} {a:Option Addr} {xs:List Int} (h:Came w a xs) (k:Below w.heap.size w w'):Came w' a xs:=⟨h.1.below k,h.2⟩
theorem aN {lo hi:Nat} {w w':World} (h:Kept lo hi w.drew w'):Kept lo hi w w':=⟨h.os,h.tape,h.output,h.size,h.block⟩
theorem iM {w:World} {g off:Nat} {xs:List Int} (h:aF w (some ⟨g,off,none⟩) xs):∀j u,(xs.map (Value.int .i64))[j]? = some u->w.cell? ((⟨g,off,none⟩:Addr).add j)=some u:=by
 intro j u hu
 have hj:j<xs.length:=by
  rcases Nat.lt_or_ge j xs.length with h'|h'
  ·exact h'
  ·rw[List.getElem?_eq_none (by simpa using h')]at hu;cases hu
 obtain⟨g',off',e,hc⟩:=h j hj;cases e;have e:u=iv (xs[j]?.getD 0):=by simpa[hj] using hu.symm
 rw[e];by_cases h0:j=0
 ·subst h0;simpa[Addr.add] using hc
 ·simpa[Addr.add,h0] using hc
theorem iG {xs:List Int}:∀u∈xs.map (Value.int .i64),u.oneCell'=true:=by
 intro u hu;obtain⟨z,_,rfl⟩:=List.mem_map.1 hu;rfl
theorem rG {w:World} {base:Nat} {e:TypeId} {size:Nat} {v:Value} {n:Nat} {xs:List Value} (h:w.ownsRow base e size v n xs) (hn:0<n):∃g cap:Nat,v=.slice (some (abb g 0)) n cap/\base<=g/\g<w.heap.size:=by
 rcases h.2 with⟨_,e⟩|⟨g,cap,cur,rfl,hb,_⟩
 ·omega
 ·exact⟨g,cap,rfl,hb,(h.lt g rfl).2⟩
theorem own_base {w:World} {base base':Nat} {e:TypeId} {size:Nat} {v:Value} {n:Nat} {xs:List Value} (h:w.ownsRow base e size v n xs) (hb:base'<=base):w.ownsRow base' e size v n xs:=by
 refine⟨h.1,?_⟩;rcases h.2 with h'|⟨g,cap,cur,rfl,hg,rest⟩
 ·exact .inl h'
 ·exact .inr ⟨g,cap,cur,rfl,by omega,rest⟩
theorem Own.vw {w:World} {g k:Nat} {xs:List Int} (h:Own w g xs) (z:Int):Own (w.setCell ⟨g,k,none⟩ (iv z)) g (xs.set k z):=h.set z
theorem wC {xs:List Int} {k i:Nat} {z:Int} (hk:k<xs.length):el (xs.set k z) i=if i=k then z else el xs i:=by
 unfold el;by_cases e:i=k
 ·subst e;rw[List.getElem?_set_self hk,if_pos rfl];rfl
 ·rw[List.getElem?_set_ne (fun q=>e q.symm),if_neg e]
namespace Pl
end Pl
def cellsOf (xs:List Int):Array Value:=(xs.map (Value.int .i64)).toArray
theorem cellsOf_size (xs:List Int):(cellsOf xs).size=xs.length:=by simp[cellsOf]
theorem ut (xs:List Int):(cellsOf xs).all (·.oneCell')=true:=by
 rw[Array.all_eq_true_iff_forall_mem];intro v hv;simp[cellsOf]at hv;obtain⟨z,_,rfl⟩:=hv;rfl
theorem lM {w w':World} (h:Kept 0 0 w w') (g:Nat) (cs:Array Value) (hg:w.heap.size<=g):Kept 0 0 w (w'.setRow g cs):=
 ⟨h.os,h.tape,h.output,by simpa using h.size,fun k hk hn=>(setRow_other w' g k cs (by omega)).trans (h.block k hk hn)⟩
theorem Blk.setRow {w:World} {b:Nat} {cs ds:Array Value} {ty:TypeId} (h:Blk w b cs ty):Blk (w.setRow b ds) b ds ty:=setRow_heap w b cs ds ty _ h
theorem Blk.zA {w:World} {b g:Nat} {cs ds:Array Value} {ty:TypeId} (h:Blk w b cs ty) (hn:b≠g):Blk (w.setRow g ds) b cs ty:=(setRow_other w g b ds hn).trans h
theorem BQ {cur cs:List Value} (h:cur.length=cs.length):splice cur 0 cs=cs:=by
 unfold splice;rw[List.take_zero,List.nil_append,List.drop_eq_nil_of_le (by omega),List.append_nil]
theorem fA {w W w':World} {B:Nat} (k:Kept 0 0 w W) (h:Below B W w') (hB:w.heap.size<=B):Kept 0 0 w w':=
 ⟨h.os.trans k.os,h.tape.trans k.tape,h.output.trans k.output,Nat.le_trans k.size h.size,fun i hi hn=>(h.block i (by omega)).trans (k.block i hi hn)⟩
theorem wL {w:World} {base g n:Nat} {vs:List Value} {e:TypeId} {size:Nat} (h:w.ownsRow base e size (.slice (some (abb g 0)) n n) n vs):Blk w g vs.toArray e:=by
 rcases h with⟨hl,⟨q,_⟩|⟨g',cap',cur,q,_,hgg,_,_,hsz,ht⟩⟩
 ·cases q
 ·cases q;rw[List.take_of_length_le (by simp[hsz])]at ht;rw[<-ht];exact hgg
theorem iF {w:World} {g:Nat} {xs:List Int} {e:TypeId} (h:Blk w g (cellsOf xs) e):Own w g xs:=by
 intro i hi;refine⟨h.cell (by simp[cellsOf,hi]),h.frozen i⟩
theorem aB {w W W':World} {lo hi:Nat} (k:Kept 0 0 w W) (h:Kept lo hi W W') (hg:w.heap.size<=lo):Kept 0 0 w W':=
 ⟨h.os.trans k.os,h.tape.trans k.tape,h.output.trans k.output,Nat.le_trans k.size h.size,fun i hi hn=>(h.block i (Nat.lt_of_lt_of_le hi k.size) (by omega)).trans (k.block i hi hn)⟩
theorem yR (W:World) (g off dLen dCap sCap:Nat) (sp:Option Addr) (cs:List Int) (cur:List Value) (t:TypeId) (hB:Blk W g cur.toArray t) (hr:aF W sp cs) (hl:cs.length<=dLen) (hfit:off+cs.length<=cur.length) :
  ∃W',(Builtin.copy_ #[22,22] 3 #[.slice (some ⟨g,off,none⟩) dLen dCap,.slice sp cs.length sCap]).run prog W=.ok (iv cs.length) W'/\Blk W' g (splice cur off (cs.map (Value.int .i64))).toArray t/\Kept g (g+1) W W':=by
 have HS:(prog.info? 3).map (·.size)=some 1:=by kernel_rfl
 by_cases h0:cs.length=0
 ·obtain rfl:cs=[]:=List.eq_nil_of_length_eq_zero h0;refine⟨W,run_copy_none (P:=prog) W 22 22 3 3 _ _ _ _ _ _ underlying22 HS (by simp),?_,Kept.refl _ _ _⟩;simpa[splice] using hB
 ·obtain⟨ga,oa,rfl,_⟩:=hr 0 (by omega);have h:=run_copy_row prog W 22 22 3 3 g off dLen dCap ⟨ga,oa,none⟩ cs.length sCap cur.toArray t (cs.map (Value.int .i64)) underlying22 HS hB (by simp only[List.length_map];exact(Nat.min_eq_left hl).symm) (iM hr) (by simpa using hfit) iG;refine⟨_,by rw[h,List.length_map];rfl,?_,?_⟩
  ·have:=hB.setRow (ds:=(List.take off cur.toArray.toList++cs.map (Value.int .i64)++List.drop (off+(cs.map (Value.int .i64)).length) cur.toArray.toList).toArray)
   simpa[splice] using this
  ·exact⟨rfl,rfl,rfl,by simp,fun k hk hn=>setRow_other W g k _ (by omega)⟩
theorem yD {w w':World} {b:Nat} (h:Kept b (b+1) w w'):w.grownBy w' (some b):=
 ⟨h.os,h.tape,h.output,h.size,fun k hk hn=>h.block k hk (fun q=>hn (by rw[show k=b by omega]))⟩
def szB (n m:Nat) (left:Int):Int:=if left-(n:Int)<0 then -1 else if left-(n:Int)-(m:Int)<0 then -1 else left-(n:Int)-(m:Int)
theorem DT {n m:Nat} {left:Int} (h:¬szB n m left<0):(n:Int)+(m:Int)<=left:=by
 unfold szB at h;split at h
 ·exact absurd (by decide) h
 ·split at h
  ·exact absurd (by decide) h
  ·omega
theorem Blk.all {w:World} {b:Nat} {cs:Array Value} {ty:TypeId} (h:Blk w b cs ty) (i:Nat):w.cell? ⟨b,i,none⟩=cs[i]? := by
 have e:w.heap[b]? = some (.cells cs ty (0,0)):=h;unfold World.cell?;dsimp only;rw[e];simp
theorem Blk.fz {w:World} {b:Nat} {cs:Array Value} {ty:TypeId} (h:Blk w b cs ty) (i:Nat):w.frozen? ⟨b,i,none⟩=false:=h.frozen i
end Go.Proofs.YtgikibaajanjiaaGreatDoor
namespace Go.Proofs.YtgikibaajanjiaaGreatDoor.Pl
set_option linter.unusedVariables false
structure Rg where
 xs:List Int
 ys:List Int
 o:Int
 p:Int
 f:Int
 m:Int
 s:Bool
 t:Bool
def ZN:Rg:=⟨[],[],0,0,0,0,false,false⟩
def within (n lo hi:Int):Bool:=decide (lo<=n)&&decide (n<=hi)
def aP (n:Int):Bool:=within n 0 65535
def iT (xs:List Int):Bool:=xs.all aP&&decide ((xs.length:Int)=4)
def sN (r:Rg):Bool:=iT r.xs&&(iT r.ys&&(aP r.o&&(aP r.p&&(within r.f 0 31&&within r.m 0 7))))
def jQ (m:Int):Bool:=decide (5<=m)
def bJ (m:Int):Bool:=within m 0 7
def iP (m r e:Int):Bool:=bJ m&&(within r 0 3&&((decide (m<6)||(r==0))&&(aP e&&(jQ m||(e==0)))))
def fl1 (b:Bool) (n:Int):Int:=if b then n else 0
def status (r:Rg):Int:=r.f+32*r.m+fl1 r.s 256+fl1 r.t 512
def bK (n:Int):Bool:=decide (n/256%2=1)
def dD (n:Int):Bool:=decide (n/512%2=1)
def aY (r:Rg) (n:Int):Rg:=
 if bK n=r.s then {r with s:=bK n,t:=dD n,m:=n/32%8,f:=n%32}
 else {r with ys:=r.ys.set 3 r.o,o:=el r.ys 3,s:=bK n,t:=dD n,m:=n/32%8,f:=n%32}
def lD (r:Rg) (z k v:Int):Rg:={r with xs:=r.xs.set k.toNat (if z=1 then el r.xs k.toNat/256*256+v else v)}
def byN (z k:Int):Int:=if z=1/\k≠3 then 1 else 2
def bu (r:Rg) (z m k e:Int):Int:=if m=4 then (el r.ys k.toNat-byN z k)%65536 else if m=5 then (el r.ys k.toNat+e)%65536 else if m=6 then e else el r.ys k.toNat
def bG (r:Rg) (z m k e:Int):Rg:=if m=3 then {r with ys:=r.ys.set k.toNat ((el r.ys k.toNat+byN z k)%65536)} else if m=4 then {r with ys:=r.ys.set k.toNat ((el r.ys k.toNat-byN z k)%65536)} else r
structure Good (r:Rg):Prop where
 d4:r.xs.length=4
 a4:r.ys.length=4
 dw:∀i,i<4->0<=el r.xs i/\el r.xs i<=65535
 aw:∀i,i<4->0<=el r.ys i/\el r.ys i<=65535
 o0:0<=r.o
 o1:r.o<=65535
 f0:0<=r.f
 f1:r.f<=31
 m0:0<=r.m
 m1:r.m<=7
theorem EK {xs:List Int} (h:iT xs=true):xs.length=4/\∀i,i<4->0<=el xs i/\el xs i<=65535:=by
 simp only[iT,Bool.and_eq_true,decide_eq_true_eq]at h;obtain⟨h1,h2⟩:=h;refine⟨by omega,fun i hi => ?_⟩;have hl:i<xs.length:=by omega
 have:=List.all_eq_true.1 h1 (xs[i]'hl) (List.getElem_mem hl)
 simp only[aP,within,Bool.and_eq_true,decide_eq_true_eq]at this;simpa[el,List.getElem?_eq_getElem hl] using this
theorem Qs {r:Rg} (h:sN r=true):Good r:=by
 simp only[sN,Bool.and_eq_true,aP,within,decide_eq_true_eq]at h;obtain⟨h1,h2,⟨h3,h4⟩,_,⟨h5,h6⟩,h7,h8⟩:=h;obtain⟨a1,a2⟩:=EK h1;obtain⟨b1,b2⟩:=EK h2;exact⟨a1,b1,a2,b2,h3,h4,h5,h6,h7,h8⟩
theorem V7 {xs:List Int} {i:Nat} (hi:i<xs.length) (h:aP (el xs i)=false):iT xs=false:=by
 cases e:iT xs
 ·rfl
 ·simp only[iT,Bool.and_eq_true]at e;have:=List.all_eq_true.1 e.1 (xs[i]'hi) (List.getElem_mem hi);simp[el,List.getElem?_eq_getElem hi]at h;rw[h]at this;cases this
theorem V6 {xs:List Int} (h:∀i,i<xs.length->aP (el xs i)=true):iT xs=decide ((xs.length:Int)=4):=by
 have:xs.all aP=true:=by
  rw[List.all_eq_true];intro x hx;obtain⟨i,hi,rfl⟩:=List.getElem_of_mem hx;have:=h i hi;simpa[el,List.getElem?_eq_getElem hi] using this
 unfold iT;rw[this,Bool.true_and]
end Go.Proofs.YtgikibaajanjiaaGreatDoor.Pl
namespace Go.Proofs.YtgikibaajanjiaaGreatDoor
open Pl
end Go.Proofs.YtgikibaajanjiaaGreatDoor
namespace Go.Proofs.YtgikibaajanjiaaGreatDoor.Pl
set_option linter.unusedVariables false
def kind (a:Int):Int:=if 512<=a\/(448<=a/\a<=495) then 1 else if 384<=a/\a<=447 then 3 else 0
def addr (a:Int):Bool:=decide (0<=a)&&decide (a<=65535)
def jB (v:Int):Bool:=decide (0<=v)&&decide (v<=255)
def bf (xs:List Int):Bool:=xs.all jB
def dP (k:Int):Bool:=decide (1<=k)&&decide (k<=3)
def fP (k s a v c:Int):Bool:=dP k&&(okv s v&&(addr a&&((decide (0<=c)&&decide (c<=3))&&(k != 3||c != 0))))
def sF (ys:List Int) (i:Nat):Bool:=fP (el ys (i*5)) (el ys (i*5+1)) (el ys (i*5+2)) (el ys (i*5+3)) (el ys (i*5+4))
def jD (ys:List Int) (m:Nat):Bool:=(List.range m).all (sF ys)
def eG (xs ys:List Int) (m:Nat):Bool:=jD ys m&&(decide (xs.length=512)&&(bf xs&&decide (m<=400)))
def code (k s a:Int):Int:=
 if s=2/\a%2=1 then 2 else if kind a=1\/kind (a+s-1)=1 then 1 else if k=2/\(kind a=3\/kind (a+s-1)=3) then 3 else 0
theorem dG {xs:List Int} (h:bf xs=true) (i:Nat) (hi:i<xs.length):0<=el xs i/\el xs i<=255:=by
 have:=List.all_eq_true.1 h (xs[i]) (List.getElem_mem hi)
 simp[jB]at this;simpa[el,hi] using this
theorem wJ {xs:List Int} {i:Nat} (hi:i<xs.length) (h:jB (el xs i)=false):bf xs=false:=by
 cases e:bf xs
 ·rfl
 ·have:=dG e i hi
  simp[jB]at h;omega
theorem qR {xs:List Int} (h:∀i,i<xs.length->jB (el xs i)=true):bf xs=true:=by
 unfold bf;rw[List.all_eq_true];intro x hx;obtain⟨i,hi,rfl⟩:=List.getElem_of_mem hx;simpa[el,hi] using h i hi
theorem xN {ys:List Int} {m i:Nat} (hi:i<m) (h:sF ys i=false):jD ys m=false:=by
 cases e:jD ys m
 ·rfl
 ·have:=List.all_eq_true.1 e i (List.mem_range.2 hi)
  rw[h]at this;cases this
theorem xM {ys:List Int} {m:Nat} (h:∀i,i<m->sF ys i=true):jD ys m=true:=by
 unfold jD;rw[List.all_eq_true];intro i hi;exact h i (List.mem_range.1 hi)
end Go.Proofs.YtgikibaajanjiaaGreatDoor.Pl
namespace Go.Proofs.YtgikibaajanjiaaGreatDoor
open Pl
open Go.RowKit Go.Proofs.Tryz
set_option linter.unusedVariables false
theorem Eo (w:World) (a:Option Addr) (ca:Nat) (xs:List Int) (ha:aF w a xs) (lx:xs.length<=2000000) :
  Calls prog 149 #[.slice a xs.length ca] w fun e w'=>e=.returned (.bool (bf xs))/\w'=w:=by
 have HA:=aba ha;clear ha;go_enter func149,ntmps149;go_wp2;go_loop [4,7] (fun _ j=>∃k:Nat,k<=xs.length/\j=iv k/\∀i,i<k->jB (el xs i)=true) (fun _ j=>xs.length-(intOf j).toNat)
 case atStart=>exact⟨0,Nat.zero_le _,rfl,fun i hi=>absurd hi (Nat.not_lt_zero i)⟩
 case round=>
  obtain⟨k,hk,rfl,heq⟩:=hrel;have HE:=aba heq;clear heq;by_cases hlt:k<xs.length
  ·obtain⟨g1,o1,rfl,hc1⟩:=HA.o k hlt;rw[show xs[k]?.getD 0=el xs k from rfl]at hc1;cases hb:(decide (0<=el xs k)&&decide (el xs k<=255))
   ·go_wp2_with (go_at_call 75;refine st (dF _ _ _ _) ?_;rw[hb]);go_ret;exact⟨rB (wJ hlt hb).symm,rfl⟩
   ·go_wp2_with (go_at_call 75;refine st (dF _ _ _ _) ?_;rw[hb]);go_round
    case rel=>exact⟨k+1,by omega,by go_num,kW HE.o hb⟩
    case measure=>simp[intOf];omega
  ·go_wp2;go_ret;exact⟨rB (qR (fun i hi=>HE.o i (by omega))).symm,rfl⟩
theorem oJ (w:World) (a:Option Addr) (ca n:Nat) (left:Int) (hn:n<=9223372036854775807) (l0:0<=left) (l1:left<=2000000) :
  Calls prog 99 #[.slice a n ca,iv left] w fun e w'=>e=.returned (iv (if left-(n:Int)<0 then -1 else left-(n:Int)))/\w'=w:=by
 by_cases h:left-(n:Int)<0
 all_goals
  go_enter func99,ntmps99;go_wp2;go_ret;exact⟨rfl,rfl⟩
def five (a b c d e a' b' c' d' e':Int):Bool:=decide (a=a'/\b=b'/\c=c'/\d=d'/\e=e')
theorem aF.five {w:World} {a:Option Addr} {xs:List Int} (h:aF w a xs) {n k:Nat} (hl:xs.length=5*n) (hk:k<n) :
  ∃g off:Nat,a=some ⟨g,off,none⟩/\w.cell? ⟨g,off+k*5,none⟩=some (iv (el xs (k*5)))/\w.cell? ⟨g,off+k*5+1,none⟩=some (iv (el xs (k*5+1)))/\w.cell? ⟨g,off+k*5+2,none⟩=some (iv (el xs (k*5+2)))/\
   w.cell? ⟨g,off+k*5+3,none⟩=some (iv (el xs (k*5+3)))/\w.cell? ⟨g,off+k*5+4,none⟩=some (iv (el xs (k*5+4))):=by
 obtain⟨g,off,ea,c0⟩:=h (k*5) (by omega)
 have pick:∀j,j<5->w.cell? ⟨g,off+k*5+j,none⟩=some (iv (el xs (k*5+j))):=by
  intro j hj;obtain⟨g',off',ea',c⟩:=h (k*5+j) (by omega);rw[ea]at ea';cases ea';rw[Nat.add_assoc];exact c
 exact⟨g,off,ea,c0,pick 1 (by decide),pick 2 (by decide),pick 3 (by decide),pick 4 (by decide)⟩
theorem Own.five {w : World} {g : Nat} {xs : List Int} (h : Own w g xs) {n k : Nat} (hl : xs.length = 5 * n) (hk : k < n) :
    (w.cell? ⟨g, k * 5, none⟩ = some (iv (el xs (k * 5))) /\ w.cell? ⟨g, k * 5 + 1, none⟩ = some (iv (el xs (k * 5 + 1))) /\ w.cell? ⟨g, k * 5 + 2, none⟩ = some (iv (el xs (k * 5 + 2))) /\ w.cell? ⟨g, k * 5 + 3, none⟩ = some (iv (el xs (k * 5 + 3))) /\ w.cell? ⟨g, k * 5 + 4, none⟩ = some (iv (el xs (k * 5 + 4)))) /\
    w.frozen? ⟨g, k * 5, none⟩ = false /\ w.frozen? ⟨g, k * 5 + 1, none⟩ = false /\ w.frozen? ⟨g, k * 5 + 2, none⟩ = false /\ w.frozen? ⟨g, k * 5 + 3, none⟩ = false /\ w.frozen? ⟨g, k * 5 + 4, none⟩ = false :=
  ⟨⟨(h (k * 5) (by omega)).1, (h (k * 5 + 1) (by omega)).1, (h (k * 5 + 2) (by omega)).1, (h (k * 5 + 3) (by omega)).1, (h (k * 5 + 4) (by omega)).1⟩,
   (h (k * 5) (by omega)).2, (h (k * 5 + 1) (by omega)).2, (h (k * 5 + 2) (by omega)).2, (h (k * 5 + 3) (by omega)).2, (h (k * 5 + 4) (by omega)).2⟩
theorem IQ {p:Nat->Prop} {k:Nat} (h:∀i,i<k*5->p i) (h0:p (k*5)) (h1:p (k*5+1)) (h2:p (k*5+2)) (h3:p (k*5+3)) (h4:p (k*5+4)):∀i,i<(k+1)*5->p i:=by
 intro i hi;by_cases e:i<k*5
 ·exact h i e
 ·obtain rfl|rfl|rfl|rfl|rfl:i=k*5\/i=k*5+1\/i=k*5+2\/i=k*5+3\/i=k*5+4:=by omega
  all_goals assumption
theorem AA (a b c d e a' b' c' d' e':Int) (w:World) :
  Calls prog 182 #[.agg #[iv a,iv b,iv c,iv d,iv e],.agg #[iv a',iv b',iv c',iv d',iv e']] w fun r w'=>r=.returned (.bool (five a b c d e a' b' c' d' e'))/\∃o1 o2,w'=(w.alloc o1).alloc o2:=by
 have F:Hid (five a b c d e a' b' c' d' e'=(!(a != a')&&(!(b != b')&&(!(c != c')&&(!(d != d') && !(e != e')))))):=aba (by unfold five;rw[Bool.eq_iff_iff];simp);cases ka:(a != a')
 ·cases kb:(b != b')
  ·cases kc:(c != c')
   ·cases kd:(d != d')
    ·cases ke:(e != e')
     all_goals
      go_enter func182,ntmps182;go_wp2;go_ret;exact⟨rB (by rw[F.o,ka,kb,kc,kd,ke];rfl),_,_,rfl⟩
    ·go_enter func182,ntmps182;go_wp2;go_ret;exact⟨rB (by rw[F.o,kd];simp),_,_,rfl⟩
   ·go_enter func182,ntmps182;go_wp2;go_ret;exact⟨rB (by rw[F.o,kc];simp),_,_,rfl⟩
  ·go_enter func182,ntmps182;go_wp2;go_ret;exact⟨rB (by rw[F.o,kb];simp),_,_,rfl⟩
 ·go_enter func182,ntmps182;go_wp2;go_ret;exact⟨rB (by rw[F.o,ka];simp),_,_,rfl⟩
theorem G6 (w:World) (a b:Option Addr) (ca cb n m:Nat) (xs ys:List Int) (ha:aF w a xs) (hb:aF w b ys) (lx:xs.length=5*n) (ly:ys.length=5*m) (bx:n<=2000000) (by_:m<=2000000) :
  Calls prog 126 #[.slice a n ca,.slice b m cb] w fun e w'=>e=.returned (.bool (decide (xs=ys)))/\w.grownBy w' none:=by
 by_cases hl:n=m
 ·subst hl;have HX:=aba lx;have HY:=aba ly;clear lx ly;go_enter func126,ntmps126;go_wp2;go_loopw [5] (fun j wr=>∃k:Nat,k<=n/\j=iv k/\(∀i,i<k*5->el xs i=el ys i)/\w.grownBy wr none) (fun j _=>n-(intOf j).toNat)
  case atStart=>exact⟨0,Nat.zero_le _,rfl,fun i hi=>absurd hi (by omega),World.grownBy.refl _ _⟩
  case round=>
   obtain⟨k,hk,rfl,heq,hg⟩:=hrel;have HE:=aba heq;clear heq;by_cases hlt:k<n
   ·obtain⟨g1,o1,rfl,p0,p1,p2,p3,p4⟩:=(ha.kept hg).five HX.o hlt;obtain⟨g2,o2,rfl,q0,q1,q2,q3,q4⟩:=(hb.kept hg).five HY.o hlt;clear ha hb;cases hf:five (el xs (k*5)) (el xs (k*5+1)) (el xs (k*5+2)) (el xs (k*5+3)) (el xs (k*5+4)) (el ys (k*5)) (el ys (k*5+1)) (el ys (k*5+2)) (el ys (k*5+3)) (el ys (k*5+4))
    ·go_wp2;go_region_with (go_at_call 182;refine(AA _ _ _ _ _ _ _ _ _ _ _).mono ?_;rintro e w'⟨rfl,o5,o6,rfl⟩)
     all_goals
      go_wp2;go_ret;refine⟨rB ?_,grownBy_drew (grownBy_alloc (grownBy_alloc hg _) _)⟩;symm;rw[decide_eq_false_iff_not];intro e;simp[five,e]at hf
    ·go_wp2;go_region_with (go_at_call 182;refine(AA _ _ _ _ _ _ _ _ _ _ _).mono ?_;rintro e w'⟨rfl,o5,o6,rfl⟩)
     all_goals
      go_wp2;go_roundw
      case rel=>
       simp only[five,decide_eq_true_eq]at hf;obtain⟨f0,f1,f2,f3,f4⟩:=hf;exact⟨k+1,by omega,by go_num,IQ HE.o f0 f1 f2 f3 f4,grownBy_drew (grownBy_alloc (grownBy_alloc hg _) _)⟩
      case measure=>simp[intOf];omega
   ·go_wp2;go_ret;exact⟨rB (by symm;rw[decide_eq_true_iff];exact tu (HX.o.trans HY.o.symm) (fun i hi=>HE.o i (by have:=HX.o;omega))),hg⟩
 ·have kl:(((n:Nat):Int) != ((m:Nat):Int))=true:=by rw[bne_iff_ne];omega
  have HL:Hid (¬n=m):=hl;have HX:=aba lx;have HY:=aba ly;clear hl lx ly;go_enter func126,ntmps126;go_wp2;go_ret;exact⟨rB (by symm;rw[decide_eq_false_iff_not];intro e;apply HL.o;have:=HX.o;have:=HY.o;rw[e]at *;omega),World.grownBy.refl _ _⟩
theorem Iu (a b c d e:Int) (w:World) :
  Calls prog 165 #[.agg #[iv a,iv b,iv c,iv d,iv e]] w fun r w'=>r=.returned (.agg #[iv a,iv b,iv c,iv d,iv e])/\∃o1 o2 o3,w'=((w.alloc o1).alloc o2).alloc o3:=by
 go_enter func165,ntmps165;go_wp2;refine bodyPost_ret (v:=.agg #[iv a,iv b,iv c,iv d,iv e]) ?_ rfl ⟨rfl,_,_,_,rfl⟩;rw[aj rfl];go_simp
theorem Tryz.jW:(prog.info? 179).map (fun i=>(i.zero,i.size,i.bytes))=some (some (.agg #[iv 0,iv 0,iv 0,iv 0,iv 0]),5,40):=by kernel_rfl
theorem XH (n:Nat):(madeCells (Value.agg #[iv 0,iv 0,iv 0,iv 0,iv 0]).cells (n*5)).toList=(List.replicate (5*n) (0:Int)).map (Value.int .i64):=by
 have hz:∀j,j<5->(Value.agg #[iv 0,iv 0,iv 0,iv 0,iv 0]).cells[j]! = iv 0:=by
  intro j hj;obtain rfl|rfl|rfl|rfl|rfl:j=0\/j=1\/j=2\/j=3\/j=4:=by omega
  all_goals rfl
 have hs:(Value.agg #[iv 0,iv 0,iv 0,iv 0,iv 0]).cells.size=5:=rfl;apply List.ext_getElem
 ·simp[size_madeCells];omega
 ·intro i h1 h2;simp only[madeCells,hs,Array.toList_map,List.getElem_map,List.getElem_replicate];exact hz _ (Nat.mod_lt _ (by decide))
theorem cZ {w:World} {base g n cap:Nat} {xs:List Int} (h:w.ownsRow base 179 5 (.slice (some (abb g 0)) n cap) n (xs.map (Value.int .i64))):Own w g xs:=by
 intro i hi;rcases h with⟨hl,⟨e,_⟩|⟨g',cap',cur,e,_,hgg,hn,_,hsz,ht⟩⟩
 ·cases e
 ·cases e;simp at hl
  have hc:cur[i]? = some (iv (xs[i]?.getD 0)):=by
   have:(cur.toList.take (n*5))[i]? = (xs.map (Value.int .i64))[i]? := by rw[ht]
   rw[List.getElem?_take,if_pos (by omega)]at this;simpa[hi] using this
  refine⟨?_,?_⟩
  ·simp[World.cell?,hgg,hc]
  ·simp[World.frozen?,hgg]
def nY (xs:List Int) (k:Nat) (a b c d e:Int):List Int:=((((xs.set (k*5) a).set (k*5+1) b).set (k*5+2) c).set (k*5+3) d).set (k*5+4) e
theorem zD (xs:List Int) (k:Nat) (a b c d e:Int):(nY xs k a b c d e).length=xs.length:=by simp[nY]
theorem zB {xs:List Int} {k:Nat} {a b c d e:Int} {i:Nat} (h:i<k*5):el (nY xs k a b c d e) i=el xs i:=by
 unfold el nY;rw[List.getElem?_set_ne (by omega),List.getElem?_set_ne (by omega),List.getElem?_set_ne (by omega),List.getElem?_set_ne (by omega),List.getElem?_set_ne (by omega)]
theorem zC {xs:List Int} {k:Nat} {a b c d e:Int} (h:k*5+4<xs.length):el (nY xs k a b c d e) (k*5)=a/\el (nY xs k a b c d e) (k*5+1)=b/\el (nY xs k a b c d e) (k*5+2)=c/\el (nY xs k a b c d e) (k*5+3)=d/\el (nY xs k a b c d e) (k*5+4)=e:=by
 unfold el nY;refine⟨?_,?_,?_,?_,?_⟩
 ·rw[List.getElem?_set_ne (by omega),List.getElem?_set_ne (by omega),List.getElem?_set_ne (by omega),List.getElem?_set_ne (by omega),List.getElem?_set_self (by omega)];rfl
 ·rw[List.getElem?_set_ne (by omega),List.getElem?_set_ne (by omega),List.getElem?_set_ne (by omega),List.getElem?_set_self (by simp;omega)];rfl
 ·rw[List.getElem?_set_ne (by omega),List.getElem?_set_ne (by omega),List.getElem?_set_self (by simp;omega)];rfl
 ·rw[List.getElem?_set_ne (by omega),List.getElem?_set_self (by simp;omega)];rfl
 ·rw[List.getElem?_set_self (by simp;omega)];rfl
theorem Own.nY {w:World} {g:Nat} {xs:List Int} (h:Own w g xs) (k:Nat) (a b c d e:Int) :
  Own (((((w.setCell ⟨g,k*5,none⟩ (iv a)).setCell ⟨g,k*5+1,none⟩ (iv b)).setCell ⟨g,k*5+2,none⟩ (iv c)).setCell ⟨g,k*5+3,none⟩ (iv d)).setCell ⟨g,k*5+4,none⟩ (iv e)) g (nY xs k a b c d e):=
 ((((h.set a).set b).set c).set d).set e
theorem ww {w wr:World} {g:Nat} {row:Option Nat} (h:w.grownBy wr row) (hr:row=some g\/w.heap.size<=g) (k0 k1 k2 k3 k4:Nat) (a b c d e:Value) :
  w.grownBy (((((wr.setCell ⟨g,k0,none⟩ a).setCell ⟨g,k1,none⟩ b).setCell ⟨g,k2,none⟩ c).setCell ⟨g,k3,none⟩ d).setCell ⟨g,k4,none⟩ e) row:=by
 have one:∀ {wx:World} (k:Nat) (v:Value),w.grownBy wx row->w.grownBy (wx.setCell ⟨g,k,none⟩ v) row:=fun {wx} k v hx=>
  ⟨hx.os,hx.tape,hx.output,by simpa using hx.size,fun j hj hne=>(Below.heap_setCell _ _ _ _ (by
   rcases hr with rfl|hr
   ·intro q;apply hne;rw[q]
   ·simp;omega)).trans (hx.block j hj hne)⟩
 exact one _ _ (one _ _ (one _ _ (one _ _ (one _ _ h))))
theorem FH (w:World) (a:Option Addr) (ca n:Nat) (xs:List Int) (ha:aF w a xs) (lx:xs.length=5*n) (bx:n<=2000000) :
  Calls prog 115 #[.slice a n ca] w fun e w'=>e=.returned (.slice (some (abb w.heap.size 0)) n n)/\Own w' w.heap.size xs/\w.heap.size<w'.heap.size/\w.grownBy w' none:=by
 obtain⟨i,hi,hz0,hz1,hz2⟩:=info_parts Tryz.jW;have HX:=aba lx;clear lx;go_enter func115,ntmps115;go_wp2_with (first|(at_make;refine wpList_make_full _ rfl _ _ 36 rfl w.heap.size 179 i (.agg #[iv 0,iv 0,iv 0,iv 0,iv 0]) 5 underlying36 hi hz0 hz1 _ _ _ _ n rfl rfl rfl rfl ?c1 ?c2 ?c3 ?_))
 case c1=>rw[hz2];omega
 case c2=>unfold maxLen;omega
 case c3=>exact Nat.le_refl _
 intro w1 hown hg;have ho:Own w1 w.heap.size (List.replicate (5*n) 0):=cZ (base:=w.heap.size) (n:=n) (cap:=n) (by rw[<-XH];exact hown);have hs:w.heap.size<w1.heap.size:=(hown.lt _ rfl).2;clear hown;go_wp2;go_loopw [4] (fun j wr=>∃(k:Nat) (zs:List Int),k<=n/\j=iv k/\zs.length=5*n/\Own wr w.heap.size zs/\(∀i,i<k*5->el zs i=el xs i)/\w.heap.size<wr.heap.size/\w.grownBy wr none) (fun j _=>n-(intOf j).toNat)
 case atStart=>exact⟨0,_,Nat.zero_le _,rfl,by simp,ho,fun i hi=>absurd hi (by omega),hs,hg⟩
 case round=>
  obtain⟨k,zs,hk,rfl,hl,hown,heq,hsz,hgr⟩:=hrel;have HE:=aba heq;have HL:=aba hl;have HO:=aba hown;have HS:=aba hsz;clear heq hl;by_cases hlt:k<n
  ·obtain⟨g1,o1,rfl,p0,p1,p2,p3,p4⟩:=(ha.kept hgr).five HX.o hlt;clear ha hown hsz;go_wp2_with fail;refine(Iu _ _ _ _ _ _).mono ?_;rintro e w'⟨rfl,o5,o6,o7,rfl⟩;obtain⟨X,hX⟩:∃X:World,X=((wr.alloc o5).alloc o6).alloc o7:=⟨_,rfl⟩
   rw[<-hX];have hx:wr.grownBy X none:=by rw[hX];exact grownBy_alloc (grownBy_alloc (grownBy_alloc (World.grownBy.refl _ _) _) _) _
   have HX2:Hid (w.grownBy X none):=aba (grownBy_trans hgr hx);have HO2:=aba (HO.o.kept hx (by simp));have HS2:Hid (w.heap.size<X.heap.size):=aba (Nat.lt_of_lt_of_le HS.o hx.size);clear hX hx p0 p1 p2 p3 p4 hgr;obtain⟨⟨c0,c1,c2,c3,c4⟩,g0,g1',g2,g3,g4⟩:=HO2.o.five HL.o hlt;go_wp2_with fail;go_roundw
   case rel=>
    have hk4:k*5+4<zs.length:=by have:=HL.o;omega
    obtain⟨n0,n1,n2,n3,n4⟩:=zC (a:=el xs (k*5)) (b:=el xs (k*5+1)) (c:=el xs (k*5+2)) (d:=el xs (k*5+3)) (e:=el xs (k*5+4)) hk4;exact⟨k+1,nY zs k _ _ _ _ _,by omega,by go_num,by rw[zD];exact HL.o,HO2.o.nY k _ _ _ _ _,IQ (fun i hi=>(zB hi).trans (HE.o i hi)) n0 n1 n2 n3 n4,by simpa using HS2.o,ww HX2.o (.inr (Nat.le_refl _)) _ _ _ _ _ _ _ _ _ _⟩
   case measure=>simp[intOf];omega
  ·clear hown hsz;go_wp2;go_ret;have e:zs=xs:=tu (HL.o.trans HX.o.symm) (fun i hi=>HE.o i (by have:=HL.o;omega));exact⟨rfl,by rw[<-e];exact HO.o,HS.o,hgr⟩
theorem mP (q:Int) (n i:Nat) (h:i<n):el (marks q n) i=q+(i:Int):=vN q n i h
theorem zU (w:World) (g ca n:Nat) (xs:List Int) (q:Int) (ha:Own w g xs) (lx:xs.length=5*n) (bx:n<=2000000) (q0:0<=q) (q1:q<=100000000) :
  Calls prog 127 #[.slice (some (abb g 0)) n ca,iv q] w fun e w'=>e=.returned (iv (q+5*(n:Int)))/\Own w' g (marks q (5*n))/\w.grownBy w' (some g):=by
 have HX:=aba lx;clear lx;go_enter func127,ntmps127;go_wp2;go_loopw [1,5] (fun m j wr=>∃(k:Nat) (zs:List Int),k<=n/\j=iv k/\m=iv (q+5*(k:Int))/\zs.length=5*n/\Own wr g zs/\(∀i,i<k*5->el zs i=q+(i:Int))/\w.grownBy wr (some g)) (fun _ j _=>n-(intOf j).toNat)
 case atStart=>exact⟨0,xs,Nat.zero_le _,rfl,by simp,HX.o,ha,fun i hi=>absurd hi (by omega),World.grownBy.refl _ _⟩
 case round=>
  obtain⟨k,zs,hk,rfl,rfl,hl,hown,heq,hgr⟩:=hrel;have HE:=aba heq;have HL:=aba hl;have HO:=aba hown;have HG:=aba hgr;clear heq hl hgr ha;by_cases hlt:k<n
  ·obtain⟨⟨c0,c1,c2,c3,c4⟩,g0,g1,g2,g3,g4⟩:=hown.five HL.o hlt;clear hown;go_wp2;go_roundw
   case rel=>
    have hk4:k*5+4<zs.length:=by have:=HL.o;omega
    obtain⟨n0,n1,n2,n3,n4⟩:=zC (a:=q+5*(k:Int)) (b:=q+5*(k:Int)+1) (c:=q+5*(k:Int)+1+1) (d:=q+5*(k:Int)+1+1+1) (e:=q+5*(k:Int)+1+1+1+1) hk4
    exact⟨k+1,nY zs k _ _ _ _ _,by omega,by go_num,by rw[show q+5*(k:Int)+1+1+1+1+1=q+5*((k+1:Nat):Int) from by omega],by rw[zD];exact HL.o,HO.o.nY k _ _ _ _ _,
     IQ (fun i hi=>(zB hi).trans (HE.o i hi)) (by rw[n0];omega) (by rw[n1];omega) (by rw[n2];omega) (by rw[n3];omega) (by rw[n4];omega),ww HG.o (.inl rfl) _ _ _ _ _ _ _ _ _ _⟩
   case measure=>simp[intOf];omega
  ·clear hown;obtain rfl:k=n:=by omega
   go_wp2;go_ret
   have e:zs=marks q (5*k):=tu (by rw[qo];exact HL.o) (fun i hi=>by
    have:=HL.o
    exact(HE.o i (by omega)).trans (mP q _ i (by omega)).symm)
   exact⟨rfl,by rw[<-e];exact HO.o,HG.o⟩
theorem Ah (w:World) (a:Option Addr) (ca n:Nat) (q:Int) (ha:aF w a (marks q (5*n))) (bx:n<=2000000) (q0:0<=q) (q1:q<=100000000) :
  Calls prog 128 #[.slice a n ca,iv q] w fun e w'=>e=.returned (iv (q+5*(n:Int)))/\w.grownBy w' none:=by
 go_enter func128,ntmps128;go_wp2;go_loopw [1,5] (fun m j wr=>∃k:Nat,k<=n/\j=iv k/\m=iv (q+5*(k:Int))/\w.grownBy wr none) (fun _ j _=>n-(intOf j).toNat)
 case atStart=>exact⟨0,Nat.zero_le _,rfl,by simp,World.grownBy.refl _ _⟩
 case round=>
  obtain⟨k,hk,rfl,rfl,hgr⟩:=hrel;by_cases hlt:k<n
  ·obtain⟨g1,o1,rfl,p0,p1,p2,p3,p4⟩:=(ha.kept hgr).five (qo q (5*n)) hlt;rw[show el (marks q (5*n)) (k*5)=q+5*(k:Int) from by rw[mP _ _ _ (by omega)];omega]at p0;rw[show el (marks q (5*n)) (k*5+1)=q+5*(k:Int)+1 from by rw[mP _ _ _ (by omega)];omega]at p1;rw[show el (marks q (5*n)) (k*5+2)=q+5*(k:Int)+1+1 from by rw[mP _ _ _ (by omega)];omega]at p2;rw[show el (marks q (5*n)) (k*5+3)=q+5*(k:Int)+1+1+1 from by rw[mP _ _ _ (by omega)];omega]at p3;rw[show el (marks q (5*n)) (k*5+4)=q+5*(k:Int)+1+1+1+1 from by rw[mP _ _ _ (by omega)];omega]at p4;clear ha;go_wp2;go_roundw
   case rel=>exact⟨k+1,by omega,by go_num,by rw[show q+5*(k:Int)+1+1+1+1+1=q+5*((k+1:Nat):Int) from by omega],hgr⟩
   case measure=>simp[intOf];omega
  ·obtain rfl:k=n:=by omega
   go_wp2;go_ret;exact⟨rfl,hgr⟩
theorem JR (w:World) (ca:Nat) (q:Int):Calls prog 127 #[.slice none 0 ca,iv q] w fun e w'=>e=.returned (iv q)/\w'=w:=by
 go_enter func127,ntmps127;go_wp2;go_loop [1,5] (fun m j=>m=iv q/\j=iv 0) (fun _ _=>0)
 case atStart=>exact⟨rfl,rfl⟩
 case round=>
  obtain⟨rfl,rfl⟩:=hrel;go_wp2;go_ret;exact⟨rfl,rfl⟩
theorem Gj (w:World) (base ca n:Nat) (a:Option Addr) (xs:List Int) (q:Int) (h:Slot w base a xs) (lx:xs.length=5*n) (bx:n<=2000000) (q0:0<=q) (q1:q<=100000000) :
  Calls prog 127 #[.slice a n ca,iv q] w fun e w'=>e=.returned (iv (q+5*(n:Int)))/\Slot w' base a (marks q (5*n))/\w.grownBy w' (blk a):=by
 rcases h with⟨rfl,rfl⟩|⟨g,rfl,hb,hlt,ho⟩
 ·obtain rfl:n=0:=by simp at lx;omega
  refine(JR w ca q).mono ?_;rintro e w'⟨rfl,rfl⟩;exact⟨by simp,.inl ⟨rfl,by simp[marks]⟩,World.grownBy.refl _ _⟩
 ·refine(zU w g ca n xs q ho lx bx q0 q1).mono ?_;rintro e w'⟨rfl,ho',hg⟩;exact⟨rfl,.inr ⟨g,rfl,hb,Nat.lt_of_lt_of_le hlt hg.size,ho'⟩,hg⟩
theorem xn (w:World) (a:Option Addr) (ca n:Nat) (left:Int) (hn:n<=9223372036854775807) (l0:0<=left) (l1:left<=2000000) :
  Calls prog 100 #[.slice a n ca,iv left] w fun e w'=>e=.returned (iv (if left-(n:Int)<0 then -1 else left-(n:Int)))/\w'=w:=by
 by_cases h:left-(n:Int)<0
 all_goals
  go_enter func100,ntmps100;go_wp2;go_ret;exact⟨rfl,rfl⟩
theorem WX (w:World) (a b:Option Addr) (ca cb n m:Nat) (left:Int) (hn:n<=9223372036854775807) (hm:m<=9223372036854775807) (l0:0<=left) (l1:left<=2000000) :
  Calls prog 54 #[.agg #[.slice a n ca,.slice b m cb],iv left] w fun e w'=>e=.returned (iv (szB n m left))/\Kept 0 0 w w':=by
 by_cases h:left-(n:Int)<0
 ·have E:Hid (szB n m left = -1):=aba (by simp[szB,h]);have e1:(if left-(n:Int)<0 then (-1:Int) else left-(n:Int)) = -1:=by simp[h]
  go_enter func54,ntmps54;go_wp2_with fail;refine(oJ _ a ca n left hn l0 l1).mono ?_;rintro e w'⟨rfl,rfl⟩;rw[e1];go_wp2_with fail;go_ret;exact⟨rI E.o.symm,kept_alloc _ _⟩
 ·have e1:(if left-(n:Int)<0 then (-1:Int) else left-(n:Int))=left-(n:Int):=by simp[h]
  by_cases h2:left-(n:Int)-(m:Int)<0
  ·have E:Hid (szB n m left = -1):=aba (by simp[szB,h,h2]);have e2:(if left-(n:Int)-(m:Int)<0 then (-1:Int) else left-(n:Int)-(m:Int)) = -1:=by simp[h2]
   go_enter func54,ntmps54;go_wp2_with fail;refine(oJ _ a ca n left hn l0 l1).mono ?_;rintro e w'⟨rfl,rfl⟩;rw[e1];go_wp2_with fail;refine(xn _ b cb m (left-(n:Int)) hm (by omega) (by omega)).mono ?_;rintro e w'⟨rfl,rfl⟩;rw[e2];go_wp2_with fail;go_ret;exact⟨rI E.o.symm,kept_alloc _ _⟩
  ·have E:Hid (szB n m left=left-(n:Int)-(m:Int)):=aba (by simp[szB,h,h2]);have e2:(if left-(n:Int)-(m:Int)<0 then (-1:Int) else left-(n:Int)-(m:Int))=left-(n:Int)-(m:Int):=by simp[h2]
   go_enter func54,ntmps54;go_wp2_with fail;refine(oJ _ a ca n left hn l0 l1).mono ?_;rintro e w'⟨rfl,rfl⟩;rw[e1];go_wp2_with fail;refine(xn _ b cb m (left-(n:Int)) hm (by omega) (by omega)).mono ?_;rintro e w'⟨rfl,rfl⟩;rw[e2];go_wp2_with fail;go_ret;exact⟨rI E.o.symm,kept_alloc _ _⟩
theorem Wx (w:World) (a b:Option Addr) (ca cb m:Nat) (xs ys:List Int) (ha:aF w a xs) (hb:aF w b ys) (lx:xs.length<=2000000) (ly:ys.length=5*m) (bm:m<=2000000) :
  Calls prog 60 #[.agg #[.slice a xs.length ca,.slice b m cb]] w fun e w'=>∃g1 g2:Nat,e=.returned (.agg #[.slice (some (abb g1 0)) xs.length xs.length,.slice (some (abb g2 0)) m m])/\Own w' g1 xs/\Own w' g2 ys/\w.heap.size<=g1/\g1<g2/\g2<w'.heap.size/\Kept 0 0 w w':=by
 have HY:=aba ly;have HA:=aba ha;have HB:=aba hb;clear ly ha hb;go_enter func60,ntmps60;go_wp2_with fail;have k0:Kept 0 0 w (((w.alloc (.cells #[.slice a xs.length ca,.slice b m cb] 27)).alloc (.cells #[.slice none 0 0,.slice none 0 0] 38)).alloc (.cells #[.slice none 0 0,.slice none 0 0] 38)):=ah (ah (kept_alloc _ _) _) _;refine(BK _ a ca xs (HA.o.ag k0) lx).mono ?_;rintro e w1⟨rfl,o1,z1,g1⟩;have k1:=aU g1;have B0:=((((Blk.new w #[.slice a xs.length ca,.slice b m cb] 27).alloc (.cells #[.slice none 0 0,.slice none 0 0] 38)).alloc (.cells #[.slice none 0 0,.slice none 0 0] 38)).ae k1)
 have B1:=(((Blk.new (w.alloc (.cells #[.slice a xs.length ca,.slice b m cb] 27)) #[.slice none 0 0,.slice none 0 0] 38).alloc (.cells #[.slice none 0 0,.slice none 0 0] 38)).ae k1)
 have B2:=((Blk.new ((w.alloc (.cells #[.slice a xs.length ca,.slice b m cb] 27)).alloc (.cells #[.slice none 0 0,.slice none 0 0] 38)) #[.slice none 0 0,.slice none 0 0] 38).ae k1)
 simp only[World.size_alloc]at B1 B2 z1 o1 ⊢;have c1:=B0.cell (i:=1) rfl;have d0:=B2.cell (i:=0) rfl;have d1:=B2.cell (i:=1) rfl;have f0:=B2.frozen 0;have f1:=B2.frozen 1;have HK1:=aba (k0.trans k1);have HO1:=aba o1;have HZ1:=aba z1;have HB1:=aba B1;have HB2:=aba B2;clear k0 k1 g1 o1 z1 B0 B1 B2;go_wp2_with fail;obtain⟨X,hX⟩:∃X:World,X=w1.setCell (abb (w.heap.size+1+1) 0) (.slice (some ⟨w.heap.size+1+1+1,0,none⟩) xs.length xs.length):=⟨_,rfl⟩
 rw[<-hX];have HKX:Hid (Kept 0 0 w X):=aba (by rw[hX];exact af HK1.o _ _ _ (.inr (by omega)));have HOX:Hid (Own X (w.heap.size+1+1+1) xs):=aba (by rw[hX];exact HO1.o.setOther _ _ _ (by omega));have aaK:Hid (Blk X (w.heap.size+1) #[.slice none 0 0,.slice none 0 0] 38):=aba (by rw[hX];exact HB1.o.other _ _ _ (by omega));have aaJ:Hid (Blk X (w.heap.size+1+1) #[.slice (some ⟨w.heap.size+1+1+1,0,none⟩) xs.length xs.length,.slice none 0 0] 38):=aba (by rw[hX];exact HB2.o.set _ _);have HZX:Hid (w.heap.size+1+1+1<X.heap.size):=aba (by rw[hX];simpa using HZ1.o);clear hX c1 d0 d1 f0 f1 HB1 HB2 HO1 HK1 HZ1;refine(FH _ b cb m ys (HB.o.ag HKX.o) HY.o bm).mono ?_;rintro e w2⟨rfl,o2,z2,g2⟩;have k2:=aU g2;have HK2:=aba (HKX.o.trans k2);have HO1:=aba (HOX.o.ag k2 (by omega));have HO2:=aba o2;have HZ2:=aba z2;have B1:=aaK.o.ae k2;have B2:=aaJ.o.ae k2;have HB1:=aba B1;have HB2:=aba B2;have d0:=B2.cell (i:=0) rfl;have d1:=B2.cell (i:=1) rfl;have f0:=B2.frozen 0;have f1:=B2.frozen 1;have e0:=B1.cell (i:=0) rfl;have e1:=B1.cell (i:=1) rfl;have h0:=B1.frozen 0;have h1:=B1.frozen 1;clear g2 k2 o2 z2 B1 B2;go_wp2_with fail;refine bodyPost_ret (v:=.agg #[.slice (some ⟨w.heap.size+1+1+1,0,none⟩) xs.length xs.length,.slice (some (abb X.heap.size 0)) m m]) ?_ rfl ⟨w.heap.size+1+1+1,X.heap.size,rfl,?_,?_,by omega,HZX.o,?_,?_⟩
 ·exact results_cell_row rfl _ _ _ _ _ (0,0) _ rfl ((((HB1.o.other _ _ _ (by omega)).set _ _).set _ _)) underlying38 rfl (by kernel_rfl)
 ·exact((HO1.o.setOther _ _ _ (by omega)).setOther _ _ _ (by omega)).setOther _ _ _ (by omega)
 ·have:=HZX.o
  exact((HO2.o.setOther _ _ _ (by omega)).setOther _ _ _ (by omega)).setOther _ _ _ (by omega)
 ·simpa using HZ2.o
 ·exact af (af (af HK2.o _ _ _ (.inr (by omega))) _ _ _ (.inr (by omega))) _ _ _ (.inr (by omega))
theorem Yj (w:World) (a b c d:Option Addr) (ca cb cc cd m n:Nat) (xs ys us vs:List Int) (ha:aF w a xs) (hb:aF w b ys) (hc:aF w c us) (hd:aF w d vs) (lx:xs.length<=2000000) (lu:us.length<=2000000) (ly:ys.length=5*m) (lv:vs.length=5*n) (bm:m<=2000000) (bn:n<=2000000) :
  Calls prog 69 #[.agg #[.slice a xs.length ca,.slice b m cb],.agg #[.slice c us.length cc,.slice d n cd]] w fun e w'=>e=.returned (.bool (decide (xs=us)&&decide (ys=vs)))/\Kept 0 0 w w':=by
 have HY:=aba ly;have HV:=aba lv;clear ly lv;have k0:Kept 0 0 w ((w.alloc (.cells #[.slice a xs.length ca,.slice b m cb] 38)).alloc (.cells #[.slice c us.length cc,.slice d n cd] 38)):=ah (kept_alloc _ _) _;have HK0:=aba k0;have HA:=aba ha;have HB:=aba hb;have HC:=aba hc;have HD:=aba hd;clear k0 ha hb hc hd;cases h1:decide (xs=us)
 ·go_enter func69,ntmps69;go_wp2_with fail;refine(qP _ a c ca cc xs us (HA.o.ag HK0.o) (HC.o.ag HK0.o) lx lu).mono ?_;rintro e w1⟨rfl,g1⟩;rw[h1];have HK1:=aba (HK0.o.trans (aU g1));clear g1;go_wp2_with fail;go_ret;exact⟨rfl,HK1.o⟩
 ·go_enter func69,ntmps69;go_wp2_with fail;refine(qP _ a c ca cc xs us (HA.o.ag HK0.o) (HC.o.ag HK0.o) lx lu).mono ?_;rintro e w1⟨rfl,g1⟩;rw[h1];have k1:=aU g1;have B0:=((Blk.new w #[.slice a xs.length ca,.slice b m cb] 38).alloc (.cells #[.slice c us.length cc,.slice d n cd] 38)).ae k1;have B1:=(Blk.new (w.alloc (.cells #[.slice a xs.length ca,.slice b m cb] 38)) #[.slice c us.length cc,.slice d n cd] 38).ae k1;simp only[World.size_alloc]at B1;have c1:=B0.cell (i:=1) rfl;have d1:=B1.cell (i:=1) rfl;have HK1:=aba (HK0.o.trans k1);clear g1 k1 B0 B1;go_wp2_with fail;refine(G6 _ b d cb cd m n ys vs (HB.o.ag HK1.o) (HD.o.ag HK1.o) HY.o HV.o bm bn).mono ?_;rintro e w2⟨rfl,g2⟩;have HK2:=aba (HK1.o.trans (aU g2));clear g2;cases h2:decide (ys=vs)
  all_goals
   go_wp2_with fail;go_ret;exact⟨rB (by rw[h2];rfl),HK2.o⟩
theorem Qj (w:World) (a b:Option Addr) (ca cb n m:Nat) (q:Int) (ha:aF w a (marks q n)) (hb:aF w b (marks (q+(n:Int)) (5*m))) (lx:n<=2000000) (bm:m<=2000000) (q0:0<=q) (q1:q<=1000000) :
  Calls prog 73 #[.agg #[.slice a n ca,.slice b m cb],iv q] w fun e w'=>e=.returned (iv (q+(n:Int)+5*(m:Int)))/\Kept 0 0 w w':=by
 have k0:=kept_alloc w (.cells #[.slice a n ca,.slice b m cb] 38);have HK0:=aba k0;have HA:=aba ha;have HB:=aba hb;clear k0 ha hb;go_enter func73,ntmps73;go_wp2_with fail;refine(pK _ a ca n q (HA.o.ag HK0.o) lx q0 (by omega)).mono ?_;rintro e w1⟨rfl,g1⟩;have k1:=aU g1;have B0:=(Blk.new w #[.slice a n ca,.slice b m cb] 38).ae k1;have c1:=B0.cell (i:=1) rfl;have HK1:=aba (HK0.o.trans k1);clear g1 k1 B0;go_wp2_with fail;refine(Ah _ b cb m (q+(n:Int)) (HB.o.ag HK1.o) bm (by omega) (by omega)).mono ?_;rintro e w2⟨rfl,g2⟩;have HK2:=aba (HK1.o.trans (aU g2));clear g2;go_wp2_with fail;go_ret;exact⟨rfl,HK2.o⟩
theorem xA (s:Int) (w:World) (h1:¬s=1) (h2:¬s=2):Calls prog 103 #[iv s] w fun e w'=>e=.returned (.bool false)/\w'=w:=by
 have k1:(s==1)=false:=by simpa using h1
 have k2:(s==2)=false:=by simpa using h2
 go_enter func103,ntmps103;go_wp2;go_ret;exact⟨rfl,rfl⟩
theorem uK (w:World):Calls prog 103 #[iv 1] w fun e w'=>e=.returned (.bool true)/\w'=w:=by
 go_enter func103,ntmps103;go_wp2;go_ret;exact⟨rfl,rfl⟩
theorem uJ (w:World):Calls prog 103 #[iv 2] w fun e w'=>e=.returned (.bool true)/\w'=w:=by
 go_enter func103,ntmps103;go_wp2;go_ret;exact⟨rfl,rfl⟩
theorem oM (z:Int) (w:World):Calls prog 103 #[iv z] w fun e w'=>e=.returned (.bool (decide (z=1)||decide (z=2)))/\w'=w:=by
 by_cases h1:z=1
 ·subst h1;exact uK w
 ·by_cases h2:z=2
  ·subst h2;exact uJ w
  ·rw[show(decide (z=1)||decide (z=2))=false from by simp[h1,h2]];exact xA z w h1 h2
theorem iR (w:World):Calls prog 205 #[iv 1] w fun e w'=>e=.returned (iv 256)/\w'=w:=by
 go_enter func205,ntmps205;go_wp2;go_ret;exact⟨rfl,rfl⟩
theorem iQ (w:World):Calls prog 205 #[iv 2] w fun e w'=>e=.returned (iv 65536)/\w'=w:=by
 go_enter func205,ntmps205;go_wp2;go_ret;exact⟨rfl,rfl⟩
theorem jT (s v:Int) (w:World) :
  Calls prog 202 #[iv s,iv v] w fun e w'=>e=.returned (.bool (okv s v))/\w'=w:=by
 by_cases h1:s=1
 ·subst h1;go_enter func202,ntmps202;go_wp2_with fail;refine(uK _).mono ?_;rintro e w'⟨rfl,rfl⟩;go_wp2_with fail;refine(iR _).mono ?_;rintro e w'⟨rfl,rfl⟩;go_wp2_with fail;refine(dF _ _ _ _).mono ?_;rintro e w'⟨rfl,rfl⟩;go_wp2_with fail;go_ret;exact⟨rB (by rw[Bool.eq_iff_iff];simp[okv,Pl.top];omega),rfl⟩
 ·by_cases h2:s=2
  ·subst h2;go_enter func202,ntmps202;go_wp2_with fail;refine(uJ _).mono ?_;rintro e w'⟨rfl,rfl⟩;go_wp2_with fail;refine(iQ _).mono ?_;rintro e w'⟨rfl,rfl⟩;go_wp2_with fail;refine(dF _ _ _ _).mono ?_;rintro e w'⟨rfl,rfl⟩;go_wp2_with fail;go_ret;exact⟨rB (by rw[Bool.eq_iff_iff];simp[okv,Pl.top];omega),rfl⟩
  ·go_enter func202,ntmps202;go_wp2_with fail;refine(xA s _ h1 h2).mono ?_;rintro e w'⟨rfl,rfl⟩;go_wp2_with fail;go_ret;exact⟨rB (by simp[okv,h1,h2]),rfl⟩
theorem sS (a:Int) (w:World):Calls prog 203 #[iv a] w fun e w'=>e=.returned (.bool (Pl.addr a))/\w'=w:=by
 go_enter func203,ntmps203;go_wp2_with fail;refine(dF _ _ _ _).mono ?_;rintro e w'⟨rfl,rfl⟩;go_wp2_with fail;go_ret;exact⟨rfl,rfl⟩
theorem jM (a:Int) (w:World):Calls prog 290 #[iv a] w fun e w'=>e=.returned (iv (Pl.kind a))/\w'=w:=by
 by_cases h1:512<=a
 ·have E:Hid (Pl.kind a=1):=aba (by simp[Pl.kind,h1]);go_enter func290,ntmps290;go_wp2;go_ret;exact⟨rI E.o.symm,rfl⟩
 ·cases h2:(decide ((448:Int)<=a)&&decide (a<=495))
  ·cases h3:(decide ((384:Int)<=a)&&decide (a<=447))
   all_goals
    have E:Hid (Pl.kind a=if (decide ((384:Int)<=a)&&decide (a<=447)) then 3 else 0):=aba (by
     simp at h2
     have:¬(448<=a/\a<=495):=by omega
     simp[Pl.kind,h1,this])
    rw[h3]at E;go_enter func290,ntmps290;go_wp2_with fail;refine(dF _ _ _ _).mono ?_;rintro e w'⟨rfl,rfl⟩;rw[h2];go_wp2_with fail;refine(dF _ _ _ _).mono ?_;rintro e w'⟨rfl,rfl⟩;rw[h3];go_wp2_with fail;go_ret;exact⟨rI E.o.symm,rfl⟩
  ·have E:Hid (Pl.kind a=1):=aba (by simp at h2;simp[Pl.kind,h2]);go_enter func290,ntmps290;go_wp2_with fail;refine(dF _ _ _ _).mono ?_;rintro e w'⟨rfl,rfl⟩;rw[h2];go_wp2_with fail;go_ret;exact⟨rI E.o.symm,rfl⟩
theorem zZ (k s a v c:Int) (w:World):Calls prog 148 #[.agg #[iv k,iv s,iv a,iv v,iv c]] w fun e w'=>e=.returned (.bool (fP k s a v c))/\∃o,w'=w.alloc o:=by
 cases h1:(decide (1<=k)&&decide (k<=3))
 ·go_enter func148,ntmps148;go_wp2_with (first|(go_at_call 75;refine st (dF _ _ _ _) ?_;rw[h1])|(go_at_call 202;refine st (jT _ _ _) ?_)|(go_at_call 203;refine st (sS _ _) ?_));go_ret;exact⟨rB (by unfold fP dP;rw[h1];simp),_,rfl⟩
 ·cases h2:okv s v
  ·go_enter func148,ntmps148;go_wp2_with (first|(go_at_call 75;refine st (dF _ _ _ _) ?_;rw[h1])|(go_at_call 202;refine st (jT _ _ _) ?_;rw[h2])|(go_at_call 203;refine st (sS _ _) ?_));go_ret;exact⟨rB (by unfold fP dP;rw[h1,h2];simp),_,rfl⟩
  ·cases h3:Pl.addr a
   ·go_enter func148,ntmps148;go_wp2_with (first|(go_at_call 75;refine st (dF _ _ _ _) ?_;rw[h1])|(go_at_call 202;refine st (jT _ _ _) ?_;rw[h2])|(go_at_call 203;refine st (sS _ _) ?_;rw[h3]));go_ret;exact⟨rB (by unfold fP dP;rw[h1,h2,h3];simp),_,rfl⟩
   ·cases h4:(decide (0<=c)&&decide (c<=3))
    ·go_enter func148,ntmps148;go_wp2_with (first|(go_at_call 75;refine st (dF _ _ _ _) ?_;first|rw[h1]|rw[h4])|(go_at_call 202;refine st (jT _ _ _) ?_;rw[h2])|(go_at_call 203;refine st (sS _ _) ?_;rw[h3]));go_ret;exact⟨rB (by unfold fP dP;rw[h1,h2,h3,h4];simp),_,rfl⟩
    ·cases h5:(k != 3)
     ·cases h6:(c != 0)
      all_goals
       go_enter func148,ntmps148;go_wp2_with (first|(go_at_call 75;refine st (dF _ _ _ _) ?_;first|rw[h1]|rw[h4])|(go_at_call 202;refine st (jT _ _ _) ?_;rw[h2])|(go_at_call 203;refine st (sS _ _) ?_;rw[h3]));go_ret;exact⟨rB (by unfold fP dP;rw[h1,h2,h3,h4,h5,h6];simp),_,rfl⟩
     ·go_enter func148,ntmps148;go_wp2_with (first|(go_at_call 75;refine st (dF _ _ _ _) ?_;first|rw[h1]|rw[h4])|(go_at_call 202;refine st (jT _ _ _) ?_;rw[h2])|(go_at_call 203;refine st (sS _ _) ?_;rw[h3]));go_ret;exact⟨rB (by unfold fP dP;rw[h1,h2,h3,h4,h5];simp),_,rfl⟩
theorem oN (w:World) (a b:Option Addr) (ca cb m:Nat) (xs ys:List Int) (ha:aF w a xs) (hb:aF w b ys) (lx:xs.length<=2000000) (ly:ys.length=5*m) (bm:m<=2000000) :
  Calls prog 102 #[.agg #[.slice a xs.length ca,.slice b m cb]] w fun e w'=>e=.returned (.bool (Pl.eG xs ys m))/\Kept 0 0 w w':=by
 have HA:=aba ha;have HB:=aba hb;have HY:=aba ly;clear ha hb ly;go_enter func102,ntmps102;go_wp2;have HK0:=aba (kept_alloc w (.cells #[.slice a xs.length ca,.slice b m cb] 38));have HW:=aba (Blk.new w #[.slice a xs.length ca,.slice b m cb] 38);obtain⟨W,hW⟩:∃W:World,W=w.alloc (.cells #[.slice a xs.length ca,.slice b m cb] 38):=⟨_,rfl⟩
 rw[<-hW]at HK0 HW ⊢;clear hW;go_loopw [4,8] (fun _ j wr=>∃k:Nat,k<=m/\j=iv k/\(∀i,i<k->sF ys i=true)/\Kept 0 0 W wr) (fun _ j _=>m-(intOf j).toNat)
 case atStart=>exact⟨0,Nat.zero_le _,rfl,fun i hi=>absurd hi (Nat.not_lt_zero i),Kept.refl _ _ _⟩
 case round=>
  obtain⟨k,hk,rfl,heq,hkept⟩:=hrel;have HE:=aba heq;have HK:=aba hkept;clear heq hkept;by_cases hlt:k<m
  ·obtain⟨g1,o1,rfl,p0,p1,p2,p3,p4⟩:=(HB.o.ag (HK0.o.trans HK.o)).five HY.o hlt;cases hb:sF ys k
   ·have hb2:fP (el ys (k*5)) (el ys (k*5+1)) (el ys (k*5+2)) (el ys (k*5+3)) (el ys (k*5+4))=false:=hb;clear hb;go_wp2_with (go_at_call 148;refine(zZ _ _ _ _ _ _).mono ?_;rintro e w'⟨rfl,o,rfl⟩;rw[hb2]);go_ret;exact⟨rB (by unfold Pl.eG;rw[xN hlt hb2];rfl),HK0.o.trans (ah (ah HK.o _) _)⟩
   ·have hb2:fP (el ys (k*5)) (el ys (k*5+1)) (el ys (k*5+2)) (el ys (k*5+3)) (el ys (k*5+4))=true:=hb;clear hb;go_wp2_with (go_at_call 148;refine(zZ _ _ _ _ _ _).mono ?_;rintro e w'⟨rfl,o,rfl⟩;rw[hb2]);go_roundw
    case rel=>exact⟨k+1,by omega,by go_num,kW HE.o hb2,ah (ah HK.o _) _⟩
    case measure=>simp[intOf];omega
  ·have HA1:Hid (jD ys m=true):=aba (xM (fun i hi=>HE.o i (by omega)));have B:=HW.o.ae HK.o;have c0:=B.cell (i:=0) rfl;have c1:=B.cell (i:=1) rfl;have HX:=aba (HA.o.ag (HK0.o.trans HK.o));clear B
   have G:Hid (Pl.eG xs ys m=(((xs.length:Int)==512)&&(bf xs&&decide ((m:Int)<=400)))):=aba (by
    unfold Pl.eG;rw[HA1.o,Bool.true_and];congr 1
    ·rw[Bool.eq_iff_iff];simp;omega
    ·congr 1;rw[Bool.eq_iff_iff];simp;omega)
   cases h1:((xs.length:Int)==512)
   ·go_wp2_with fail;go_ret;exact⟨rB (by rw[G.o,h1];rfl),HK0.o.trans HK.o⟩
   ·cases h2:bf xs
    ·go_wp2_with fail;refine(Eo _ a ca xs HX.o lx).mono ?_;rintro e w'⟨rfl,rfl⟩;rw[h2];go_wp2_with fail;go_ret;exact⟨rB (by rw[G.o,h1,h2];rfl),HK0.o.trans HK.o⟩
    ·cases h3:decide ((m:Int)<=400)
     all_goals
      go_wp2_with fail;refine(Eo _ a ca xs HX.o lx).mono ?_;rintro e w'⟨rfl,rfl⟩;rw[h2];go_wp2_with fail;go_ret;exact⟨rB (by rw[G.o,h1,h2,h3];rfl),HK0.o.trans HK.o⟩
namespace Pl
theorem CX {xs ys:List Int} {m:Nat} (h:eG xs ys m=true):xs.length=512/\bf xs=true/\m<=400/\jD ys m=true:=by
 simp only[eG,Bool.and_eq_true,decide_eq_true_eq]at h;exact⟨h.2.1,h.2.2.1,h.2.2.2,h.1⟩
theorem rW {k s a:Int} (h:code k s a=0) (a0:0<=a):a<=511/\a+s-1<=511:=by
 unfold code at h;split at h
 ·cases h
 ·split at h
  ·cases h
  ·rename_i h1 h2;have k1:¬kind a=1:=fun e=>h2 (.inl e);have k2:¬kind (a+s-1)=1:=fun e=>h2 (.inr e);constructor
   ·refine Decidable.byContradiction fun q=>k1 ?_;have:512<=a:=by omega
    simp[kind,this]
   ·refine Decidable.byContradiction fun q=>k2 ?_;have:512<=a+s-1:=by omega
    simp[kind,this]
theorem uA {h l:Int} (h0:0<=h) (h1:h<=255) (l0:0<=l) (l1:l<=255):bits .or .i64 (h*256) l=h*256+l:=
 bits_join .i64 62 (by decide) ik 8 (h*256) l (by omega) (by omega) (by omega) (by omega) (by omega) (by omega)
end Pl
theorem nD (k s a:Int) (w:World) (s0:1<=s) (s1:s<=2) (a0:0<=a) (a1:a<=65535) :
  Calls prog 266 #[iv k,iv s,iv a] w fun e w'=>e=.returned (iv (Pl.code k s a))/\w'=w:=by
 have hA:=and1 a
 have G:Hid (Pl.code k s a=if ((s==2)&&(a%2==1)) then 2 else if ((Pl.kind a==1)||(Pl.kind (a+s-1)==1)) then 1 else if ((k==2)&&((Pl.kind a==3)||(Pl.kind (a+s-1)==3))) then 3 else 0):=aba (by
  unfold Pl.code;simp only[Bool.and_eq_true,Bool.or_eq_true,beq_iff_eq])
 cases h1:(s==2)
 ·cases h3:(Pl.kind a==1)
  ·cases h4:(Pl.kind (a+s-1)==1)
   ·cases h5:(k==2)
    ·rw[h1,h3,h4,h5]at G;go_enter func266,ntmps266;go_wp2_with (go_at_call 290;refine st (jM _ _) ?_);go_ret;exact⟨rI (by rw[G.o];simp),rfl⟩
    ·cases h6:(Pl.kind a==3)
     ·cases h7:(Pl.kind (a+s-1)==3)
      ·rw[h1,h3,h4,h5,h6,h7]at G;go_enter func266,ntmps266;go_wp2_with (go_at_call 290;refine st (jM _ _) ?_);go_ret;exact⟨rI (by rw[G.o];simp),rfl⟩
      ·rw[h1,h3,h4,h5,h6,h7]at G;go_enter func266,ntmps266;go_wp2_with (go_at_call 290;refine st (jM _ _) ?_);go_ret;exact⟨rI (by rw[G.o];simp),rfl⟩
     ·rw[h1,h3,h4,h5,h6]at G;go_enter func266,ntmps266;go_wp2_with (go_at_call 290;refine st (jM _ _) ?_);go_ret;exact⟨rI (by rw[G.o];simp),rfl⟩
   ·rw[h1,h3,h4]at G;go_enter func266,ntmps266;go_wp2_with (go_at_call 290;refine st (jM _ _) ?_);go_ret;exact⟨rI (by rw[G.o];simp),rfl⟩
  ·rw[h1,h3]at G;go_enter func266,ntmps266;go_wp2_with (go_at_call 290;refine st (jM _ _) ?_);go_ret;exact⟨rI (by rw[G.o];simp),rfl⟩
 ·cases h2:(a%2==1)
  ·cases h3:(Pl.kind a==1)
   ·cases h4:(Pl.kind (a+s-1)==1)
    ·cases h5:(k==2)
     ·rw[h1,h2,h3,h4,h5]at G;go_enter func266,ntmps266;go_wp2_with (go_at_call 290;refine st (jM _ _) ?_);go_ret;exact⟨rI (by rw[G.o];simp),rfl⟩
     ·cases h6:(Pl.kind a==3)
      ·cases h7:(Pl.kind (a+s-1)==3)
       ·rw[h1,h2,h3,h4,h5,h6,h7]at G;go_enter func266,ntmps266;go_wp2_with (go_at_call 290;refine st (jM _ _) ?_);go_ret;exact⟨rI (by rw[G.o];simp),rfl⟩
       ·rw[h1,h2,h3,h4,h5,h6,h7]at G;go_enter func266,ntmps266;go_wp2_with (go_at_call 290;refine st (jM _ _) ?_);go_ret;exact⟨rI (by rw[G.o];simp),rfl⟩
      ·rw[h1,h2,h3,h4,h5,h6]at G;go_enter func266,ntmps266;go_wp2_with (go_at_call 290;refine st (jM _ _) ?_);go_ret;exact⟨rI (by rw[G.o];simp),rfl⟩
    ·rw[h1,h2,h3,h4]at G;go_enter func266,ntmps266;go_wp2_with (go_at_call 290;refine st (jM _ _) ?_);go_ret;exact⟨rI (by rw[G.o];simp),rfl⟩
   ·rw[h1,h2,h3]at G;go_enter func266,ntmps266;go_wp2_with (go_at_call 290;refine st (jM _ _) ?_);go_ret;exact⟨rI (by rw[G.o];simp),rfl⟩
  ·rw[h1,h2]at G;go_enter func266,ntmps266;go_wp2_with (go_at_call 290;refine st (jM _ _) ?_);go_ret;exact⟨rI (by rw[G.o];simp),rfl⟩
end Go.Proofs.YtgikibaajanjiaaGreatDoor
namespace Go.Proofs.YtgikibaajanjiaaGreatDoor.Pl
set_option linter.unusedVariables false
def rd (xs:List Int) (s:Int) (i:Nat):Int:=if s=1 then el xs i else el xs i*256+el xs (i+1)
def rdK (xs:List Int) (i k:Nat):Int:=if k=0 then 0 else if k=1 then el xs i else el xs i*256+el xs (i+1)
def eU (k s a v:Int):Bool:=dP k&&(okv s v&&(addr a&&((k==2)||(v==0))))
def lv (xs:List Int) (k s a v:Int):Int:=if code k s a=0/\¬k=2 then rd xs s a.toNat else v
def wr (xs:List Int) (s:Int) (i:Nat) (v:Int):List Int:=if s=1 then xs.set i v else (xs.set i (v/256)).set (i+1) (v%256)
def nb (xs:List Int) (k s a v:Int):List Int:=if code k s a=0/\k=2 then wr xs s a.toNat v else xs
def logs (m:Nat) (k s a:Int):Bool:=decide (m<400)&&((k != 3)||(code k s a != 0))
def nl (xs ys:List Int) (m:Nat) (k s a v:Int):List Int:=if logs m k s a=true then ys++[k,s,a,lv xs k s a v,code k s a] else ys
def nm (m:Nat) (k s a:Int):Nat:=if logs m k s a=true then m+1 else m
theorem TN (xs:List Int) (s:Int) (i:Nat) (v:Int):(wr xs s i v).length=xs.length:=by unfold wr;split<;>simp
theorem JL (xs:List Int) (k s a v:Int):(nb xs k s a v).length=xs.length:=by unfold nb;split<;>simp[TN]
theorem UC {xs ys:List Int} {m:Nat} (k s a v:Int) (h:ys.length=5*m):(nl xs ys m k s a v).length=5*nm m k s a:=by
 unfold nl nm;split
 ·simp[h];omega
 ·exact h
theorem Xw {m:Nat} (k s a:Int) (h:m<=400):nm m k s a<=400:=by
 unfold nm logs;split
 ·rename_i h1;simp at h1;omega
 ·exact h
theorem qU {k s a v:Int} (h:eU k s a v=true):(1<=k/\k<=3)/\((s=1/\v<=255)\/(s=2/\v<=65535))/\0<=v/\(0<=a/\a<=65535)/\(k=2\/v=0):=by
 simp only[eU,dP,addr,Bool.and_eq_true,Bool.or_eq_true,decide_eq_true_eq,beq_iff_eq]at h;obtain⟨h1,h2,h3,h4⟩:=h;have:=aS h2;refine⟨h1,?_,?_,h3,h4⟩
 ·omega
 ·omega
theorem GH {a:Int} (h:¬a%2=1):kind (a+2-1)=kind a:=by
 unfold kind;by_cases h1:512<=a\/(448<=a/\a<=495)
 ·rw[if_pos h1,if_pos (by omega)]
 ·rw[if_neg h1,if_neg (by omega)];by_cases h2:384<=a/\a<=447
  ·rw[if_pos h2,if_pos (by omega)]
  ·rw[if_neg h2,if_neg (by omega)]
theorem Hf {k s a:Int} (hs:s=1\/s=2):code k s a=if s=2/\a%2=1 then 2 else if kind a=3/\¬k=2 then 0 else kind a:=by
 have kv:kind a=0\/kind a=1\/kind a=3:=by
  unfold kind;split
  ·exact .inr (.inl rfl)
  ·split
   ·exact .inr (.inr rfl)
   ·exact .inl rfl
 unfold code;by_cases h:s=2/\a%2=1
 ·rw[if_pos h,if_pos h]
 ·rw[if_neg h,if_neg h]
  have e:kind (a+s-1)=kind a:=by
   rcases hs with rfl|rfl
   ·rw[show a+1-1=a by omega]
   ·exact GH (fun q=>h ⟨rfl,q⟩)
  rw[e];rcases kv with q|q|q<;>rw[q]<;>by_cases hk:k=2<;>simp[hk]
structure In where
 op:Int
 z:Int
 r:Int
 m:Int
 k:Int
 e:Int
 s:Int
def vX:In:=⟨0,0,0,0,0,0,0⟩
def kH (m:Int):Bool:=within m 2 6
def fF (m:Int):Bool:=(m==2)||((m==5)||(m==6))
def iw (m k e:Int):Bool:=(m==0)&&((k==0)&&(e==0))
def jq (m e:Int):Bool:=(m==7)&&decide (e<=1023)
def lS (x:In):Bool:=((x.m==7)&&(x.z==1))&&decide (255<x.e)
def inBase (x:In):Bool:=(decide (x.z=1)||decide (x.z=2))&&(within x.r 0 3&&(iP x.m x.k x.e&&(within x.s 0 7 && !lS x)))
def az (x:In):Bool:=
 bif (x.op==1)||((x.op==3)||((x.op==4)||((x.op==5)||((x.op==6)||((x.op==7)||(x.op==8)))))) then (x.s==0)&&((x.z==2) || !(x.m==1))
 else bif x.op==2 then (x.s==0)&&((x.m==0)||kH x.m)
 else bif x.op==9 then (x.z==2)&&(x.s==0)
 else bif x.op==10 then ((x.z==2)&&(x.s==0))&&fF x.m
 else bif x.op==11 then ((x.r==0)&&decide (x.s<=3))&&((x.m==0)||kH x.m)
 else bif x.op==12 then (x.m==0)
 else bif x.op==13 then ((x.z==2)&&decide (x.r<=1))&&(x.m==7)
 else bif x.op==14 then (((x.z==2)&&(x.r==0))&&decide (x.s<=1))&&fF x.m
 else bif (x.op==16)||(x.op==17) then ((x.z==2)&&(x.s==0)) && !(x.m==1)
 else bif x.op==18 then ((!(x.z==2))&&decide (x.s<=1))&&(x.m==0)
 else bif x.op==19 then (x.z==2)&&((((x.s==0)&&(x.r==0))&&jq x.m x.e)||((x.s==1)&&iw x.m x.k x.e))
 else bif x.op==15 then (bif x.s==3 then ((x.z==2)&&(x.r==0))&&jq x.m x.e else (((x.z==2)&&decide (x.s<=6))&&iw x.m x.k x.e)&&(decide (3<x.s)||(x.r==0)))
 else false
def bP (x:In):Bool:=inBase x&&az x
def oC (x:In):Int:=x.op*2048+(x.z-1)*1024+x.r*256+x.m*32+x.k*8+x.s
def dX (w:Int):Int:=if jQ (w/32%8)=true then 2 else 1
def decode (w v:Int):In:=⟨w/2048,w/1024%2+1,w/256%4,w/32%8,w/8%4,if dX w=2 then v else 0,w%8⟩
def jo (x:In):Bool:=((x.op==15)&&((x.s==1)||(x.s==3)))||((x.op==19)&&(x.s==0))
theorem Tf {x:In} (h:bP x=true):1<=x.op/\x.op<=19/\(x.z=1\/x.z=2)/\0<=x.r/\x.r<=3/\0<=x.m/\x.m<=7/\0<=x.k/\x.k<=3/\0<=x.e/\x.e<=65535/\0<=x.s/\x.s<=7/\(jQ x.m=false->x.e=0):=by
 obtain⟨op,z,r,m,k,e,s⟩:=x;unfold bP at h;rw[Bool.and_eq_true]at h;obtain⟨h1,h2⟩:=h
 have hop:1<=op/\op<=19:=by
  have:op=1\/op=2\/op=3\/op=4\/op=5\/op=6\/op=7\/op=8\/op=9\/op=10\/op=11\/op=12\/op=13\/op=14\/op=15\/op=16\/op=17\/op=18\/op=19:=by
   by_cases q1:op=1;· simp[q1]
   by_cases q2:op=2;· simp[q2]
   by_cases q3:op=3;· simp[q3]
   by_cases q4:op=4;· simp[q4]
   by_cases q5:op=5;· simp[q5]
   by_cases q6:op=6;· simp[q6]
   by_cases q7:op=7;· simp[q7]
   by_cases q8:op=8;· simp[q8]
   by_cases q9:op=9;· simp[q9]
   by_cases q10:op=10;· simp[q10]
   by_cases q11:op=11;· simp[q11]
   by_cases q12:op=12;· simp[q12]
   by_cases q13:op=13;· simp[q13]
   by_cases q14:op=14;· simp[q14]
   by_cases q15:op=15;· simp[q15]
   by_cases q16:op=16;· simp[q16]
   by_cases q17:op=17;· simp[q17]
   by_cases q18:op=18;· simp[q18]
   by_cases q19:op=19;· simp[q19]
   simp[az,q1,q2,q3,q4,q5,q6,q7,q8,q9,q10,q11,q12,q13,q14,q15,q16,q17,q18,q19]at h2
  omega
 simp[inBase,iP,bJ,within,aP]at h1;obtain⟨hz,hr,⟨hm,hk,_,he,hx⟩,hs,_⟩:=h1;refine⟨hop.1,hop.2,hz,hr.1,hr.2,hm.1,hm.2,hk.1,hk.2,he.1,he.2,hs.1,hs.2,fun q => ?_⟩;rcases hx with hx|hx
 ·rw[q]at hx;cases hx
 ·exact hx
end Go.Proofs.YtgikibaajanjiaaGreatDoor.Pl
namespace Go.Proofs.YtgikibaajanjiaaGreatDoor
open Pl
abbrev inX (x:Pl.In):Array Value:=#[iv x.op,iv x.z,iv x.r,iv x.m,iv x.k,iv x.e,iv x.s]
end Go.Proofs.YtgikibaajanjiaaGreatDoor
namespace Go.Proofs.YtgikibaajanjiaaGreatDoor.Pl
set_option linter.unusedVariables false
def cF (f:Int):Bool:=f%2==1
def vF (f:Int):Bool:=f/2%2==1
def zF (f:Int):Bool:=f/4%2==1
def nF (f:Int):Bool:=f/8%2==1
def ev (c f:Int):Bool:=
 bif c==2 then !cF f && !zF f else bif c==4 then !cF f else bif c==6 then !zF f else bif c==8 then !vF f
 else bif c==10 then !nF f else bif c==12 then nF f==vF f else bif c==14 then (nF f==vF f) && !zF f else true
def tst (k f:Int):Bool:=ev (k-k%2) f==(k%2==0)
def need (k:Int):Int:=
 bif k-k%2==2 then 5 else bif k-k%2==4 then 1 else bif k-k%2==6 then 4 else bif k-k%2==8 then 2
 else bif k-k%2==10 then 8 else bif k-k%2==12 then 10 else bif k-k%2==14 then 14 else 0
theorem pF {k:Int} {n:Nat} (h0:0<=k) (h1:k<n):∃j:Nat,j<n/\k=(j:Int):=⟨k.toNat,by omega,by omega⟩
theorem YF:∀f:Nat,f<32->(bits .and .i64 (f:Int) 1==0) = !cF f:=by decide +kernel
theorem YD:∀f:Nat,f<32->(bits .and .i64 (f:Int) 2==0) = !vF f:=by decide +kernel
theorem YC:∀f:Nat,f<32->(bits .and .i64 (f:Int) 4==0) = !zF f:=by decide +kernel
theorem YE:∀f:Nat,f<32->(bits .and .i64 (f:Int) 8==0) = !nF f:=by decide +kernel
theorem VY:∀f:Nat,f<32->(bits .and .i64 (f:Int) 5==0)=(!cF f && !zF f):=by decide +kernel
theorem NL:∀k:Nat,k<16->bits .andNot .i64 (k:Int) 1=(k:Int)-(k:Int)%2:=by decide +kernel
def hi (s v:Int):Int:=if top s/2<=v then 1 else 0
def fell (k s v:Int):Int:=if k%2=0 then hi s v else v%2
def inn (k s x v:Int):Int:=if k=1 then hi s v else if k=4\/k=5 then fell k s v else if 6<=k then x else 0
def nv (k s x v:Int):Int:=if k%2=0 then v*2%top s+inn k s x v else v/2+inn k s x v*(top s/2)
def nx (k s x v:Int):Int:=if k=4\/k=5 then x else fell k s v
def vfl (k s x v:Int):Bool:=decide (k=0)&&(hi s v != hi s (nv k s x v))
def zn (s v:Int):Int:=fl (v==0) 4+fl (decide (top s/2<=v)) 8
def onF (k s x v:Int):Int:=fell k s v+fl (vfl k s x v) 2+zn s (nv k s x v)+16*nx k s x v
def stp (k s:Int) (p:Int × Int):Int × Int:=(nv k s p.2 p.1,nx k s p.2 p.1)
def st (k s:Int) (p:Int × Int):Nat->Int × Int
 | 0=>p
 | n+1=>stp k s (st k s p n)
def ov (k s:Int) (p:Int × Int):Nat->Bool
 | 0=>false
 | n+1=>ov k s p n||vfl k s (st k s p n).2 (st k s p n).1
def byF (k s:Int) (p:Int × Int):Nat->Int
 | 0=>fl (decide (p.2≠0)&&decide (6<=k)) 1+zn s p.1+16*p.2
 | n+1=>fell k s (st k s p n).1+fl (ov k s p (n+1)) 2+zn s (st k s p (n+1)).1+16*(st k s p (n+1)).2
def Fit (s:Int) (p:Int × Int):Prop:=(s=1\/s=2)/\0<=p.1/\p.1<top s/\0<=p.2/\p.2<=1
theorem dI (s v:Int):0<=hi s v/\hi s v<=1:=by unfold hi;split<;>omega
theorem nJ (k s v:Int):0<=fell k s v/\fell k s v<=1:=by
 have:=dI s v
 unfold fell;split<;>omega
theorem U8 (k s x v:Int) (x0:0<=x) (x1:x<=1):0<=inn k s x v/\inn k s x v<=1:=by
 have:=dI s v
 have:=nJ k s v
 unfold inn;repeat' split
 all_goals omega
theorem Ee (k s x v:Int) (x0:0<=x) (x1:x<=1):0<=nx k s x v/\nx k s x v<=1:=by
 have:=nJ k s v
 unfold nx;split<;>omega
theorem nP {s:Int} (h:s=1\/s=2):(s=1/\top s=256)\/(s=2/\top s=65536):=by
 rcases h with rfl|rfl
 ·exact .inl ⟨rfl,rfl⟩
 ·exact .inr ⟨rfl,rfl⟩
theorem OI {k s:Int} {p:Int × Int} (h:Fit s p):Fit s (stp k s p):=by
 obtain⟨hs,v0,v1,x0,x1⟩:=h;have i:=U8 k s p.2 p.1 x0 x1;have n:=Ee k s p.2 p.1 x0 x1;refine⟨hs,?_,?_,n.1,n.2⟩
 all_goals
  unfold stp nv;rcases nP hs with⟨_,e⟩|⟨_,e⟩
  all_goals
   simp only[e]at v1 ⊢;generalize inn k s p.2 p.1=q at i;split
   ·omega
   ·have:q=0\/q=1:=by omega
    rcases this with rfl|rfl<;>omega
theorem oL {k s:Int} {p:Int × Int} (h:Fit s p) (n:Nat):Fit s (st k s p n):=by
 induction n with
 | zero=>exact h
 | succ n ih=>exact OI ih
theorem Sv (s v:Int):0<=zn s v/\zn s v<=12:=by
 unfold zn;cases (v==0)<;>cases decide (top s/2<=v)<;>simp[fl]
theorem TD (b:Bool) (n:Int) (h:0<=n):0<=fl b n/\fl b n<=n:=by cases b<;>simp[fl,h]
theorem Hw {k s:Int} {p:Int × Int} (h:Fit s p) (n:Nat):∃c o:Int,byF k s p n=c+o+zn s (st k s p n).1+16*(st k s p n).2/\0<=c/\c<=1/\(o=0\/o=2):=by
 cases n with
 | zero=>
  have:=TD (decide (p.2≠0)&&decide (6<=k)) 1 (by decide)
  exact⟨_,0,by show _=_;simp only[byF,st];omega,this.1,this.2,.inl rfl⟩
 | succ n=>
  have:=nJ k s (st k s p n).1
  refine⟨_,fl (ov k s p (n+1)) 2,rfl,this.1,this.2,?_⟩;cases ov k s p (n+1)<;>simp[fl]
theorem NI {k s:Int} {p:Int × Int} (h:Fit s p) (n:Nat):0<=byF k s p n/\byF k s p n<=31/\byF k s p n/16=(st k s p n).2:=by
 obtain⟨c,o,e,c0,c1,ho⟩:=Hw (k:=k) h n;have z:=Sv s (st k s p n).1;obtain⟨_,_,_,x0,x1⟩:=oL (k:=k) h n;omega
theorem UB {k s:Int} {p:Int × Int} (h:Fit s p):0<=onF k s p.2 p.1/\onF k s p.2 p.1<=31/\onF k s p.2 p.1/16=nx k s p.2 p.1:=by
 have f:=nJ k s p.1;have v:=TD (vfl k s p.2 p.1) 2 (by decide);have z:=Sv s (nv k s p.2 p.1);obtain⟨_,_,_,x0,x1⟩:=h;have x:=Ee k s p.2 p.1 x0 x1;have v2:fl (vfl k s p.2 p.1) 2=0\/fl (vfl k s p.2 p.1) 2=2:=by cases vfl k s p.2 p.1<;>simp[fl]
 unfold onF;omega
def pR (k s f v:Int):Bool:=(decide (0<=k)&&decide (k<=7))&&(okv s v&&flags f)
def cnt (n:Int):Bool:=decide (0<=n)&&decide (n<=63)
def qE (k s f v n:Int):Bool:=pR k s f v&&cnt n
def iV (k s f v n:Int):Int:=if qE k s f v n=true then (st k s (v,f/16) n.toNat).1 else 0
def oh (k s f v n:Int):Int:=if qE k s f v n=true then byF k s (v,f/16) n.toNat else 0
def kin (k:Int):Bool:=decide (0<=k)&&decide (k<=7)
def left (k:Int):Bool:=kin k&&decide (k%2=0)
theorem JJ {s v:Int} (h:okv s v=true):s=1\/s=2:=by
 simp[okv]at h;exact h.1
theorem pO {k s f v:Int} (h:pR k s f v=true):0<=k/\k<=7/\okv s v=true/\0<=f/\f<=31/\Fit s (v,f/16):=by
 simp only[pR,Bool.and_eq_true,decide_eq_true_eq]at h;obtain⟨⟨k0,k1⟩,ho,hf⟩:=h;obtain⟨f0,f1⟩:=rP hf;have ht:=aS ho;exact⟨k0,k1,ho,f0,f1,JJ ho,ht.2.1,ht.2.2,by show 0<=f/16;omega,by show f/16<=1;omega⟩
theorem RN {k s f v n:Int} (h:pR k s f v=true) (n0:0<=n) (n1:n<=63):qE k s f v n=true:=by simp[qE,cnt,h,n0,n1]
theorem NT (a:Int):bits .and .i64 a 15=a%16:=by
 show IntKind.i64.wrap ((BitVec.ofInt 64 a &&& BitVec.ofInt 64 15).toNat:Int)=_
 rw[BitVec.toNat_and,BitVec.toNat_ofInt,show(BitVec.ofInt 64 15).toNat=2^4-1 from by decide,Nat.and_two_pow_sub_one_eq_mod,IntKind.wrap_i64];omega
theorem Uy (n:Int) (h0:0<=n) (h1:n<=99):bits .or .i64 (n/10*16) (n%10)=n/10*16+n%10:=
 bits_join .i64 62 (by decide) ik 4 (n/10*16) (n%10) (by omega) (by omega) (by omega) (by omega) (by omega) (by omega)
def bcd (v:Int):Bool:=(decide (0<=v)&&decide (v<=255))&&(decide (v/16<=9)&&decide (v%16<=9))
def num (v:Int):Int:=v/16*10+v%16
def ofN (n:Int):Int:=n/10*16+n%10
def eY (x a b:Int):Bool:=bit x&&(bcd a&&bcd b)
def Dl (x a b:Int):Int:=if num a-num b-x<0 then num a-num b-x+100 else num a-num b-x
def MK (x a b:Int):Int:=if num a-num b-x<0 then 1 else 0
def aV (x a b:Int):Int:=if eY x a b=true then ofN ((num a+num b+x)%100) else 0
def aC (x a b:Int):Int:=if eY x a b=true then (num a+num b+x)/100 else 0
def sV (x a b:Int):Int:=if eY x a b=true then ofN (Dl x a b) else 0
def sC (x a b:Int):Int:=if eY x a b=true then MK x a b else 0
def tC (v:Int):Int:=if bcd v=true then ofN (99-num v) else 0
theorem pY {v:Int} (h:bcd v=true):0<=v/\v<=255/\v/16<=9/\v%16<=9:=by
 simp[bcd]at h;omega
theorem V3 {v:Int} (h0:0<=v) (h1:v<=255) (h2:v/16<=9) (h3:v%16<=9):bcd v=true:=by
 simp[bcd,h0,h1,h2,h3]
theorem lX {v:Int} (h:bcd v=true):0<=num v/\num v<=99:=by have:=pY h;unfold num;omega
theorem yu {n:Int} (h0:0<=n) (h1:n<=99):bcd (ofN n)=true:=by
 unfold ofN;exact V3 (by omega) (by omega) (by omega) (by omega)
theorem PK {n:Int} (h0:0<=n) (h1:n<=99):num (ofN n)=n:=by unfold num ofN;omega
theorem uC {x a b:Int} (h:eY x a b=true):0<=x/\x<=1/\bcd a=true/\bcd b=true:=by
 simp only[eY,Bool.and_eq_true]at h;have:=tK h.1;exact⟨this.1,this.2,h.2.1,h.2.2⟩
theorem ry {x a b:Int} (h0:0<=x) (h1:x<=1) (ha:bcd a=true) (hb:bcd b=true):eY x a b=true:=by
 simp[eY,bit,h0,h1,ha,hb]
theorem EW {x a b:Int} (h:eY x a b=true):0<=Dl x a b/\Dl x a b<=99:=by
 obtain⟨x0,x1,ha,hb⟩:=uC h;have:=lX ha;have:=lX hb;unfold Dl;split<;>omega
theorem Ff {x a b:Int} (h:eY x a b=true):aV x a b=ofN ((num a+num b+x)%100):=by simp[aV,h]
theorem Fg {x a b:Int} (h:eY x a b=true):aC x a b=(num a+num b+x)/100:=by simp[aC,h]
theorem Jg {x a b:Int} (h:eY x a b=true):sV x a b=ofN (Dl x a b):=by simp[sV,h]
theorem SI {x a b:Int} (h:eY x a b=true):sC x a b=MK x a b:=by simp[sC,h]
theorem Fh (x a b:Int):0<=aC x a b/\aC x a b<=1:=by
 by_cases h:eY x a b=true
 ·obtain⟨x0,x1,ha,hb⟩:=uC h;have:=lX ha;have:=lX hb;rw[Fg h];omega
 ·simp[aC,h]
theorem Ji (x a b:Int):0<=sC x a b/\sC x a b<=1:=by
 unfold sC MK;split
 ·split<;>omega
 ·omega
theorem Dy {x a b:Int} (h:eY x a b=true):bcd (aV x a b)=true:=by rw[Ff h];exact yu (by omega) (by omega)
theorem Cb {x a b:Int} (h:eY x a b=true):bcd (sV x a b)=true:=by rw[Jg h];exact yu (EW h).1 (EW h).2
structure Cp where
 r:Rg
 bx:List Int
 bl:List Int
 bm:Nat
 st:Bool
 ha:Bool
structure Ft where
 v:Int
 pc:Int
 ad:Int
 wo:Int
 wr:Bool
structure Mc where
 r:Rg
 bx:List Int
 bl:List Int
 bm:Nat
 st:Bool
 f:Ft
def aI:Ft:=⟨0,0,0,0,false⟩
def QV:Cp:=⟨ZN,[],[],0,false,false⟩
def dY (c:Cp):Bool:=sN c.r&&(eG c.bx c.bl c.bm && !(c.st&&c.ha))
namespace Mc
def fine (c:Mc):Bool:=c.f.v==0
def ofC (c:Cp):Mc:=⟨c.r,c.bx,c.bl,c.bm,c.st,aI⟩
def cpu (c:Mc) (h:Bool):Cp:=⟨c.r,c.bx,c.bl,c.bm,c.st,h⟩
def dA (f:Ft) (k s a:Int):Ft:=bif (code k s a != 0)&&(f.v==0) then {f with v:=bif code k s a==2 then 3 else 2,ad:=a,wr:=k==2} else f
def acc (c:Mc) (k s a v:Int):Mc:={c with bx:=nb c.bx k s a v,bl:=nl c.bx c.bl c.bm k s a v,bm:=nm c.bm k s a,f:=dA c.f k s a}
def gI (c:Mc) (k s a v:Int):Int:=lv c.bx k s a v
def fC (c:Mc) (k:Nat) (v:Int):Mc:={c with r:={c.r with ys:=c.r.ys.set k v}}
def aH (c:Mc) (v:Int):Mc:={c with r:={c.r with p:=v}}
def aJ (c:Mc) (v:Int):Mc:={c with r:={c.r with f:=v}}
def bC (c:Mc) (r:Rg):Mc:={c with r:=r}
def spA (c:Mc):Int:=(el c.r.ys 3-2)%65536
def push (c:Mc) (v:Int):Mc:=bif (c.acc 2 2 c.spA v).fine then (c.acc 2 2 c.spA v).fC 3 c.spA else c.acc 2 2 c.spA v
def pop (c:Mc):Mc:=bif (c.acc 1 2 (el c.r.ys 3) 0).fine then (c.acc 1 2 (el c.r.ys 3) 0).fC 3 ((el c.r.ys 3+2)%65536) else c.acc 1 2 (el c.r.ys 3) 0
def dK (c:Mc):Int:=c.gI 1 2 (el c.r.ys 3) 0
def fe0 (c:Mc):Mc:={c with f:={c.f with pc:=c.r.p}}
def fe1 (c:Mc):Mc:=c.fe0.acc 3 2 c.r.p 0
def feW (c:Mc):Int:=c.fe0.gI 3 2 c.r.p 0
def fe2 (c:Mc):Mc:={c.fe1 with f:={c.fe1.f with wo:=c.feW}}
def feA (c:Mc):Int:=(c.r.p+2)%65536
def fe3 (c:Mc):Mc:=bif dX c.feW==2 then c.fe2.acc 3 2 c.feA 0 else c.fe2
def feN (c:Mc):Int:=bif dX c.feW==2 then c.fe2.gI 3 2 c.feA 0 else 0
def feX (c:Mc):In:=decode c.feW c.feN
def fe4 (c:Mc):Mc:={c.fe3 with f:={c.fe3.f with v:=4}}
def fetch (c:Mc):Mc:=bif !c.fe1.fine then c.fe1 else bif !c.fe3.fine then c.fe3 else bif !bP c.feX then c.fe4 else c.fe3
def aG (c:Mc):In:=bif c.fe1.fine&&(c.fe3.fine&&bP c.feX) then c.feX else vX
def dh (c:Mc):Int:=bif c.fe1.fine&&(c.fe3.fine&&bP c.feX) then dX c.feW else 0
def low (c:Mc) (z k:Int):Int:=el c.r.xs k.toNat%top z
def gK (m:Int):Bool:=(m==0)||((m==1)||(m==7))
def plc (c:Mc) (z m k e:Int):Mc:=c.bC (bG c.r z m k e)
def read (c:Mc) (z m k e:Int):Mc:=bif gK m then c else (c.plc z m k e).acc 1 z (bu c.r z m k e) 0
def bH (c:Mc) (z m k e:Int):Int:=bif m==0 then c.low z k else bif m==1 then el c.r.ys k.toNat else bif m==7 then e else (c.plc z m k e).gI 1 z (bu c.r z m k e) 0
def readA (c:Mc) (z m k e:Int):Int:=bif gK m then 0 else bu c.r z m k e
def write (c:Mc) (z m k a v:Int):Mc:=bif m==0 then c.bC (lD c.r z k v) else c.acc 2 z a v
def place (c:Mc) (z m k e:Int):Mc:=bif m==0 then c else c.plc z m k e
def iL (c:Mc) (z m k e:Int):Int:=bif m==0 then 0 else bu c.r z m k e
def put (c:Mc) (z k v:Int):Mc:=c.bC (lD c.r z k v)
def data (c:Mc) (z k v:Int):Mc:=(c.aJ (dB z c.r.f v)).put z k v
def raise (c:Mc) (v:Int):Mc:={c with f:={c.f with v:=v,pc:=c.r.p}}
def vec (c:Mc) (v:Int):Mc:={c with f:={c.f with v:=v}}
def two' (d:Mc) (x:In) (q v:Int):Mc:=
 bif x.op==8 then d.aJ (og x.z d.r.f q v)
 else bif x.op==3 then (d.aJ (sD x.z 0 q v)).put x.z x.r (tY x.z 0 q v)
 else bif x.op==4 then (d.aJ (kK x.z 0 q v)).put x.z x.r (lV x.z 0 q v)
 else bif x.op==5 then d.data x.z x.r (bits .and .i64 q v)
 else bif x.op==6 then d.data x.z x.r (bits .or .i64 q v)
 else bif x.op==7 then d.data x.z x.r (bits .xor .i64 q v)
 else d.data x.z x.r v
def two (c:Mc) (x:In):Mc:=bif (c.read x.z x.m x.k x.e).fine then (c.read x.z x.m x.k x.e).two' x ((c.read x.z x.m x.k x.e).low x.z x.r) (c.bH x.z x.m x.k x.e) else c.read x.z x.m x.k x.e
def JH (c:Mc) (x:In):Mc:=(((c.place x.z x.m x.k x.e).write x.z x.m x.k (c.iL x.z x.m x.k x.e) 0)).aJ (dB x.z c.r.f 0)
def one' (c d:Mc) (x:In) (a v:Int):Mc:=
 bif x.s==1 then (d.write x.z x.m x.k a (lV x.z 0 0 v)).aJ (kK x.z 0 0 v)
 else bif x.s==2 then (d.write x.z x.m x.k a (top x.z-1-v)).aJ (dB x.z c.r.f (top x.z-1-v))
 else d.aJ (dB x.z c.r.f v)
def one (c:Mc) (x:In):Mc:=
 bif x.s==0 then c.JH x
 else bif (c.read x.z x.m x.k x.e).fine then c.one' (c.read x.z x.m x.k x.e) x (c.readA x.z x.m x.k x.e) (c.bH x.z x.m x.k x.e) else c.read x.z x.m x.k x.e
def jG (c:Mc) (x:In):Mc:=
 bif x.s==0 then c.pop.aH c.dK
 else bif x.s==1 then (bif !c.pop.fine then c.pop else bif !c.pop.pop.fine then c.pop.pop else (c.pop.pop.aH c.pop.dK).bC (aY (c.pop.pop.aH c.pop.dK).r (c.dK%1024)))
 else bif x.s==3 then {c.bC (aY c.r x.e) with st:=true}
 else bif x.s==4 then c.raise (18+x.r)
 else bif x.s==5 then c.data 2 x.r (lU (el c.r.xs x.r.toNat))
 else bif x.s==6 then c.data 2 x.r (mM (el c.r.xs x.r.toNat%256))
 else c
def JM (c:Mc) (x:In) (p:Int):Mc:=(c.data 2 x.r (p%65536)).aJ (bits .or .i64 (c.data 2 x.r (p%65536)).r.f (fl (decide (65535<p)) 2))
def jh (d:Mc) (x:In) (v:Int):Mc:=
 bif x.op==16 then d.JM x (el d.r.xs x.r.toNat*v)
 else bif v==0 then d.raise 5 else d.data 2 x.r (el d.r.xs x.r.toNat/v)
def product (c:Mc) (x:In):Mc:=bif (c.read 2 x.m x.k x.e).fine then (c.read 2 x.m x.k x.e).jh x (c.bH 2 x.m x.k x.e) else c.read 2 x.m x.k x.e
def xOf (c:Mc):Int:=c.r.f/16%2
def nU (c:Mc) (s a b:Int):Int:=bif s==1 then sV c.xOf a b else aV c.xOf a b
def qI (c:Mc) (s a b:Int):Int:=bif s==1 then sC c.xOf a b else aC c.xOf a b
def tX (c:Mc) (s a b:Int):Int:=fl ((c.nU s a b==0)&&(c.r.f/4%2==1)) 4+c.qI s a b*17
def yX (c:Mc) (x:In) (a b:Int):Mc:=bif bcd a&&bcd b then (c.aJ (c.tX x.s a b)).put 1 x.r (c.nU x.s a b) else c.vec 4
def uw (c:Mc) (x:In):Mc:=c.yX x (el c.r.xs x.r.toNat%256) (el c.r.xs x.k.toNat%256)
def jump (c:Mc) (x:In) (at_:Int):Mc:=
 bif x.op==13 then (bif tst (x.s+8*x.r) c.r.f then c.aH ((at_+2+x.e)%65536) else c)
 else bif x.s==1 then (bif ((c.place 2 x.m x.k x.e).push c.r.p).fine then ((c.place 2 x.m x.k x.e).push c.r.p).aH (c.iL 2 x.m x.k x.e) else (c.place 2 x.m x.k x.e).push c.r.p)
 else (c.place 2 x.m x.k x.e).aH (c.iL 2 x.m x.k x.e)
def from' (c:Mc) (x:In):Mc:=((c.place x.z x.m x.k x.e).write x.z x.m x.k (c.iL x.z x.m x.k x.e) (c.low x.z x.r)).aJ (dB x.z c.r.f (c.low x.z x.r))
def stat (c:Mc) (x:In):Mc:=bif x.s==0 then c.bC (aY c.r x.e) else c.bC {c.r with xs:=c.r.xs.set x.r.toNat (status c.r)}
def doI (c:Mc) (x:In) (at_:Int):Mc:=
 bif x.op==9 then (bif (c.read 2 x.m x.k x.e).fine then (c.read 2 x.m x.k x.e).fC x.r.toNat (c.bH 2 x.m x.k x.e) else c.read 2 x.m x.k x.e)
 else bif x.op==10 then (c.place 2 x.m x.k x.e).fC x.r.toNat (c.iL 2 x.m x.k x.e)
 else bif x.op==2 then c.from' x
 else bif x.op==11 then c.one x
 else bif x.op==12 then (c.aJ (oh x.s x.z c.r.f (c.low x.z x.r) (x.k+1))).put x.z x.r (iV x.s x.z c.r.f (c.low x.z x.r) (x.k+1))
 else bif (x.op==13)||(x.op==14) then c.jump x at_
 else bif x.op==15 then c.jG x
 else bif (x.op==16)||(x.op==17) then c.product x
 else bif x.op==18 then c.uw x
 else bif x.op==19 then c.stat x
 else c.two x
def s1 (c:Mc):Mc:=bif c.fetch.fine&&(jo c.aG && !c.fetch.r.s) then c.fetch.vec 8 else c.fetch
def s2 (c:Mc):Mc:=bif c.s1.fine then (c.s1.aH ((c.r.p+2*c.dh)%65536)).doI c.aG c.r.p else c.s1
end Mc
def stepM (c:Cp):Mc:=(Mc.ofC c).s2
def dm (c:Cp):Cp:=bif (stepM c).fine then (stepM c).cpu false else ⟨c.r,(stepM c).bx,(stepM c).bl,(stepM c).bm,c.st,false⟩
def fE (c:Cp):Ft:=bif (stepM c).fine then aI else (stepM c).f
end Go.Proofs.YtgikibaajanjiaaGreatDoor.Pl
namespace Go.Proofs.YtgikibaajanjiaaGreatDoor
open Pl
abbrev cpA (c:Cp) (a b e q:Option Addr) (ca cb ce cq:Nat):Array Value:=#[.slice a c.r.xs.length ca,.slice b c.r.ys.length cb,iv c.r.o,iv c.r.p,iv c.r.f,iv c.r.m,.bool c.r.s,.bool c.r.t,.slice e c.bx.length ce,.slice q c.bm cq,.bool c.st,.bool c.ha]
abbrev ftA (f:Ft):Array Value:=#[iv f.v,iv f.pc,iv f.ad,iv f.wo,.bool f.wr]
end Go.Proofs.YtgikibaajanjiaaGreatDoor
namespace Go.Proofs.YtgikibaajanjiaaGreatDoor.Pl
set_option linter.unusedVariables false
structure GM (c:Mc):Prop where
 g:Good c.r
 p0:0<=c.r.p
 p1:c.r.p<=65535
 bx:c.bx.length=512
 ok:bf c.bx=true
 bl:c.bl.length=5*c.bm
 bm:c.bm<=400
 ac:jD c.bl c.bm=true
theorem wC {xs:List Int} {k i:Nat} {v:Int} (h:k<xs.length):el (xs.set k v) i=if k=i then v else el xs i:=by
 unfold el;by_cases e:k=i
 ·subst e;rw[if_pos rfl];simp[h]
 ·rw[if_neg e,List.getElem?_set_ne e]
theorem pX {xs:List Int} {i:Nat} {v:Int} (h:bf xs=true) (v0:0<=v) (v1:v<=255):bf (xs.set i v)=true:=by
 apply qR;intro j hj;rw[List.length_set]at hj;by_cases hi:i<xs.length
 ·rw[wC hi];split
  ·simp[jB];omega
  ·have:=dG h j hj;simp[jB];omega
 ·rw[List.set_eq_of_length_le (by omega)];have:=dG h j hj;simp[jB];omega
theorem Wh {xs:List Int} {s:Int} {i:Nat} {v:Int} (h:bf xs=true) (hv:okv s v=true):bf (wr xs s i v)=true:=by
 have:=aS hv
 unfold wr;split
 ·exact pX h (by omega) (by omega)
 ·exact pX (pX h (by omega) (by omega)) (by omega) (by omega)
theorem QY (k s a:Int):0<=code k s a/\code k s a<=3:=by
 unfold code;repeat' split
 all_goals omega
theorem Xm {xs:List Int} {s:Int} {i:Nat} (h:bf xs=true) (hs:s=1\/s=2) (hi:i+s.toNat<=xs.length):okv s (rd xs s i)=true:=by
 rcases hs with rfl|rfl
 ·have:=dG h i (by omega)
  simp[okv,rd,top];omega
 ·have:=dG h i (by omega)
  have:=dG h (i+1) (by omega)
  simp[okv,rd,top];omega
theorem Tn {xs:List Int} {k s a v:Int} (h:bf xs=true) (hl:xs.length=512) (ha:eU k s a v=true):okv s (lv xs k s a v)=true:=by
 obtain⟨hk,hs,v0,⟨a0,a1⟩,_⟩:=qU ha;unfold lv;split
 ·rename_i q;obtain⟨q1,q2⟩:=rW q.1 a0;refine Xm h (by omega) ?_;rw[hl];rcases hs with⟨rfl,_⟩|⟨rfl,_⟩<;>omega
 ·simp only[eU,Bool.and_eq_true]at ha;exact ha.2.1
theorem wE {xs ys:List Int} {i:Nat} (h:i<xs.length):el (xs++ys) i=el xs i:=by unfold el;rw[List.getElem?_append_left h]
theorem rQ {xs ys:List Int} {i:Nat} (h:xs.length<=i):el (xs++ys) i=el ys (i-xs.length):=by unfold el;rw[List.getElem?_append_right h]
theorem H9 {ys:List Int} {m:Nat} {k s a v c:Int} (hl:ys.length=5*m) (h:jD ys m=true) (ho:fP k s a v c=true):jD (ys++[k,s,a,v,c]) (m+1)=true:=by
 unfold jD at *;rw[List.all_eq_true]at *;intro i hi;rw[List.mem_range]at hi;by_cases e:i<m
 ·have:=h i (List.mem_range.2 e)
  unfold sF at *;rw[wE (by omega),wE (by omega),wE (by omega),wE (by omega),wE (by omega)];exact this
 ·have e2:i=m:=by omega
  subst e2;unfold sF;rw[rQ (by omega),rQ (by omega),rQ (by omega),rQ (by omega),rQ (by omega),show i*5-ys.length=0 by omega,show i*5+1-ys.length=1 by omega,show i*5+2-ys.length=2 by omega,show i*5+3-ys.length=3 by omega,show i*5+4-ys.length=4 by omega];exact ho
theorem GM.gI {c:Mc} (h:GM c) {k s a v:Int} (ha:eU k s a v=true):okv s (c.gI k s a v)=true:=Tn h.ok h.bx ha
theorem GM.acc {c:Mc} (h:GM c) {k s a v:Int} (ha:eU k s a v=true):GM (c.acc k s a v):=by
 have hv:=Tn h.ok h.bx ha;have ha2:=ha;simp only[eU,Bool.and_eq_true]at ha2;refine⟨h.g,h.p0,h.p1,by rw[<-h.bx];exact JL _ _ _ _ _,?_,UC _ _ _ _ h.bl,Xw _ _ _ h.bm,?_⟩
 ·show bf (nb c.bx k s a v)=true
  unfold nb;split
  ·exact Wh h.ok ha2.2.1
  ·exact h.ok
 ·show jD (nl c.bx c.bl c.bm k s a v) (nm c.bm k s a)=true
  unfold nl nm;split
  ·rename_i hl;refine H9 h.bl h.ac ?_;have hc:=QY k s a;simp only[logs,Bool.and_eq_true]at hl;simp only[fP,Bool.and_eq_true,decide_eq_true_eq];exact⟨ha2.1,hv,ha2.2.2.1,hc,hl.2⟩
  ·exact h.ac
theorem Good.fC {r:Rg} (h:Good r) (k:Nat) {v:Int} (v0:0<=v) (v1:v<=65535):Good {r with ys:=r.ys.set k v}:=by
 refine⟨h.d4,by simp[h.a4],h.dw,fun i hi => ?_,h.o0,h.o1,h.f0,h.f1,h.m0,h.m1⟩;show 0<=el (r.ys.set k v) i/\el (r.ys.set k v) i<=65535;by_cases hk:k<r.ys.length
 ·rw[wC hk];split
  ·exact⟨v0,v1⟩
  ·exact h.aw i hi
 ·rw[List.set_eq_of_length_le (by omega)];exact h.aw i hi
theorem Good.OY {r:Rg} (h:Good r) (k:Nat) {v:Int} (v0:0<=v) (v1:v<=65535):Good {r with xs:=r.xs.set k v}:=by
 refine⟨by simp[h.d4],h.a4,fun i hi => ?_,h.aw,h.o0,h.o1,h.f0,h.f1,h.m0,h.m1⟩;show 0<=el (r.xs.set k v) i/\el (r.xs.set k v) i<=65535;by_cases hk:k<r.xs.length
 ·rw[wC hk];split
  ·exact⟨v0,v1⟩
  ·exact h.dw i hi
 ·rw[List.set_eq_of_length_le (by omega)];exact h.dw i hi
theorem Good.put {r:Rg} (h:Good r) {z k v:Int} (k0:0<=k) (k1:k<=3) (hv:okv z v=true):Good (lD r z k v):=by
 have ht:=aS hv;have hd:=h.dw k.toNat (by omega);exact h.OY k.toNat (by split<;>omega) (by split<;>omega)
theorem Good.place {r:Rg} (h:Good r) {z m k e:Int} (k0:0<=k) (k1:k<=3):Good (bG r z m k e):=by
 unfold bG;split
 ·exact h.fC _ (by omega) (by omega)
 ·split
  ·exact h.fC _ (by omega) (by omega)
  ·exact h
theorem ji {r:Rg} (h:Good r) {z m k e:Int} (k0:0<=k) (k1:k<=3) (e0:0<=e) (e1:e<=65535):0<=bu r z m k e/\bu r z m k e<=65535:=by
 have ha:=h.aw k.toNat (by omega);unfold bu;repeat' split
 all_goals omega
theorem Good.with {r:Rg} (h:Good r) (n:Int):Good (aY r n):=by
 unfold aY;split
 ·exact⟨h.d4,h.a4,h.dw,h.aw,h.o0,h.o1,by show 0<=n%32;omega,by show n%32<=31;omega,by show 0<=n/32%8;omega,by show n/32%8<=7;omega⟩
 ·have q:=h.fC 3 h.o0 h.o1;have a3:=h.aw 3 (by omega);exact⟨h.d4,q.a4,h.dw,q.aw,a3.1,a3.2,by show 0<=n%32;omega,by show n%32<=31;omega,by show 0<=n/32%8;omega,by show n/32%8<=7;omega⟩
theorem qi {r:Rg} (h:Good r):0<=status r/\status r<=1023:=by
 have:=h.f0;have:=h.f1;have:=h.m0;have:=h.m1
 unfold status fl1;cases r.s<;>cases r.t<;>simp<;>omega
theorem GM.bC {c:Mc} (h:GM c) {r:Rg} (g:Good r) (hp:0<=r.p/\r.p<=65535):GM (c.bC r):=⟨g,hp.1,hp.2,h.bx,h.ok,h.bl,h.bm,h.ac⟩
theorem GM.aH {c:Mc} (h:GM c) {v:Int} (v0:0<=v) (v1:v<=65535):GM (c.aH v):=⟨⟨h.g.d4,h.g.a4,h.g.dw,h.g.aw,h.g.o0,h.g.o1,h.g.f0,h.g.f1,h.g.m0,h.g.m1⟩,v0,v1,h.bx,h.ok,h.bl,h.bm,h.ac⟩
theorem GM.aJ {c:Mc} (h:GM c) {v:Int} (v0:0<=v) (v1:v<=31):GM (c.aJ v):=⟨⟨h.g.d4,h.g.a4,h.g.dw,h.g.aw,h.g.o0,h.g.o1,v0,v1,h.g.m0,h.g.m1⟩,h.p0,h.p1,h.bx,h.ok,h.bl,h.bm,h.ac⟩
theorem GM.fC {c:Mc} (h:GM c) (k:Nat) {v:Int} (v0:0<=v) (v1:v<=65535):GM (c.fC k v):=⟨h.g.fC k v0 v1,h.p0,h.p1,h.bx,h.ok,h.bl,h.bm,h.ac⟩
theorem GM.put {c:Mc} (h:GM c) {z k v:Int} (k0:0<=k) (k1:k<=3) (hv:okv z v=true):GM (c.put z k v):=h.bC (h.g.put k0 k1 hv) ⟨h.p0,h.p1⟩
theorem GM.ft {c:Mc} (h:GM c) (f:Ft):GM {c with f:=f}:=⟨h.g,h.p0,h.p1,h.bx,h.ok,h.bl,h.bm,h.ac⟩
theorem rD (r:Rg) (z m k e:Int):(bG r z m k e).p=r.p:=by
 unfold bG;split
 ·rfl
 ·split<;>rfl
theorem Oi (r:Rg) (n:Int):(aY r n).p=r.p:=by unfold aY;split<;>rfl
theorem GM.plc {c:Mc} (h:GM c) {z m k e:Int} (k0:0<=k) (k1:k<=3):GM (c.plc z m k e):=h.bC (h.g.place k0 k1) (by rw[rD];exact⟨h.p0,h.p1⟩)
theorem GM.with {c:Mc} (h:GM c) (n:Int):GM (c.bC (aY c.r n)):=h.bC (h.g.with n) (by rw[Oi];exact⟨h.p0,h.p1⟩)
theorem di {c:Mc} (h:GM c):flags c.r.f=true:=by have:=h.g.f0;have:=h.g.f1;simp[flags];omega
theorem gq (s f v:Int) (h:okv s v=true) (hf:flags f=true):0<=dB s f v/\dB s f v<=31:=by
 obtain⟨f0,f1⟩:=rP hf;obtain⟨j,hj,rfl⟩:=pF (n:=32) f0 (by omega);unfold dB;rw[if_pos (by rw[h,hf];rfl)];have q:∀j:Nat,j<32->∀a b:Bool,0<=bits .or .i64 (bits .and .i64 (j:Int) 16) (bits .or .i64 (fl a 4) (fl b 8))/\bits .or .i64 (bits .and .i64 (j:Int) 16) (bits .or .i64 (fl a 4) (fl b 8))<=31:=by decide +kernel
 exact q j hj _ _
theorem GM.data {c:Mc} (h:GM c) {z k v:Int} (k0:0<=k) (k1:k<=3) (hv:okv z v=true):GM (c.data z k v):=by
 have q:=gq z c.r.f v hv (di h);exact(h.aJ q.1 q.2).put k0 k1 hv
theorem iH {c:Mc} (h:GM c) {z k:Int} (hz:z=1\/z=2) (k0:0<=k) (k1:k<=3):okv z (c.low z k)=true:=by
 have hd:=h.g.dw k.toNat (by omega);unfold Mc.low;rcases hz with rfl|rfl
 ·simp[okv,top];omega
 ·simp[okv,top];omega
theorem GM.of {c:Cp} (h:dY c=true) (hl:c.bl.length=5*c.bm) (b:Bool):GM ⟨c.r,c.bx,c.bl,c.bm,b,aI⟩:=by
 simp only[dY,Bool.and_eq_true]at h;obtain⟨h1,h2,_⟩:=h;obtain⟨q1,q2,q3,q4⟩:=CX h2
 have hp:0<=c.r.p/\c.r.p<=65535:=by
  simp only[sN,Bool.and_eq_true,aP,within,decide_eq_true_eq]at h1;exact h1.2.2.2.1
 exact⟨Qs h1,hp.1,hp.2,q1,q2,hl,q3,q4⟩
structure Iq where
 c:Cp
 l:Int
 e:Bool
def U7:Iq:=⟨QV,0,false⟩
def jr (x:Iq):Bool:=dY x.c&&within x.l 0 7
def pend (x:Iq):Int:=bif x.e then 7 else bif decide (x.c.r.m<x.l) then x.l else 0
theorem pJ {x:Iq} (h:jr x=true):dY x.c=true/\0<=x.l/\x.l<=7:=by simpa[jr,within] using h
theorem Tv {x:Iq} (h:dY x.c=true) (h0:0<=x.l) (h1:x.l<=7):jr x=true:=by simp[jr,within,h];omega
theorem yh {x:Iq} (h:jr x=true):0<=pend x/\pend x<=7:=by
 obtain⟨_,h0,h1⟩:=pJ h;unfold pend;cases x.e
 ·cases decide (x.c.r.m<x.l)
  ·exact⟨Int.le_refl _,show(0:Int)<=7 by decide⟩
  ·exact⟨h0,h1⟩
 ·exact⟨show(0:Int)<=7 by decide,Int.le_refl _⟩
end Go.Proofs.YtgikibaajanjiaaGreatDoor.Pl
namespace Go.Proofs.YtgikibaajanjiaaGreatDoor
open Pl
open Go.RowKit Go.Proofs.Tryz
set_option linter.unusedVariables false
theorem dJ (n:Int) (w:World):Calls prog 57 #[iv n] w fun e w'=>e=.returned (.bool (aP n))/\w'=w:=by
 go_enter func57,ntmps57;go_wp2_with (go_at_call 75;refine st (dF _ _ _ _) ?_);go_ret;exact⟨rfl,rfl⟩
theorem oO (n:Int) (w:World):Calls prog 131 #[iv n] w fun e w'=>e=.returned (.bool (jQ n))/\w'=w:=by
 go_enter func131,ntmps131;go_wp2;go_ret;exact⟨rfl,rfl⟩
theorem dS (w:World) (m k e:Int) :
  Calls prog 104 #[.agg #[iv m,iv k,iv e]] w fun r w'=>r=.returned (.bool (iP m k e))/\Kept 0 0 w w':=by
 have HK:=aba (kept_alloc w (.cells #[iv m,iv k,iv e] 46));have G:Hid (iP m k e=(bJ m&&(within k 0 3&&((decide (m<6)||(k==0))&&(aP e&&(jQ m||(e==0))))))):=aba rfl;cases h1:bJ m
 ·go_enter func104,ntmps104;go_wp2_with (first|(go_at_call 75;refine st (dF _ _ _ _) ?_;rw[show(decide (0<=m)&&decide (m<=7))=bJ m from rfl,h1];have Z1:True:=trivial));go_ret;exact⟨rB (by rw[G.o,h1];simp),HK.o⟩
 ·cases h2:within k 0 3
  ·go_enter func104,ntmps104;go_wp2_with (first|(go_at_call 75;have z:=Z1;refine st (dF _ _ _ _) ?_;rw[show(decide (0<=k)&&decide (k<=3))=within k 0 3 from rfl,h2])|(go_at_call 75;refine st (dF _ _ _ _) ?_;rw[show(decide (0<=m)&&decide (m<=7))=bJ m from rfl,h1];have Z1:True:=trivial));go_ret;exact⟨rB (by rw[G.o,h1,h2];simp),HK.o⟩
  ·cases h3:decide (6<=m)
   ·have q3:decide (m<6)=true:=by simp at h3 ⊢;omega
    cases h4:aP e
    ·go_enter func104,ntmps104;go_wp2_with (first|(go_at_call 75;have z:=Z1;refine st (dF _ _ _ _) ?_;rw[show(decide (0<=k)&&decide (k<=3))=within k 0 3 from rfl,h2])|(go_at_call 75;refine st (dF _ _ _ _) ?_;rw[show(decide (0<=m)&&decide (m<=7))=bJ m from rfl,h1];have Z1:True:=trivial)|(go_at_call 57;refine st (dJ _ _) ?_;rw[h4]));go_ret;exact⟨rB (by rw[G.o,h1,h2,q3,h4];simp),HK.o⟩
    ·cases h5:jQ m
     ·cases h6:(e==0)
      all_goals
       go_enter func104,ntmps104;go_wp2_with (first|(go_at_call 75;have z:=Z1;refine st (dF _ _ _ _) ?_;rw[show(decide (0<=k)&&decide (k<=3))=within k 0 3 from rfl,h2])|(go_at_call 75;refine st (dF _ _ _ _) ?_;rw[show(decide (0<=m)&&decide (m<=7))=bJ m from rfl,h1];have Z1:True:=trivial)|(go_at_call 57;refine st (dJ _ _) ?_;rw[h4])|(go_at_call 131;refine st (oO _ _) ?_;rw[h5]));go_ret;exact⟨rB (by rw[G.o,h1,h2,q3,h4,h5,h6];simp),HK.o⟩
     ·go_enter func104,ntmps104;go_wp2_with (first|(go_at_call 75;have z:=Z1;refine st (dF _ _ _ _) ?_;rw[show(decide (0<=k)&&decide (k<=3))=within k 0 3 from rfl,h2])|(go_at_call 75;refine st (dF _ _ _ _) ?_;rw[show(decide (0<=m)&&decide (m<=7))=bJ m from rfl,h1];have Z1:True:=trivial)|(go_at_call 57;refine st (dJ _ _) ?_;rw[h4])|(go_at_call 131;refine st (oO _ _) ?_;rw[h5]));go_ret;exact⟨rB (by rw[G.o,h1,h2,q3,h4,h5];simp),HK.o⟩
   ·have q3:decide (m<6)=false:=by simp at h3 ⊢;omega
    cases h7:(k != 0)
    ·have q7:(k==0)=true:=by simpa using h7
     cases h4:aP e
     ·go_enter func104,ntmps104;go_wp2_with (first|(go_at_call 75;have z:=Z1;refine st (dF _ _ _ _) ?_;rw[show(decide (0<=k)&&decide (k<=3))=within k 0 3 from rfl,h2])|(go_at_call 75;refine st (dF _ _ _ _) ?_;rw[show(decide (0<=m)&&decide (m<=7))=bJ m from rfl,h1];have Z1:True:=trivial)|(go_at_call 57;refine st (dJ _ _) ?_;rw[h4]));go_ret;exact⟨rB (by rw[G.o,h1,h2,q3,q7,h4];simp),HK.o⟩
     ·cases h5:jQ m
      ·cases h6:(e==0)
       all_goals
        go_enter func104,ntmps104;go_wp2_with (first|(go_at_call 75;have z:=Z1;refine st (dF _ _ _ _) ?_;rw[show(decide (0<=k)&&decide (k<=3))=within k 0 3 from rfl,h2])|(go_at_call 75;refine st (dF _ _ _ _) ?_;rw[show(decide (0<=m)&&decide (m<=7))=bJ m from rfl,h1];have Z1:True:=trivial)|(go_at_call 57;refine st (dJ _ _) ?_;rw[h4])|(go_at_call 131;refine st (oO _ _) ?_;rw[h5]));go_ret;exact⟨rB (by rw[G.o,h1,h2,q3,q7,h4,h5,h6];simp),HK.o⟩
      ·go_enter func104,ntmps104;go_wp2_with (first|(go_at_call 75;have z:=Z1;refine st (dF _ _ _ _) ?_;rw[show(decide (0<=k)&&decide (k<=3))=within k 0 3 from rfl,h2])|(go_at_call 75;refine st (dF _ _ _ _) ?_;rw[show(decide (0<=m)&&decide (m<=7))=bJ m from rfl,h1];have Z1:True:=trivial)|(go_at_call 57;refine st (dJ _ _) ?_;rw[h4])|(go_at_call 131;refine st (oO _ _) ?_;rw[h5]));go_ret;exact⟨rB (by rw[G.o,h1,h2,q3,q7,h4,h5];simp),HK.o⟩
    ·have q7:(k==0)=false:=by simpa using h7
     go_enter func104,ntmps104;go_wp2_with (first|(go_at_call 75;have z:=Z1;refine st (dF _ _ _ _) ?_;rw[show(decide (0<=k)&&decide (k<=3))=within k 0 3 from rfl,h2])|(go_at_call 75;refine st (dF _ _ _ _) ?_;rw[show(decide (0<=m)&&decide (m<=7))=bJ m from rfl,h1];have Z1:True:=trivial));go_ret;exact⟨rB (by rw[G.o,h1,h2,q3,q7];simp),HK.o⟩
theorem sJ (n:Int) (w:World):Calls prog 147 #[iv n] w fun e w'=>e=.returned (.bool (within n 0 31))/\w'=w:=by
 go_enter func147,ntmps147;go_wp2_with (go_at_call 75;refine st (dF _ _ _ _) ?_);go_ret;exact⟨rfl,rfl⟩
theorem gB (w:World) (a:Option Addr) (ca:Nat) (xs:List Int) (ha:aF w a xs) (lx:xs.length<=2000000) :
  Calls prog 146 #[.slice a xs.length ca] w fun e w'=>e=.returned (.bool (iT xs))/\w'=w:=by
 have HA:=aba ha;clear ha;go_enter func146,ntmps146;go_wp2;go_loop [4,7] (fun _ j=>∃k:Nat,k<=xs.length/\j=iv k/\∀i,i<k->aP (el xs i)=true) (fun _ j=>xs.length-(intOf j).toNat)
 case atStart=>exact⟨0,Nat.zero_le _,rfl,fun i hi=>absurd hi (Nat.not_lt_zero i)⟩
 case round=>
  obtain⟨k,hk,rfl,heq⟩:=hrel;have HE:=aba heq;clear heq;by_cases hlt:k<xs.length
  ·obtain⟨g1,o1,rfl,hc1⟩:=HA.o k hlt;rw[show xs[k]?.getD 0=el xs k from rfl]at hc1;cases hb:aP (el xs k)
   ·go_wp2_with (go_at_call 57;refine st (dJ _ _) ?_;rw[hb]);go_ret;exact⟨rB (V7 hlt hb).symm,rfl⟩
   ·go_wp2_with (go_at_call 57;refine st (dJ _ _) ?_;rw[hb]);go_round
    case rel=>exact⟨k+1,by omega,by go_num,kW HE.o hb⟩
    case measure=>simp[intOf];omega
  ·have E:Hid (iT xs=decide ((xs.length:Int)=4)):=aba (V6 (fun i hi=>HE.o i (by omega)));cases h4:((xs.length:Int)==4)
   all_goals
    go_wp2;go_ret;exact⟨rB (by rw[E.o];simp at h4;simp[h4]),rfl⟩
theorem kL (w:World) (r:Rg) (a b:Option Addr) (ca cb:Nat) (ha:aF w a r.xs) (hb:aF w b r.ys) (lx:r.xs.length<=2000000) (ly:r.ys.length<=2000000) :
  Calls prog 101 #[.agg #[.slice a r.xs.length ca,.slice b r.ys.length cb,iv r.o,iv r.p,iv r.f,iv r.m,.bool r.s,.bool r.t]] w fun e w'=>e=.returned (.bool (sN r))/\Kept 0 0 w w':=by
 have HA:=aba ha;have HB:=aba hb;have HK:=aba (kept_alloc w (.cells #[.slice a r.xs.length ca,.slice b r.ys.length cb,iv r.o,iv r.p,iv r.f,iv r.m,.bool r.s,.bool r.t] 35));clear ha hb;have G:Hid (sN r=(iT r.xs&&(iT r.ys&&(aP r.o&&(aP r.p&&(within r.f 0 31&&within r.m 0 7)))))):=aba rfl;cases h1:iT r.xs
 ·go_enter func101,ntmps101;go_wp2_with (first|(go_at_call 146;refine st (gB _ a ca r.xs (HA.o.ag HK.o) lx) ?_;rw[h1];have Z1:True:=trivial));go_ret;exact⟨rB (by rw[G.o,h1];simp),HK.o⟩
 ·cases h2:iT r.ys
  ·go_enter func101,ntmps101;go_wp2_with (first|(go_at_call 146;have z:=Z1;refine st (gB _ b cb r.ys (HB.o.ag HK.o) ly) ?_;rw[h2])|(go_at_call 146;refine st (gB _ a ca r.xs (HA.o.ag HK.o) lx) ?_;rw[h1];have Z1:True:=trivial));go_ret;exact⟨rB (by rw[G.o,h1,h2];simp),HK.o⟩
  ·cases h3:aP r.o
   ·go_enter func101,ntmps101;go_wp2_with (first|(go_at_call 146;have z:=Z1;refine st (gB _ b cb r.ys (HB.o.ag HK.o) ly) ?_;rw[h2])|(go_at_call 146;refine st (gB _ a ca r.xs (HA.o.ag HK.o) lx) ?_;rw[h1];have Z1:True:=trivial)|(go_at_call 57;refine st (dJ r.o _) ?_;rw[h3];have Z3:True:=trivial));go_ret;exact⟨rB (by rw[G.o,h1,h2,h3];simp),HK.o⟩
   ·cases h4:aP r.p
    ·go_enter func101,ntmps101;go_wp2_with (first|(go_at_call 146;have z:=Z1;refine st (gB _ b cb r.ys (HB.o.ag HK.o) ly) ?_;rw[h2])|(go_at_call 146;refine st (gB _ a ca r.xs (HA.o.ag HK.o) lx) ?_;rw[h1];have Z1:True:=trivial)|(go_at_call 57;have z:=Z3;refine st (dJ r.p _) ?_;rw[h4])|(go_at_call 57;refine st (dJ r.o _) ?_;rw[h3];have Z3:True:=trivial));go_ret;exact⟨rB (by rw[G.o,h1,h2,h3,h4];simp),HK.o⟩
    ·cases h5:within r.f 0 31
     ·go_enter func101,ntmps101;go_wp2_with (first|(go_at_call 146;have z:=Z1;refine st (gB _ b cb r.ys (HB.o.ag HK.o) ly) ?_;rw[h2])|(go_at_call 146;refine st (gB _ a ca r.xs (HA.o.ag HK.o) lx) ?_;rw[h1];have Z1:True:=trivial)|(go_at_call 57;have z:=Z3;refine st (dJ r.p _) ?_;rw[h4])|(go_at_call 57;refine st (dJ r.o _) ?_;rw[h3];have Z3:True:=trivial)|(go_at_call 147;refine st (sJ _ _) ?_;rw[h5]));go_ret;exact⟨rB (by rw[G.o,h1,h2,h3,h4,h5];simp),HK.o⟩
     ·cases h6:within r.m 0 7
      ·go_enter func101,ntmps101;go_wp2_with (first|(go_at_call 146;have z:=Z1;refine st (gB _ b cb r.ys (HB.o.ag HK.o) ly) ?_;rw[h2])|(go_at_call 146;refine st (gB _ a ca r.xs (HA.o.ag HK.o) lx) ?_;rw[h1];have Z1:True:=trivial)|(go_at_call 57;have z:=Z3;refine st (dJ r.p _) ?_;rw[h4])|(go_at_call 57;refine st (dJ r.o _) ?_;rw[h3];have Z3:True:=trivial)|(go_at_call 147;refine st (sJ _ _) ?_;rw[h5])|(go_at_call 75;refine st (dF _ _ _ _) ?_;rw[show(decide (0<=r.m)&&decide (r.m<=7))=within r.m 0 7 from rfl,h6]));go_ret;exact⟨rB (by rw[G.o,h1,h2,h3,h4,h5,h6];simp),HK.o⟩
      ·go_enter func101,ntmps101;go_wp2_with (first|(go_at_call 146;have z:=Z1;refine st (gB _ b cb r.ys (HB.o.ag HK.o) ly) ?_;rw[h2])|(go_at_call 146;refine st (gB _ a ca r.xs (HA.o.ag HK.o) lx) ?_;rw[h1];have Z1:True:=trivial)|(go_at_call 57;have z:=Z3;refine st (dJ r.p _) ?_;rw[h4])|(go_at_call 57;refine st (dJ r.o _) ?_;rw[h3];have Z3:True:=trivial)|(go_at_call 147;refine st (sJ _ _) ?_;rw[h5])|(go_at_call 75;refine st (dF _ _ _ _) ?_;rw[show(decide (0<=r.m)&&decide (r.m<=7))=within r.m 0 7 from rfl,h6]));go_ret;exact⟨rB (by rw[G.o,h1,h2,h3,h4,h5,h6];simp),HK.o⟩
theorem Ep (b:Bool) (f:Int) (w:World):Calls prog 208 #[.bool b,iv f] w fun e w'=>e=.returned (iv (fl1 b f))/\w'=w:=by
 cases b
 all_goals
  go_enter func208,ntmps208;go_wp2;go_ret;exact⟨rfl,rfl⟩
theorem w64 {n:Int} (h0 : -9223372036854775808<=n) (h1:n<=9223372036854775807):IntKind.i64.wrap n=n:=by rw[IntKind.wrap_i64];omega
theorem Lr (b:Bool) (n:Int) (h:0<=n):0<=fl1 b n/\fl1 b n<=n:=by cases b<;>simp[fl1]<;>omega
theorem uV (w:World) (r:Rg) (a b:Option Addr) (ca cb:Nat) (hg:Pl.Good r) :
  Calls prog 163 #[.agg #[.slice a r.xs.length ca,.slice b r.ys.length cb,iv r.o,iv r.p,iv r.f,iv r.m,.bool r.s,.bool r.t]] w fun e w'=>e=.returned (iv (Pl.status r))/\Kept 0 0 w w':=by
 have HK:=aba (kept_alloc w (.cells #[.slice a r.xs.length ca,.slice b r.ys.length cb,iv r.o,iv r.p,iv r.f,iv r.m,.bool r.s,.bool r.t] 35));have f0:=hg.f0;have f1:=hg.f1;have m0:=hg.m0;have m1:=hg.m1;clear hg;obtain⟨s0,s1⟩:=Lr r.s 256 (by decide);obtain⟨t0,t1⟩:=Lr r.t 512 (by decide);have e1:IntKind.i64.wrap (32*r.m)=32*r.m:=w64 (by omega) (by omega);have e2:IntKind.i64.wrap (r.f+32*r.m)=r.f+32*r.m:=w64 (by omega) (by omega);have e3:IntKind.i64.wrap (r.f+32*r.m+fl1 r.s 256)=r.f+32*r.m+fl1 r.s 256:=w64 (by omega) (by omega);have e4:IntKind.i64.wrap (r.f+32*r.m+fl1 r.s 256+fl1 r.t 512)=r.f+32*r.m+fl1 r.s 256+fl1 r.t 512:=w64 (by omega) (by omega);go_enter func163,ntmps163;go_wp2_with fail;go_quiet (first|(go_at_call 208;exact Calls.quiet_of_same (Ep _ _ _))|fail);go_wp2_with fail;go_ret;exact⟨rI rfl,ax HK.o _⟩
theorem vK {w:World} {g base size:Nat} {e:TypeId} (h:Blk w g #[] e) (hb:base<=g):w.ownsRow base e size (.slice (some (abb g 0)) 0 0) 0 []:=
 ⟨by simp,.inr ⟨g,0,#[],rfl,hb,h,Nat.le_refl _,Nat.zero_le _,by simp,by simp⟩⟩
theorem xH {ops:Array Oper} {rest:List Oper} {o:Oper} {a:Act} {w:World} {Q:Exit->Act->World->Prop} (hgd:o.guard=none) (s x:Operand)
  (ho:o.op=.call {callee:=.builtin .append,args:=#[s,x],argTypes:=#[22,22]}) (base g:Nat) (hs:a.eval s=.slice (some (abb g 0)) 0 0) (hg:Blk w g #[] 3) (hbg:base<=g)
  (sp:Option Addr) (n c:Nat) (xs:List Int) (hx:a.eval x=.slice sp n c) (hr:aF w sp xs) (hn:xs.length=n) (bn:n<=2000000) (H:Nat) (hH:w.heap.size=H)
  (h:∀(g' cap:Nat) (w':World),w'.ownsRow base 3 1 (.slice (some (abb g' 0)) n cap) n (xs.map (Value.int .i64))->Kept g (g+1) w w'->(g'=g\/g'=H)->g'<w'.heap.size->wpList prog ops Q rest (a.put o.dst (.slice (some (abb g' 0)) n cap)) w') :
  wpList prog ops Q (o :: rest) a w:=by
 obtain⟨i,hi,hz0,hz1,hz2⟩:=info_parts Tryz.info3;have hlt:=hg.lt;by_cases h0:n=0
 ·subst h0;obtain rfl:xs=[]:=List.eq_nil_of_length_eq_zero hn;have hl0:∀(x:Addr),(loadCells x 0).run prog w=.ok #[] w:=fun x=>by simpa using run_loadCells_list (P:=prog) w x [] (by simp)
  have hrun:(Builtin.append_ #[22,22] o.type #[.slice (some (abb g 0)) 0 0,.slice sp 0 c]).run prog w=.ok (.slice (some (abb g 0)) 0 0) w:=by
   cases sp<;>simp[Builtin.append_,run_underlying underlying22,Builtin.lenOf,Builtin.firstCells,sizeOf,typeInfo,hi,storeCells,hl0]
  refine wpList_plain hgd fun K hK => ?_;unfold Oper.wp;simp[execOp,ho,resolve,invoke,builtin,hs,hx,hrun,Result.andThen];exact hK _ _ (h g 0 w (vK hg hbg) (Kept.refl _ _ _) (.inl rfl) hlt)
 ·obtain⟨ga,oa,rfl,_⟩:=hr 0 (by omega);refine wpList_append_lies _ hgd s x 22 ho base 3 i (iv 0) 1 8 underlying22 hi hz0 hz1 hz2 rfl (by decide) (.slice (some (abb g 0)) 0 0) 0 [] hs (vK hg hbg) ⟨ga,oa,none⟩ n c (xs.map (Value.int .i64)) hx (by simp[hn]) (iM hr) iG (by omega) (by unfold maxLen;omega) (by omega) (by omega) H hH ?_;intro g' cap w' h1 h2 h3 h4;simp only[Nat.zero_add,List.nil_append]at h1 ⊢;refine h g' cap w' h1 (jZ h2 (by intro j hj;have h5:g=j:=Option.some.inj hj;omega)) ?_ h4;rcases h3 with h3|h3
  ·exact .inl (Option.some.inj h3).symm
  ·exact .inr h3
theorem zx {w:World} {base n:Nat} {g cap:Nat} {xs:List Int} (h:w.ownsRow base 3 1 (.slice (some (abb g 0)) n cap) n (xs.map (Value.int .i64))):aK w base w.heap.size (some (abb g 0)) xs:=
 .inr ⟨g,rfl,(h.lt g rfl).1,(h.lt g rfl).2,iZ h⟩
def Bh (w:World) (base:Nat) (r:Rg) (a b:Option Addr):Prop:=aK w base w.heap.size a r.xs/\aK w base w.heap.size b r.ys/\(∀g,blk a=some g->blk b≠some g)
theorem Bh.kept {w w':World} {base:Nat} {r:Rg} {a b:Option Addr} (h:Bh w base r a b) (k:Kept 0 0 w w'):Bh w' base r a b:=
 ⟨(h.1.kept k (by omega)).wide (Nat.le_refl _) k.size,(h.2.1.kept k (by omega)).wide (Nat.le_refl _) k.size,h.2.2⟩
def fQ (w:World) (lo hi:Nat) (r:Rg) (a b:Option Addr):Prop:=aK w lo hi a r.xs/\aK w lo hi b r.ys/\(∀g,blk a=some g->blk b≠some g)
theorem fQ.kept {w w':World} {lo hi l h':Nat} {r:Rg} {a b:Option Addr} (h:fQ w lo hi r a b) (k:Kept l h' w w') (hd:hi<=l\/h'<=lo\/h'<=l):fQ w' lo hi r a b:=⟨h.1.kept k hd,h.2.1.kept k hd,h.2.2⟩
theorem fQ.set {w:World} {lo hi:Nat} {r:Rg} {a b:Option Addr} (h:fQ w lo hi r a b) (x i:Nat) (v:Value) (hx:hi<=x\/x<lo):fQ (w.setCell ⟨x,i,none⟩ v) lo hi r a b:=
 h.kept (af (Kept.refl x (x+1) w) x i v (.inl ⟨Nat.le_refl _,by omega⟩)) (by omega)
theorem fQ.zy {w:World} {lo hi g k:Nat} {r:Rg} {b:Option Addr} (h:fQ w lo hi r (some (abb g 0)) b) (z:Int) (h0:0<r.xs.length):fQ (w.setCell ⟨g,k,none⟩ (iv z)) lo hi {r with xs:=r.xs.set k z} (some (abb g 0)) b:=by
 obtain⟨h1,h2,h3⟩:=h;refine⟨?_,?_,h3⟩
 ·rcases h1 with⟨h1,_⟩|⟨g',e1,b0,b1,ho⟩
  ·cases h1
  ·cases e1;exact .inr ⟨g,rfl,b0,b1,ho.set z⟩
 ·rcases h2 with h2|⟨g',e1,b0,b1,ho⟩
  ·exact .inl h2
  ·refine .inr ⟨g',e1,b0,b1,ho.setOther _ _ _ (fun ee => ?_)⟩;exact h3 g rfl (by rw[e1,ee];rfl)
theorem fQ.vz {w:World} {lo hi g k:Nat} {r:Rg} {a:Option Addr} (h:fQ w lo hi r a (some (abb g 0))) (z:Int) (h0:0<r.ys.length):fQ (w.setCell ⟨g,k,none⟩ (iv z)) lo hi {r with ys:=r.ys.set k z} a (some (abb g 0)):=by
 obtain⟨h1,h2,h3⟩:=h;refine⟨?_,?_,h3⟩
 ·rcases h1 with h1|⟨g',e1,b0,b1,ho⟩
  ·exact .inl h1
  ·refine .inr ⟨g',e1,b0,b1,ho.setOther _ _ _ (fun ee => ?_)⟩;exact h3 g' (by rw[e1];rfl) (by rw[ee];rfl)
 ·rcases h2 with⟨h2,_⟩|⟨g',e1,b0,b1,ho⟩
  ·cases h2
  ·cases e1;exact .inr ⟨g,rfl,b0,b1,ho.set z⟩
theorem OT (w:World) (r:Rg) (a b:Option Addr) (ca cb:Nat) (ha:aF w a r.xs) (hb:aF w b r.ys) (lx:r.xs.length<=2000000) (ly:r.ys.length<=2000000) :
  Calls prog 114 #[.agg #[.slice a r.xs.length ca,.slice b r.ys.length cb,iv r.o,iv r.p,iv r.f,iv r.m,.bool r.s,.bool r.t]] w fun e w'=>∃(a' b':Option Addr) (ca' cb':Nat),e=.returned (.agg #[.slice a' r.xs.length ca',.slice b' r.ys.length cb',iv r.o,iv r.p,iv r.f,iv r.m,.bool r.s,.bool r.t])/\Bh w' w.heap.size r a' b'/\Kept 0 0 w w':=by
 have HA:=aba ha;have HB:=aba hb;clear ha hb;have K0:=aba (ah (ah (kept_alloc w (.cells #[.slice a r.xs.length ca,.slice b r.ys.length cb,iv r.o,iv r.p,iv r.f,iv r.m,.bool r.s,.bool r.t] 35)) (.cells #[.slice none 0 0,.slice none 0 0,iv 0,iv 0,iv 0,iv 0,.bool false,.bool false] 35)) (.cells #[] 3));have B0:=aba (((Blk.new w #[.slice a r.xs.length ca,.slice b r.ys.length cb,iv r.o,iv r.p,iv r.f,iv r.m,.bool r.s,.bool r.t] 35).alloc (.cells #[.slice none 0 0,.slice none 0 0,iv 0,iv 0,iv 0,iv 0,.bool false,.bool false] 35)).alloc (.cells #[] 3));have B1:=(Blk.new (w.alloc (.cells #[.slice a r.xs.length ca,.slice b r.ys.length cb,iv r.o,iv r.p,iv r.f,iv r.m,.bool r.s,.bool r.t] 35)) #[.slice none 0 0,.slice none 0 0,iv 0,iv 0,iv 0,iv 0,.bool false,.bool false] 35).alloc (.cells #[] 3);have B2:=Blk.new ((w.alloc (.cells #[.slice a r.xs.length ca,.slice b r.ys.length cb,iv r.o,iv r.p,iv r.f,iv r.m,.bool r.s,.bool r.t] 35)).alloc (.cells #[.slice none 0 0,.slice none 0 0,iv 0,iv 0,iv 0,iv 0,.bool false,.bool false] 35)) #[] 3;simp only[World.size_alloc]at B1 B2;replace B1:=aba B1;replace B2:=aba B2;go_enter func114,ntmps114;go_wp2_with (at_builtin;refine xH rfl (.tmp 3) (.tmp 5) rfl w.heap.size (w.heap.size+1+1) rfl B2.o (by omega) a r.xs.length ca r.xs rfl (HA.o.ag K0.o) rfl lx (w.heap.size+1+1+1) (by simp) ?_);intro g1 c1 w1 o1 k1 hg1 l1;have C0:=aba (B0.o.kept k1 (by omega));have C1:=aba (B1.o.kept k1 (by omega));have d3:=C0.o.cell (i:=0) rfl;have f3:=C0.o.frozen 0;have n0:=B2.o.lt;have n1:=k1.size;obtain⟨p1,p2⟩:=o1.lt g1 rfl;have D0:=aba ((C0.o.set 0 (.slice (some (abb g1 0)) r.xs.length c1)).alloc (.cells #[] 3));have D1:=aba ((C1.o.other w.heap.size 0 (.slice (some (abb g1 0)) r.xs.length c1) (by omega)).alloc (.cells #[] 3));have O1:=aba ((o1.kept (grownBy_set w1 w.heap.size 0 (.slice (some (abb g1 0)) r.xs.length c1)) (.inr (fun e=>by have h3:g1=w.heap.size:=Option.some.inj e;omega))).alloc (.cells #[] 3));have K1:=aba (ah (af (aB K0.o k1 (by omega)) w.heap.size 0 (.slice (some (abb g1 0)) r.xs.length c1) (.inr (Nat.le_refl _))) (.cells #[] 3));have E2:=Blk.new (w1.setCell (abb w.heap.size 0) (.slice (some (abb g1 0)) r.xs.length c1)) #[] 3;simp only[World.size_setCell]at E2;replace E2:=aba E2;have q4:=D0.o.cell (i:=1) rfl;clear o1 k1 B0 B1 B2 C0 C1;go_wp2_with (at_builtin;refine xH rfl (.tmp 8) (.tmp 10) rfl w.heap.size w1.heap.size rfl E2.o (by omega) b r.ys.length cb r.ys rfl (HB.o.ag K1.o) rfl ly (w1.heap.size+1) (by simp) ?_);intro g2 c2 w2 o2 k2 hg2 l2;clear q4 d3 f3;have F0:=D0.o.kept k2 (by omega);have F1:=D1.o.kept k2 (by omega);obtain⟨p3,p4⟩:=o2.lt g2 rfl;have n2:=k2.size;simp only[World.size_alloc,World.size_setCell]at n2;have P1:=aba (O1.o.kept (yD k2) (.inr (fun e=>by have h3:g1=w1.heap.size:=Option.some.inj e;omega)));have P2:=aba o2;have K2:=aba (aB K1.o k2 (by omega));have x0:=F0.all;have v1':=F0.frozen 1;have y0:=F1.all;have u0:=F1.fz;have G1:=aba F1;have hne:g1≠g2:=by omega
 clear F0 F1 o2 k2;go_wp2_with fail;refine bodyPost_ret (v:=.agg #[.slice (some (abb g1 0)) r.xs.length c1,.slice (some (abb g2 0)) r.ys.length c2,iv r.o,iv r.p,iv r.f,iv r.m,.bool r.s,.bool r.t]) ?_ rfl ?_
 ·exact results_cell_row rfl _ _ _ _ _ (0,0) _ rfl (((((((((G1.o.other _ _ _ (by omega)).set _ _).set _ _).set _ _).set _ _).set _ _).set _ _).set _ _).set _ _) underlying35 rfl (by kernel_rfl)
 ·refine⟨some (abb g1 0),some (abb g2 0),c1,c2,rfl,⟨.inr ⟨g1,rfl,by omega,by simp;omega,?_⟩,.inr ⟨g2,rfl,by omega,by simp;omega,?_⟩,?_⟩,?_⟩
  ·exact((((((((((iZ P1.o).setOther _ _ _ (by omega)).setOther _ _ _ (by omega)).setOther _ _ _ (by omega)).setOther _ _ _ (by omega)).setOther _ _ _ (by omega)).setOther _ _ _ (by omega)).setOther _ _ _ (by omega)).setOther _ _ _ (by omega)).setOther _ _ _ (by omega))
  ·exact((((((((((iZ P2.o).setOther _ _ _ (by omega)).setOther _ _ _ (by omega)).setOther _ _ _ (by omega)).setOther _ _ _ (by omega)).setOther _ _ _ (by omega)).setOther _ _ _ (by omega)).setOther _ _ _ (by omega)).setOther _ _ _ (by omega)).setOther _ _ _ (by omega))
  ·intro g hg hh;simp[blk]at hg hh;omega
  ·exact(af (af (af (af (af (af (af (af (af K2.o _ _ _ (.inr (by omega))) _ _ _ (.inr (by omega))) _ _ _ (.inr (by omega))) _ _ _ (.inr (by omega))) _ _ _ (.inr (by omega))) _ _ _ (.inr (by omega))) _ _ _ (.inr (by omega))) _ _ _ (.inr (by omega))) _ _ _ (.inr (by omega)))
end Go.Proofs.YtgikibaajanjiaaGreatDoor
