/- Part 1 of what the last text leans on. -/
import Derived.WalkKit
import Derived.Test.YtgikibaajanjiaaGreatDoorProg
import Derived.WalkSpells
import Derived.WalkLawsBesides
import Derived.OpenShut
import Derived.Deep.QuietTactic
import Derived.BigQuiet
import Derived.RegionTactic
import Derived.ChangeAlike
import Derived.BigRegion
import Derived.Deep.RegionWith
import Derived.Laws.Rows
import Derived.Laws.ResultCell
import Derived.Laws.CopyOwn
import Derived.Maps.AppendAt
import Derived.Laws.AppendOwnNone
import Derived.Deep.AppendLies
import Derived.Deep.DeepCutAuto
set_option maxRecDepth 100000
set_option maxHeartbeats 16000000
namespace Go.RowKit
theorem Hid.o {p:Prop} (h:Hid p):p:=h
end Go.RowKit
namespace Go.Proofs.YtgikibaajanjiaaGreatDoor.Pl
theorem gW (a:Int):bits .and .i64 a 255=a%256:=by
 show IntKind.i64.wrap ((BitVec.ofInt 64 a &&& BitVec.ofInt 64 255).toNat:Int)=_
 rw [BitVec.toNat_and,BitVec.toNat_ofInt,show (BitVec.ofInt 64 255).toNat=2^8-1 from by decide,Nat.and_two_pow_sub_one_eq_mod,IntKind.wrap_i64];omega
theorem fJ (a:Int):bits .and .i64 a 65535=a%65536:=by
 show IntKind.i64.wrap ((BitVec.ofInt 64 a &&& BitVec.ofInt 64 65535).toNat:Int)=_
 rw [BitVec.toNat_and,BitVec.toNat_ofInt,show (BitVec.ofInt 64 65535).toNat=2^16-1 from by decide,Nat.and_two_pow_sub_one_eq_mod,IntKind.wrap_i64];omega
theorem and1 (a:Int):bits .and .i64 a 1=a%2:=by
 show IntKind.i64.wrap ((BitVec.ofInt 64 a &&& BitVec.ofInt 64 1).toNat:Int)=_
 rw [BitVec.toNat_and,BitVec.toNat_ofInt,show (BitVec.ofInt 64 1).toNat=2^1-1 from by decide,Nat.and_two_pow_sub_one_eq_mod,IntKind.wrap_i64];omega
def top (s:Int):Int:=if s=1 then 256 else 65536
def okv (s v:Int):Bool:=(decide (s=1)||decide (s=2))&&(decide (0<=v)&&decide (v<top s))
def sg (s v:Int):Int:=if top s/2<=v then v-top s else v
def fl (b:Bool) (f:Int):Int:=if b then f else 0
def four (c v z n:Bool):Int:=fl c 17+fl v 2+fl z 4+fl n 8
def oz (s v:Int):Int:=if okv s v=true then sg s v else 0
def bit (x:Int):Bool:=decide (0<=x)&&decide (x<=1)
def two (s x a b:Int):Bool:=okv s a&&(okv s b&&bit x)
def flags (f:Int):Bool:=decide (0<=f)&&decide (f<=31)
def iF (s plain signed:Int):Int:=four (plain%top s != plain) (sg s (plain%top s) != signed) (plain%top s==0) (decide (sg s (plain%top s)<0))
def sU (s x a b:Int):Int:=if two s x a b=true then (a+b+x)%top s else 0
def rH (s x a b:Int):Int:=if two s x a b=true then iF s (a+b+x) (sg s a+sg s b+x) else 0
def lH (s x a b:Int):Int:=if two s x a b=true then (a-b-x)%top s else 0
def kC (s x a b:Int):Int:=if two s x a b=true then iF s (a-b-x) (sg s a-sg s b-x) else 0
theorem Rz (c v z n:Bool):bits .or .i64 (bits .or .i64 (bits .or .i64 (fl c 17) (fl v 2)) (fl z 4)) (fl n 8)=four c v z n:=by
 cases c<;>cases v<;>cases z<;>cases n<;>decide
theorem Ko (c v z n:Bool):bits .or .i64 (bits .or .i64 (fl c 17) (fl v 2)) (bits .or .i64 (fl z 4) (fl n 8))=four c v z n:=by
 cases c<;>cases v<;>cases z<;>cases n<;>decide
theorem PK (c v z n:Bool):0<=four c v z n∧four c v z n<=31:=by
 cases c<;>cases v<;>cases z<;>cases n<;>decide
theorem aQ {s v:Int} (h:okv s v=true):(s=1∧top s=256∨s=2∧top s=65536)∧0<=v∧v<top s:=by
 simp [okv] at h;obtain ⟨h1,h2,h3⟩:=h;refine ⟨?_,h2,h3⟩;rcases h1 with rfl|rfl
 ·exact .inl ⟨rfl,rfl⟩
 ·exact .inr ⟨rfl,rfl⟩
theorem MS (t:Int) (h0:0<=t) (h1:t<=31):bits .andNot .i64 t 16=bits .and .i64 t 15:=by
 obtain ⟨n,rfl⟩:=Int.eq_ofNat_of_zero_le h0;have k:∀m:Fin 32,bits .andNot .i64 ((m.val:Nat):Int) 16=bits .and .i64 ((m.val:Nat):Int) 15:=by decide
 exact k ⟨n,by omega⟩
theorem lh {s v:Int} (h:okv s v=true):oz s v=sg s v:=by simp [oz,h]
theorem Dw {v:Int} (h0:0<=v) (h1:v<256):okv 1 v=true:=by simp [okv,top,h0,h1]
theorem OD {v:Int} (h0:0<=v) (h1:v<65536):okv 2 v=true:=by simp [okv,top,h0,h1]
theorem oD {v:Int} (h0:0<=v) (h1:v<256) : -128<=sg 1 v∧sg 1 v<=127:=by simp [sg,top];omega
theorem oC {v:Int} (h0:0<=v) (h1:v<65536) : -32768<=sg 2 v∧sg 2 v<=32767:=by simp [sg,top];omega
theorem Ba {s x a b:Int} (h:two s x a b=true):okv s a=true∧okv s b=true∧bit x=true:=by
 simpa [two] using h
theorem sO {x:Int} (h:bit x=true):0<=x∧x<=1:=by simpa [bit] using h
theorem ru {x:Int} (h:flags x=true):0<=x∧x<=31:=by simpa [flags] using h
theorem WX (p q:Int):bits .or .i64 (bits .or .i64 (bits .or .i64 (fl (p%256 != p) 17) (fl (oz 1 (p%256) != q) 2)) (fl (p%256==0) 4)) (fl (decide (oz 1 (p%256)<0)) 8)=iF 1 p q:=by
 rw [Rz,lh (Dw (by omega) (by omega))];rfl
theorem kept2 (p q:Int):bits .or .i64 (bits .or .i64 (bits .or .i64 (fl (p%65536 != p) 17) (fl (oz 2 (p%65536) != q) 2)) (fl (p%65536==0) 4)) (fl (decide (oz 2 (p%65536)<0)) 8)=iF 2 p q:=by
 rw [Rz,lh (OD (by omega) (by omega))];rfl
theorem lZ (a b:Int):(a != b)=(b != a):=by rw [Bool.eq_iff_iff];simp;omega
theorem Wp {v:Int} (h0:0<=v) (h1:v<256):decide (128<=v)=decide (sg 1 v<0):=by
 rw [Bool.eq_iff_iff];simp [sg,top];omega
theorem Wn {v:Int} (h0:0<=v) (h1:v<65536):decide (32768<=v)=decide (sg 2 v<0):=by
 rw [Bool.eq_iff_iff];simp [sg,top];omega
theorem Ij (p q:Int):bits .or .i64 (bits .or .i64 (fl (p != p%256) 17) (fl (q != sg 1 (p%256)) 2)) (bits .or .i64 (fl (p%256==0) 4) (fl (decide (128<=p%256)) 8))=iF 1 p q:=by
 rw [Ko,Wp (by omega) (by omega),lZ p,lZ q];rfl
theorem Ii (p q:Int):bits .or .i64 (bits .or .i64 (fl (p != p%65536) 17) (fl (q != sg 2 (p%65536)) 2)) (bits .or .i64 (fl (p%65536==0) 4) (fl (decide (32768<=p%65536)) 8))=iF 2 p q:=by
 rw [Ko,Wn (by omega) (by omega),lZ p,lZ q];rfl
theorem U9 {p:Int} (h:p<256):decide (p<0)=(p != p%256):=by rw [Bool.eq_iff_iff];simp;omega
theorem below2 {p:Int} (h:p<65536):decide (p<0)=(p != p%65536):=by rw [Bool.eq_iff_iff];simp;omega
theorem Ob (p q:Int) (h:p<256):bits .or .i64 (bits .or .i64 (fl (decide (p<0)) 17) (fl (q != sg 1 (p%256)) 2)) (bits .or .i64 (fl (p%256==0) 4) (fl (decide (128<=p%256)) 8))=iF 1 p q:=by
 rw [U9 h,Ij]
theorem Oa (p q:Int) (h:p<65536):bits .or .i64 (bits .or .i64 (fl (decide (p<0)) 17) (fl (q != sg 2 (p%65536)) 2)) (bits .or .i64 (fl (p%65536==0) 4) (fl (decide (32768<=p%65536)) 8))=iF 2 p q:=by
 rw [below2 h,Ii]
theorem zJ (s p q:Int):0<=iF s p q∧iF s p q<=31:=PK _ _ _ _
theorem mM (s x a b:Int):0<=kC s x a b∧kC s x a b<=31:=by
 unfold kC;split
 ·exact zJ _ _ _
 ·omega
theorem Eo (s x a b:Int):0<=rH s x a b∧rH s x a b<=31:=by
 unfold rH;split
 ·exact zJ _ _ _
 ·omega
theorem or_comm (a b:Int):bits .or .i64 a b=bits .or .i64 b a:=by
 show IntKind.i64.wrap ((BitVec.ofInt 64 a ||| BitVec.ofInt 64 b).toNat:Int)=IntKind.i64.wrap ((BitVec.ofInt 64 b ||| BitVec.ofInt 64 a).toNat:Int)
 rw [BitVec.or_comm]
def nK (s f a b:Int):Int:=if (two s 0 a b&&flags f)=true then bits .or .i64 (bits .and .i64 (kC s 0 a b) 15) (bits .and .i64 f 16) else 0
def dA (s f v:Int):Int:=if (okv s v&&flags f)=true then bits .or .i64 (bits .and .i64 f 16) (bits .or .i64 (fl (v==0) 4) (fl (decide (sg s v<0)) 8)) else 0
def lX (v:Int):Int:=if okv 1 v=true then sg 1 v%65536 else 0
def lG (v:Int):Int:=if okv 2 v=true then v%256*256+v/256 else 0
theorem keptSelf {s v:Int} (h:okv s v=true):iF s v (sg s v)=bits .or .i64 (fl (v==0) 4) (fl (decide (sg s v<0)) 8):=by
 obtain ⟨hs,h0,h1⟩:=aQ h;have e:v%top s=v:=Int.emod_eq_of_lt h0 h1;unfold iF;rw [e,bne_self_eq_false,bne_self_eq_false];cases (v==0)<;>cases decide (sg s v<0)<;>decide
theorem gY (n:Int) (h₀:0<=n) (h₁:n<2^62):IntKind.i64.wrap n=n:=by rw [IntKind.wrap_i64];omega
theorem NT (v:Int) (h0:0<=v) (h1:v<65536):bits .or .i64 (v/256) (v%256*256)=v%256*256+v/256:=by
 rw [or_comm];exact bits_join .i64 62 (by decide) gY 8 (v%256*256) (v/256) (by omega) (by omega) (by omega) (by omega) (by omega) (by omega)
end Go.Proofs.YtgikibaajanjiaaGreatDoor.Pl
namespace Go.Proofs.YtgikibaajanjiaaGreatDoor
abbrev aac (b i:Nat):Go.Addr:=⟨b,i,none⟩
def Pl.zz:=0
open Pl
open Go.RowKit Go.Proofs.Tryz
set_option linter.unusedVariables false
abbrev iv (n:Int):Value:=.int .i64 n
abbrev ftZ:Array Value:=#[.int .i64 0,.int .i64 0,.int .i64 0,.int .i64 0,.bool false]
abbrev cpZ:Array Value:=#[.slice none 0 0,.slice none 0 0,.int .i64 0,.int .i64 0,.int .i64 0,.int .i64 0,.bool false,.bool false,.slice none 0 0,.slice none 0 0,.bool false,.bool false]
abbrev inA (op z r m k e s:Int):Array Value:=#[.int .i64 op,.int .i64 z,.int .i64 r,.int .i64 m,.int .i64 k,.int .i64 e,.int .i64 s]
theorem st {P:Program} {f:FuncId} {a:Array Value} {w:World} {r:Ending} {Q:Ending->World->Prop} (h:Calls P f a w fun e w'=>e=r∧w'=w) (q:Q r w):Calls P f a w Q:=h.mono (by rintro e w' ⟨rfl,rfl⟩;exact q)
theorem aab {p:Prop} (h:p):Hid p:=h
theorem rI {a b:Int} (h:a=b):Ending.returned (.int .i64 a)=.returned (.int .i64 b):=by rw [h]
theorem rB {a b:Bool} (h:a=b):Ending.returned (.bool a)=.returned (.bool b):=by rw [h]
theorem rIB {a b:Int} {c d:Bool} (h:a=b) (k:c=d):Ending.returned (.tuple #[.int .i64 a,.bool c])=.returned (.tuple #[.int .i64 b,.bool d]):=by rw [h,k]
theorem rII {a b c d:Int} (h:a=b) (k:c=d):Ending.returned (.tuple #[.int .i64 a,.int .i64 c])=.returned (.tuple #[.int .i64 b,.int .i64 d]):=by rw [h,k]
theorem lI {a b c d:Int} {e f:Bool} (h:a=b) (k:c=d) (l:e=f):Ending.returned (.tuple #[.int .i64 a,.int .i64 c,.bool e])=.returned (.tuple #[.int .i64 b,.int .i64 d,.bool f]):=by rw [h,k,l]
theorem dG (n lo hi:Int) (w:World) :
  Calls prog 75 #[.int .i64 n,.int .i64 lo,.int .i64 hi] w fun e w'=>e=.returned (.bool (decide (lo<=n)&&decide (n<=hi)))∧w'=w:=by
 by_cases h0:lo<=n
 all_goals
  by_cases h1:n<=hi
  all_goals
   go_enter func75,ntmps75;go_wp2;go_ret;exact ⟨rB (by simp;omega),rfl⟩
theorem grownBy_set (w:World) (b o:Nat) (v:Value):w.grownBy (w.setCell ⟨b,o,none⟩ v) (some b):=
 ⟨rfl,rfl,rfl,by simp,fun k hk hne=>Below.heap_setCell _ _ _ _ (fun e=>hne (by rw [e]))⟩
theorem grownBy_trans {a b c:World} {row:Option Nat} (h:a.grownBy b row) (k:b.grownBy c row):a.grownBy c row:=
 ⟨k.os.trans h.os,k.tape.trans h.tape,k.output.trans h.output,Nat.le_trans h.size k.size,fun i hi hne=>(k.block i (Nat.lt_of_lt_of_le hi h.size) hne).trans (h.block i hi hne)⟩
theorem grownBy_drew {a b:World} {row:Option Nat} (h:a.grownBy b row):a.grownBy b.drew row:=⟨h.os,h.tape,h.output,h.size,h.block⟩
def aB (w:World) (a:Option Addr) (xs:List Int):Prop:=
 ∀i:Nat,i<xs.length->∃g off:Nat,a=some ⟨g,off,none⟩∧w.cell? ⟨g,off+i,none⟩=some (iv (xs[i]?.getD 0))
theorem aB.kept {w w':World} {a:Option Addr} {xs:List Int} (h:aB w a xs) (hg:w.grownBy w' none):aB w' a xs:=by
 intro i hi;obtain ⟨g,off,ea,hc⟩:=h i hi;exact ⟨g,off,ea,hg.cell hc (by simp)⟩
theorem sJ {xs ys:List Int} (hl:xs.length=ys.length) (h:∀i,i<xs.length->xs[i]?.getD 0=ys[i]?.getD 0):xs=ys:=by
 apply List.ext_getElem hl;intro i h1 h2;have:=h i h1;simpa [h1,h2] using this
theorem kN {p:Nat->Prop} {k:Nat} (h:∀i,i<k->p i) (hk:p k):∀i,i<k+1->p i:=by
 intro i hi;by_cases e:i=k
 ·rw [e];exact hk
 ·exact h i (by omega)
theorem qB (w:World) (a b:Option Addr) (ca cb:Nat) (xs ys:List Int) (ha:aB w a xs) (hb:aB w b ys) (lx:xs.length<=2000000) (ly:ys.length<=2000000) :
  Calls prog 38 #[.slice a xs.length ca,.slice b ys.length cb] w fun e w'=>e=.returned (.bool (decide (xs=ys)))∧w.grownBy w' none:=by
 by_cases hl:xs.length=ys.length
 ·have kl:(((xs.length:Nat):Int) != ((ys.length:Nat):Int))=false:=by simp [hl]
  have HL:Hid (xs.length=ys.length):=hl;clear hl;go_enter func38,ntmps38;go_wp2;go_loopw [5] (fun j wr=>∃k:Nat,k<=xs.length∧j=iv k∧(∀i,i<k->xs[i]?.getD 0=ys[i]?.getD 0)∧w.grownBy wr none) (fun j _=>xs.length-(intOf j).toNat)
  case atStart=>exact ⟨0,Nat.zero_le _,rfl,fun i hi=>absurd hi (Nat.not_lt_zero i),World.grownBy.refl _ _⟩
  case round=>
   obtain ⟨k,hk,rfl,heq,hg⟩:=hrel;by_cases hlt:k<xs.length
   ·obtain ⟨g1,o1,rfl,hc1⟩:=ha.kept hg k hlt;obtain ⟨g2,o2,rfl,hc2⟩:=hb.kept hg k (by have:=HL.o;omega);have hlt2:k<ys.length:=by have:=HL.o;omega
    have HE:Hid (∀i,i<k->xs[i]?.getD 0=ys[i]?.getD 0):=heq;clear heq ha hb;by_cases he:xs[k]=ys[k]
    ·have ke:(xs[k] != ys[k])=false:=by simpa using he
     have HK:Hid (xs[k]=ys[k]):=he;clear he;go_wp2;go_region;go_wp2;go_roundw
     case rel=>exact ⟨k+1,by omega,by go_num,kN HE.o (by simpa [hlt,hlt2] using HK.o),grownBy_drew hg⟩
     case measure=>simp [intOf];omega
    ·have ke:(xs[k] != ys[k])=true:=by simpa using he
     have HK:Hid (¬xs[k]=ys[k]):=he;clear he;go_wp2;go_region;go_wp2;go_ret;exact ⟨rB (by symm;rw [decide_eq_false_iff_not];intro e;apply HK.o;simp [e]),grownBy_drew hg⟩
   ·have HE:Hid (∀i,i<k->xs[i]?.getD 0=ys[i]?.getD 0):=heq;clear heq;go_wp2;go_ret;exact ⟨rB (by symm;rw [decide_eq_true_iff];exact sJ HL.o (fun i hi=>HE.o i (by omega))),hg⟩
 ·have kl:(((xs.length:Nat):Int) != ((ys.length:Nat):Int))=true:=by rw [bne_iff_ne];omega
  have HL:Hid (¬xs.length=ys.length):=hl;clear hl;go_enter func38,ntmps38;go_wp2;go_ret;exact ⟨rB (by symm;rw [decide_eq_false_iff_not];intro e;apply HL.o;rw [e]),World.grownBy.refl _ _⟩
def Own (w:World) (g:Nat) (xs:List Int):Prop:=
 ∀i:Nat,i<xs.length->w.cell? ⟨g,i,none⟩=some (iv (xs[i]?.getD 0))∧w.frozen? ⟨g,i,none⟩=false
theorem Own.kept {w w':World} {g:Nat} {xs:List Int} {row:Option Nat} (h:Own w g xs) (hg:w.grownBy w' row) (hne:some g≠row):Own w' g xs:=by
 intro i hi;obtain ⟨hc,hf⟩:=h i hi;exact ⟨hg.cell hc hne,by rw [World.frozen?_of_block (w:=w) (hg.block g (World.block_lt_of_cell? _ _ hc) hne)];exact hf⟩
theorem Own.row {w:World} {g:Nat} {xs:List Int} (h:Own w g xs):aB w (some (aac g 0)) xs:=by
 intro i hi;exact ⟨g,0,rfl,by simpa using (h i hi).1⟩
theorem Own.set {w:World} {g k:Nat} {xs:List Int} (h:Own w g xs) (z:Int):Own (w.setCell ⟨g,k,none⟩ (iv z)) g (xs.set k z):=by
 intro i hi;rw [List.length_set] at hi;obtain ⟨hc,hf⟩:=h i hi;refine ⟨?_,by simpa using hf⟩;by_cases e:k=i
 ·subst e;rw [World.cell?_setCell_same _ _ _ hc];simp [hi]
 ·rw [World.cell?_setCell_other _ _ _ _ (fun q=>e (congrArg Addr.off q)),hc];simp [e]
theorem iU {w:World} {base g n cap:Nat} {xs:List Int} (h:w.ownsRow base 3 1 (.slice (some (aac g 0)) n cap) n (xs.map (Value.int .i64))):Own w g xs:=by
 intro i hi;have hc:=h.cells (g:=g) rfl i (iv (xs[i]?.getD 0)) (by simp [hi]);have hadd:((aac g 0):Addr).add i=⟨g,i,none⟩:=by unfold Addr.add;split<;>simp_all
 rw [hadd] at hc;refine ⟨hc,?_⟩;rcases h.2 with ⟨e,_⟩|⟨g',cap',cur,e,_,hgg,_⟩
 ·cases e
 ·cases e;simp [World.frozen?,hgg]
theorem copied {w wr:World} {xs zs:List Int} {k:Nat} (hlt:k<xs.length) (hl:zs.length=xs.length) (hown:Own wr w.heap.size zs) (heq:∀i,i<k->zs[i]?.getD 0=xs[i]?.getD 0) (hsz:w.heap.size<wr.heap.size) (hg:w.grownBy wr none) :
  ∃(k':Nat) (zs':List Int),k'<=xs.length∧Value.int .i64 ((k:Int)+1)=iv k'∧zs'.length=xs.length∧Own (wr.setCell ⟨w.heap.size,k,none⟩ (iv xs[k])) w.heap.size zs'∧(∀i,i<k'->zs'[i]?.getD 0=xs[i]?.getD 0)∧w.heap.size<(wr.setCell ⟨w.heap.size,k,none⟩ (iv xs[k])).heap.size∧w.grownBy (wr.setCell ⟨w.heap.size,k,none⟩ (iv xs[k])) none:=by
 refine ⟨k+1,zs.set k xs[k],by omega,by go_num,by simpa using hl,hown.set _,?_,by simpa using hsz,?_⟩
 ·intro i hi;by_cases e:k=i
  ·subst e;simp [hl,hlt]
  ·rw [List.getElem?_set_ne e];exact heq i (by omega)
 ·exact ⟨hg.os,hg.tape,hg.output,by simpa using hg.size,fun j hj hne=>(Below.heap_setCell _ _ _ _ (by simp;omega)).trans (hg.block j hj hne)⟩
theorem Tryz.info3:(prog.info? 3).map (fun i=>(i.zero,i.size,i.bytes))=some (some (iv 0),1,8):=by kernel_rfl
theorem Be (w:World) (a:Option Addr) (ca:Nat) (xs:List Int) (ha:aB w a xs) (lx:xs.length<=2000000) :
  Calls prog 51 #[.slice a xs.length ca] w fun e w'=>e=.returned (.slice (some (aac w.heap.size 0)) xs.length xs.length)∧Own w' w.heap.size xs∧w.heap.size<w'.heap.size∧w.grownBy w' none:=by
 obtain ⟨i,hi,hz0,hz1,hz2⟩:=info_parts Tryz.info3;go_enter func51,ntmps51;go_wp2_with (first|(at_make;refine wpList_make_full _ rfl _ _ 22 rfl w.heap.size 3 i (iv 0) 1 underlying22 hi hz0 hz1 _ _ _ _ xs.length rfl rfl rfl rfl ?c1 ?c2 ?c3 ?_))
 case c1=>rw [hz2];omega
 case c2=>unfold maxLen;omega
 case c3=>exact Nat.le_refl _
 intro w1 hown hg
 have ho:Own w1 w.heap.size (List.replicate xs.length 0):=iU (base:=w.heap.size) (n:=xs.length) (cap:=xs.length) (by
  have e:(madeCells #[Value.int .i64 0] xs.length).toList=(List.replicate xs.length (0:Int)).map (Value.int .i64):=by
   rw [toList_madeCells_one];simp
  rw [<-e];exact hown)
 have hs:w.heap.size<w1.heap.size:=(hown.lt _ rfl).2;clear hown;go_wp2;go_loopw [4] (fun j wr=>∃(k:Nat) (zs:List Int),k<=xs.length∧j=iv k∧zs.length=xs.length∧Own wr w.heap.size zs∧(∀i,i<k->zs[i]?.getD 0=xs[i]?.getD 0)∧w.heap.size<wr.heap.size∧w.grownBy wr none) (fun j _=>xs.length-(intOf j).toNat)
 case atStart=>exact ⟨0,_,Nat.zero_le _,rfl,by simp,ho,fun i hi=>absurd hi (Nat.not_lt_zero i),hs,hg⟩
 case round=>
  obtain ⟨k,zs,hk,rfl,hl,hown,heq,hsz,hgr⟩:=hrel;by_cases hlt:k<xs.length
  ·obtain ⟨g1,o1,rfl,hc1⟩:=ha.kept hgr k hlt;obtain ⟨hc2,hf2⟩:=hown k (by omega);have HE:Hid (∀i,i<k->zs[i]?.getD 0=xs[i]?.getD 0):=heq;have HL:Hid (zs.length=xs.length):=hl;clear heq ha hl;go_wp2;go_roundw
   case rel=>exact copied hlt HL.o hown HE.o hsz hgr
   case measure=>simp [intOf];omega
  ·have HE:Hid (∀i,i<k->zs[i]?.getD 0=xs[i]?.getD 0):=heq;have HL:Hid (zs.length=xs.length):=hl;clear heq hl;go_wp2;go_ret;have e:zs=xs:=sJ HL.o (fun i hi=>HE.o i (by have:=HL.o;omega));exact ⟨rfl,by rw [<-e];exact hown,hsz,hgr⟩
def marks (k:Int) (n:Nat):List Int:=(List.range n).map (fun (i:Nat)=>k+(i:Int))
theorem pM (k:Int) (n:Nat):(marks k n).length=n:=by simp [marks]
theorem vG (k:Int) (n i:Nat) (h:i<n):(marks k n)[i]?.getD 0=k+(i:Int):=by simp [marks,h]
theorem marked {w wr:World} {g n:Nat} {q:Int} {zs:List Int} {k:Nat} (hlt:k<n) (hl:zs.length=n) (hown:Own wr g zs) (heq:∀i,i<k->zs[i]?.getD 0=q+(i:Int)) (hg:w.grownBy wr (some g)) :
  ∃(k':Nat) (zs':List Int),k'<=n∧Value.int .i64 ((k:Int)+1)=iv k'∧Value.int .i64 (q+(k:Int)+1)=iv (q+(k':Int))∧zs'.length=n∧Own (wr.setCell ⟨g,k,none⟩ (iv (q+(k:Int)))) g zs'∧(∀i,i<k'->zs'[i]?.getD 0=q+(i:Int))∧w.grownBy (wr.setCell ⟨g,k,none⟩ (iv (q+(k:Int)))) (some g):=by
 refine ⟨k+1,zs.set k (q+(k:Int)),by omega,by go_num,by rw [show q+(k:Int)+1=q+((k+1:Nat):Int) from by omega],by simpa using hl,hown.set _,?_,grownBy_trans hg (grownBy_set _ _ _ _)⟩;intro i hi;by_cases e:k=i
 ·subst e;simp [hl,hlt]
 ·rw [List.getElem?_set_ne e];exact heq i (by omega)
theorem zu (w:World) (g ca:Nat) (xs:List Int) (q:Int) (ha:Own w g xs) (lx:xs.length<=2000000) (q0:0<=q) (q1:q<=100000000) :
  Calls prog 39 #[.slice (some (aac g 0)) xs.length ca,iv q] w fun e w'=>e=.returned (iv (q+(xs.length:Int)))∧Own w' g (marks q xs.length)∧w.grownBy w' (some g):=by
 go_enter func39,ntmps39;go_wp2;go_loopw [1,5] (fun m j wr=>∃(k:Nat) (zs:List Int),k<=xs.length∧j=iv k∧m=iv (q+(k:Int))∧zs.length=xs.length∧Own wr g zs∧(∀i,i<k->zs[i]?.getD 0=q+(i:Int))∧w.grownBy wr (some g)) (fun _ j _=>xs.length-(intOf j).toNat)
 case atStart=>exact ⟨0,xs,Nat.zero_le _,rfl,by simp,rfl,ha,fun i hi=>absurd hi (Nat.not_lt_zero i),World.grownBy.refl _ _⟩
 case round=>
  obtain ⟨k,zs,hk,rfl,rfl,hl,hown,heq,hgr⟩:=hrel;have HE:Hid (∀i,i<k->zs[i]?.getD 0=q+(i:Int)):=heq;have HL:Hid (zs.length=xs.length):=hl;by_cases hlt:k<xs.length
  ·obtain ⟨hc2,hf2⟩:=hown k (by omega);clear heq ha hl;go_wp2;go_roundw
   case rel=>exact marked hlt HL.o hown HE.o hgr
   case measure=>simp [intOf];omega
  ·clear heq hl;obtain rfl:k=xs.length:=by omega
   go_wp2;go_ret;have e:zs=marks q xs.length:=sJ (by rw [pM];exact HL.o) (fun i hi=>by rw [vG q _ i (by have:=HL.o;omega)];exact HE.o i (by have:=HL.o;omega));exact ⟨rfl,by rw [<-e];exact hown,hgr⟩
theorem oP (w:World) (a:Option Addr) (ca n:Nat) (q:Int) (ha:aB w a (marks q n)) (lx:n<=2000000) (q0:0<=q) (q1:q<=100000000) :
  Calls prog 40 #[.slice a n ca,iv q] w fun e w'=>e=.returned (iv (q+(n:Int)))∧w.grownBy w' none:=by
 go_enter func40,ntmps40;go_wp2;go_loopw [1,5] (fun m j wr=>∃k:Nat,k<=n∧j=iv k∧m=iv (q+(k:Int))∧w.grownBy wr none) (fun _ j _=>n-(intOf j).toNat)
 case atStart=>exact ⟨0,Nat.zero_le _,rfl,by simp,World.grownBy.refl _ _⟩
 case round=>
  obtain ⟨k,hk,rfl,rfl,hgr⟩:=hrel;by_cases hlt:k<n
  ·obtain ⟨g1,o1,rfl,hc1⟩:=ha.kept hgr k (by rw [pM];exact hlt);rw [vG q n k hlt] at hc1;clear ha;go_wp2;go_roundw
   case rel=>exact ⟨k+1,by omega,by go_num,by rw [show q+(k:Int)+1=q+((k+1:Nat):Int) from by omega],hgr⟩
   case measure=>simp [intOf];omega
  ·obtain rfl:k=n:=by omega
   go_wp2;go_ret;exact ⟨rfl,hgr⟩
def Vh (xs:List Int):Prop:=∀i:Nat,i<xs.length -> -9223372036854775808<=xs[i]?.getD 0∧xs[i]?.getD 0<=9223372036854775807
def Slot (w:World) (base:Nat) (a:Option Addr) (xs:List Int):Prop:=
 (a=none∧xs=[])∨∃g:Nat,a=some (aac g 0)∧base<=g∧g<w.heap.size∧Own w g xs
def blk (a:Option Addr):Option Nat:=a.map Addr.block
theorem aB.below {w w':World} {a:Option Addr} {xs:List Int} (h:aB w a xs) (hb:Below w.heap.size w w'):aB w' a xs:=by
 intro i hi;obtain ⟨g,off,ea,hc⟩:=h i hi;exact ⟨g,off,ea,by rw [hb.cell (World.block_lt_of_cell? _ _ hc)];exact hc⟩
theorem DD (w:World) (ca:Nat) (q:Int):Calls prog 39 #[.slice none 0 ca,iv q] w fun e w'=>e=.returned (iv q)∧w'=w:=by
 go_enter func39,ntmps39;go_wp2;go_loop [1,5] (fun m j=>m=iv q∧j=iv 0) (fun _ _=>0)
 case atStart=>exact ⟨rfl,rfl⟩
 case round=>
  obtain ⟨rfl,rfl⟩:=hrel;go_wp2;go_ret;exact ⟨rfl,rfl⟩
theorem vH (w:World) (base ca:Nat) (a:Option Addr) (xs:List Int) (q:Int) (h:Slot w base a xs) (lx:xs.length<=2000000) (q0:0<=q) (q1:q<=100000000) :
  Calls prog 39 #[.slice a xs.length ca,iv q] w fun e w'=>e=.returned (iv (q+(xs.length:Int)))∧Slot w' base a (marks q xs.length)∧w.grownBy w' (blk a):=by
 rcases h with ⟨rfl,rfl⟩|⟨g,rfl,hb,hlt,ho⟩
 ·refine (DD w ca q).mono ?_;rintro e w' ⟨rfl,rfl⟩;exact ⟨by simp,.inl ⟨rfl,by simp [marks]⟩,World.grownBy.refl _ _⟩
 ·refine (zu w g ca xs q ho lx q0 q1).mono ?_;rintro e w' ⟨rfl,ho',hg⟩;exact ⟨rfl,.inr ⟨g,rfl,hb,Nat.lt_of_lt_of_le hlt hg.size,ho'⟩,hg⟩
def el (xs:List Int) (i:Nat):Int:=xs[i]?.getD 0
theorem grownBy_alloc {a b:World} {row:Option Nat} (h:a.grownBy b row) (o:Obj):a.grownBy (b.alloc o) row:=
 ⟨h.os,h.tape,h.output,Nat.le_trans h.size (by simp),fun k hk hne=>(Below.heap_alloc _ _ _ (Nat.lt_of_lt_of_le hk h.size)).trans (h.block k hk hne)⟩
theorem aj {fn:Func} {p:Tmp} {ty:TypeId} (h:fn.results=#[.cell p ty]) (tmps:Array Value) (P:Program) (w:World) :
  (results fn tmps).run P w=((asAddr (tmps.getD p undef)).run P w).andThen fun a w₁=>(loadVar ty a).run P w₁:=by
 simp only [results,h];simp [Sem.run_bind,Result.andThen]
structure Kept (lo hi:Nat) (w w':World):Prop where
 os:w'.os=w.os
 tape:w'.tape=w.tape
 output:w'.output=w.output
 size:w.heap.size<=w'.heap.size
 block:∀k,k<w.heap.size->¬(lo<=k∧k<hi)->w'.heap[k]? = w.heap[k]?
theorem Kept.refl (lo hi:Nat) (w:World):Kept lo hi w w:=⟨rfl,rfl,rfl,Nat.le_refl _,fun _ _ _=>rfl⟩
theorem Kept.trans {lo hi:Nat} {a b c:World} (h:Kept lo hi a b) (k:Kept lo hi b c):Kept lo hi a c:=
 ⟨k.os.trans h.os,k.tape.trans h.tape,k.output.trans h.output,Nat.le_trans h.size k.size,fun i hi hn=>(k.block i (Nat.lt_of_lt_of_le hi h.size) hn).trans (h.block i hi hn)⟩
theorem Kept.wide {lo hi lo' hi':Nat} {a b:World} (h:Kept lo hi a b) (hl:∀k,lo<=k->k<hi->lo'<=k∧k<hi'):Kept lo' hi' a b:=
 ⟨h.os,h.tape,h.output,h.size,fun i hi hn=>h.block i hi (fun q=>hn (hl i q.1 q.2))⟩
theorem Kept.any {lo hi:Nat} {a b:World} (h:Kept 0 0 a b):Kept lo hi a b:=h.wide (by omega)
theorem aT {w w':World} (h:w.grownBy w' none):Kept 0 0 w w':=⟨h.os,h.tape,h.output,h.size,fun k hk _=>h.block k hk (by simp)⟩
theorem mV {w w':World} (h:Below w.heap.size w w'):Kept 0 0 w w':=⟨h.os,h.tape,h.output,h.size,fun k hk _=>h.block k hk⟩
theorem Kept.below {w w':World} (h:Kept 0 0 w w'):Below w.heap.size w w':=⟨h.os,h.tape,h.output,h.size,fun k hk=>h.block k hk (by omega)⟩
theorem Kept.grown {w w':World} (h:Kept 0 0 w w'):w.grownBy w' none:=⟨h.os,h.tape,h.output,h.size,fun k hk _=>h.block k hk (by omega)⟩
theorem jU {w w':World} {row:Option Nat} {lo hi:Nat} (h:w.grownBy w' row) (hr:∀g,row=some g->lo<=g∧g<hi):Kept lo hi w w':=
 ⟨h.os,h.tape,h.output,h.size,fun k hk hn=>h.block k hk (fun e=>hn (hr k e.symm))⟩
theorem kept_alloc (w:World) (o:Obj):Kept 0 0 w (w.alloc o):=mV ((Below.refl _ w).alloc (Nat.le_refl _) o)
theorem ah {lo hi:Nat} {w w':World} (h:Kept lo hi w w'):Kept lo hi w w'.drew:=⟨h.os,h.tape,h.output,h.size,h.block⟩
theorem au {lo hi:Nat} {w w':World} (h:Kept lo hi w w') (n:Nat):Kept lo hi w (w'.drewN n):=⟨h.os,h.tape,h.output,h.size,h.block⟩
theorem aS {w w1 w2:World} {lo hi:Nat} (h:Below w.heap.size w w1) (k:Kept lo hi w1 w2) (hl:w.heap.size<=lo∨hi<=lo):Below w.heap.size w w2:=
 ⟨k.os.trans h.os,k.tape.trans h.tape,k.output.trans h.output,Nat.le_trans h.size k.size,fun i hi=>(k.block i (Nat.lt_of_lt_of_le hi h.size) (by omega)).trans (h.block i hi)⟩
theorem Own.lt {w:World} {g:Nat} {xs:List Int} (h:Own w g xs) (hx:0<xs.length):g<w.heap.size:=World.block_lt_of_cell? _ _ (h 0 hx).1
theorem Own.ai {w w':World} {g:Nat} {xs:List Int} {lo hi:Nat} (h:Own w g xs) (k:Kept lo hi w w') (hn:¬(lo<=g∧g<hi)):Own w' g xs:=by
 intro i hi';obtain ⟨hc,hf⟩:=h i hi';have e:=k.block g (World.block_lt_of_cell? _ _ hc) hn;exact ⟨by rw [World.cell?_of_block (w:=w) e];exact hc,by rw [World.frozen?_of_block (w:=w) e];exact hf⟩
def aP (w:World) (lo hi:Nat) (a:Option Addr) (xs:List Int):Prop:=
 (a=none∧xs=[])∨∃g:Nat,a=some (aac g 0)∧lo<=g∧g<hi∧Own w g xs
theorem aP.kept {w w':World} {l h lo hi:Nat} {a:Option Addr} {xs:List Int} (s:aP w l h a xs) (k:Kept lo hi w w') (hd:h<=lo∨hi<=l∨hi<=lo):aP w' l h a xs:=by
 rcases s with s|⟨g,ea,g0,g1,ho⟩
 ·exact .inl s
 ·exact .inr ⟨g,ea,g0,g1,ho.ai k (by omega)⟩
theorem aP.wide {w:World} {l h l' h':Nat} {a:Option Addr} {xs:List Int} (s:aP w l h a xs) (hl:l'<=l) (hh:h<=h'):aP w l' h' a xs:=by
 rcases s with s|⟨g,ea,g0,g1,ho⟩
 ·exact .inl s
 ·exact .inr ⟨g,ea,by omega,by omega,ho⟩
theorem aP.row {w:World} {l h:Nat} {a:Option Addr} {xs:List Int} (s:aP w l h a xs):aB w a xs:=by
 rcases s with ⟨_,rfl⟩|⟨g,rfl,_,_,ho⟩
 ·intro i hi;exact absurd hi (Nat.not_lt_zero i)
 ·exact ho.row
theorem aP.slot {w:World} {l h:Nat} {a:Option Addr} {xs:List Int} (s:aP w l h a xs) (hh:h<=w.heap.size):Slot w l a xs:=by
 rcases s with s|⟨g,ea,g0,g1,ho⟩
 ·exact .inl s
 ·exact .inr ⟨g,ea,g0,by omega,ho⟩
theorem aP.again {w w':World} {l h:Nat} {a:Option Addr} {xs ys:List Int} {b:Nat} (s:aP w l h a xs) (s':Slot w' b a ys):aP w' l h a ys:=by
 rcases s' with ⟨rfl,rfl⟩|⟨g',rfl,_,_,ho⟩
 ·exact .inl ⟨rfl,rfl⟩
 ·rcases s with ⟨e,_⟩|⟨g,e,g0,g1,_⟩
  ·cases e
  ·cases e;exact .inr ⟨g',rfl,g0,g1,ho⟩
theorem aP.lN {w:World} {l h:Nat} {a:Option Addr} {xs:List Int} (s:aP w l h a xs):∀g,blk a=some g->l<=g∧g<h:=by
 intro g hg;rcases s with ⟨rfl,_⟩|⟨g',rfl,g0,g1,_⟩
 ·simp [blk] at hg
 ·simp [blk] at hg;omega
def Blk (w:World) (b:Nat) (cs:Array Value) (ty:TypeId):Prop:=w.heap[b]? = some (.cells cs ty)
theorem Blk.lt {w:World} {b:Nat} {cs:Array Value} {ty:TypeId} (h:Blk w b cs ty):b<w.heap.size:=by
 unfold Blk at h;rcases Nat.lt_or_ge b w.heap.size with h'|h'
 ·exact h'
 ·rw [Array.getElem?_eq_none h'] at h;cases h
theorem Blk.kept {w w':World} {b:Nat} {cs:Array Value} {ty:TypeId} {lo hi:Nat} (h:Blk w b cs ty) (k:Kept lo hi w w') (hn:¬(lo<=b∧b<hi)):Blk w' b cs ty:=(k.block b h.lt hn).trans h
theorem Blk.ae {w w':World} {b:Nat} {cs:Array Value} {ty:TypeId} (h:Blk w b cs ty) (k:Kept 0 0 w w'):Blk w' b cs ty:=h.kept k (by omega)
theorem Blk.cell {w:World} {b:Nat} {cs:Array Value} {ty:TypeId} (h:Blk w b cs ty) {i:Nat} {v:Value} (hi:cs[i]? = some v):w.cell? ⟨b,i,none⟩=some v:=by
 unfold Blk at h;simp [World.cell?,h,hi]
theorem Blk.frozen {w:World} {b:Nat} {cs:Array Value} {ty:TypeId} (h:Blk w b cs ty) (i:Nat):w.frozen? ⟨b,i,none⟩=false:=by
 unfold Blk at h;simp [World.frozen?,h]
theorem Blk.set {w:World} {b:Nat} {cs:Array Value} {ty:TypeId} (h:Blk w b cs ty) (i:Nat) (v:Value):Blk (w.setCell ⟨b,i,none⟩ v) b (cs.setIfInBounds i v) ty:=by
 unfold Blk at h ⊢;simp [World.setCell,Array.getElem?_modify,h]
theorem Blk.other {w:World} {b:Nat} {cs:Array Value} {ty:TypeId} (h:Blk w b cs ty) (c i:Nat) (v:Value) (hn:b≠c):Blk (w.setCell ⟨c,i,none⟩ v) b cs ty:=
 (Below.heap_setCell _ _ _ _ (by simpa using hn)).trans h
theorem Blk.new (w:World) (cs:Array Value) (ty:TypeId):Blk (w.alloc (.cells cs ty)) w.heap.size cs ty:=heap_alloc_new w _
theorem Blk.alloc {w:World} {b:Nat} {cs:Array Value} {ty:TypeId} (h:Blk w b cs ty) (o:Obj):Blk (w.alloc o) b cs ty:=(Below.heap_alloc _ _ _ h.lt).trans h
theorem af {w w':World} {lo hi:Nat} (h:Kept lo hi w w') (b i:Nat) (v:Value) (hb:(lo<=b∧b<hi)∨w.heap.size<=b):Kept lo hi w (w'.setCell ⟨b,i,none⟩ v):=
 ⟨h.os,h.tape,h.output,by simpa using h.size,fun k hk hn=>(Below.heap_setCell _ _ _ _ (by simp;omega)).trans (h.block k hk hn)⟩
theorem ag {w w':World} {lo hi:Nat} (h:Kept lo hi w w') (o:Obj):Kept lo hi w (w'.alloc o):=
 ⟨h.os,h.tape,h.output,Nat.le_trans h.size (by simp),fun k hk hn=>(Below.heap_alloc _ _ _ (Nat.lt_of_lt_of_le hk h.size)).trans (h.block k hk hn)⟩
theorem Own.setOther {w:World} {g:Nat} {xs:List Int} (h:Own w g xs) (b i:Nat) (v:Value) (hn:g≠b):Own (w.setCell ⟨b,i,none⟩ v) g xs:=by
 intro j hj;obtain ⟨hc,hf⟩:=h j hj;exact ⟨by rw [World.cell?_setCell_other _ _ _ _ (fun e=>hn (congrArg Addr.block e).symm)];exact hc,by simpa using hf⟩
theorem aB.ai {w w':World} {a:Option Addr} {xs:List Int} (h:aB w a xs) (k:Kept 0 0 w w'):aB w' a xs:=h.kept k.grown
def Came (w:World) (a:Option Addr) (xs:List Int):Prop:=aB w a xs∧Vh xs
theorem Came.ai {w w':World} {a:Option Addr} {xs:List Int} (h:Came w a xs) (k:Kept 0 0 w w'):Came w' a xs:=⟨h.1.ai k,h.2⟩
theorem Came.below {w w':World} {a:Option Addr} {xs:List Int} (h:Came w a xs) (k:Below w.heap.size w w'):Came w' a xs:=⟨h.1.below k,h.2⟩
theorem aK {lo hi:Nat} {w w':World} (h:Kept lo hi w.drew w'):Kept lo hi w w':=⟨h.os,h.tape,h.output,h.size,h.block⟩
theorem iJ {w:World} {g off:Nat} {xs:List Int} (h:aB w (some ⟨g,off,none⟩) xs):∀j u,(xs.map (Value.int .i64))[j]? = some u->w.cell? ((⟨g,off,none⟩:Addr).add j)=some u:=by
 intro j u hu
 have hj:j<xs.length:=by
  rcases Nat.lt_or_ge j xs.length with h'|h'
  ·exact h'
  ·rw [List.getElem?_eq_none (by simpa using h')] at hu;cases hu
 obtain ⟨g',off',e,hc⟩:=h j hj;cases e;have e:u=iv (xs[j]?.getD 0):=by simpa [hj] using hu.symm
 rw [e];by_cases h0:j=0
 ·subst h0;simpa [Addr.add] using hc
 ·simpa [Addr.add,h0] using hc
theorem iD {xs:List Int}:∀u∈xs.map (Value.int .i64),u.oneCell'=true:=by
 intro u hu;obtain ⟨z,_,rfl⟩:=List.mem_map.1 hu;rfl
theorem qQ {w:World} {base:Nat} {e:TypeId} {size:Nat} {v:Value} {n:Nat} {xs:List Value} (h:w.ownsRow base e size v n xs) (hn:0<n):∃g cap:Nat,v=.slice (some (aac g 0)) n cap∧base<=g∧g<w.heap.size:=by
 rcases h.2 with ⟨_,e⟩|⟨g,cap,cur,rfl,hb,_⟩
 ·omega
 ·exact ⟨g,cap,rfl,hb,(h.lt g rfl).2⟩
theorem own_base {w:World} {base base':Nat} {e:TypeId} {size:Nat} {v:Value} {n:Nat} {xs:List Value} (h:w.ownsRow base e size v n xs) (hb:base'<=base):w.ownsRow base' e size v n xs:=by
 refine ⟨h.1,?_⟩;rcases h.2 with h'|⟨g,cap,cur,rfl,hg,rest⟩
 ·exact .inl h'
 ·exact .inr ⟨g,cap,cur,rfl,by omega,rest⟩
theorem Own.uY {w:World} {g k:Nat} {xs:List Int} (h:Own w g xs) (z:Int):Own (w.setCell ⟨g,k,none⟩ (iv z)) g (xs.set k z):=h.set z
theorem vV {xs:List Int} {k i:Nat} {z:Int} (hk:k<xs.length):el (xs.set k z) i=if i=k then z else el xs i:=by
 unfold el;by_cases e:i=k
 ·subst e;rw [List.getElem?_set_self hk,if_pos rfl];rfl
 ·rw [List.getElem?_set_ne (fun q=>e q.symm),if_neg e]
namespace Pl
end Pl
def cellsOf (xs:List Int):Array Value:=(xs.map (Value.int .i64)).toArray
theorem cellsOf_size (xs:List Int):(cellsOf xs).size=xs.length:=by simp [cellsOf]
theorem uh (xs:List Int):(cellsOf xs).all (·.oneCell')=true:=by
 rw [Array.all_eq_true_iff_forall_mem];intro v hv;simp [cellsOf] at hv;obtain ⟨z,_,rfl⟩:=hv;rfl
theorem lC {w w':World} (h:Kept 0 0 w w') (g:Nat) (cs:Array Value) (hg:w.heap.size<=g):Kept 0 0 w (w'.setRow g cs):=
 ⟨h.os,h.tape,h.output,by simpa using h.size,fun k hk hn=>(setRow_other w' g k cs (by omega)).trans (h.block k hk hn)⟩
theorem Blk.setRow {w:World} {b:Nat} {cs ds:Array Value} {ty:TypeId} (h:Blk w b cs ty):Blk (w.setRow b ds) b ds ty:=setRow_heap w b cs ds ty _ h
theorem Blk.yT {w:World} {b g:Nat} {cs ds:Array Value} {ty:TypeId} (h:Blk w b cs ty) (hn:b≠g):Blk (w.setRow g ds) b cs ty:=(setRow_other w g b ds hn).trans h
theorem Bh {cur cs:List Value} (h:cur.length=cs.length):splice cur 0 cs=cs:=by
 unfold splice;rw [List.take_zero,List.nil_append,List.drop_eq_nil_of_le (by omega),List.append_nil]
theorem eY {w W w':World} {B:Nat} (k:Kept 0 0 w W) (h:Below B W w') (hB:w.heap.size<=B):Kept 0 0 w w':=
 ⟨h.os.trans k.os,h.tape.trans k.tape,h.output.trans k.output,Nat.le_trans k.size h.size,fun i hi hn=>(h.block i (by omega)).trans (k.block i hi hn)⟩
theorem wB {w:World} {base g n:Nat} {vs:List Value} {e:TypeId} {size:Nat} (h:w.ownsRow base e size (.slice (some (aac g 0)) n n) n vs):Blk w g vs.toArray e:=by
 rcases h with ⟨hl,⟨q,_⟩|⟨g',cap',cur,q,_,hgg,_,_,hsz,ht⟩⟩
 ·cases q
 ·cases q;rw [List.take_of_length_le (by simp [hsz])] at ht;rw [<-ht];exact hgg
theorem iC {w:World} {g:Nat} {xs:List Int} {e:TypeId} (h:Blk w g (cellsOf xs) e):Own w g xs:=by
 intro i hi;refine ⟨h.cell (by simp [cellsOf,hi]),h.frozen i⟩
theorem aH {w W W':World} {lo hi:Nat} (k:Kept 0 0 w W) (h:Kept lo hi W W') (hg:w.heap.size<=lo):Kept 0 0 w W':=
 ⟨h.os.trans k.os,h.tape.trans k.tape,h.output.trans k.output,Nat.le_trans k.size h.size,fun i hi hn=>(h.block i (Nat.lt_of_lt_of_le hi k.size) (by omega)).trans (k.block i hi hn)⟩
theorem yC (W:World) (g off dLen dCap sCap:Nat) (sp:Option Addr) (cs:List Int) (cur:List Value) (t:TypeId) (hB:Blk W g cur.toArray t) (hr:aB W sp cs) (hl:cs.length<=dLen) (hfit:off+cs.length<=cur.length) :
  ∃W',(Builtin.copy_ #[22,22] 3 #[.slice (some ⟨g,off,none⟩) dLen dCap,.slice sp cs.length sCap]).run prog W=.ok (iv cs.length) W'∧Blk W' g (splice cur off (cs.map (Value.int .i64))).toArray t∧Kept g (g+1) W W':=by
 have HS:(prog.info? 3).map (·.size)=some 1:=by kernel_rfl
 by_cases h0:cs.length=0
 ·obtain rfl:cs=[]:=List.eq_nil_of_length_eq_zero h0;refine ⟨W,run_copy_none (P:=prog) W 22 22 3 3 _ _ _ _ _ _ underlying22 HS (by simp),?_,Kept.refl _ _ _⟩;simpa [splice] using hB
 ·obtain ⟨ga,oa,rfl,_⟩:=hr 0 (by omega);have h:=run_copy_row prog W 22 22 3 3 g off dLen dCap ⟨ga,oa,none⟩ cs.length sCap cur.toArray t (cs.map (Value.int .i64)) underlying22 HS hB (by simp only [List.length_map];exact (Nat.min_eq_left hl).symm) (iJ hr) (by simpa using hfit) iD;refine ⟨_,by rw [h,List.length_map];rfl,?_,?_⟩
  ·have:=hB.setRow (ds:=(List.take off cur.toArray.toList++cs.map (Value.int .i64)++List.drop (off+(cs.map (Value.int .i64)).length) cur.toArray.toList).toArray)
   simpa [splice] using this
  ·exact ⟨rfl,rfl,rfl,by simp,fun k hk hn=>setRow_other W g k _ (by omega)⟩
theorem xX {w w':World} {b:Nat} (h:Kept b (b+1) w w'):w.grownBy w' (some b):=
 ⟨h.os,h.tape,h.output,h.size,fun k hk hn=>h.block k hk (fun q=>hn (by rw [show k=b by omega]))⟩
def szB (n m:Nat) (left:Int):Int:=if left-(n:Int)<0 then -1 else if left-(n:Int)-(m:Int)<0 then -1 else left-(n:Int)-(m:Int)
theorem Dj {n m:Nat} {left:Int} (h:¬szB n m left<0):(n:Int)+(m:Int)<=left:=by
 unfold szB at h;split at h
 ·exact absurd (by decide) h
 ·split at h
  ·exact absurd (by decide) h
  ·omega
theorem Blk.all {w:World} {b:Nat} {cs:Array Value} {ty:TypeId} (h:Blk w b cs ty) (i:Nat):w.cell? ⟨b,i,none⟩=cs[i]? := by
 have e:w.heap[b]? = some (.cells cs ty (0,0)):=h;unfold World.cell?;dsimp only;rw [e];simp
theorem Blk.fz {w:World} {b:Nat} {cs:Array Value} {ty:TypeId} (h:Blk w b cs ty) (i:Nat):w.frozen? ⟨b,i,none⟩=false:=h.frozen i
end Go.Proofs.YtgikibaajanjiaaGreatDoor
namespace Go.Proofs.YtgikibaajanjiaaGreatDoor.Pl
set_option linter.unusedVariables false
structure Rg where
 xs:List Int
 ys:List Int
 o:Int
 p:Int
 f:Int
 m:Int
 s:Bool
 t:Bool
def YQ:Rg:=⟨[],[],0,0,0,0,false,false⟩
def within (n lo hi:Int):Bool:=decide (lo<=n)&&decide (n<=hi)
def aJ (n:Int):Bool:=within n 0 65535
def iP (xs:List Int):Bool:=xs.all aJ&&decide ((xs.length:Int)=4)
def rW (r:Rg):Bool:=iP r.xs&&(iP r.ys&&(aJ r.o&&(aJ r.p&&(within r.f 0 31&&within r.m 0 7))))
def jL (m:Int):Bool:=decide (5<=m)
def bI (m:Int):Bool:=within m 0 7
def iL (m r e:Int):Bool:=bI m&&(within r 0 3&&((decide (m<6)||(r==0))&&(aJ e&&(jL m||(e==0)))))
def fl1 (b:Bool) (n:Int):Int:=if b then n else 0
def status (r:Rg):Int:=r.f+32*r.m+fl1 r.s 256+fl1 r.t 512
def bY (n:Int):Bool:=decide (n/256%2=1)
def dZ (n:Int):Bool:=decide (n/512%2=1)
def aX (r:Rg) (n:Int):Rg:=
 if bY n=r.s then {r with s:=bY n,t:=dZ n,m:=n/32%8,f:=n%32}
 else {r with ys:=r.ys.set 3 r.o,o:=el r.ys 3,s:=bY n,t:=dZ n,m:=n/32%8,f:=n%32}
def kU (r:Rg) (z k v:Int):Rg:={r with xs:=r.xs.set k.toNat (if z=1 then el r.xs k.toNat/256*256+v else v)}
def byN (z k:Int):Int:=if z=1∧k≠3 then 1 else 2
def bg (r:Rg) (z m k e:Int):Int:=if m=4 then (el r.ys k.toNat-byN z k)%65536 else if m=5 then (el r.ys k.toNat+e)%65536 else if m=6 then e else el r.ys k.toNat
def bu (r:Rg) (z m k e:Int):Rg:=if m=3 then {r with ys:=r.ys.set k.toNat ((el r.ys k.toNat+byN z k)%65536)} else if m=4 then {r with ys:=r.ys.set k.toNat ((el r.ys k.toNat-byN z k)%65536)} else r
structure Good (r:Rg):Prop where
 d4:r.xs.length=4
 a4:r.ys.length=4
 dw:∀i,i<4->0<=el r.xs i∧el r.xs i<=65535
 aw:∀i,i<4->0<=el r.ys i∧el r.ys i<=65535
 o0:0<=r.o
 o1:r.o<=65535
 f0:0<=r.f
 f1:r.f<=31
 m0:0<=r.m
 m1:r.m<=7
theorem Eb {xs:List Int} (h:iP xs=true):xs.length=4∧∀i,i<4->0<=el xs i∧el xs i<=65535:=by
 simp only [iP,Bool.and_eq_true,decide_eq_true_eq] at h;obtain ⟨h1,h2⟩:=h;refine ⟨by omega,fun i hi => ?_⟩;have hl:i<xs.length:=by omega
 have:=List.all_eq_true.1 h1 (xs[i]'hl) (List.getElem_mem hl)
 simp only [aJ,within,Bool.and_eq_true,decide_eq_true_eq] at this;simpa [el,List.getElem?_eq_getElem hl] using this
theorem PI {r:Rg} (h:rW r=true):Good r:=by
 simp only [rW,Bool.and_eq_true,aJ,within,decide_eq_true_eq] at h;obtain ⟨h1,h2,⟨h3,h4⟩,_,⟨h5,h6⟩,h7,h8⟩:=h;obtain ⟨a1,a2⟩:=Eb h1;obtain ⟨b1,b2⟩:=Eb h2;exact ⟨a1,b1,a2,b2,h3,h4,h5,h6,h7,h8⟩
theorem Vf {xs:List Int} {i:Nat} (hi:i<xs.length) (h:aJ (el xs i)=false):iP xs=false:=by
 cases e:iP xs
 ·rfl
 ·simp only [iP,Bool.and_eq_true] at e;have:=List.all_eq_true.1 e.1 (xs[i]'hi) (List.getElem_mem hi);simp [el,List.getElem?_eq_getElem hi] at h;rw [h] at this;cases this
theorem Ve {xs:List Int} (h:∀i,i<xs.length->aJ (el xs i)=true):iP xs=decide ((xs.length:Int)=4):=by
 have:xs.all aJ=true:=by
  rw [List.all_eq_true];intro x hx;obtain ⟨i,hi,rfl⟩:=List.getElem_of_mem hx;have:=h i hi;simpa [el,List.getElem?_eq_getElem hi] using this
 unfold iP;rw [this,Bool.true_and]
end Go.Proofs.YtgikibaajanjiaaGreatDoor.Pl
namespace Go.Proofs.YtgikibaajanjiaaGreatDoor
open Pl
open Go.RowKit Go.Proofs.Tryz
set_option linter.unusedVariables false
theorem wY (s:Int) (w:World) (h1:¬s=1) (h2:¬s=2):Calls prog 103 #[iv s] w fun e w'=>e=.returned (.bool false)∧w'=w:=by
 have k1:(s==1)=false:=by simpa using h1
 have k2:(s==2)=false:=by simpa using h2
 go_enter func103,ntmps103;go_wp2;go_ret;exact ⟨rfl,rfl⟩
theorem uF (w:World):Calls prog 103 #[iv 1] w fun e w'=>e=.returned (.bool true)∧w'=w:=by
 go_enter func103,ntmps103;go_wp2;go_ret;exact ⟨rfl,rfl⟩
theorem uD (w:World):Calls prog 103 #[iv 2] w fun e w'=>e=.returned (.bool true)∧w'=w:=by
 go_enter func103,ntmps103;go_wp2;go_ret;exact ⟨rfl,rfl⟩
theorem og (z:Int) (w:World):Calls prog 103 #[iv z] w fun e w'=>e=.returned (.bool (decide (z=1)||decide (z=2)))∧w'=w:=by
 by_cases h1:z=1
 ·subst h1;exact uF w
 ·by_cases h2:z=2
  ·subst h2;exact uD w
  ·rw [show (decide (z=1)||decide (z=2))=false from by simp [h1,h2]];exact wY z w h1 h2
theorem iO (w:World):Calls prog 205 #[iv 1] w fun e w'=>e=.returned (iv 256)∧w'=w:=by
 go_enter func205,ntmps205;go_wp2;go_ret;exact ⟨rfl,rfl⟩
theorem iM (w:World):Calls prog 205 #[iv 2] w fun e w'=>e=.returned (iv 65536)∧w'=w:=by
 go_enter func205,ntmps205;go_wp2;go_ret;exact ⟨rfl,rfl⟩
theorem jP (s v:Int) (w:World) :
  Calls prog 202 #[iv s,iv v] w fun e w'=>e=.returned (.bool (okv s v))∧w'=w:=by
 by_cases h1:s=1
 ·subst h1;go_enter func202,ntmps202;go_wp2_with fail;refine (uF _).mono ?_;rintro e w' ⟨rfl,rfl⟩;go_wp2_with fail;refine (iO _).mono ?_;rintro e w' ⟨rfl,rfl⟩;go_wp2_with fail;refine (dG _ _ _ _).mono ?_;rintro e w' ⟨rfl,rfl⟩;go_wp2_with fail;go_ret;exact ⟨rB (by rw [Bool.eq_iff_iff];simp [okv,Pl.top];omega),rfl⟩
 ·by_cases h2:s=2
  ·subst h2;go_enter func202,ntmps202;go_wp2_with fail;refine (uD _).mono ?_;rintro e w' ⟨rfl,rfl⟩;go_wp2_with fail;refine (iM _).mono ?_;rintro e w' ⟨rfl,rfl⟩;go_wp2_with fail;refine (dG _ _ _ _).mono ?_;rintro e w' ⟨rfl,rfl⟩;go_wp2_with fail;go_ret;exact ⟨rB (by rw [Bool.eq_iff_iff];simp [okv,Pl.top];omega),rfl⟩
  ·go_enter func202,ntmps202;go_wp2_with fail;refine (wY s _ h1 h2).mono ?_;rintro e w' ⟨rfl,rfl⟩;go_wp2_with fail;go_ret;exact ⟨rB (by simp [okv,h1,h2]),rfl⟩
theorem dH (n:Int) (w:World):Calls prog 57 #[iv n] w fun e w'=>e=.returned (.bool (aJ n))∧w'=w:=by
 go_enter func57,ntmps57;go_wp2_with (go_at_call 75;refine st (dG _ _ _ _) ?_);go_ret;exact ⟨rfl,rfl⟩
theorem ou (n:Int) (w:World):Calls prog 131 #[iv n] w fun e w'=>e=.returned (.bool (jL n))∧w'=w:=by
 go_enter func131,ntmps131;go_wp2;go_ret;exact ⟨rfl,rfl⟩
theorem dP (w:World) (m k e:Int) :
  Calls prog 104 #[.agg #[iv m,iv k,iv e]] w fun r w'=>r=.returned (.bool (iL m k e))∧Kept 0 0 w w':=by
 have HK:=aab (kept_alloc w (.cells #[iv m,iv k,iv e] 46));have G:Hid (iL m k e=(bI m&&(within k 0 3&&((decide (m<6)||(k==0))&&(aJ e&&(jL m||(e==0))))))):=aab rfl;cases h1:bI m
 ·go_enter func104,ntmps104;go_wp2_with (first|(go_at_call 75;refine st (dG _ _ _ _) ?_;rw [show (decide (0<=m)&&decide (m<=7))=bI m from rfl,h1];have Z1:True:=trivial));go_ret;exact ⟨rB (by rw [G.o,h1];simp),HK.o⟩
 ·cases h2:within k 0 3
  ·go_enter func104,ntmps104;go_wp2_with (first|(go_at_call 75;have z:=Z1;refine st (dG _ _ _ _) ?_;rw [show (decide (0<=k)&&decide (k<=3))=within k 0 3 from rfl,h2])|(go_at_call 75;refine st (dG _ _ _ _) ?_;rw [show (decide (0<=m)&&decide (m<=7))=bI m from rfl,h1];have Z1:True:=trivial));go_ret;exact ⟨rB (by rw [G.o,h1,h2];simp),HK.o⟩
  ·cases h3:decide (6<=m)
   ·have q3:decide (m<6)=true:=by simp at h3 ⊢;omega
    cases h4:aJ e
    ·go_enter func104,ntmps104;go_wp2_with (first|(go_at_call 75;have z:=Z1;refine st (dG _ _ _ _) ?_;rw [show (decide (0<=k)&&decide (k<=3))=within k 0 3 from rfl,h2])|(go_at_call 75;refine st (dG _ _ _ _) ?_;rw [show (decide (0<=m)&&decide (m<=7))=bI m from rfl,h1];have Z1:True:=trivial)|(go_at_call 57;refine st (dH _ _) ?_;rw [h4]));go_ret;exact ⟨rB (by rw [G.o,h1,h2,q3,h4];simp),HK.o⟩
    ·cases h5:jL m
     ·cases h6:(e==0)
      all_goals
       go_enter func104,ntmps104;go_wp2_with (first|(go_at_call 75;have z:=Z1;refine st (dG _ _ _ _) ?_;rw [show (decide (0<=k)&&decide (k<=3))=within k 0 3 from rfl,h2])|(go_at_call 75;refine st (dG _ _ _ _) ?_;rw [show (decide (0<=m)&&decide (m<=7))=bI m from rfl,h1];have Z1:True:=trivial)|(go_at_call 57;refine st (dH _ _) ?_;rw [h4])|(go_at_call 131;refine st (ou _ _) ?_;rw [h5]));go_ret;exact ⟨rB (by rw [G.o,h1,h2,q3,h4,h5,h6];simp),HK.o⟩
     ·go_enter func104,ntmps104;go_wp2_with (first|(go_at_call 75;have z:=Z1;refine st (dG _ _ _ _) ?_;rw [show (decide (0<=k)&&decide (k<=3))=within k 0 3 from rfl,h2])|(go_at_call 75;refine st (dG _ _ _ _) ?_;rw [show (decide (0<=m)&&decide (m<=7))=bI m from rfl,h1];have Z1:True:=trivial)|(go_at_call 57;refine st (dH _ _) ?_;rw [h4])|(go_at_call 131;refine st (ou _ _) ?_;rw [h5]));go_ret;exact ⟨rB (by rw [G.o,h1,h2,q3,h4,h5];simp),HK.o⟩
   ·have q3:decide (m<6)=false:=by simp at h3 ⊢;omega
    cases h7:(k != 0)
    ·have q7:(k==0)=true:=by simpa using h7
     cases h4:aJ e
     ·go_enter func104,ntmps104;go_wp2_with (first|(go_at_call 75;have z:=Z1;refine st (dG _ _ _ _) ?_;rw [show (decide (0<=k)&&decide (k<=3))=within k 0 3 from rfl,h2])|(go_at_call 75;refine st (dG _ _ _ _) ?_;rw [show (decide (0<=m)&&decide (m<=7))=bI m from rfl,h1];have Z1:True:=trivial)|(go_at_call 57;refine st (dH _ _) ?_;rw [h4]));go_ret;exact ⟨rB (by rw [G.o,h1,h2,q3,q7,h4];simp),HK.o⟩
     ·cases h5:jL m
      ·cases h6:(e==0)
       all_goals
        go_enter func104,ntmps104;go_wp2_with (first|(go_at_call 75;have z:=Z1;refine st (dG _ _ _ _) ?_;rw [show (decide (0<=k)&&decide (k<=3))=within k 0 3 from rfl,h2])|(go_at_call 75;refine st (dG _ _ _ _) ?_;rw [show (decide (0<=m)&&decide (m<=7))=bI m from rfl,h1];have Z1:True:=trivial)|(go_at_call 57;refine st (dH _ _) ?_;rw [h4])|(go_at_call 131;refine st (ou _ _) ?_;rw [h5]));go_ret;exact ⟨rB (by rw [G.o,h1,h2,q3,q7,h4,h5,h6];simp),HK.o⟩
      ·go_enter func104,ntmps104;go_wp2_with (first|(go_at_call 75;have z:=Z1;refine st (dG _ _ _ _) ?_;rw [show (decide (0<=k)&&decide (k<=3))=within k 0 3 from rfl,h2])|(go_at_call 75;refine st (dG _ _ _ _) ?_;rw [show (decide (0<=m)&&decide (m<=7))=bI m from rfl,h1];have Z1:True:=trivial)|(go_at_call 57;refine st (dH _ _) ?_;rw [h4])|(go_at_call 131;refine st (ou _ _) ?_;rw [h5]));go_ret;exact ⟨rB (by rw [G.o,h1,h2,q3,q7,h4,h5];simp),HK.o⟩
    ·have q7:(k==0)=false:=by simpa using h7
     go_enter func104,ntmps104;go_wp2_with (first|(go_at_call 75;have z:=Z1;refine st (dG _ _ _ _) ?_;rw [show (decide (0<=k)&&decide (k<=3))=within k 0 3 from rfl,h2])|(go_at_call 75;refine st (dG _ _ _ _) ?_;rw [show (decide (0<=m)&&decide (m<=7))=bI m from rfl,h1];have Z1:True:=trivial));go_ret;exact ⟨rB (by rw [G.o,h1,h2,q3,q7];simp),HK.o⟩
theorem rU (n:Int) (w:World):Calls prog 147 #[iv n] w fun e w'=>e=.returned (.bool (within n 0 31))∧w'=w:=by
 go_enter func147,ntmps147;go_wp2_with (go_at_call 75;refine st (dG _ _ _ _) ?_);go_ret;exact ⟨rfl,rfl⟩
theorem gu (w:World) (a:Option Addr) (ca:Nat) (xs:List Int) (ha:aB w a xs) (lx:xs.length<=2000000) :
  Calls prog 146 #[.slice a xs.length ca] w fun e w'=>e=.returned (.bool (iP xs))∧w'=w:=by
 have HA:=aab ha;clear ha;go_enter func146,ntmps146;go_wp2;go_loop [4,7] (fun _ j=>∃k:Nat,k<=xs.length∧j=iv k∧∀i,i<k->aJ (el xs i)=true) (fun _ j=>xs.length-(intOf j).toNat)
 case atStart=>exact ⟨0,Nat.zero_le _,rfl,fun i hi=>absurd hi (Nat.not_lt_zero i)⟩
 case round=>
  obtain ⟨k,hk,rfl,heq⟩:=hrel;have HE:=aab heq;clear heq;by_cases hlt:k<xs.length
  ·obtain ⟨g1,o1,rfl,hc1⟩:=HA.o k hlt;rw [show xs[k]?.getD 0=el xs k from rfl] at hc1;cases hb:aJ (el xs k)
   ·go_wp2_with (go_at_call 57;refine st (dH _ _) ?_;rw [hb]);go_ret;exact ⟨rB (Vf hlt hb).symm,rfl⟩
   ·go_wp2_with (go_at_call 57;refine st (dH _ _) ?_;rw [hb]);go_round
    case rel=>exact ⟨k+1,by omega,by go_num,kN HE.o hb⟩
    case measure=>simp [intOf];omega
  ·have E:Hid (iP xs=decide ((xs.length:Int)=4)):=aab (Ve (fun i hi=>HE.o i (by omega)));cases h4:((xs.length:Int)==4)
   all_goals
    go_wp2;go_ret;exact ⟨rB (by rw [E.o];simp at h4;simp [h4]),rfl⟩
theorem kD (w:World) (r:Rg) (a b:Option Addr) (ca cb:Nat) (ha:aB w a r.xs) (hb:aB w b r.ys) (lx:r.xs.length<=2000000) (ly:r.ys.length<=2000000) :
  Calls prog 101 #[.agg #[.slice a r.xs.length ca,.slice b r.ys.length cb,iv r.o,iv r.p,iv r.f,iv r.m,.bool r.s,.bool r.t]] w fun e w'=>e=.returned (.bool (rW r))∧Kept 0 0 w w':=by
 have HA:=aab ha;have HB:=aab hb;have HK:=aab (kept_alloc w (.cells #[.slice a r.xs.length ca,.slice b r.ys.length cb,iv r.o,iv r.p,iv r.f,iv r.m,.bool r.s,.bool r.t] 35));clear ha hb;have G:Hid (rW r=(iP r.xs&&(iP r.ys&&(aJ r.o&&(aJ r.p&&(within r.f 0 31&&within r.m 0 7)))))):=aab rfl;cases h1:iP r.xs
 ·go_enter func101,ntmps101;go_wp2_with (first|(go_at_call 146;refine st (gu _ a ca r.xs (HA.o.ai HK.o) lx) ?_;rw [h1];have Z1:True:=trivial));go_ret;exact ⟨rB (by rw [G.o,h1];simp),HK.o⟩
 ·cases h2:iP r.ys
  ·go_enter func101,ntmps101;go_wp2_with (first|(go_at_call 146;have z:=Z1;refine st (gu _ b cb r.ys (HB.o.ai HK.o) ly) ?_;rw [h2])|(go_at_call 146;refine st (gu _ a ca r.xs (HA.o.ai HK.o) lx) ?_;rw [h1];have Z1:True:=trivial));go_ret;exact ⟨rB (by rw [G.o,h1,h2];simp),HK.o⟩
  ·cases h3:aJ r.o
   ·go_enter func101,ntmps101;go_wp2_with (first|(go_at_call 146;have z:=Z1;refine st (gu _ b cb r.ys (HB.o.ai HK.o) ly) ?_;rw [h2])|(go_at_call 146;refine st (gu _ a ca r.xs (HA.o.ai HK.o) lx) ?_;rw [h1];have Z1:True:=trivial)|(go_at_call 57;refine st (dH r.o _) ?_;rw [h3];have Z3:True:=trivial));go_ret;exact ⟨rB (by rw [G.o,h1,h2,h3];simp),HK.o⟩
   ·cases h4:aJ r.p
    ·go_enter func101,ntmps101;go_wp2_with (first|(go_at_call 146;have z:=Z1;refine st (gu _ b cb r.ys (HB.o.ai HK.o) ly) ?_;rw [h2])|(go_at_call 146;refine st (gu _ a ca r.xs (HA.o.ai HK.o) lx) ?_;rw [h1];have Z1:True:=trivial)|(go_at_call 57;have z:=Z3;refine st (dH r.p _) ?_;rw [h4])|(go_at_call 57;refine st (dH r.o _) ?_;rw [h3];have Z3:True:=trivial));go_ret;exact ⟨rB (by rw [G.o,h1,h2,h3,h4];simp),HK.o⟩
    ·cases h5:within r.f 0 31
     ·go_enter func101,ntmps101;go_wp2_with (first|(go_at_call 146;have z:=Z1;refine st (gu _ b cb r.ys (HB.o.ai HK.o) ly) ?_;rw [h2])|(go_at_call 146;refine st (gu _ a ca r.xs (HA.o.ai HK.o) lx) ?_;rw [h1];have Z1:True:=trivial)|(go_at_call 57;have z:=Z3;refine st (dH r.p _) ?_;rw [h4])|(go_at_call 57;refine st (dH r.o _) ?_;rw [h3];have Z3:True:=trivial)|(go_at_call 147;refine st (rU _ _) ?_;rw [h5]));go_ret;exact ⟨rB (by rw [G.o,h1,h2,h3,h4,h5];simp),HK.o⟩
     ·cases h6:within r.m 0 7
      ·go_enter func101,ntmps101;go_wp2_with (first|(go_at_call 146;have z:=Z1;refine st (gu _ b cb r.ys (HB.o.ai HK.o) ly) ?_;rw [h2])|(go_at_call 146;refine st (gu _ a ca r.xs (HA.o.ai HK.o) lx) ?_;rw [h1];have Z1:True:=trivial)|(go_at_call 57;have z:=Z3;refine st (dH r.p _) ?_;rw [h4])|(go_at_call 57;refine st (dH r.o _) ?_;rw [h3];have Z3:True:=trivial)|(go_at_call 147;refine st (rU _ _) ?_;rw [h5])|(go_at_call 75;refine st (dG _ _ _ _) ?_;rw [show (decide (0<=r.m)&&decide (r.m<=7))=within r.m 0 7 from rfl,h6]));go_ret;exact ⟨rB (by rw [G.o,h1,h2,h3,h4,h5,h6];simp),HK.o⟩
      ·go_enter func101,ntmps101;go_wp2_with (first|(go_at_call 146;have z:=Z1;refine st (gu _ b cb r.ys (HB.o.ai HK.o) ly) ?_;rw [h2])|(go_at_call 146;refine st (gu _ a ca r.xs (HA.o.ai HK.o) lx) ?_;rw [h1];have Z1:True:=trivial)|(go_at_call 57;have z:=Z3;refine st (dH r.p _) ?_;rw [h4])|(go_at_call 57;refine st (dH r.o _) ?_;rw [h3];have Z3:True:=trivial)|(go_at_call 147;refine st (rU _ _) ?_;rw [h5])|(go_at_call 75;refine st (dG _ _ _ _) ?_;rw [show (decide (0<=r.m)&&decide (r.m<=7))=within r.m 0 7 from rfl,h6]));go_ret;exact ⟨rB (by rw [G.o,h1,h2,h3,h4,h5,h6];simp),HK.o⟩
theorem DL (b:Bool) (f:Int) (w:World):Calls prog 208 #[.bool b,iv f] w fun e w'=>e=.returned (iv (fl1 b f))∧w'=w:=by
 cases b
 all_goals
  go_enter func208,ntmps208;go_wp2;go_ret;exact ⟨rfl,rfl⟩
theorem w64 {n:Int} (h0 : -9223372036854775808<=n) (h1:n<=9223372036854775807):IntKind.i64.wrap n=n:=by rw [IntKind.wrap_i64];omega
theorem Kr (b:Bool) (n:Int) (h:0<=n):0<=fl1 b n∧fl1 b n<=n:=by cases b<;>simp [fl1]<;>omega
theorem uQ (w:World) (r:Rg) (a b:Option Addr) (ca cb:Nat) (hg:Pl.Good r) :
  Calls prog 163 #[.agg #[.slice a r.xs.length ca,.slice b r.ys.length cb,iv r.o,iv r.p,iv r.f,iv r.m,.bool r.s,.bool r.t]] w fun e w'=>e=.returned (iv (Pl.status r))∧Kept 0 0 w w':=by
 have HK:=aab (kept_alloc w (.cells #[.slice a r.xs.length ca,.slice b r.ys.length cb,iv r.o,iv r.p,iv r.f,iv r.m,.bool r.s,.bool r.t] 35));have f0:=hg.f0;have f1:=hg.f1;have m0:=hg.m0;have m1:=hg.m1;clear hg;obtain ⟨s0,s1⟩:=Kr r.s 256 (by decide);obtain ⟨t0,t1⟩:=Kr r.t 512 (by decide);have e1:IntKind.i64.wrap (32*r.m)=32*r.m:=w64 (by omega) (by omega);have e2:IntKind.i64.wrap (r.f+32*r.m)=r.f+32*r.m:=w64 (by omega) (by omega);have e3:IntKind.i64.wrap (r.f+32*r.m+fl1 r.s 256)=r.f+32*r.m+fl1 r.s 256:=w64 (by omega) (by omega);have e4:IntKind.i64.wrap (r.f+32*r.m+fl1 r.s 256+fl1 r.t 512)=r.f+32*r.m+fl1 r.s 256+fl1 r.t 512:=w64 (by omega) (by omega);go_enter func163,ntmps163;go_wp2_with fail;go_quiet (first|(go_at_call 208;exact Calls.quiet_of_same (DL _ _ _))|fail);go_wp2_with fail;go_ret;exact ⟨rI rfl,au HK.o _⟩
theorem vz {w:World} {g base size:Nat} {e:TypeId} (h:Blk w g #[] e) (hb:base<=g):w.ownsRow base e size (.slice (some (aac g 0)) 0 0) 0 []:=
 ⟨by simp,.inr ⟨g,0,#[],rfl,hb,h,Nat.le_refl _,Nat.zero_le _,by simp,by simp⟩⟩
theorem xk {ops:Array Oper} {rest:List Oper} {o:Oper} {a:Act} {w:World} {Q:Exit->Act->World->Prop} (hgd:o.guard=none) (s x:Operand)
  (ho:o.op=.call {callee:=.builtin .append,args:=#[s,x],argTypes:=#[22,22]}) (base g:Nat) (hs:a.eval s=.slice (some (aac g 0)) 0 0) (hg:Blk w g #[] 3) (hbg:base<=g)
  (sp:Option Addr) (n c:Nat) (xs:List Int) (hx:a.eval x=.slice sp n c) (hr:aB w sp xs) (hn:xs.length=n) (bn:n<=2000000) (H:Nat) (hH:w.heap.size=H)
  (h:∀(g' cap:Nat) (w':World),w'.ownsRow base 3 1 (.slice (some (aac g' 0)) n cap) n (xs.map (Value.int .i64))->Kept g (g+1) w w'->(g'=g∨g'=H)->g'<w'.heap.size->wpList prog ops Q rest (a.put o.dst (.slice (some (aac g' 0)) n cap)) w') :
  wpList prog ops Q (o :: rest) a w:=by
 obtain ⟨i,hi,hz0,hz1,hz2⟩:=info_parts Tryz.info3;have hlt:=hg.lt;by_cases h0:n=0
 ·subst h0;obtain rfl:xs=[]:=List.eq_nil_of_length_eq_zero hn;have hl0:∀(x:Addr),(loadCells x 0).run prog w=.ok #[] w:=fun x=>by simpa using run_loadCells_list (P:=prog) w x [] (by simp)
  have hrun:(Builtin.append_ #[22,22] o.type #[.slice (some (aac g 0)) 0 0,.slice sp 0 c]).run prog w=.ok (.slice (some (aac g 0)) 0 0) w:=by
   cases sp<;>simp [Builtin.append_,run_underlying underlying22,Builtin.lenOf,Builtin.firstCells,sizeOf,typeInfo,hi,storeCells,hl0]
  refine wpList_plain hgd fun K hK => ?_;unfold Oper.wp;simp [execOp,ho,resolve,invoke,builtin,hs,hx,hrun,Result.andThen];exact hK _ _ (h g 0 w (vz hg hbg) (Kept.refl _ _ _) (.inl rfl) hlt)
 ·obtain ⟨ga,oa,rfl,_⟩:=hr 0 (by omega);refine wpList_append_lies _ hgd s x 22 ho base 3 i (iv 0) 1 8 underlying22 hi hz0 hz1 hz2 rfl (by decide) (.slice (some (aac g 0)) 0 0) 0 [] hs (vz hg hbg) ⟨ga,oa,none⟩ n c (xs.map (Value.int .i64)) hx (by simp [hn]) (iJ hr) iD (by omega) (by unfold maxLen;omega) (by omega) (by omega) H hH ?_;intro g' cap w' h1 h2 h3 h4;simp only [Nat.zero_add,List.nil_append] at h1 ⊢;refine h g' cap w' h1 (jU h2 (by intro j hj;have h5:g=j:=Option.some.inj hj;omega)) ?_ h4;rcases h3 with h3|h3
  ·exact .inl (Option.some.inj h3).symm
  ·exact .inr h3
theorem yR {w:World} {base n:Nat} {g cap:Nat} {xs:List Int} (h:w.ownsRow base 3 1 (.slice (some (aac g 0)) n cap) n (xs.map (Value.int .i64))):aP w base w.heap.size (some (aac g 0)) xs:=
 .inr ⟨g,rfl,(h.lt g rfl).1,(h.lt g rfl).2,iU h⟩
def AA (w:World) (base:Nat) (r:Rg) (a b:Option Addr):Prop:=aP w base w.heap.size a r.xs∧aP w base w.heap.size b r.ys∧(∀g,blk a=some g->blk b≠some g)
theorem AA.kept {w w':World} {base:Nat} {r:Rg} {a b:Option Addr} (h:AA w base r a b) (k:Kept 0 0 w w'):AA w' base r a b:=
 ⟨(h.1.kept k (by omega)).wide (Nat.le_refl _) k.size,(h.2.1.kept k (by omega)).wide (Nat.le_refl _) k.size,h.2.2⟩
def fM (w:World) (lo hi:Nat) (r:Rg) (a b:Option Addr):Prop:=aP w lo hi a r.xs∧aP w lo hi b r.ys∧(∀g,blk a=some g->blk b≠some g)
theorem fM.kept {w w':World} {lo hi l h':Nat} {r:Rg} {a b:Option Addr} (h:fM w lo hi r a b) (k:Kept l h' w w') (hd:hi<=l∨h'<=lo∨h'<=l):fM w' lo hi r a b:=⟨h.1.kept k hd,h.2.1.kept k hd,h.2.2⟩
theorem fM.set {w:World} {lo hi:Nat} {r:Rg} {a b:Option Addr} (h:fM w lo hi r a b) (x i:Nat) (v:Value) (hx:hi<=x∨x<lo):fM (w.setCell ⟨x,i,none⟩ v) lo hi r a b:=
 h.kept (af (Kept.refl x (x+1) w) x i v (.inl ⟨Nat.le_refl _,by omega⟩)) (by omega)
theorem fM.yS {w:World} {lo hi g k:Nat} {r:Rg} {b:Option Addr} (h:fM w lo hi r (some (aac g 0)) b) (z:Int) (h0:0<r.xs.length):fM (w.setCell ⟨g,k,none⟩ (iv z)) lo hi {r with xs:=r.xs.set k z} (some (aac g 0)) b:=by
 obtain ⟨h1,h2,h3⟩:=h;refine ⟨?_,?_,h3⟩
 ·rcases h1 with ⟨h1,_⟩|⟨g',e1,b0,b1,ho⟩
  ·cases h1
  ·cases e1;exact .inr ⟨g,rfl,b0,b1,ho.set z⟩
 ·rcases h2 with h2|⟨g',e1,b0,b1,ho⟩
  ·exact .inl h2
  ·refine .inr ⟨g',e1,b0,b1,ho.setOther _ _ _ (fun ee => ?_)⟩;exact h3 g rfl (by rw [e1,ee];rfl)
theorem fM.uZ {w:World} {lo hi g k:Nat} {r:Rg} {a:Option Addr} (h:fM w lo hi r a (some (aac g 0))) (z:Int) (h0:0<r.ys.length):fM (w.setCell ⟨g,k,none⟩ (iv z)) lo hi {r with ys:=r.ys.set k z} a (some (aac g 0)):=by
 obtain ⟨h1,h2,h3⟩:=h;refine ⟨?_,?_,h3⟩
 ·rcases h1 with h1|⟨g',e1,b0,b1,ho⟩
  ·exact .inl h1
  ·refine .inr ⟨g',e1,b0,b1,ho.setOther _ _ _ (fun ee => ?_)⟩;exact h3 g' (by rw [e1];rfl) (by rw [ee];rfl)
 ·rcases h2 with ⟨h2,_⟩|⟨g',e1,b0,b1,ho⟩
  ·cases h2
  ·cases e1;exact .inr ⟨g,rfl,b0,b1,ho.set z⟩
theorem N7 (w:World) (r:Rg) (a b:Option Addr) (ca cb:Nat) (ha:aB w a r.xs) (hb:aB w b r.ys) (lx:r.xs.length<=2000000) (ly:r.ys.length<=2000000) :
  Calls prog 114 #[.agg #[.slice a r.xs.length ca,.slice b r.ys.length cb,iv r.o,iv r.p,iv r.f,iv r.m,.bool r.s,.bool r.t]] w fun e w'=>∃(a' b':Option Addr) (ca' cb':Nat),e=.returned (.agg #[.slice a' r.xs.length ca',.slice b' r.ys.length cb',iv r.o,iv r.p,iv r.f,iv r.m,.bool r.s,.bool r.t])∧AA w' w.heap.size r a' b'∧Kept 0 0 w w':=by
 have HA:=aab ha;have HB:=aab hb;clear ha hb;have K0:=aab (ag (ag (kept_alloc w (.cells #[.slice a r.xs.length ca,.slice b r.ys.length cb,iv r.o,iv r.p,iv r.f,iv r.m,.bool r.s,.bool r.t] 35)) (.cells #[.slice none 0 0,.slice none 0 0,iv 0,iv 0,iv 0,iv 0,.bool false,.bool false] 35)) (.cells #[] 3));have B0:=aab (((Blk.new w #[.slice a r.xs.length ca,.slice b r.ys.length cb,iv r.o,iv r.p,iv r.f,iv r.m,.bool r.s,.bool r.t] 35).alloc (.cells #[.slice none 0 0,.slice none 0 0,iv 0,iv 0,iv 0,iv 0,.bool false,.bool false] 35)).alloc (.cells #[] 3));have B1:=(Blk.new (w.alloc (.cells #[.slice a r.xs.length ca,.slice b r.ys.length cb,iv r.o,iv r.p,iv r.f,iv r.m,.bool r.s,.bool r.t] 35)) #[.slice none 0 0,.slice none 0 0,iv 0,iv 0,iv 0,iv 0,.bool false,.bool false] 35).alloc (.cells #[] 3);have B2:=Blk.new ((w.alloc (.cells #[.slice a r.xs.length ca,.slice b r.ys.length cb,iv r.o,iv r.p,iv r.f,iv r.m,.bool r.s,.bool r.t] 35)).alloc (.cells #[.slice none 0 0,.slice none 0 0,iv 0,iv 0,iv 0,iv 0,.bool false,.bool false] 35)) #[] 3;simp only [World.size_alloc] at B1 B2;replace B1:=aab B1;replace B2:=aab B2;go_enter func114,ntmps114;go_wp2_with (at_builtin;refine xk rfl (.tmp 3) (.tmp 5) rfl w.heap.size (w.heap.size+1+1) rfl B2.o (by omega) a r.xs.length ca r.xs rfl (HA.o.ai K0.o) rfl lx (w.heap.size+1+1+1) (by simp) ?_);intro g1 c1 w1 o1 k1 hg1 l1;have C0:=aab (B0.o.kept k1 (by omega));have C1:=aab (B1.o.kept k1 (by omega));have d3:=C0.o.cell (i:=0) rfl;have f3:=C0.o.frozen 0;have n0:=B2.o.lt;have n1:=k1.size;obtain ⟨p1,p2⟩:=o1.lt g1 rfl;have D0:=aab ((C0.o.set 0 (.slice (some (aac g1 0)) r.xs.length c1)).alloc (.cells #[] 3));have D1:=aab ((C1.o.other w.heap.size 0 (.slice (some (aac g1 0)) r.xs.length c1) (by omega)).alloc (.cells #[] 3));have O1:=aab ((o1.kept (grownBy_set w1 w.heap.size 0 (.slice (some (aac g1 0)) r.xs.length c1)) (.inr (fun e=>by have h3:g1=w.heap.size:=Option.some.inj e;omega))).alloc (.cells #[] 3));have K1:=aab (ag (af (aH K0.o k1 (by omega)) w.heap.size 0 (.slice (some (aac g1 0)) r.xs.length c1) (.inr (Nat.le_refl _))) (.cells #[] 3));have E2:=Blk.new (w1.setCell (aac w.heap.size 0) (.slice (some (aac g1 0)) r.xs.length c1)) #[] 3;simp only [World.size_setCell] at E2;replace E2:=aab E2;have q4:=D0.o.cell (i:=1) rfl;clear o1 k1 B0 B1 B2 C0 C1;go_wp2_with (at_builtin;refine xk rfl (.tmp 8) (.tmp 10) rfl w.heap.size w1.heap.size rfl E2.o (by omega) b r.ys.length cb r.ys rfl (HB.o.ai K1.o) rfl ly (w1.heap.size+1) (by simp) ?_);intro g2 c2 w2 o2 k2 hg2 l2;clear q4 d3 f3;have F0:=D0.o.kept k2 (by omega);have F1:=D1.o.kept k2 (by omega);obtain ⟨p3,p4⟩:=o2.lt g2 rfl;have n2:=k2.size;simp only [World.size_alloc,World.size_setCell] at n2;have P1:=aab (O1.o.kept (xX k2) (.inr (fun e=>by have h3:g1=w1.heap.size:=Option.some.inj e;omega)));have P2:=aab o2;have K2:=aab (aH K1.o k2 (by omega));have x0:=F0.all;have v1':=F0.frozen 1;have y0:=F1.all;have u0:=F1.fz;have G1:=aab F1;have hne:g1≠g2:=by omega
 clear F0 F1 o2 k2;go_wp2_with fail;refine bodyPost_ret (v:=.agg #[.slice (some (aac g1 0)) r.xs.length c1,.slice (some (aac g2 0)) r.ys.length c2,iv r.o,iv r.p,iv r.f,iv r.m,.bool r.s,.bool r.t]) ?_ rfl ?_
 ·exact results_cell_row rfl _ _ _ _ _ (0,0) _ rfl (((((((((G1.o.other _ _ _ (by omega)).set _ _).set _ _).set _ _).set _ _).set _ _).set _ _).set _ _).set _ _) underlying35 rfl (by kernel_rfl)
 ·refine ⟨some (aac g1 0),some (aac g2 0),c1,c2,rfl,⟨.inr ⟨g1,rfl,by omega,by simp;omega,?_⟩,.inr ⟨g2,rfl,by omega,by simp;omega,?_⟩,?_⟩,?_⟩
  ·exact ((((((((((iU P1.o).setOther _ _ _ (by omega)).setOther _ _ _ (by omega)).setOther _ _ _ (by omega)).setOther _ _ _ (by omega)).setOther _ _ _ (by omega)).setOther _ _ _ (by omega)).setOther _ _ _ (by omega)).setOther _ _ _ (by omega)).setOther _ _ _ (by omega))
  ·exact ((((((((((iU P2.o).setOther _ _ _ (by omega)).setOther _ _ _ (by omega)).setOther _ _ _ (by omega)).setOther _ _ _ (by omega)).setOther _ _ _ (by omega)).setOther _ _ _ (by omega)).setOther _ _ _ (by omega)).setOther _ _ _ (by omega)).setOther _ _ _ (by omega))
  ·intro g hg hh;simp [blk] at hg hh;omega
  ·exact (af (af (af (af (af (af (af (af (af K2.o _ _ _ (.inr (by omega))) _ _ _ (.inr (by omega))) _ _ _ (.inr (by omega))) _ _ _ (.inr (by omega))) _ _ _ (.inr (by omega))) _ _ _ (.inr (by omega))) _ _ _ (.inr (by omega))) _ _ _ (.inr (by omega))) _ _ _ (.inr (by omega)))
theorem pW {p:Int->Prop} (h:∀m:Fin 1024,p (m.val:Int)) {n:Int} (h0:0<=n) (h1:n<=1023):p n:=by
 have:=h ⟨n.toNat,by omega⟩
 have e:((n.toNat:Nat):Int)=n:=by omega
 simpa [e] using this
theorem QZ {n:Int} (h0:0<=n) (h1:n<=1023):(bits .and .i64 n 256 != 0)=bY n:=pW (p:=fun n=>(bits .and .i64 n 256 != 0)=bY n) (by decide +kernel) h0 h1
theorem QY {n:Int} (h0:0<=n) (h1:n<=1023):(bits .and .i64 n 512 != 0)=dZ n:=pW (p:=fun n=>(bits .and .i64 n 512 != 0)=dZ n) (by decide +kernel) h0 h1
theorem VQ {n:Int} (h0:0<=n) (h1:n<=1023):bits .and .i64 n 31=n%32:=pW (p:=fun n=>bits .and .i64 n 31=n%32) (by decide +kernel) h0 h1
theorem st7 {n:Int} (h0:0<=n) (h1:n<=1023):bits .and .i64 (n/32) 7=n/32%8:=pW (p:=fun n=>bits .and .i64 (n/32) 7=n/32%8) (by decide +kernel) h0 h1
theorem Ib (w:World) (lo hi:Nat) (r:Rg) (a b:Option Addr) (ca cb:Nat) (n:Int) (hr:fM w lo hi r a b) (hh:hi<=w.heap.size) (hg:Pl.Good r) (h0:0<=n) (h1:n<=1023) :
  Calls prog 162 #[.agg #[.slice a r.xs.length ca,.slice b r.ys.length cb,iv r.o,iv r.p,iv r.f,iv r.m,.bool r.s,.bool r.t],iv n] w fun e w'=>e=.returned (.agg #[.slice a (aX r n).xs.length ca,.slice b (aX r n).ys.length cb,iv (aX r n).o,iv (aX r n).p,iv (aX r n).f,iv (aX r n).m,.bool (aX r n).s,.bool (aX r n).t])∧fM w' lo hi (aX r n) a b∧Kept lo hi w w':=by
 have e1:=QZ h0 h1;have e2:=QY h0 h1;have e3:=VQ h0 h1;have e4:=st7 h0 h1;have HR:=aab hr;by_cases hs:bY n=r.s
 ·have q1:(bY n != r.s)=false:=by simp [hs]
  have E:Hid (aX r n={r with t:=dZ n,m:=n/32%8,f:=n%32}):=aab (by unfold aX;rw [if_pos hs,hs]);clear hr;go_enter func162,ntmps162;go_wp2_with fail;refine bodyPost_ret (v:=.agg #[.slice a r.xs.length ca,.slice b r.ys.length cb,iv r.o,iv r.p,iv (n%32),iv (n/32%8),.bool r.s,.bool (dZ n)]) ?_ rfl ?_
  ·rw [aj rfl];go_simp
  ·rw [E.o];exact ⟨rfl,HR.o.kept (ag (kept_alloc _ _) _) (by omega),(ag (kept_alloc _ _) _).any⟩
 ·have q1:(bY n==r.s)=false:=by simpa using hs
  have E:Hid (aX r n={r with ys:=r.ys.set 3 r.o,o:=el r.ys 3,s:=bY n,t:=dZ n,m:=n/32%8,f:=n%32}):=aab (by unfold aX;rw [if_neg hs]);have h4:=hg.a4;have hl:(3:Int)<(r.ys.length:Int):=by omega
  have HL:=aab h4;clear h4;obtain ⟨s1,s2,s3⟩:=hr;rcases s2 with ⟨_,e⟩|⟨g,rfl,b0,b1,hown⟩
  ·rw [e] at hl;simp at hl
  ·have b9:g<w.heap.size:=by omega
   have HO:=aab hown;have HX:=aab s1;have HN:=aab s3;have c3:w.cell? (aac g 3)=some (iv (el r.ys 3)):=(hown 3 (by have:=HL.o;omega)).1;have f3:=(hown 3 (by have:=HL.o;omega)).2;clear hown s1 s3 hs;go_enter func162,ntmps162;go_wp2_with fail;refine bodyPost_ret (v:=.agg #[.slice a r.xs.length ca,.slice (some (aac g 0)) r.ys.length cb,iv (el r.ys 3),iv r.p,iv (n%32),iv (n/32%8),.bool (bY n),.bool (dZ n)]) ?_ rfl ?_
   ·rw [aj rfl];go_simp
   ·rw [E.o];refine ⟨?_,(HR.o.uZ (k:=3) r.o (by have:=HL.o;omega)).kept (ag (kept_alloc _ _) _) (by omega),(af (Kept.refl _ _ _) _ _ _ (.inl ⟨b0,b1⟩)).trans (ag (kept_alloc _ _) _).any⟩;simp
theorem Vd (x:Nat):x &&& 65280=x/256%256*256:=by
 apply Nat.eq_of_testBit_eq;intro i;rw [Nat.testBit_and,show (65280:Nat)=(2^8-1)*2^8 from by decide,Nat.testBit_mul_two_pow,Nat.testBit_two_pow_sub_one,show x/256%256*256=x/2^8%2^8*2^8 from rfl,Nat.testBit_mul_two_pow,Nat.testBit_mod_two_pow,Nat.testBit_div_two_pow];by_cases h:8<=i
 ·have e:i-8+8=i:=by omega
  simp [h,e,Bool.and_comm]
 ·simp [h]
theorem MW (a:Int):bits .and .i64 a 65280=a/256%256*256:=by
 show IntKind.i64.wrap ((BitVec.ofInt 64 a &&& BitVec.ofInt 64 65280).toNat:Int)=_
 rw [BitVec.toNat_and,BitVec.toNat_ofInt,show (BitVec.ofInt 64 65280).toNat=65280 from by decide,Vd,IntKind.wrap_i64];omega
theorem Oo {x v:Int} (h0:0<=x) (h1:x<=65535) (v0:0<=v) (v1:v<=255):bits .or .i64 (bits .and .i64 x 65280) v=x/256*256+v:=by
 rw [MW,show x/256%256=x/256 from by omega];exact bits_join .i64 62 (by decide) Pl.gY 8 (x/256*256) v (by omega) (by omega) (by omega) (by omega) (by omega) (by omega)
theorem NZ (w:World) (lo hi:Nat) (r:Rg) (a b:Option Addr) (ca cb:Nat) (z k v:Int) (hr:fM w lo hi r a b) (hh:hi<=w.heap.size) (hg:Pl.Good r) (hz:z=1∨z=2) (k0:0<=k) (k1:k<=3) (hv:okv z v=true) :
  Calls prog 157 #[.agg #[.slice a r.xs.length ca,.slice b r.ys.length cb,iv r.o,iv r.p,iv r.f,iv r.m,.bool r.s,.bool r.t],iv z,iv k,iv v] w fun e w'=>e=.returned (.agg #[.slice a (kU r z k v).xs.length ca,.slice b (kU r z k v).ys.length cb,iv (kU r z k v).o,iv (kU r z k v).p,iv (kU r z k v).f,iv (kU r z k v).m,.bool (kU r z k v).s,.bool (kU r z k v).t])∧fM w' lo hi (kU r z k v) a b∧Kept lo hi w w':=by
 obtain ⟨kn,rfl⟩:∃kn:Nat,k=(kn:Int):=⟨k.toNat,by omega⟩
 have HR:=aab hr;have h4:=hg.d4;have hl:(kn:Int)<(r.xs.length:Int):=by omega
 have HL:=aab h4;obtain ⟨x0,x1⟩:=hg.dw kn (by omega);clear h4;obtain ⟨s1,s2,s3⟩:=hr;rcases s1 with ⟨_,e⟩|⟨g,rfl,b0,b1,hown⟩
 ·rw [e] at hl;simp at hl;omega
 ·have c3:w.cell? ⟨g,kn,none⟩=some (iv (el r.xs kn)):=(hown kn (by omega)).1;have f3:=(hown kn (by omega)).2;have b9:g<w.heap.size:=by omega
  clear hown s2 s3;rcases hz with rfl|rfl
  ·obtain ⟨v0,v1⟩:0<=v∧v<=255:=by simp [okv,Pl.top] at hv;omega
   have hb:=Oo x0 x1 v0 v1;have E:Hid (kU r 1 (kn:Int) v={r with xs:=r.xs.set kn (el r.xs kn/256*256+v)}):=aab (by simp [kU]);go_enter func157,ntmps157;go_upto_region 2 with fail;obtain ⟨X,hX⟩:∃X:World,X=(w.alloc (.cells #[.slice (some (aac g 0)) r.xs.length ca,.slice b r.ys.length cb,iv r.o,iv r.p,iv r.f,iv r.m,.bool r.s,.bool r.t] 35)).alloc (.cells #[.slice none 0 0,.slice none 0 0,iv 0,iv 0,iv 0,iv 0,.bool false,.bool false] 35):=⟨_,rfl⟩
   have KX:Hid (Kept 0 0 w X):=aab (by rw [hX];exact ag (kept_alloc _ _) _);have B0:Hid (Blk X w.heap.size #[.slice (some (aac g 0)) r.xs.length ca,.slice b r.ys.length cb,iv r.o,iv r.p,iv r.f,iv r.m,.bool r.s,.bool r.t] 35):=aab (by rw [hX];exact (Blk.new w _ _).alloc _);have R0:Hid (Blk X (w.heap.size+1) #[.slice none 0 0,.slice none 0 0,iv 0,iv 0,iv 0,iv 0,.bool false,.bool false] 35):=aab (by rw [hX];have:=Blk.new (w.alloc (.cells #[.slice (some (aac g 0)) r.xs.length ca,.slice b r.ys.length cb,iv r.o,iv r.p,iv r.f,iv r.m,.bool r.s,.bool r.t] 35)) #[.slice none 0 0,.slice none 0 0,iv 0,iv 0,iv 0,iv 0,.bool false,.bool false] 35;simpa only [World.size_alloc] using this);rw [<-hX];have d3:X.cell? ⟨g,kn,none⟩=some (iv (el r.xs kn)):=by rw [hX];go_simp
   have g3:X.frozen? ⟨g,kn,none⟩=false:=by rw [hX];go_simp
   clear hX c3 f3;have y0:=B0.o.cell (i:=0) rfl;go_region;have A3:=((HR.o.kept (KX.o) (by omega)).yS (k:=kn) (el r.xs kn/256*256+v) (by have:=HL.o;omega)).kept (ah (Kept.refl 0 0 _)) (by omega);have K3:Kept lo hi w (X.setCell ⟨g,kn,none⟩ (iv (el r.xs kn/256*256+v))).drew:=ah (af KX.o.any _ _ _ (.inl ⟨b0,b1⟩));have B1:Hid (Blk (X.setCell ⟨g,kn,none⟩ (iv (el r.xs kn/256*256+v))).drew w.heap.size #[.slice (some (aac g 0)) r.xs.length ca,.slice b r.ys.length cb,iv r.o,iv r.p,iv r.f,iv r.m,.bool r.s,.bool r.t] 35):=aab (B0.o.other _ _ _ (by omega));have R1:Hid (Blk (X.setCell ⟨g,kn,none⟩ (iv (el r.xs kn/256*256+v))).drew (w.heap.size+1) #[.slice none 0 0,.slice none 0 0,iv 0,iv 0,iv 0,iv 0,.bool false,.bool false] 35):=aab (R0.o.other _ _ _ (by omega));have nR:=R1.o.lt;obtain ⟨Y,hY⟩:∃Y:World,Y=(X.setCell ⟨g,kn,none⟩ (iv (el r.xs kn/256*256+v))).drew:=⟨_,rfl⟩
   rw [<-hY] at A3 K3 B1 R1 nR ⊢;clear hY d3 g3 y0;have m0:=B1.o.all;have n0:=R1.o.all;have nf0:=R1.o.fz;go_wp2_with fail;refine bodyPost_ret (v:=.agg #[.slice (some (aac g 0)) r.xs.length ca,.slice b r.ys.length cb,iv r.o,iv r.p,iv r.f,iv r.m,.bool r.s,.bool r.t]) ?_ rfl ?_
   ·rw [aj rfl];go_simp
   ·rw [E.o];refine ⟨?_,((((((((A3.set _ _ _ (.inl (by omega))).set _ _ _ (.inl (by omega))).set _ _ _ (.inl (by omega))).set _ _ _ (.inl (by omega))).set _ _ _ (.inl (by omega))).set _ _ _ (.inl (by omega))).set _ _ _ (.inl (by omega))).set _ _ _ (.inl (by omega))),(af (af (af (af (af (af (af (af K3 _ _ _ (.inr (by omega))) _ _ _ (.inr (by omega))) _ _ _ (.inr (by omega))) _ _ _ (.inr (by omega))) _ _ _ (.inr (by omega))) _ _ _ (.inr (by omega))) _ _ _ (.inr (by omega))) _ _ _ (.inr (by omega)))⟩;simp
  ·have E:Hid (kU r 2 (kn:Int) v={r with xs:=r.xs.set kn v}):=aab (by simp [kU]);go_enter func157,ntmps157;go_wp2_with fail;refine bodyPost_ret (v:=.agg #[.slice (some (aac g 0)) r.xs.length ca,.slice b r.ys.length cb,iv r.o,iv r.p,iv r.f,iv r.m,.bool r.s,.bool r.t]) ?_ rfl ?_
   ·rw [aj rfl];go_simp
   ·rw [E.o];refine ⟨?_,(HR.o.yS (k:=kn) v (by have:=HL.o;omega)).kept (ag (kept_alloc _ _) _) (by omega),(af (Kept.refl _ _ _) _ _ _ (.inl ⟨b0,b1⟩)).trans (ag (kept_alloc _ _) _).any⟩;simp
theorem Ie (z k:Int) (w:World):Calls prog 243 #[iv z,iv k] w fun e w'=>e=.returned (iv (byN z k))∧w'=w:=by
 by_cases h1:z=1
 ·subst h1;cases h2:(k != 3)
  all_goals
   have q:Hid (k=3∨k≠3):=aab (by omega);go_enter func243,ntmps243;go_wp2;go_ret;simp at h2;exact ⟨rI (by simp [byN,h2]),rfl⟩
 ·have q1:(z==1)=false:=by simpa using h1
  go_enter func243,ntmps243;go_wp2;go_ret;exact ⟨rI (by simp [byN,h1]),rfl⟩
theorem U6 (z k:Int):1<=byN z k∧byN z k<=2:=by unfold byN;split<;>omega
theorem E5 (w:World) (lo hi:Nat) (r:Rg) (a b:Option Addr) (ca cb:Nat) (z m k e:Int) (hr:fM w lo hi r a b) (hh:hi<=w.heap.size) (hg:Pl.Good r) (k0:0<=k) (k1:k<=3) (e0:0<=e) (e1:e<=65535) (hm:m=2∨m=3∨m=4∨m=5∨m=6) :
  Calls prog 204 #[.agg #[.slice a r.xs.length ca,.slice b r.ys.length cb,iv r.o,iv r.p,iv r.f,iv r.m,.bool r.s,.bool r.t],iv z,.agg #[iv m,iv k,iv e]] w fun e' w'=>e'=.returned (.tuple #[.agg #[.slice a (bu r z m k e).xs.length ca,.slice b (bu r z m k e).ys.length cb,iv (bu r z m k e).o,iv (bu r z m k e).p,iv (bu r z m k e).f,iv (bu r z m k e).m,.bool (bu r z m k e).s,.bool (bu r z m k e).t],iv (bg r z m k e)])∧fM w' lo hi (bu r z m k e) a b∧Kept lo hi w w':=by
 obtain ⟨kn,rfl⟩:∃kn:Nat,k=(kn:Int):=⟨k.toNat,by omega⟩
 have HR:=aab hr;have h4:=hg.a4;have hl:(kn:Int)<(r.ys.length:Int):=by omega
 have HL:=aab h4;obtain ⟨x0,x1⟩:=hg.aw kn (by omega);obtain ⟨y0,y1⟩:=U6 z (kn:Int);clear h4;obtain ⟨s1,s2,s3⟩:=hr;rcases s2 with ⟨_,ee⟩|⟨g,rfl,b0,b1,hown⟩
 ·rw [ee] at hl;simp at hl;omega
 ·have c3:w.cell? ⟨g,kn,none⟩=some (iv (el r.ys kn)):=(hown kn (by omega)).1;have f3:=(hown kn (by omega)).2;have b9:g<w.heap.size:=by omega
  have b2:g<w.heap.size+1:=by omega
  have b3:g<w.heap.size+1+1:=by omega
  clear hown s1 s3;have KX:=aab (ag (ag (kept_alloc w (.cells #[.slice a r.xs.length ca,.slice (some (aac g 0)) r.ys.length cb,iv r.o,iv r.p,iv r.f,iv r.m,.bool r.s,.bool r.t] 35)) (.cells #[iv m,iv (kn:Int),iv e] 46)) (.cells #[.slice none 0 0,.slice none 0 0,iv 0,iv 0,iv 0,iv 0,.bool false,.bool false] 35));rcases hm with rfl|rfl|rfl|rfl|rfl
  ·have E:Hid (bu r z 2 (kn:Int) e=r):=aab (by simp [bu]);have EV:Hid (bg r z 2 (kn:Int) e=el r.ys kn):=aab (by simp [bg]);go_enter func204,ntmps204;go_wp2_with fail;refine bodyPost_ret (v:=.tuple #[.agg #[.slice a r.xs.length ca,.slice (some (aac g 0)) r.ys.length cb,iv r.o,iv r.p,iv r.f,iv r.m,.bool r.s,.bool r.t],iv (el r.ys kn)]) ?_ rfl ?_
   ·rw [results_cell_tmp rfl];go_simp
   ·rw [E.o,EV.o];exact ⟨rfl,HR.o.kept (ag (ag (kept_alloc _ _) _) _) (by omega),(ag (ag (kept_alloc _ _) _) _).any⟩
  ·have E:Hid (bu r z 3 (kn:Int) e={r with ys:=r.ys.set kn ((el r.ys kn+byN z kn)%65536)}):=aab (by simp [bu]);have EV:Hid (bg r z 3 (kn:Int) e=el r.ys kn):=aab (by simp [bg]);have hb:=fJ (el r.ys kn+byN z kn);generalize hN:byN z (kn:Int)=N at y0 y1 E hb;have HN:=aab hN;clear hN;go_enter func204,ntmps204;go_upto_region 4 with fail;obtain ⟨X,hX⟩:∃X:World,X=((w.alloc (.cells #[.slice a r.xs.length ca,.slice (some (aac g 0)) r.ys.length cb,iv r.o,iv r.p,iv r.f,iv r.m,.bool r.s,.bool r.t] 35)).alloc (.cells #[iv 3,iv (kn:Int),iv e] 46)).alloc (.cells #[.slice none 0 0,.slice none 0 0,iv 0,iv 0,iv 0,iv 0,.bool false,.bool false] 35):=⟨_,rfl⟩
   have KY:Hid (Kept 0 0 w X):=aab (by rw [hX];exact ag (ag (kept_alloc _ _) _) _);have B0:Hid (Blk X w.heap.size #[.slice a r.xs.length ca,.slice (some (aac g 0)) r.ys.length cb,iv r.o,iv r.p,iv r.f,iv r.m,.bool r.s,.bool r.t] 35):=aab (by rw [hX];exact ((Blk.new w _ _).alloc _).alloc _);have Q0:Hid (Blk X (w.heap.size+1) #[iv 3,iv (kn:Int),iv e] 46):=aab (by rw [hX];have:=(Blk.new (w.alloc (.cells #[.slice a r.xs.length ca,.slice (some (aac g 0)) r.ys.length cb,iv r.o,iv r.p,iv r.f,iv r.m,.bool r.s,.bool r.t] 35)) #[iv 3,iv (kn:Int),iv e] 46).alloc (.cells #[.slice none 0 0,.slice none 0 0,iv 0,iv 0,iv 0,iv 0,.bool false,.bool false] 35);simpa only [World.size_alloc] using this);have R0:Hid (Blk X (w.heap.size+1+1) #[.slice none 0 0,.slice none 0 0,iv 0,iv 0,iv 0,iv 0,.bool false,.bool false] 35):=aab (by rw [hX];have:=Blk.new ((w.alloc (.cells #[.slice a r.xs.length ca,.slice (some (aac g 0)) r.ys.length cb,iv r.o,iv r.p,iv r.f,iv r.m,.bool r.s,.bool r.t] 35)).alloc (.cells #[iv 3,iv (kn:Int),iv e] 46)) #[.slice none 0 0,.slice none 0 0,iv 0,iv 0,iv 0,iv 0,.bool false,.bool false] 35;simpa only [World.size_alloc] using this);rw [<-hX];have d3:X.cell? ⟨g,kn,none⟩=some (iv (el r.ys kn)):=by rw [hX];go_simp
   have g3:X.frozen? ⟨g,kn,none⟩=false:=by rw [hX];go_simp
   clear hX c3 f3 KX;have t0:=B0.o.cell (i:=1) rfl;have t1:=Q0.o.cell (i:=1) rfl;have hw64:IntKind.i64.wrap (el r.ys kn+N)=el r.ys kn+N:=w64 (by omega) (by omega);go_region_with (first|(go_at_call 243;refine (Ie _ _ _).mono ?_;rw [HN.o];rintro e w' ⟨rfl,hw⟩;have hw2:=hw.symm;clear hw;subst hw2)|fail)
   all_goals
    obtain ⟨Y,hY⟩:∃Y:World,Y=(X.setCell ⟨g,kn,none⟩ (iv ((el r.ys kn+N)%65536))).drew:=⟨_,rfl⟩
    rw [<-hY]
    have A3:fM Y lo hi {r with ys:=r.ys.set kn ((el r.ys kn+N)%65536)} a (some (aac g 0)):=by
     rw [hY];exact ((HR.o.kept (KY.o) (by omega)).uZ (k:=kn) ((el r.ys kn+N)%65536) (by have:=HL.o;omega)).kept (ah (Kept.refl 0 0 _)) (by omega)
    have K3:Kept lo hi w Y:=by
     rw [hY];exact ah (af KY.o.any _ _ _ (.inl ⟨b0,b1⟩))
    have B1:Hid (Blk Y w.heap.size #[.slice a r.xs.length ca,.slice (some (aac g 0)) r.ys.length cb,iv r.o,iv r.p,iv r.f,iv r.m,.bool r.s,.bool r.t] 35):=aab (by rw [hY];exact B0.o.other _ _ _ (by omega));have R1:Hid (Blk Y (w.heap.size+1+1) #[.slice none 0 0,.slice none 0 0,iv 0,iv 0,iv 0,iv 0,.bool false,.bool false] 35):=aab (by rw [hY];exact R0.o.other _ _ _ (by omega));have nR:=R1.o.lt;clear hY d3 g3 t0 t1 hb hw64;have mm0:=B1.o.all;have nn0:=R1.o.all;have nnf0:=R1.o.fz;go_wp2_with fail;refine bodyPost_ret (v:=.tuple #[.agg #[.slice a r.xs.length ca,.slice (some (aac g 0)) r.ys.length cb,iv r.o,iv r.p,iv r.f,iv r.m,.bool r.s,.bool r.t],iv (el r.ys kn)]) ?_ rfl ?_
    ·rw [results_cell_tmp rfl];go_simp
    ·rw [E.o,EV.o];refine ⟨?_,((((((((A3.set _ _ _ (.inl (by omega))).set _ _ _ (.inl (by omega))).set _ _ _ (.inl (by omega))).set _ _ _ (.inl (by omega))).set _ _ _ (.inl (by omega))).set _ _ _ (.inl (by omega))).set _ _ _ (.inl (by omega))).set _ _ _ (.inl (by omega))),(af (af (af (af (af (af (af (af K3 _ _ _ (.inr (by omega))) _ _ _ (.inr (by omega))) _ _ _ (.inr (by omega))) _ _ _ (.inr (by omega))) _ _ _ (.inr (by omega))) _ _ _ (.inr (by omega))) _ _ _ (.inr (by omega))) _ _ _ (.inr (by omega)))⟩;simp
  ·have E:Hid (bu r z 4 (kn:Int) e={r with ys:=r.ys.set kn ((el r.ys kn-byN z kn)%65536)}):=aab (by simp [bu]);have EV:Hid (bg r z 4 (kn:Int) e=(el r.ys kn-byN z kn)%65536):=aab (by simp [bg]);have hb:=fJ (el r.ys kn-byN z kn);generalize hN:byN z (kn:Int)=N at y0 y1 E EV hb;have HN:=aab hN;clear hN;go_enter func204,ntmps204;go_wp2_with (go_at_call 243;refine (Ie _ _ _).mono ?_;rw [HN.o];rintro e w' ⟨rfl,hw⟩;have hw2:=hw.symm;clear hw;subst hw2);refine bodyPost_ret (v:=.tuple #[.agg #[.slice a r.xs.length ca,.slice (some (aac g 0)) r.ys.length cb,iv r.o,iv r.p,iv r.f,iv r.m,.bool r.s,.bool r.t],iv ((el r.ys kn-N)%65536)]) ?_ rfl ?_
   ·rw [results_cell_tmp rfl];go_simp
   ·rw [E.o,EV.o];refine ⟨?_,(HR.o.uZ (k:=kn) _ (by have:=HL.o;omega)).kept (ag (ag (kept_alloc _ _) _) _) (by omega),(af (Kept.refl _ _ _) _ _ _ (.inl ⟨b0,b1⟩)).trans (ag (ag (kept_alloc _ _) _) _).any⟩;simp
  ·have E:Hid (bu r z 5 (kn:Int) e=r):=aab (by simp [bu]);have EV:Hid (bg r z 5 (kn:Int) e=(el r.ys kn+e)%65536):=aab (by simp [bg]);have hb:=fJ (el r.ys kn+e);go_enter func204,ntmps204;go_wp2_with fail;refine bodyPost_ret (v:=.tuple #[.agg #[.slice a r.xs.length ca,.slice (some (aac g 0)) r.ys.length cb,iv r.o,iv r.p,iv r.f,iv r.m,.bool r.s,.bool r.t],iv ((el r.ys kn+e)%65536)]) ?_ rfl ?_
   ·rw [results_cell_tmp rfl];go_simp
   ·rw [E.o,EV.o];exact ⟨rfl,HR.o.kept (ag (ag (kept_alloc _ _) _) _) (by omega),(ag (ag (kept_alloc _ _) _) _).any⟩
  ·have E:Hid (bu r z 6 (kn:Int) e=r):=aab (by simp [bu]);have EV:Hid (bg r z 6 (kn:Int) e=e):=aab (by simp [bg]);go_enter func204,ntmps204;go_wp2_with fail;refine bodyPost_ret (v:=.tuple #[.agg #[.slice a r.xs.length ca,.slice (some (aac g 0)) r.ys.length cb,iv r.o,iv r.p,iv r.f,iv r.m,.bool r.s,.bool r.t],iv e]) ?_ rfl ?_
   ·rw [results_cell_tmp rfl];go_simp
   ·rw [E.o,EV.o];exact ⟨rfl,HR.o.kept (ag (ag (kept_alloc _ _) _) _) (by omega),(ag (ag (kept_alloc _ _) _) _).any⟩
end Go.Proofs.YtgikibaajanjiaaGreatDoor
namespace Go.Proofs.YtgikibaajanjiaaGreatDoor.Pl
set_option linter.unusedVariables false
def kind (a:Int):Int:=if 512<=a∨(448<=a∧a<=495) then 1 else if 384<=a∧a<=447 then 3 else 0
def addr (a:Int):Bool:=decide (0<=a)&&decide (a<=65535)
def jq (v:Int):Bool:=decide (0<=v)&&decide (v<=255)
def aZ (xs:List Int):Bool:=xs.all jq
def dM (k:Int):Bool:=decide (1<=k)&&decide (k<=3)
def fK (k s a v c:Int):Bool:=dM k&&(okv s v&&(addr a&&((decide (0<=c)&&decide (c<=3))&&(k != 3||c != 0))))
def rJ (ys:List Int) (i:Nat):Bool:=fK (el ys (i*5)) (el ys (i*5+1)) (el ys (i*5+2)) (el ys (i*5+3)) (el ys (i*5+4))
def jv (ys:List Int) (m:Nat):Bool:=(List.range m).all (rJ ys)
def eu (xs ys:List Int) (m:Nat):Bool:=jv ys m&&(decide (xs.length=512)&&(aZ xs&&decide (m<=400)))
def code (k s a:Int):Int:=
 if s=2∧a%2=1 then 2 else if kind a=1∨kind (a+s-1)=1 then 1 else if k=2∧(kind a=3∨kind (a+s-1)=3) then 3 else 0
theorem dD {xs:List Int} (h:aZ xs=true) (i:Nat) (hi:i<xs.length):0<=el xs i∧el xs i<=255:=by
 have:=List.all_eq_true.1 h (xs[i]) (List.getElem_mem hi)
 simp [jq] at this;simpa [el,hi] using this
theorem wz {xs:List Int} {i:Nat} (hi:i<xs.length) (h:jq (el xs i)=false):aZ xs=false:=by
 cases e:aZ xs
 ·rfl
 ·have:=dD e i hi
  simp [jq] at h;omega
theorem qE {xs:List Int} (h:∀i,i<xs.length->jq (el xs i)=true):aZ xs=true:=by
 unfold aZ;rw [List.all_eq_true];intro x hx;obtain ⟨i,hi,rfl⟩:=List.getElem_of_mem hx;simpa [el,hi] using h i hi
theorem xw {ys:List Int} {m i:Nat} (hi:i<m) (h:rJ ys i=false):jv ys m=false:=by
 cases e:jv ys m
 ·rfl
 ·have:=List.all_eq_true.1 e i (List.mem_range.2 hi)
  rw [h] at this;cases this
theorem xu {ys:List Int} {m:Nat} (h:∀i,i<m->rJ ys i=true):jv ys m=true:=by
 unfold jv;rw [List.all_eq_true];intro i hi;exact h i (List.mem_range.1 hi)
end Go.Proofs.YtgikibaajanjiaaGreatDoor.Pl
namespace Go.Proofs.YtgikibaajanjiaaGreatDoor
open Pl
open Go.RowKit Go.Proofs.Tryz
set_option linter.unusedVariables false
theorem DK (w:World) (a:Option Addr) (ca:Nat) (xs:List Int) (ha:aB w a xs) (lx:xs.length<=2000000) :
  Calls prog 149 #[.slice a xs.length ca] w fun e w'=>e=.returned (.bool (aZ xs))∧w'=w:=by
 have HA:=aab ha;clear ha;go_enter func149,ntmps149;go_wp2;go_loop [4,7] (fun _ j=>∃k:Nat,k<=xs.length∧j=iv k∧∀i,i<k->jq (el xs i)=true) (fun _ j=>xs.length-(intOf j).toNat)
 case atStart=>exact ⟨0,Nat.zero_le _,rfl,fun i hi=>absurd hi (Nat.not_lt_zero i)⟩
 case round=>
  obtain ⟨k,hk,rfl,heq⟩:=hrel;have HE:=aab heq;clear heq;by_cases hlt:k<xs.length
  ·obtain ⟨g1,o1,rfl,hc1⟩:=HA.o k hlt;rw [show xs[k]?.getD 0=el xs k from rfl] at hc1;cases hb:(decide (0<=el xs k)&&decide (el xs k<=255))
   ·go_wp2_with (go_at_call 75;refine st (dG _ _ _ _) ?_;rw [hb]);go_ret;exact ⟨rB (wz hlt hb).symm,rfl⟩
   ·go_wp2_with (go_at_call 75;refine st (dG _ _ _ _) ?_;rw [hb]);go_round
    case rel=>exact ⟨k+1,by omega,by go_num,kN HE.o hb⟩
    case measure=>simp [intOf];omega
  ·go_wp2;go_ret;exact ⟨rB (qE (fun i hi=>HE.o i (by omega))).symm,rfl⟩
theorem nV (w:World) (a:Option Addr) (ca n:Nat) (left:Int) (hn:n<=9223372036854775807) (l0:0<=left) (l1:left<=2000000) :
  Calls prog 99 #[.slice a n ca,iv left] w fun e w'=>e=.returned (iv (if left-(n:Int)<0 then -1 else left-(n:Int)))∧w'=w:=by
 by_cases h:left-(n:Int)<0
 all_goals
  go_enter func99,ntmps99;go_wp2;go_ret;exact ⟨rfl,rfl⟩
def five (a b c d e a' b' c' d' e':Int):Bool:=decide (a=a'∧b=b'∧c=c'∧d=d'∧e=e')
theorem aB.five {w:World} {a:Option Addr} {xs:List Int} (h:aB w a xs) {n k:Nat} (hl:xs.length=5*n) (hk:k<n) :
  ∃g off:Nat,a=some ⟨g,off,none⟩∧w.cell? ⟨g,off+k*5,none⟩=some (iv (el xs (k*5)))∧w.cell? ⟨g,off+k*5+1,none⟩=some (iv (el xs (k*5+1)))∧w.cell? ⟨g,off+k*5+2,none⟩=some (iv (el xs (k*5+2)))∧
   w.cell? ⟨g,off+k*5+3,none⟩=some (iv (el xs (k*5+3)))∧w.cell? ⟨g,off+k*5+4,none⟩=some (iv (el xs (k*5+4))):=by
 obtain ⟨g,off,ea,c0⟩:=h (k*5) (by omega)
 have pick:∀j,j<5->w.cell? ⟨g,off+k*5+j,none⟩=some (iv (el xs (k*5+j))):=by
  intro j hj;obtain ⟨g',off',ea',c⟩:=h (k*5+j) (by omega);rw [ea] at ea';cases ea';rw [Nat.add_assoc];exact c
 exact ⟨g,off,ea,c0,pick 1 (by decide),pick 2 (by decide),pick 3 (by decide),pick 4 (by decide)⟩
theorem Own.five {w : World} {g : Nat} {xs : List Int} (h : Own w g xs) {n k : Nat} (hl : xs.length = 5 * n) (hk : k < n) :
    (w.cell? ⟨g, k * 5, none⟩ = some (iv (el xs (k * 5))) ∧ w.cell? ⟨g, k * 5 + 1, none⟩ = some (iv (el xs (k * 5 + 1))) ∧ w.cell? ⟨g, k * 5 + 2, none⟩ = some (iv (el xs (k * 5 + 2))) ∧ w.cell? ⟨g, k * 5 + 3, none⟩ = some (iv (el xs (k * 5 + 3))) ∧ w.cell? ⟨g, k * 5 + 4, none⟩ = some (iv (el xs (k * 5 + 4)))) ∧
    w.frozen? ⟨g, k * 5, none⟩ = false ∧ w.frozen? ⟨g, k * 5 + 1, none⟩ = false ∧ w.frozen? ⟨g, k * 5 + 2, none⟩ = false ∧ w.frozen? ⟨g, k * 5 + 3, none⟩ = false ∧ w.frozen? ⟨g, k * 5 + 4, none⟩ = false :=
  ⟨⟨(h (k * 5) (by omega)).1, (h (k * 5 + 1) (by omega)).1, (h (k * 5 + 2) (by omega)).1, (h (k * 5 + 3) (by omega)).1, (h (k * 5 + 4) (by omega)).1⟩,
   (h (k * 5) (by omega)).2, (h (k * 5 + 1) (by omega)).2, (h (k * 5 + 2) (by omega)).2, (h (k * 5 + 3) (by omega)).2, (h (k * 5 + 4) (by omega)).2⟩
theorem Ig {p:Nat->Prop} {k:Nat} (h:∀i,i<k*5->p i) (h0:p (k*5)) (h1:p (k*5+1)) (h2:p (k*5+2)) (h3:p (k*5+3)) (h4:p (k*5+4)):∀i,i<(k+1)*5->p i:=by
 intro i hi;by_cases e:i<k*5
 ·exact h i e
 ·obtain rfl|rfl|rfl|rfl|rfl:i=k*5∨i=k*5+1∨i=k*5+2∨i=k*5+3∨i=k*5+4:=by omega
  all_goals assumption
theorem zZ (a b c d e a' b' c' d' e':Int) (w:World) :
  Calls prog 182 #[.agg #[iv a,iv b,iv c,iv d,iv e],.agg #[iv a',iv b',iv c',iv d',iv e']] w fun r w'=>r=.returned (.bool (five a b c d e a' b' c' d' e'))∧∃o1 o2,w'=(w.alloc o1).alloc o2:=by
 have F:Hid (five a b c d e a' b' c' d' e'=(!(a != a')&&(!(b != b')&&(!(c != c')&&(!(d != d') && !(e != e')))))):=aab (by unfold five;rw [Bool.eq_iff_iff];simp);cases ka:(a != a')
 ·cases kb:(b != b')
  ·cases kc:(c != c')
   ·cases kd:(d != d')
    ·cases ke:(e != e')
     all_goals
      go_enter func182,ntmps182;go_wp2;go_ret;exact ⟨rB (by rw [F.o,ka,kb,kc,kd,ke];rfl),_,_,rfl⟩
    ·go_enter func182,ntmps182;go_wp2;go_ret;exact ⟨rB (by rw [F.o,kd];simp),_,_,rfl⟩
   ·go_enter func182,ntmps182;go_wp2;go_ret;exact ⟨rB (by rw [F.o,kc];simp),_,_,rfl⟩
  ·go_enter func182,ntmps182;go_wp2;go_ret;exact ⟨rB (by rw [F.o,kb];simp),_,_,rfl⟩
 ·go_enter func182,ntmps182;go_wp2;go_ret;exact ⟨rB (by rw [F.o,ka];simp),_,_,rfl⟩
theorem Gg (w:World) (a b:Option Addr) (ca cb n m:Nat) (xs ys:List Int) (ha:aB w a xs) (hb:aB w b ys) (lx:xs.length=5*n) (ly:ys.length=5*m) (bx:n<=2000000) (by_:m<=2000000) :
  Calls prog 126 #[.slice a n ca,.slice b m cb] w fun e w'=>e=.returned (.bool (decide (xs=ys)))∧w.grownBy w' none:=by
 by_cases hl:n=m
 ·subst hl;have HX:=aab lx;have HY:=aab ly;clear lx ly;go_enter func126,ntmps126;go_wp2;go_loopw [5] (fun j wr=>∃k:Nat,k<=n∧j=iv k∧(∀i,i<k*5->el xs i=el ys i)∧w.grownBy wr none) (fun j _=>n-(intOf j).toNat)
  case atStart=>exact ⟨0,Nat.zero_le _,rfl,fun i hi=>absurd hi (by omega),World.grownBy.refl _ _⟩
  case round=>
   obtain ⟨k,hk,rfl,heq,hg⟩:=hrel;have HE:=aab heq;clear heq;by_cases hlt:k<n
   ·obtain ⟨g1,o1,rfl,p0,p1,p2,p3,p4⟩:=(ha.kept hg).five HX.o hlt;obtain ⟨g2,o2,rfl,q0,q1,q2,q3,q4⟩:=(hb.kept hg).five HY.o hlt;clear ha hb;cases hf:five (el xs (k*5)) (el xs (k*5+1)) (el xs (k*5+2)) (el xs (k*5+3)) (el xs (k*5+4)) (el ys (k*5)) (el ys (k*5+1)) (el ys (k*5+2)) (el ys (k*5+3)) (el ys (k*5+4))
    ·go_wp2;go_region_with (go_at_call 182;refine (zZ _ _ _ _ _ _ _ _ _ _ _).mono ?_;rintro e w' ⟨rfl,o5,o6,rfl⟩)
     all_goals
      go_wp2;go_ret;refine ⟨rB ?_,grownBy_drew (grownBy_alloc (grownBy_alloc hg _) _)⟩;symm;rw [decide_eq_false_iff_not];intro e;simp [five,e] at hf
    ·go_wp2;go_region_with (go_at_call 182;refine (zZ _ _ _ _ _ _ _ _ _ _ _).mono ?_;rintro e w' ⟨rfl,o5,o6,rfl⟩)
     all_goals
      go_wp2;go_roundw
      case rel=>
       simp only [five,decide_eq_true_eq] at hf;obtain ⟨f0,f1,f2,f3,f4⟩:=hf;exact ⟨k+1,by omega,by go_num,Ig HE.o f0 f1 f2 f3 f4,grownBy_drew (grownBy_alloc (grownBy_alloc hg _) _)⟩
      case measure=>simp [intOf];omega
   ·go_wp2;go_ret;exact ⟨rB (by symm;rw [decide_eq_true_iff];exact sJ (HX.o.trans HY.o.symm) (fun i hi=>HE.o i (by have:=HX.o;omega))),hg⟩
 ·have kl:(((n:Nat):Int) != ((m:Nat):Int))=true:=by rw [bne_iff_ne];omega
  have HL:Hid (¬n=m):=hl;have HX:=aab lx;have HY:=aab ly;clear hl lx ly;go_enter func126,ntmps126;go_wp2;go_ret;exact ⟨rB (by symm;rw [decide_eq_false_iff_not];intro e;apply HL.o;have:=HX.o;have:=HY.o;rw [e] at *;omega),World.grownBy.refl _ _⟩
theorem Ho (a b c d e:Int) (w:World) :
  Calls prog 165 #[.agg #[iv a,iv b,iv c,iv d,iv e]] w fun r w'=>r=.returned (.agg #[iv a,iv b,iv c,iv d,iv e])∧∃o1 o2 o3,w'=((w.alloc o1).alloc o2).alloc o3:=by
 go_enter func165,ntmps165;go_wp2;refine bodyPost_ret (v:=.agg #[iv a,iv b,iv c,iv d,iv e]) ?_ rfl ⟨rfl,_,_,_,rfl⟩;rw [aj rfl];go_simp
theorem Tryz.jR:(prog.info? 179).map (fun i=>(i.zero,i.size,i.bytes))=some (some (.agg #[iv 0,iv 0,iv 0,iv 0,iv 0]),5,40):=by kernel_rfl
theorem WF (n:Nat):(madeCells (Value.agg #[iv 0,iv 0,iv 0,iv 0,iv 0]).cells (n*5)).toList=(List.replicate (5*n) (0:Int)).map (Value.int .i64):=by
 have hz:∀j,j<5->(Value.agg #[iv 0,iv 0,iv 0,iv 0,iv 0]).cells[j]! = iv 0:=by
  intro j hj;obtain rfl|rfl|rfl|rfl|rfl:j=0∨j=1∨j=2∨j=3∨j=4:=by omega
  all_goals rfl
 have hs:(Value.agg #[iv 0,iv 0,iv 0,iv 0,iv 0]).cells.size=5:=rfl;apply List.ext_getElem
 ·simp [size_madeCells];omega
 ·intro i h1 h2;simp only [madeCells,hs,Array.toList_map,List.getElem_map,List.getElem_replicate];exact hz _ (Nat.mod_lt _ (by decide))
theorem dh {w:World} {base g n cap:Nat} {xs:List Int} (h:w.ownsRow base 179 5 (.slice (some (aac g 0)) n cap) n (xs.map (Value.int .i64))):Own w g xs:=by
 intro i hi;rcases h with ⟨hl,⟨e,_⟩|⟨g',cap',cur,e,_,hgg,hn,_,hsz,ht⟩⟩
 ·cases e
 ·cases e;simp at hl
  have hc:cur[i]? = some (iv (xs[i]?.getD 0)):=by
   have:(cur.toList.take (n*5))[i]? = (xs.map (Value.int .i64))[i]? := by rw [ht]
   rw [List.getElem?_take,if_pos (by omega)] at this;simpa [hi] using this
  refine ⟨?_,?_⟩
  ·simp [World.cell?,hgg,hc]
  ·simp [World.frozen?,hgg]
def nJ (xs:List Int) (k:Nat) (a b c d e:Int):List Int:=((((xs.set (k*5) a).set (k*5+1) b).set (k*5+2) c).set (k*5+3) d).set (k*5+4) e
theorem yX (xs:List Int) (k:Nat) (a b c d e:Int):(nJ xs k a b c d e).length=xs.length:=by simp [nJ]
theorem yU {xs:List Int} {k:Nat} {a b c d e:Int} {i:Nat} (h:i<k*5):el (nJ xs k a b c d e) i=el xs i:=by
 unfold el nJ;rw [List.getElem?_set_ne (by omega),List.getElem?_set_ne (by omega),List.getElem?_set_ne (by omega),List.getElem?_set_ne (by omega),List.getElem?_set_ne (by omega)]
theorem yV {xs:List Int} {k:Nat} {a b c d e:Int} (h:k*5+4<xs.length):el (nJ xs k a b c d e) (k*5)=a∧el (nJ xs k a b c d e) (k*5+1)=b∧el (nJ xs k a b c d e) (k*5+2)=c∧el (nJ xs k a b c d e) (k*5+3)=d∧el (nJ xs k a b c d e) (k*5+4)=e:=by
 unfold el nJ;refine ⟨?_,?_,?_,?_,?_⟩
 ·rw [List.getElem?_set_ne (by omega),List.getElem?_set_ne (by omega),List.getElem?_set_ne (by omega),List.getElem?_set_ne (by omega),List.getElem?_set_self (by omega)];rfl
 ·rw [List.getElem?_set_ne (by omega),List.getElem?_set_ne (by omega),List.getElem?_set_ne (by omega),List.getElem?_set_self (by simp;omega)];rfl
 ·rw [List.getElem?_set_ne (by omega),List.getElem?_set_ne (by omega),List.getElem?_set_self (by simp;omega)];rfl
 ·rw [List.getElem?_set_ne (by omega),List.getElem?_set_self (by simp;omega)];rfl
 ·rw [List.getElem?_set_self (by simp;omega)];rfl
theorem Own.nJ {w:World} {g:Nat} {xs:List Int} (h:Own w g xs) (k:Nat) (a b c d e:Int) :
  Own (((((w.setCell ⟨g,k*5,none⟩ (iv a)).setCell ⟨g,k*5+1,none⟩ (iv b)).setCell ⟨g,k*5+2,none⟩ (iv c)).setCell ⟨g,k*5+3,none⟩ (iv d)).setCell ⟨g,k*5+4,none⟩ (iv e)) g (nJ xs k a b c d e):=
 ((((h.set a).set b).set c).set d).set e
theorem vS {w wr:World} {g:Nat} {row:Option Nat} (h:w.grownBy wr row) (hr:row=some g∨w.heap.size<=g) (k0 k1 k2 k3 k4:Nat) (a b c d e:Value) :
  w.grownBy (((((wr.setCell ⟨g,k0,none⟩ a).setCell ⟨g,k1,none⟩ b).setCell ⟨g,k2,none⟩ c).setCell ⟨g,k3,none⟩ d).setCell ⟨g,k4,none⟩ e) row:=by
 have one:∀ {wx:World} (k:Nat) (v:Value),w.grownBy wx row->w.grownBy (wx.setCell ⟨g,k,none⟩ v) row:=fun {wx} k v hx=>
  ⟨hx.os,hx.tape,hx.output,by simpa using hx.size,fun j hj hne=>(Below.heap_setCell _ _ _ _ (by
   rcases hr with rfl|hr
   ·intro q;apply hne;rw [q]
   ·simp;omega)).trans (hx.block j hj hne)⟩
 exact one _ _ (one _ _ (one _ _ (one _ _ (one _ _ h))))
theorem EJ (w:World) (a:Option Addr) (ca n:Nat) (xs:List Int) (ha:aB w a xs) (lx:xs.length=5*n) (bx:n<=2000000) :
  Calls prog 115 #[.slice a n ca] w fun e w'=>e=.returned (.slice (some (aac w.heap.size 0)) n n)∧Own w' w.heap.size xs∧w.heap.size<w'.heap.size∧w.grownBy w' none:=by
 obtain ⟨i,hi,hz0,hz1,hz2⟩:=info_parts Tryz.jR;have HX:=aab lx;clear lx;go_enter func115,ntmps115;go_wp2_with (first|(at_make;refine wpList_make_full _ rfl _ _ 36 rfl w.heap.size 179 i (.agg #[iv 0,iv 0,iv 0,iv 0,iv 0]) 5 underlying36 hi hz0 hz1 _ _ _ _ n rfl rfl rfl rfl ?c1 ?c2 ?c3 ?_))
 case c1=>rw [hz2];omega
 case c2=>unfold maxLen;omega
 case c3=>exact Nat.le_refl _
 intro w1 hown hg;have ho:Own w1 w.heap.size (List.replicate (5*n) 0):=dh (base:=w.heap.size) (n:=n) (cap:=n) (by rw [<-WF];exact hown);have hs:w.heap.size<w1.heap.size:=(hown.lt _ rfl).2;clear hown;go_wp2;go_loopw [4] (fun j wr=>∃(k:Nat) (zs:List Int),k<=n∧j=iv k∧zs.length=5*n∧Own wr w.heap.size zs∧(∀i,i<k*5->el zs i=el xs i)∧w.heap.size<wr.heap.size∧w.grownBy wr none) (fun j _=>n-(intOf j).toNat)
 case atStart=>exact ⟨0,_,Nat.zero_le _,rfl,by simp,ho,fun i hi=>absurd hi (by omega),hs,hg⟩
 case round=>
  obtain ⟨k,zs,hk,rfl,hl,hown,heq,hsz,hgr⟩:=hrel;have HE:=aab heq;have HL:=aab hl;have HO:=aab hown;have HS:=aab hsz;clear heq hl;by_cases hlt:k<n
  ·obtain ⟨g1,o1,rfl,p0,p1,p2,p3,p4⟩:=(ha.kept hgr).five HX.o hlt;clear ha hown hsz;go_wp2_with fail;refine (Ho _ _ _ _ _ _).mono ?_;rintro e w' ⟨rfl,o5,o6,o7,rfl⟩;obtain ⟨X,hX⟩:∃X:World,X=((wr.alloc o5).alloc o6).alloc o7:=⟨_,rfl⟩
   rw [<-hX];have hx:wr.grownBy X none:=by rw [hX];exact grownBy_alloc (grownBy_alloc (grownBy_alloc (World.grownBy.refl _ _) _) _) _
   have HX2:Hid (w.grownBy X none):=aab (grownBy_trans hgr hx);have HO2:=aab (HO.o.kept hx (by simp));have HS2:Hid (w.heap.size<X.heap.size):=aab (Nat.lt_of_lt_of_le HS.o hx.size);clear hX hx p0 p1 p2 p3 p4 hgr;obtain ⟨⟨c0,c1,c2,c3,c4⟩,g0,g1',g2,g3,g4⟩:=HO2.o.five HL.o hlt;go_wp2_with fail;go_roundw
   case rel=>
    have hk4:k*5+4<zs.length:=by have:=HL.o;omega
    obtain ⟨n0,n1,n2,n3,n4⟩:=yV (a:=el xs (k*5)) (b:=el xs (k*5+1)) (c:=el xs (k*5+2)) (d:=el xs (k*5+3)) (e:=el xs (k*5+4)) hk4;exact ⟨k+1,nJ zs k _ _ _ _ _,by omega,by go_num,by rw [yX];exact HL.o,HO2.o.nJ k _ _ _ _ _,Ig (fun i hi=>(yU hi).trans (HE.o i hi)) n0 n1 n2 n3 n4,by simpa using HS2.o,vS HX2.o (.inr (Nat.le_refl _)) _ _ _ _ _ _ _ _ _ _⟩
   case measure=>simp [intOf];omega
  ·clear hown hsz;go_wp2;go_ret;have e:zs=xs:=sJ (HL.o.trans HX.o.symm) (fun i hi=>HE.o i (by have:=HL.o;omega));exact ⟨rfl,by rw [<-e];exact HO.o,HS.o,hgr⟩
theorem lY (q:Int) (n i:Nat) (h:i<n):el (marks q n) i=q+(i:Int):=vG q n i h
theorem zy (w:World) (g ca n:Nat) (xs:List Int) (q:Int) (ha:Own w g xs) (lx:xs.length=5*n) (bx:n<=2000000) (q0:0<=q) (q1:q<=100000000) :
  Calls prog 127 #[.slice (some (aac g 0)) n ca,iv q] w fun e w'=>e=.returned (iv (q+5*(n:Int)))∧Own w' g (marks q (5*n))∧w.grownBy w' (some g):=by
 have HX:=aab lx;clear lx;go_enter func127,ntmps127;go_wp2;go_loopw [1,5] (fun m j wr=>∃(k:Nat) (zs:List Int),k<=n∧j=iv k∧m=iv (q+5*(k:Int))∧zs.length=5*n∧Own wr g zs∧(∀i,i<k*5->el zs i=q+(i:Int))∧w.grownBy wr (some g)) (fun _ j _=>n-(intOf j).toNat)
 case atStart=>exact ⟨0,xs,Nat.zero_le _,rfl,by simp,HX.o,ha,fun i hi=>absurd hi (by omega),World.grownBy.refl _ _⟩
 case round=>
  obtain ⟨k,zs,hk,rfl,rfl,hl,hown,heq,hgr⟩:=hrel;have HE:=aab heq;have HL:=aab hl;have HO:=aab hown;have HG:=aab hgr;clear heq hl hgr ha;by_cases hlt:k<n
  ·obtain ⟨⟨c0,c1,c2,c3,c4⟩,g0,g1,g2,g3,g4⟩:=hown.five HL.o hlt;clear hown;go_wp2;go_roundw
   case rel=>
    have hk4:k*5+4<zs.length:=by have:=HL.o;omega
    obtain ⟨n0,n1,n2,n3,n4⟩:=yV (a:=q+5*(k:Int)) (b:=q+5*(k:Int)+1) (c:=q+5*(k:Int)+1+1) (d:=q+5*(k:Int)+1+1+1) (e:=q+5*(k:Int)+1+1+1+1) hk4
    exact ⟨k+1,nJ zs k _ _ _ _ _,by omega,by go_num,by rw [show q+5*(k:Int)+1+1+1+1+1=q+5*((k+1:Nat):Int) from by omega],by rw [yX];exact HL.o,HO.o.nJ k _ _ _ _ _,
     Ig (fun i hi=>(yU hi).trans (HE.o i hi)) (by rw [n0];omega) (by rw [n1];omega) (by rw [n2];omega) (by rw [n3];omega) (by rw [n4];omega),vS HG.o (.inl rfl) _ _ _ _ _ _ _ _ _ _⟩
   case measure=>simp [intOf];omega
  ·clear hown;obtain rfl:k=n:=by omega
   go_wp2;go_ret
   have e:zs=marks q (5*k):=sJ (by rw [pM];exact HL.o) (fun i hi=>by
    have:=HL.o
    exact (HE.o i (by omega)).trans (lY q _ i (by omega)).symm)
   exact ⟨rfl,by rw [<-e];exact HO.o,HG.o⟩
theorem zM (w:World) (a:Option Addr) (ca n:Nat) (q:Int) (ha:aB w a (marks q (5*n))) (bx:n<=2000000) (q0:0<=q) (q1:q<=100000000) :
  Calls prog 128 #[.slice a n ca,iv q] w fun e w'=>e=.returned (iv (q+5*(n:Int)))∧w.grownBy w' none:=by
 go_enter func128,ntmps128;go_wp2;go_loopw [1,5] (fun m j wr=>∃k:Nat,k<=n∧j=iv k∧m=iv (q+5*(k:Int))∧w.grownBy wr none) (fun _ j _=>n-(intOf j).toNat)
 case atStart=>exact ⟨0,Nat.zero_le _,rfl,by simp,World.grownBy.refl _ _⟩
 case round=>
  obtain ⟨k,hk,rfl,rfl,hgr⟩:=hrel;by_cases hlt:k<n
  ·obtain ⟨g1,o1,rfl,p0,p1,p2,p3,p4⟩:=(ha.kept hgr).five (pM q (5*n)) hlt;rw [show el (marks q (5*n)) (k*5)=q+5*(k:Int) from by rw [lY _ _ _ (by omega)];omega] at p0;rw [show el (marks q (5*n)) (k*5+1)=q+5*(k:Int)+1 from by rw [lY _ _ _ (by omega)];omega] at p1;rw [show el (marks q (5*n)) (k*5+2)=q+5*(k:Int)+1+1 from by rw [lY _ _ _ (by omega)];omega] at p2;rw [show el (marks q (5*n)) (k*5+3)=q+5*(k:Int)+1+1+1 from by rw [lY _ _ _ (by omega)];omega] at p3;rw [show el (marks q (5*n)) (k*5+4)=q+5*(k:Int)+1+1+1+1 from by rw [lY _ _ _ (by omega)];omega] at p4;clear ha;go_wp2;go_roundw
   case rel=>exact ⟨k+1,by omega,by go_num,by rw [show q+5*(k:Int)+1+1+1+1+1=q+5*((k+1:Nat):Int) from by omega],hgr⟩
   case measure=>simp [intOf];omega
  ·obtain rfl:k=n:=by omega
   go_wp2;go_ret;exact ⟨rfl,hgr⟩
theorem Jq (w:World) (ca:Nat) (q:Int):Calls prog 127 #[.slice none 0 ca,iv q] w fun e w'=>e=.returned (iv q)∧w'=w:=by
 go_enter func127,ntmps127;go_wp2;go_loop [1,5] (fun m j=>m=iv q∧j=iv 0) (fun _ _=>0)
 case atStart=>exact ⟨rfl,rfl⟩
 case round=>
  obtain ⟨rfl,rfl⟩:=hrel;go_wp2;go_ret;exact ⟨rfl,rfl⟩
theorem Fv (w:World) (base ca n:Nat) (a:Option Addr) (xs:List Int) (q:Int) (h:Slot w base a xs) (lx:xs.length=5*n) (bx:n<=2000000) (q0:0<=q) (q1:q<=100000000) :
  Calls prog 127 #[.slice a n ca,iv q] w fun e w'=>e=.returned (iv (q+5*(n:Int)))∧Slot w' base a (marks q (5*n))∧w.grownBy w' (blk a):=by
 rcases h with ⟨rfl,rfl⟩|⟨g,rfl,hb,hlt,ho⟩
 ·obtain rfl:n=0:=by simp at lx;omega
  refine (Jq w ca q).mono ?_;rintro e w' ⟨rfl,rfl⟩;exact ⟨by simp,.inl ⟨rfl,by simp [marks]⟩,World.grownBy.refl _ _⟩
 ·refine (zy w g ca n xs q ho lx bx q0 q1).mono ?_;rintro e w' ⟨rfl,ho',hg⟩;exact ⟨rfl,.inr ⟨g,rfl,hb,Nat.lt_of_lt_of_le hlt hg.size,ho'⟩,hg⟩
theorem wS (w:World) (a:Option Addr) (ca n:Nat) (left:Int) (hn:n<=9223372036854775807) (l0:0<=left) (l1:left<=2000000) :
  Calls prog 100 #[.slice a n ca,iv left] w fun e w'=>e=.returned (iv (if left-(n:Int)<0 then -1 else left-(n:Int)))∧w'=w:=by
 by_cases h:left-(n:Int)<0
 all_goals
  go_enter func100,ntmps100;go_wp2;go_ret;exact ⟨rfl,rfl⟩
theorem VP (w:World) (a b:Option Addr) (ca cb n m:Nat) (left:Int) (hn:n<=9223372036854775807) (hm:m<=9223372036854775807) (l0:0<=left) (l1:left<=2000000) :
  Calls prog 54 #[.agg #[.slice a n ca,.slice b m cb],iv left] w fun e w'=>e=.returned (iv (szB n m left))∧Kept 0 0 w w':=by
 by_cases h:left-(n:Int)<0
 ·have E:Hid (szB n m left = -1):=aab (by simp [szB,h]);have e1:(if left-(n:Int)<0 then (-1:Int) else left-(n:Int)) = -1:=by simp [h]
  go_enter func54,ntmps54;go_wp2_with fail;refine (nV _ a ca n left hn l0 l1).mono ?_;rintro e w' ⟨rfl,rfl⟩;rw [e1];go_wp2_with fail;go_ret;exact ⟨rI E.o.symm,kept_alloc _ _⟩
 ·have e1:(if left-(n:Int)<0 then (-1:Int) else left-(n:Int))=left-(n:Int):=by simp [h]
  by_cases h2:left-(n:Int)-(m:Int)<0
  ·have E:Hid (szB n m left = -1):=aab (by simp [szB,h,h2]);have e2:(if left-(n:Int)-(m:Int)<0 then (-1:Int) else left-(n:Int)-(m:Int)) = -1:=by simp [h2]
   go_enter func54,ntmps54;go_wp2_with fail;refine (nV _ a ca n left hn l0 l1).mono ?_;rintro e w' ⟨rfl,rfl⟩;rw [e1];go_wp2_with fail;refine (wS _ b cb m (left-(n:Int)) hm (by omega) (by omega)).mono ?_;rintro e w' ⟨rfl,rfl⟩;rw [e2];go_wp2_with fail;go_ret;exact ⟨rI E.o.symm,kept_alloc _ _⟩
  ·have E:Hid (szB n m left=left-(n:Int)-(m:Int)):=aab (by simp [szB,h,h2]);have e2:(if left-(n:Int)-(m:Int)<0 then (-1:Int) else left-(n:Int)-(m:Int))=left-(n:Int)-(m:Int):=by simp [h2]
   go_enter func54,ntmps54;go_wp2_with fail;refine (nV _ a ca n left hn l0 l1).mono ?_;rintro e w' ⟨rfl,rfl⟩;rw [e1];go_wp2_with fail;refine (wS _ b cb m (left-(n:Int)) hm (by omega) (by omega)).mono ?_;rintro e w' ⟨rfl,rfl⟩;rw [e2];go_wp2_with fail;go_ret;exact ⟨rI E.o.symm,kept_alloc _ _⟩
theorem Vu (w:World) (a b:Option Addr) (ca cb m:Nat) (xs ys:List Int) (ha:aB w a xs) (hb:aB w b ys) (lx:xs.length<=2000000) (ly:ys.length=5*m) (bm:m<=2000000) :
  Calls prog 60 #[.agg #[.slice a xs.length ca,.slice b m cb]] w fun e w'=>∃g1 g2:Nat,e=.returned (.agg #[.slice (some (aac g1 0)) xs.length xs.length,.slice (some (aac g2 0)) m m])∧Own w' g1 xs∧Own w' g2 ys∧w.heap.size<=g1∧g1<g2∧g2<w'.heap.size∧Kept 0 0 w w':=by
 have HY:=aab ly;have HA:=aab ha;have HB:=aab hb;clear ly ha hb;go_enter func60,ntmps60;go_wp2_with fail;have k0:Kept 0 0 w (((w.alloc (.cells #[.slice a xs.length ca,.slice b m cb] 27)).alloc (.cells #[.slice none 0 0,.slice none 0 0] 38)).alloc (.cells #[.slice none 0 0,.slice none 0 0] 38)):=ag (ag (kept_alloc _ _) _) _;refine (Be _ a ca xs (HA.o.ai k0) lx).mono ?_;rintro e w1 ⟨rfl,o1,z1,g1⟩;have k1:=aT g1;have B0:=((((Blk.new w #[.slice a xs.length ca,.slice b m cb] 27).alloc (.cells #[.slice none 0 0,.slice none 0 0] 38)).alloc (.cells #[.slice none 0 0,.slice none 0 0] 38)).ae k1)
 have B1:=(((Blk.new (w.alloc (.cells #[.slice a xs.length ca,.slice b m cb] 27)) #[.slice none 0 0,.slice none 0 0] 38).alloc (.cells #[.slice none 0 0,.slice none 0 0] 38)).ae k1)
 have B2:=((Blk.new ((w.alloc (.cells #[.slice a xs.length ca,.slice b m cb] 27)).alloc (.cells #[.slice none 0 0,.slice none 0 0] 38)) #[.slice none 0 0,.slice none 0 0] 38).ae k1)
 simp only [World.size_alloc] at B1 B2 z1 o1 ⊢;have c1:=B0.cell (i:=1) rfl;have d0:=B2.cell (i:=0) rfl;have d1:=B2.cell (i:=1) rfl;have f0:=B2.frozen 0;have f1:=B2.frozen 1;have HK1:=aab (k0.trans k1);have HO1:=aab o1;have HZ1:=aab z1;have HB1:=aab B1;have HB2:=aab B2;clear k0 k1 g1 o1 z1 B0 B1 B2;go_wp2_with fail;obtain ⟨X,hX⟩:∃X:World,X=w1.setCell (aac (w.heap.size+1+1) 0) (.slice (some ⟨w.heap.size+1+1+1,0,none⟩) xs.length xs.length):=⟨_,rfl⟩
 rw [<-hX];have HKX:Hid (Kept 0 0 w X):=aab (by rw [hX];exact af HK1.o _ _ _ (.inr (by omega)));have HOX:Hid (Own X (w.heap.size+1+1+1) xs):=aab (by rw [hX];exact HO1.o.setOther _ _ _ (by omega));have ZE:Hid (Blk X (w.heap.size+1) #[.slice none 0 0,.slice none 0 0] 38):=aab (by rw [hX];exact HB1.o.other _ _ _ (by omega));have ZC:Hid (Blk X (w.heap.size+1+1) #[.slice (some ⟨w.heap.size+1+1+1,0,none⟩) xs.length xs.length,.slice none 0 0] 38):=aab (by rw [hX];exact HB2.o.set _ _);have HZX:Hid (w.heap.size+1+1+1<X.heap.size):=aab (by rw [hX];simpa using HZ1.o);clear hX c1 d0 d1 f0 f1 HB1 HB2 HO1 HK1 HZ1;refine (EJ _ b cb m ys (HB.o.ai HKX.o) HY.o bm).mono ?_;rintro e w2 ⟨rfl,o2,z2,g2⟩;have k2:=aT g2;have HK2:=aab (HKX.o.trans k2);have HO1:=aab (HOX.o.ai k2 (by omega));have HO2:=aab o2;have HZ2:=aab z2;have B1:=ZE.o.ae k2;have B2:=ZC.o.ae k2;have HB1:=aab B1;have HB2:=aab B2;have d0:=B2.cell (i:=0) rfl;have d1:=B2.cell (i:=1) rfl;have f0:=B2.frozen 0;have f1:=B2.frozen 1;have e0:=B1.cell (i:=0) rfl;have e1:=B1.cell (i:=1) rfl;have h0:=B1.frozen 0;have h1:=B1.frozen 1;clear g2 k2 o2 z2 B1 B2;go_wp2_with fail;refine bodyPost_ret (v:=.agg #[.slice (some ⟨w.heap.size+1+1+1,0,none⟩) xs.length xs.length,.slice (some (aac X.heap.size 0)) m m]) ?_ rfl ⟨w.heap.size+1+1+1,X.heap.size,rfl,?_,?_,by omega,HZX.o,?_,?_⟩
 ·exact results_cell_row rfl _ _ _ _ _ (0,0) _ rfl ((((HB1.o.other _ _ _ (by omega)).set _ _).set _ _)) underlying38 rfl (by kernel_rfl)
 ·exact ((HO1.o.setOther _ _ _ (by omega)).setOther _ _ _ (by omega)).setOther _ _ _ (by omega)
 ·have:=HZX.o
  exact ((HO2.o.setOther _ _ _ (by omega)).setOther _ _ _ (by omega)).setOther _ _ _ (by omega)
 ·simpa using HZ2.o
 ·exact af (af (af HK2.o _ _ _ (.inr (by omega))) _ _ _ (.inr (by omega))) _ _ _ (.inr (by omega))
theorem Xf (w:World) (a b c d:Option Addr) (ca cb cc cd m n:Nat) (xs ys us vs:List Int) (ha:aB w a xs) (hb:aB w b ys) (hc:aB w c us) (hd:aB w d vs) (lx:xs.length<=2000000) (lu:us.length<=2000000) (ly:ys.length=5*m) (lv:vs.length=5*n) (bm:m<=2000000) (bn:n<=2000000) :
  Calls prog 69 #[.agg #[.slice a xs.length ca,.slice b m cb],.agg #[.slice c us.length cc,.slice d n cd]] w fun e w'=>e=.returned (.bool (decide (xs=us)&&decide (ys=vs)))∧Kept 0 0 w w':=by
 have HY:=aab ly;have HV:=aab lv;clear ly lv;have k0:Kept 0 0 w ((w.alloc (.cells #[.slice a xs.length ca,.slice b m cb] 38)).alloc (.cells #[.slice c us.length cc,.slice d n cd] 38)):=ag (kept_alloc _ _) _;have HK0:=aab k0;have HA:=aab ha;have HB:=aab hb;have HC:=aab hc;have HD:=aab hd;clear k0 ha hb hc hd;cases h1:decide (xs=us)
 ·go_enter func69,ntmps69;go_wp2_with fail;refine (qB _ a c ca cc xs us (HA.o.ai HK0.o) (HC.o.ai HK0.o) lx lu).mono ?_;rintro e w1 ⟨rfl,g1⟩;rw [h1];have HK1:=aab (HK0.o.trans (aT g1));clear g1;go_wp2_with fail;go_ret;exact ⟨rfl,HK1.o⟩
 ·go_enter func69,ntmps69;go_wp2_with fail;refine (qB _ a c ca cc xs us (HA.o.ai HK0.o) (HC.o.ai HK0.o) lx lu).mono ?_;rintro e w1 ⟨rfl,g1⟩;rw [h1];have k1:=aT g1;have B0:=((Blk.new w #[.slice a xs.length ca,.slice b m cb] 38).alloc (.cells #[.slice c us.length cc,.slice d n cd] 38)).ae k1;have B1:=(Blk.new (w.alloc (.cells #[.slice a xs.length ca,.slice b m cb] 38)) #[.slice c us.length cc,.slice d n cd] 38).ae k1;simp only [World.size_alloc] at B1;have c1:=B0.cell (i:=1) rfl;have d1:=B1.cell (i:=1) rfl;have HK1:=aab (HK0.o.trans k1);clear g1 k1 B0 B1;go_wp2_with fail;refine (Gg _ b d cb cd m n ys vs (HB.o.ai HK1.o) (HD.o.ai HK1.o) HY.o HV.o bm bn).mono ?_;rintro e w2 ⟨rfl,g2⟩;have HK2:=aab (HK1.o.trans (aT g2));clear g2;cases h2:decide (ys=vs)
  all_goals
   go_wp2_with fail;go_ret;exact ⟨rB (by rw [h2];rfl),HK2.o⟩
theorem Pq (w:World) (a b:Option Addr) (ca cb n m:Nat) (q:Int) (ha:aB w a (marks q n)) (hb:aB w b (marks (q+(n:Int)) (5*m))) (lx:n<=2000000) (bm:m<=2000000) (q0:0<=q) (q1:q<=1000000) :
  Calls prog 73 #[.agg #[.slice a n ca,.slice b m cb],iv q] w fun e w'=>e=.returned (iv (q+(n:Int)+5*(m:Int)))∧Kept 0 0 w w':=by
 have k0:=kept_alloc w (.cells #[.slice a n ca,.slice b m cb] 38);have HK0:=aab k0;have HA:=aab ha;have HB:=aab hb;clear k0 ha hb;go_enter func73,ntmps73;go_wp2_with fail;refine (oP _ a ca n q (HA.o.ai HK0.o) lx q0 (by omega)).mono ?_;rintro e w1 ⟨rfl,g1⟩;have k1:=aT g1;have B0:=(Blk.new w #[.slice a n ca,.slice b m cb] 38).ae k1;have c1:=B0.cell (i:=1) rfl;have HK1:=aab (HK0.o.trans k1);clear g1 k1 B0;go_wp2_with fail;refine (zM _ b cb m (q+(n:Int)) (HB.o.ai HK1.o) bm (by omega) (by omega)).mono ?_;rintro e w2 ⟨rfl,g2⟩;have HK2:=aab (HK1.o.trans (aT g2));clear g2;go_wp2_with fail;go_ret;exact ⟨rfl,HK2.o⟩
theorem sD (a:Int) (w:World):Calls prog 203 #[iv a] w fun e w'=>e=.returned (.bool (Pl.addr a))∧w'=w:=by
 go_enter func203,ntmps203;go_wp2_with fail;refine (dG _ _ _ _).mono ?_;rintro e w' ⟨rfl,rfl⟩;go_wp2_with fail;go_ret;exact ⟨rfl,rfl⟩
theorem jI (a:Int) (w:World):Calls prog 290 #[iv a] w fun e w'=>e=.returned (iv (Pl.kind a))∧w'=w:=by
 by_cases h1:512<=a
 ·have E:Hid (Pl.kind a=1):=aab (by simp [Pl.kind,h1]);go_enter func290,ntmps290;go_wp2;go_ret;exact ⟨rI E.o.symm,rfl⟩
 ·cases h2:(decide ((448:Int)<=a)&&decide (a<=495))
  ·cases h3:(decide ((384:Int)<=a)&&decide (a<=447))
   all_goals
    have E:Hid (Pl.kind a=if (decide ((384:Int)<=a)&&decide (a<=447)) then 3 else 0):=aab (by
     simp at h2
     have:¬(448<=a∧a<=495):=by omega
     simp [Pl.kind,h1,this])
    rw [h3] at E;go_enter func290,ntmps290;go_wp2_with fail;refine (dG _ _ _ _).mono ?_;rintro e w' ⟨rfl,rfl⟩;rw [h2];go_wp2_with fail;refine (dG _ _ _ _).mono ?_;rintro e w' ⟨rfl,rfl⟩;rw [h3];go_wp2_with fail;go_ret;exact ⟨rI E.o.symm,rfl⟩
  ·have E:Hid (Pl.kind a=1):=aab (by simp at h2;simp [Pl.kind,h2]);go_enter func290,ntmps290;go_wp2_with fail;refine (dG _ _ _ _).mono ?_;rintro e w' ⟨rfl,rfl⟩;rw [h2];go_wp2_with fail;go_ret;exact ⟨rI E.o.symm,rfl⟩
theorem zH (k s a v c:Int) (w:World):Calls prog 148 #[.agg #[iv k,iv s,iv a,iv v,iv c]] w fun e w'=>e=.returned (.bool (fK k s a v c))∧∃o,w'=w.alloc o:=by
 cases h1:(decide (1<=k)&&decide (k<=3))
 ·go_enter func148,ntmps148;go_wp2_with (first|(go_at_call 75;refine st (dG _ _ _ _) ?_;rw [h1])|(go_at_call 202;refine st (jP _ _ _) ?_)|(go_at_call 203;refine st (sD _ _) ?_));go_ret;exact ⟨rB (by unfold fK dM;rw [h1];simp),_,rfl⟩
 ·cases h2:okv s v
  ·go_enter func148,ntmps148;go_wp2_with (first|(go_at_call 75;refine st (dG _ _ _ _) ?_;rw [h1])|(go_at_call 202;refine st (jP _ _ _) ?_;rw [h2])|(go_at_call 203;refine st (sD _ _) ?_));go_ret;exact ⟨rB (by unfold fK dM;rw [h1,h2];simp),_,rfl⟩
  ·cases h3:Pl.addr a
   ·go_enter func148,ntmps148;go_wp2_with (first|(go_at_call 75;refine st (dG _ _ _ _) ?_;rw [h1])|(go_at_call 202;refine st (jP _ _ _) ?_;rw [h2])|(go_at_call 203;refine st (sD _ _) ?_;rw [h3]));go_ret;exact ⟨rB (by unfold fK dM;rw [h1,h2,h3];simp),_,rfl⟩
   ·cases h4:(decide (0<=c)&&decide (c<=3))
    ·go_enter func148,ntmps148;go_wp2_with (first|(go_at_call 75;refine st (dG _ _ _ _) ?_;first|rw [h1]|rw [h4])|(go_at_call 202;refine st (jP _ _ _) ?_;rw [h2])|(go_at_call 203;refine st (sD _ _) ?_;rw [h3]));go_ret;exact ⟨rB (by unfold fK dM;rw [h1,h2,h3,h4];simp),_,rfl⟩
    ·cases h5:(k != 3)
     ·cases h6:(c != 0)
      all_goals
       go_enter func148,ntmps148;go_wp2_with (first|(go_at_call 75;refine st (dG _ _ _ _) ?_;first|rw [h1]|rw [h4])|(go_at_call 202;refine st (jP _ _ _) ?_;rw [h2])|(go_at_call 203;refine st (sD _ _) ?_;rw [h3]));go_ret;exact ⟨rB (by unfold fK dM;rw [h1,h2,h3,h4,h5,h6];simp),_,rfl⟩
     ·go_enter func148,ntmps148;go_wp2_with (first|(go_at_call 75;refine st (dG _ _ _ _) ?_;first|rw [h1]|rw [h4])|(go_at_call 202;refine st (jP _ _ _) ?_;rw [h2])|(go_at_call 203;refine st (sD _ _) ?_;rw [h3]));go_ret;exact ⟨rB (by unfold fK dM;rw [h1,h2,h3,h4,h5];simp),_,rfl⟩
theorem oh (w:World) (a b:Option Addr) (ca cb m:Nat) (xs ys:List Int) (ha:aB w a xs) (hb:aB w b ys) (lx:xs.length<=2000000) (ly:ys.length=5*m) (bm:m<=2000000) :
  Calls prog 102 #[.agg #[.slice a xs.length ca,.slice b m cb]] w fun e w'=>e=.returned (.bool (Pl.eu xs ys m))∧Kept 0 0 w w':=by
 have HA:=aab ha;have HB:=aab hb;have HY:=aab ly;clear ha hb ly;go_enter func102,ntmps102;go_wp2;have HK0:=aab (kept_alloc w (.cells #[.slice a xs.length ca,.slice b m cb] 38));have HW:=aab (Blk.new w #[.slice a xs.length ca,.slice b m cb] 38);obtain ⟨W,hW⟩:∃W:World,W=w.alloc (.cells #[.slice a xs.length ca,.slice b m cb] 38):=⟨_,rfl⟩
 rw [<-hW] at HK0 HW ⊢;clear hW;go_loopw [4,8] (fun _ j wr=>∃k:Nat,k<=m∧j=iv k∧(∀i,i<k->rJ ys i=true)∧Kept 0 0 W wr) (fun _ j _=>m-(intOf j).toNat)
 case atStart=>exact ⟨0,Nat.zero_le _,rfl,fun i hi=>absurd hi (Nat.not_lt_zero i),Kept.refl _ _ _⟩
 case round=>
  obtain ⟨k,hk,rfl,heq,hkept⟩:=hrel;have HE:=aab heq;have HK:=aab hkept;clear heq hkept;by_cases hlt:k<m
  ·obtain ⟨g1,o1,rfl,p0,p1,p2,p3,p4⟩:=(HB.o.ai (HK0.o.trans HK.o)).five HY.o hlt;cases hb:rJ ys k
   ·have hb2:fK (el ys (k*5)) (el ys (k*5+1)) (el ys (k*5+2)) (el ys (k*5+3)) (el ys (k*5+4))=false:=hb;clear hb;go_wp2_with (go_at_call 148;refine (zH _ _ _ _ _ _).mono ?_;rintro e w' ⟨rfl,o,rfl⟩;rw [hb2]);go_ret;exact ⟨rB (by unfold Pl.eu;rw [xw hlt hb2];rfl),HK0.o.trans (ag (ag HK.o _) _)⟩
   ·have hb2:fK (el ys (k*5)) (el ys (k*5+1)) (el ys (k*5+2)) (el ys (k*5+3)) (el ys (k*5+4))=true:=hb;clear hb;go_wp2_with (go_at_call 148;refine (zH _ _ _ _ _ _).mono ?_;rintro e w' ⟨rfl,o,rfl⟩;rw [hb2]);go_roundw
    case rel=>exact ⟨k+1,by omega,by go_num,kN HE.o hb2,ag (ag HK.o _) _⟩
    case measure=>simp [intOf];omega
  ·have HA1:Hid (jv ys m=true):=aab (xu (fun i hi=>HE.o i (by omega)));have B:=HW.o.ae HK.o;have c0:=B.cell (i:=0) rfl;have c1:=B.cell (i:=1) rfl;have HX:=aab (HA.o.ai (HK0.o.trans HK.o));clear B
   have G:Hid (Pl.eu xs ys m=(((xs.length:Int)==512)&&(aZ xs&&decide ((m:Int)<=400)))):=aab (by
    unfold Pl.eu;rw [HA1.o,Bool.true_and];congr 1
    ·rw [Bool.eq_iff_iff];simp;omega
    ·congr 1;rw [Bool.eq_iff_iff];simp;omega)
   cases h1:((xs.length:Int)==512)
   ·go_wp2_with fail;go_ret;exact ⟨rB (by rw [G.o,h1];rfl),HK0.o.trans HK.o⟩
   ·cases h2:aZ xs
    ·go_wp2_with fail;refine (DK _ a ca xs HX.o lx).mono ?_;rintro e w' ⟨rfl,rfl⟩;rw [h2];go_wp2_with fail;go_ret;exact ⟨rB (by rw [G.o,h1,h2];rfl),HK0.o.trans HK.o⟩
    ·cases h3:decide ((m:Int)<=400)
     all_goals
      go_wp2_with fail;refine (DK _ a ca xs HX.o lx).mono ?_;rintro e w' ⟨rfl,rfl⟩;rw [h2];go_wp2_with fail;go_ret;exact ⟨rB (by rw [G.o,h1,h2,h3];rfl),HK0.o.trans HK.o⟩
namespace Pl
theorem BU {xs ys:List Int} {m:Nat} (h:eu xs ys m=true):xs.length=512∧aZ xs=true∧m<=400∧jv ys m=true:=by
 simp only [eu,Bool.and_eq_true,decide_eq_true_eq] at h;exact ⟨h.2.1,h.2.2.1,h.2.2.2,h.1⟩
theorem rE {k s a:Int} (h:code k s a=0) (a0:0<=a):a<=511∧a+s-1<=511:=by
 unfold code at h;split at h
 ·cases h
 ·split at h
  ·cases h
  ·rename_i h1 h2;have k1:¬kind a=1:=fun e=>h2 (.inl e);have k2:¬kind (a+s-1)=1:=fun e=>h2 (.inr e);constructor
   ·refine Decidable.byContradiction fun q=>k1 ?_;have:512<=a:=by omega
    simp [kind,this]
   ·refine Decidable.byContradiction fun q=>k2 ?_;have:512<=a+s-1:=by omega
    simp [kind,this]
theorem ut {h l:Int} (h0:0<=h) (h1:h<=255) (l0:0<=l) (l1:l<=255):bits .or .i64 (h*256) l=h*256+l:=
 bits_join .i64 62 (by decide) gY 8 (h*256) l (by omega) (by omega) (by omega) (by omega) (by omega) (by omega)
end Pl
theorem mQ (k s a:Int) (w:World) (s0:1<=s) (s1:s<=2) (a0:0<=a) (a1:a<=65535) :
  Calls prog 266 #[iv k,iv s,iv a] w fun e w'=>e=.returned (iv (Pl.code k s a))∧w'=w:=by
 have hA:=and1 a
 have G:Hid (Pl.code k s a=if ((s==2)&&(a%2==1)) then 2 else if ((Pl.kind a==1)||(Pl.kind (a+s-1)==1)) then 1 else if ((k==2)&&((Pl.kind a==3)||(Pl.kind (a+s-1)==3))) then 3 else 0):=aab (by
  unfold Pl.code;simp only [Bool.and_eq_true,Bool.or_eq_true,beq_iff_eq])
 cases h1:(s==2)
 ·cases h3:(Pl.kind a==1)
  ·cases h4:(Pl.kind (a+s-1)==1)
   ·cases h5:(k==2)
    ·rw [h1,h3,h4,h5] at G;go_enter func266,ntmps266;go_wp2_with (go_at_call 290;refine st (jI _ _) ?_);go_ret;exact ⟨rI (by rw [G.o];simp),rfl⟩
    ·cases h6:(Pl.kind a==3)
     ·cases h7:(Pl.kind (a+s-1)==3)
      ·rw [h1,h3,h4,h5,h6,h7] at G;go_enter func266,ntmps266;go_wp2_with (go_at_call 290;refine st (jI _ _) ?_);go_ret;exact ⟨rI (by rw [G.o];simp),rfl⟩
      ·rw [h1,h3,h4,h5,h6,h7] at G;go_enter func266,ntmps266;go_wp2_with (go_at_call 290;refine st (jI _ _) ?_);go_ret;exact ⟨rI (by rw [G.o];simp),rfl⟩
     ·rw [h1,h3,h4,h5,h6] at G;go_enter func266,ntmps266;go_wp2_with (go_at_call 290;refine st (jI _ _) ?_);go_ret;exact ⟨rI (by rw [G.o];simp),rfl⟩
   ·rw [h1,h3,h4] at G;go_enter func266,ntmps266;go_wp2_with (go_at_call 290;refine st (jI _ _) ?_);go_ret;exact ⟨rI (by rw [G.o];simp),rfl⟩
  ·rw [h1,h3] at G;go_enter func266,ntmps266;go_wp2_with (go_at_call 290;refine st (jI _ _) ?_);go_ret;exact ⟨rI (by rw [G.o];simp),rfl⟩
 ·cases h2:(a%2==1)
  ·cases h3:(Pl.kind a==1)
   ·cases h4:(Pl.kind (a+s-1)==1)
    ·cases h5:(k==2)
     ·rw [h1,h2,h3,h4,h5] at G;go_enter func266,ntmps266;go_wp2_with (go_at_call 290;refine st (jI _ _) ?_);go_ret;exact ⟨rI (by rw [G.o];simp),rfl⟩
     ·cases h6:(Pl.kind a==3)
      ·cases h7:(Pl.kind (a+s-1)==3)
       ·rw [h1,h2,h3,h4,h5,h6,h7] at G;go_enter func266,ntmps266;go_wp2_with (go_at_call 290;refine st (jI _ _) ?_);go_ret;exact ⟨rI (by rw [G.o];simp),rfl⟩
       ·rw [h1,h2,h3,h4,h5,h6,h7] at G;go_enter func266,ntmps266;go_wp2_with (go_at_call 290;refine st (jI _ _) ?_);go_ret;exact ⟨rI (by rw [G.o];simp),rfl⟩
      ·rw [h1,h2,h3,h4,h5,h6] at G;go_enter func266,ntmps266;go_wp2_with (go_at_call 290;refine st (jI _ _) ?_);go_ret;exact ⟨rI (by rw [G.o];simp),rfl⟩
    ·rw [h1,h2,h3,h4] at G;go_enter func266,ntmps266;go_wp2_with (go_at_call 290;refine st (jI _ _) ?_);go_ret;exact ⟨rI (by rw [G.o];simp),rfl⟩
   ·rw [h1,h2,h3] at G;go_enter func266,ntmps266;go_wp2_with (go_at_call 290;refine st (jI _ _) ?_);go_ret;exact ⟨rI (by rw [G.o];simp),rfl⟩
  ·rw [h1,h2] at G;go_enter func266,ntmps266;go_wp2_with (go_at_call 290;refine st (jI _ _) ?_);go_ret;exact ⟨rI (by rw [G.o];simp),rfl⟩
end Go.Proofs.YtgikibaajanjiaaGreatDoor
