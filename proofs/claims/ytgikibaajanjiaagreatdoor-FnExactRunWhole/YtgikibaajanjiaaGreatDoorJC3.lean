/- Part 3 of what the last text leans on. -/
import Derived.Test.YtgikibaajanjiaaGreatDoorJC2
set_option maxRecDepth 100000
set_option maxHeartbeats 16000000
namespace Go.Proofs.YtgikibaajanjiaaGreatDoor
open Pl
open Go.RowKit Go.Proofs.Tryz
set_option linter.unusedVariables false
theorem iy (s a b:Int) (w:World) (la : -9223372036854775808<=a) (ha:a<=9223372036854775807) (lb : -9223372036854775808<=b) (hb:b<=9223372036854775807) :
  Calls prog 295 #[iv s,iv a,iv b] w fun e w'=>e=.returned (.tuple #[iv (oz s a),iv (oz s b),.bool (okv s a&&okv s b)])∧w'=w:=by
 cases ka:okv s a
 all_goals
  cases kb:okv s b
  all_goals
   go_enter func295,ntmps295;go_wp2_with fail;refine (bU s a _ la ha).mono ?_;rintro e w' ⟨rfl,rfl⟩;go_wp2_with fail;refine (bU s b _ lb hb).mono ?_;rintro e w' ⟨rfl,rfl⟩;go_wp2_with fail;go_ret3;exact ⟨lI rfl rfl rfl,rfl⟩
theorem GZ (p q:Int) (w:World) :
  Calls prog 316 #[iv p,iv q] w fun e w'=>e=.returned (.tuple #[iv (p%256),iv (iF 1 p q)])∧w'=w:=by
 go_enter func316,ntmps316;go_wp2_with fail;refine (wV _ _ (by omega) (by omega)).mono ?_;rintro e w' ⟨rfl,rfl⟩;go_wp2_with fail;refine (gq _ _ _).mono ?_;rintro e w' ⟨rfl,rfl⟩;go_wp2_with fail;refine (gq _ _ _).mono ?_;rintro e w' ⟨rfl,rfl⟩;go_wp2_with fail;refine (gq _ _ _).mono ?_;rintro e w' ⟨rfl,rfl⟩;go_wp2_with fail;refine (gq _ _ _).mono ?_;rintro e w' ⟨rfl,rfl⟩;go_wp2_with fail;go_ret2;exact ⟨rII rfl (WX p q),rfl⟩
theorem Ez (p q:Int) (w:World) :
  Calls prog 317 #[iv p,iv q] w fun e w'=>e=.returned (.tuple #[iv (p%65536),iv (iF 2 p q)])∧w'=w:=by
 have hw:IntKind.u16.wrap p=p%65536:=IntKind.wrap_u16 p;go_enter func317,ntmps317;go_wp2_with fail;refine (uX _ _ (by omega) (by omega)).mono ?_;rintro e w' ⟨rfl,rfl⟩;go_wp2_with fail;refine (gq _ _ _).mono ?_;rintro e w' ⟨rfl,rfl⟩;go_wp2_with fail;refine (gq _ _ _).mono ?_;rintro e w' ⟨rfl,rfl⟩;go_wp2_with fail;refine (gq _ _ _).mono ?_;rintro e w' ⟨rfl,rfl⟩;go_wp2_with fail;refine (gq _ _ _).mono ?_;rintro e w' ⟨rfl,rfl⟩;go_wp2_with fail;go_ret2;exact ⟨rII rfl (Pl.kept2 p q),rfl⟩
theorem rM (s p q:Int) (w:World) (hs:s=1∨s=2) :
  Calls prog 296 #[iv s,iv p,iv q] w fun e w'=>e=.returned (.tuple #[iv (p%Pl.top s),iv (iF s p q)])∧w'=w:=by
 rcases hs with rfl|rfl
 ·go_enter func296,ntmps296;go_wp2_with fail;refine (GZ _ _ _).mono ?_;rintro e w' ⟨rfl,rfl⟩;go_wp2_with fail;go_ret2;exact ⟨rII rfl rfl,rfl⟩
 ·go_enter func296,ntmps296;go_wp2_with fail;refine (Ez _ _ _).mono ?_;rintro e w' ⟨rfl,rfl⟩;go_wp2_with fail;go_ret2;exact ⟨rII rfl rfl,rfl⟩
theorem Na (s x a b:Int) (w:World) (la : -9223372036854775808<=a) (ha:a<=9223372036854775807) (lb : -9223372036854775808<=b) (hb:b<=9223372036854775807) :
  Calls prog 272 #[iv s,iv x,iv a,iv b] w fun e w'=>e=.returned (.tuple #[iv (sU s x a b),iv (rH s x a b),.bool (Pl.two s x a b)])∧w'=w:=by
 cases k:Pl.two s x a b
 ·have HV:Hid (sU s x a b=0):=aab (by simp [sU,k]);have HF:Hid (rH s x a b=0):=aab (by simp [rH,k])
  have k':okv s a=false∨okv s b=false∨(okv s a=true∧okv s b=true∧Pl.bit x=false):=by
   revert k
   unfold Pl.two;cases okv s a<;>cases okv s b<;>cases Pl.bit x<;>simp
  clear k;rcases k' with ka|kb|⟨ka,kb,kx⟩
  ·go_enter func272,ntmps272;go_wp2_with fail;refine (iy s a b _ la ha lb hb).mono ?_;rintro e w' ⟨rfl,rfl⟩;go_wp2_with fail;go_ret3;exact ⟨lI HV.o.symm HF.o.symm rfl,rfl⟩
  ·have kab:(okv s a&&okv s b)=false:=by rw [kb];simp
   go_enter func272,ntmps272;go_wp2_with fail;refine (iy s a b _ la ha lb hb).mono ?_;rintro e w' ⟨rfl,rfl⟩;go_wp2_with fail;go_ret3;exact ⟨lI HV.o.symm HF.o.symm rfl,rfl⟩
  ·go_enter func272,ntmps272;go_wp2_with fail;refine (iy s a b _ la ha lb hb).mono ?_;rintro e w' ⟨rfl,rfl⟩;go_wp2_with fail;refine (DV x _).mono ?_;rintro e w' ⟨rfl,rfl⟩;go_wp2_with fail;go_ret3;exact ⟨lI HV.o.symm HF.o.symm rfl,rfl⟩
 ·have HV:Hid (sU s x a b=(a+b+x)%Pl.top s):=aab (by simp [sU,k]);have HF:Hid (rH s x a b=iF s (a+b+x) (sg s a+sg s b+x)):=aab (by simp [rH,k]);obtain ⟨ka,kb,kx⟩:=Ba k;have ea:=lh ka;have eb:=lh kb;obtain ⟨hs,a0,a1⟩:=aQ ka;obtain ⟨_,b0,b1⟩:=aQ kb;obtain ⟨x0,x1⟩:=sO kx
  have sa : -32768<=sg s a∧sg s a<=32767:=by
   rcases hs with ⟨rfl,_⟩|⟨rfl,_⟩
   ·have:=oD a0 a1;omega
   ·exact oC a0 a1
  have sb : -32768<=sg s b∧sg s b<=32767:=by
   rcases hs with ⟨rfl,_⟩|⟨rfl,_⟩
   ·have:=oD b0 b1;omega
   ·exact oC b0 b1
  obtain ⟨sa0,sa1⟩:=sa;obtain ⟨sb0,sb1⟩:=sb;have a2:a<65536:=by omega
  have b2:b<65536:=by omega
  have hs2:s=1∨s=2:=by omega
  clear k hs a1 b1;go_enter func272,ntmps272;go_wp2_with fail;refine (iy s a b _ la ha lb hb).mono ?_;rintro e w' ⟨rfl,rfl⟩;go_wp2_with fail;refine (DV x _).mono ?_;rintro e w' ⟨rfl,rfl⟩;go_wp2_with fail;refine (rM s _ _ _ hs2).mono ?_;rintro e w' ⟨rfl,rfl⟩;go_wp2_with fail;go_ret3;exact ⟨lI HV.o.symm HF.o.symm rfl,rfl⟩
theorem nY (s x a b:Int) (w:World) (la : -9223372036854775808<=a) (ha:a<=9223372036854775807) (lb : -9223372036854775808<=b) (hb:b<=9223372036854775807) :
  Calls prog 273 #[iv s,iv x,iv a,iv b] w fun e w'=>e=.returned (.tuple #[iv (lH s x a b),iv (kC s x a b),.bool (Pl.two s x a b)])∧w'=w:=by
 cases k:Pl.two s x a b
 ·have HV:Hid (lH s x a b=0):=aab (by simp [lH,k]);have HF:Hid (kC s x a b=0):=aab (by simp [kC,k])
  have k':okv s a=false∨okv s b=false∨(okv s a=true∧okv s b=true∧Pl.bit x=false):=by
   revert k
   unfold Pl.two;cases okv s a<;>cases okv s b<;>cases Pl.bit x<;>simp
  clear k;rcases k' with ka|kb|⟨ka,kb,kx⟩
  ·go_enter func273,ntmps273;go_wp2_with fail;refine (iy s a b _ la ha lb hb).mono ?_;rintro e w' ⟨rfl,rfl⟩;go_wp2_with fail;go_ret3;exact ⟨lI HV.o.symm HF.o.symm rfl,rfl⟩
  ·have kab:(okv s a&&okv s b)=false:=by rw [kb];simp
   go_enter func273,ntmps273;go_wp2_with fail;refine (iy s a b _ la ha lb hb).mono ?_;rintro e w' ⟨rfl,rfl⟩;go_wp2_with fail;go_ret3;exact ⟨lI HV.o.symm HF.o.symm rfl,rfl⟩
  ·go_enter func273,ntmps273;go_wp2_with fail;refine (iy s a b _ la ha lb hb).mono ?_;rintro e w' ⟨rfl,rfl⟩;go_wp2_with fail;refine (DV x _).mono ?_;rintro e w' ⟨rfl,rfl⟩;go_wp2_with fail;go_ret3;exact ⟨lI HV.o.symm HF.o.symm rfl,rfl⟩
 ·have HV:Hid (lH s x a b=(a-b-x)%Pl.top s):=aab (by simp [lH,k]);have HF:Hid (kC s x a b=iF s (a-b-x) (sg s a-sg s b-x)):=aab (by simp [kC,k]);obtain ⟨ka,kb,kx⟩:=Ba k;have ea:=lh ka;have eb:=lh kb;obtain ⟨hs,a0,a1⟩:=aQ ka;obtain ⟨_,b0,b1⟩:=aQ kb;obtain ⟨x0,x1⟩:=sO kx
  have sa : -32768<=sg s a∧sg s a<=32767:=by
   rcases hs with ⟨rfl,_⟩|⟨rfl,_⟩
   ·have:=oD a0 a1;omega
   ·exact oC a0 a1
  have sb : -32768<=sg s b∧sg s b<=32767:=by
   rcases hs with ⟨rfl,_⟩|⟨rfl,_⟩
   ·have:=oD b0 b1;omega
   ·exact oC b0 b1
  obtain ⟨sa0,sa1⟩:=sa;obtain ⟨sb0,sb1⟩:=sb;have a2:a<65536:=by omega
  have b2:b<65536:=by omega
  have hs2:s=1∨s=2:=by omega
  clear k hs a1 b1;go_enter func273,ntmps273;go_wp2_with fail;refine (iy s a b _ la ha lb hb).mono ?_;rintro e w' ⟨rfl,rfl⟩;go_wp2_with fail;refine (DV x _).mono ?_;rintro e w' ⟨rfl,rfl⟩;go_wp2_with fail;refine (rM s _ _ _ hs2).mono ?_;rintro e w' ⟨rfl,rfl⟩;go_wp2_with fail;go_ret3;exact ⟨lI HV.o.symm HF.o.symm rfl,rfl⟩
theorem Jk (s a:Int) (w:World) (la : -9223372036854775808<=a) (ha:a<=9223372036854775807) :
  Calls prog 255 #[iv s,iv a] w fun e w'=>e=.returned (.tuple #[iv (lH s 0 0 a),iv (kC s 0 0 a),.bool (Pl.two s 0 0 a)])∧w'=w:=by
 go_enter func255,ntmps255;go_wp2_with fail;refine (nY s 0 0 a _ (by omega) (by omega) la ha).mono ?_;rintro e w' ⟨rfl,rfl⟩;go_wp2_with fail;go_ret3;exact ⟨rfl,rfl⟩
theorem jK (v:Int) (w:World) (h0:0<=v) (h1:v<256) :
  Calls prog 244 #[iv 1,iv v] w fun e w'=>e=.returned (iv (sg 1 v))∧w'=w:=by
 by_cases h:128<=v
 ·go_enter func244,ntmps244;go_wp2_with fail;refine (iO _).mono ?_;rintro e w' ⟨rfl,rfl⟩;go_wp2_with fail;refine (iO _).mono ?_;rintro e w' ⟨rfl,rfl⟩;go_wp2_with fail;go_ret;exact ⟨rI (by simp [sg,Pl.top];omega),rfl⟩
 ·go_enter func244,ntmps244;go_wp2_with fail;refine (iO _).mono ?_;rintro e w' ⟨rfl,rfl⟩;go_wp2_with fail;go_ret;exact ⟨rI (by simp [sg,Pl.top];omega),rfl⟩
theorem jJ (v:Int) (w:World) (h0:0<=v) (h1:v<65536) :
  Calls prog 244 #[iv 2,iv v] w fun e w'=>e=.returned (iv (sg 2 v))∧w'=w:=by
 by_cases h:32768<=v
 ·go_enter func244,ntmps244;go_wp2_with fail;refine (iM _).mono ?_;rintro e w' ⟨rfl,rfl⟩;go_wp2_with fail;refine (iM _).mono ?_;rintro e w' ⟨rfl,rfl⟩;go_wp2_with fail;go_ret;exact ⟨rI (by simp [sg,Pl.top];omega),rfl⟩
 ·go_enter func244,ntmps244;go_wp2_with fail;refine (iM _).mono ?_;rintro e w' ⟨rfl,rfl⟩;go_wp2_with fail;go_ret;exact ⟨rI (by simp [sg,Pl.top];omega),rfl⟩
theorem BQ (s v:Int) (w:World) (h:okv s v=true) :
  Calls prog 244 #[iv s,iv v] w fun e w'=>e=.returned (iv (sg s v))∧w'=w:=by
 obtain ⟨hs,h0,h1⟩:=aQ h;rcases hs with ⟨rfl,_⟩|⟨rfl,_⟩
 ·exact jK v w h0 h1
 ·exact jJ v w h0 h1
theorem Ue (x a b:Int) (w:World) (a0:0<=a) (a1:a<256) (b0:0<=b) (b1:b<256) (x0:0<=x) (x1:x<=1) :
  Calls prog 219 #[iv 1,iv x,iv a,iv b] w fun e w'=>e=.returned (.tuple #[iv ((a+b+x)%256),iv (iF 1 (a+b+x) (sg 1 a+sg 1 b+x))])∧w'=w:=by
 have em:=gW (a+b+x);obtain ⟨sa0,sa1⟩:=oD a0 a1;obtain ⟨sb0,sb1⟩:=oD b0 b1;go_enter func219,ntmps219;go_wp2_with fail;refine (iO _).mono ?_;rintro e w' ⟨rfl,rfl⟩;go_wp2_with fail;refine (jK a _ a0 a1).mono ?_;rintro e w' ⟨rfl,rfl⟩;go_wp2_with fail;refine (jK b _ b0 b1).mono ?_;rintro e w' ⟨rfl,rfl⟩;go_wp2_with fail;refine (bP _ _ _).mono ?_;rintro e w' ⟨rfl,rfl⟩;go_wp2_with fail;refine (jK ((a+b+x)%256) _ (by omega) (by omega)).mono ?_;rintro e w' ⟨rfl,rfl⟩;go_wp2_with fail;refine (bP _ _ _).mono ?_;rintro e w' ⟨rfl,rfl⟩;go_wp2_with fail;refine (nD _ _).mono ?_;rintro e w' ⟨rfl,rfl⟩;go_wp2_with fail;go_ret2;exact ⟨rII rfl (Ij _ _),rfl⟩
theorem Ud (x a b:Int) (w:World) (a0:0<=a) (a1:a<65536) (b0:0<=b) (b1:b<65536) (x0:0<=x) (x1:x<=1) :
  Calls prog 219 #[iv 2,iv x,iv a,iv b] w fun e w'=>e=.returned (.tuple #[iv ((a+b+x)%65536),iv (iF 2 (a+b+x) (sg 2 a+sg 2 b+x))])∧w'=w:=by
 have em:=fJ (a+b+x);obtain ⟨sa0,sa1⟩:=oC a0 a1;obtain ⟨sb0,sb1⟩:=oC b0 b1;go_enter func219,ntmps219;go_wp2_with fail;refine (iM _).mono ?_;rintro e w' ⟨rfl,rfl⟩;go_wp2_with fail;refine (jJ a _ a0 a1).mono ?_;rintro e w' ⟨rfl,rfl⟩;go_wp2_with fail;refine (jJ b _ b0 b1).mono ?_;rintro e w' ⟨rfl,rfl⟩;go_wp2_with fail;refine (bP _ _ _).mono ?_;rintro e w' ⟨rfl,rfl⟩;go_wp2_with fail;refine (jJ ((a+b+x)%65536) _ (by omega) (by omega)).mono ?_;rintro e w' ⟨rfl,rfl⟩;go_wp2_with fail;refine (bP _ _ _).mono ?_;rintro e w' ⟨rfl,rfl⟩;go_wp2_with fail;refine (nC _ _).mono ?_;rintro e w' ⟨rfl,rfl⟩;go_wp2_with fail;go_ret2;exact ⟨rII rfl (Ii _ _),rfl⟩
theorem Ua (x a b:Int) (w:World) (a0:0<=a) (a1:a<256) (b0:0<=b) (b1:b<256) (x0:0<=x) (x1:x<=1) :
  Calls prog 207 #[iv 1,iv x,iv a,iv b] w fun e w'=>e=.returned (.tuple #[iv ((a-b-x)%256),iv (iF 1 (a-b-x) (sg 1 a-sg 1 b-x))])∧w'=w:=by
 have em:=gW (a-b-x);obtain ⟨sa0,sa1⟩:=oD a0 a1;obtain ⟨sb0,sb1⟩:=oD b0 b1;go_enter func207,ntmps207;go_wp2_with fail;refine (iO _).mono ?_;rintro e w' ⟨rfl,rfl⟩;go_wp2_with fail;refine (jK a _ a0 a1).mono ?_;rintro e w' ⟨rfl,rfl⟩;go_wp2_with fail;refine (jK b _ b0 b1).mono ?_;rintro e w' ⟨rfl,rfl⟩;go_wp2_with fail;refine (bP _ _ _).mono ?_;rintro e w' ⟨rfl,rfl⟩;go_wp2_with fail;refine (jK ((a-b-x)%256) _ (by omega) (by omega)).mono ?_;rintro e w' ⟨rfl,rfl⟩;go_wp2_with fail;refine (bP _ _ _).mono ?_;rintro e w' ⟨rfl,rfl⟩;go_wp2_with fail;refine (nD _ _).mono ?_;rintro e w' ⟨rfl,rfl⟩;go_wp2_with fail;go_ret2;exact ⟨rII rfl (Ob _ _ (by omega)),rfl⟩
theorem TY (x a b:Int) (w:World) (a0:0<=a) (a1:a<65536) (b0:0<=b) (b1:b<65536) (x0:0<=x) (x1:x<=1) :
  Calls prog 207 #[iv 2,iv x,iv a,iv b] w fun e w'=>e=.returned (.tuple #[iv ((a-b-x)%65536),iv (iF 2 (a-b-x) (sg 2 a-sg 2 b-x))])∧w'=w:=by
 have em:=fJ (a-b-x);obtain ⟨sa0,sa1⟩:=oC a0 a1;obtain ⟨sb0,sb1⟩:=oC b0 b1;go_enter func207,ntmps207;go_wp2_with fail;refine (iM _).mono ?_;rintro e w' ⟨rfl,rfl⟩;go_wp2_with fail;refine (jJ a _ a0 a1).mono ?_;rintro e w' ⟨rfl,rfl⟩;go_wp2_with fail;refine (jJ b _ b0 b1).mono ?_;rintro e w' ⟨rfl,rfl⟩;go_wp2_with fail;refine (bP _ _ _).mono ?_;rintro e w' ⟨rfl,rfl⟩;go_wp2_with fail;refine (jJ ((a-b-x)%65536) _ (by omega) (by omega)).mono ?_;rintro e w' ⟨rfl,rfl⟩;go_wp2_with fail;refine (bP _ _ _).mono ?_;rintro e w' ⟨rfl,rfl⟩;go_wp2_with fail;refine (nC _ _).mono ?_;rintro e w' ⟨rfl,rfl⟩;go_wp2_with fail;go_ret2;exact ⟨rII rfl (Oa _ _ (by omega)),rfl⟩
theorem LQ (s f a b:Int) (w:World) (la : -9223372036854775808<=a) (ha:a<=9223372036854775807) (lb : -9223372036854775808<=b) (hb:b<=9223372036854775807) :
  Calls prog 274 #[iv s,iv f,iv a,iv b] w fun e w'=>e=.returned (.tuple #[iv (nK s f a b),.bool (Pl.two s 0 a b&&Pl.flags f)])∧w'=w:=by
 cases k:Pl.two s 0 a b
 ·have HV:Hid (nK s f a b=0):=aab (by simp [nK,k]);go_enter func274,ntmps274;go_wp2_with fail;refine (nY s 0 a b _ la ha lb hb).mono ?_;rintro e w' ⟨rfl,rfl⟩;go_wp2_with fail;go_ret2;exact ⟨rIB HV.o.symm rfl,rfl⟩
 ·cases kf:Pl.flags f
  ·have HV:Hid (nK s f a b=0):=aab (by simp [nK,kf]);go_enter func274,ntmps274;go_wp2_with fail;refine (nY s 0 a b _ la ha lb hb).mono ?_;rintro e w' ⟨rfl,rfl⟩;go_wp2_with fail;refine (uI f _).mono ?_;rintro e w' ⟨rfl,rfl⟩;go_wp2_with fail;go_ret2;exact ⟨rIB HV.o.symm rfl,rfl⟩
  ·have HV:Hid (nK s f a b=bits .or .i64 (bits .andNot .i64 (kC s 0 a b) 16) (bits .and .i64 f 16)):=aab (by simp only [nK,k,kf,Bool.and_self,if_true,MS _ (mM s 0 a b).1 (mM s 0 a b).2]);go_enter func274,ntmps274;go_wp2_with fail;refine (nY s 0 a b _ la ha lb hb).mono ?_;rintro e w' ⟨rfl,rfl⟩;go_wp2_with fail;refine (uI f _).mono ?_;rintro e w' ⟨rfl,rfl⟩;go_wp2_with fail;go_ret2;exact ⟨rIB HV.o.symm rfl,rfl⟩
theorem xW (s x a b:Int) (w:World) (h:Pl.two s x a b=true) :
  Calls prog 207 #[iv s,iv x,iv a,iv b] w fun e w'=>e=.returned (.tuple #[iv (lH s x a b),iv (kC s x a b)])∧w'=w:=by
 have HV:lH s x a b=(a-b-x)%Pl.top s:=by simp [lH,h]
 have HF:kC s x a b=iF s (a-b-x) (sg s a-sg s b-x):=by simp [kC,h]
 rw [HV,HF];obtain ⟨ka,kb,kx⟩:=Ba h;obtain ⟨hs,a0,a1⟩:=aQ ka;obtain ⟨_,b0,b1⟩:=aQ kb;obtain ⟨x0,x1⟩:=sO kx;rcases hs with ⟨rfl,_⟩|⟨rfl,_⟩
 ·exact Ua x a b w a0 a1 b0 b1 x0 x1
 ·exact TY x a b w a0 a1 b0 b1 x0 x1
theorem WU (s f a b:Int) (w:World) (h:Pl.two s 0 a b=true) :
  Calls prog 220 #[iv s,iv f,iv a,iv b] w fun e w'=>e=.returned (iv (bits .or .i64 (bits .and .i64 (kC s 0 a b) 15) (bits .and .i64 f 16)))∧w'=w:=by
 go_enter func220,ntmps220;go_wp2_with fail;refine (xW s 0 a b _ h).mono ?_;rintro e w' ⟨rfl,rfl⟩;go_wp2_with fail;go_ret;exact ⟨rfl,rfl⟩
theorem iW (s f v:Int) (w:World) (lv : -9223372036854775808<=v) (hv:v<=9223372036854775807) :
  Calls prog 277 #[iv s,iv f,iv v] w fun e w'=>e=.returned (.tuple #[iv (dA s f v),.bool (okv s v&&Pl.flags f)])∧w'=w:=by
 cases k:okv s v
 ·have HV:Hid (dA s f v=0):=aab (by simp [dA,k]);go_enter func277,ntmps277;go_wp2_with fail;refine (bU s v _ lv hv).mono ?_;rintro e w' ⟨rfl,rfl⟩;go_wp2_with fail;go_ret2;exact ⟨rIB HV.o.symm rfl,rfl⟩
 ·cases kf:Pl.flags f
  ·have HV:Hid (dA s f v=0):=aab (by simp [dA,kf]);go_enter func277,ntmps277;go_wp2_with fail;refine (bU s v _ lv hv).mono ?_;rintro e w' ⟨rfl,rfl⟩;go_wp2_with fail;refine (uI f _).mono ?_;rintro e w' ⟨rfl,rfl⟩;go_wp2_with fail;go_ret2;exact ⟨rIB HV.o.symm rfl,rfl⟩
  ·have HV:Hid (dA s f v=bits .or .i64 (iF s v (oz s v)) (bits .and .i64 f 16)):=aab (by
    simp only [dA,k,kf,Bool.and_self,if_true,lh k,Pl.keptSelf k];rw [Pl.or_comm])
   have hs:s=1∨s=2:=by have:=aQ k;omega
   go_enter func277,ntmps277;go_wp2_with fail;refine (bU s v _ lv hv).mono ?_;rintro e w' ⟨rfl,rfl⟩;go_wp2_with fail;refine (uI f _).mono ?_;rintro e w' ⟨rfl,rfl⟩;go_wp2_with fail;refine (rM s _ _ _ hs).mono ?_;rintro e w' ⟨rfl,rfl⟩;go_wp2_with fail;go_ret2;exact ⟨rIB HV.o.symm rfl,rfl⟩
theorem TV (s v:Int) (w:World) (h:okv s v=true) :
  Calls prog 206 #[iv s,iv v] w fun e w'=>e=.returned (iv (bits .or .i64 (Pl.fl (v==0) 4) (Pl.fl (decide (sg s v<0)) 8)))∧w'=w:=by
 obtain ⟨hs,h0,h1⟩:=aQ h;rcases hs with ⟨rfl,_⟩|⟨rfl,_⟩
 ·rw [<-Wp h0 h1];exact nD v w
 ·rw [<-Wn h0 h1];exact nC v w
theorem Pj (s f v:Int) (w:World) (h:okv s v=true) :
  Calls prog 154 #[iv s,iv f,iv v] w fun e w'=>e=.returned (iv (bits .or .i64 (bits .and .i64 f 16) (bits .or .i64 (Pl.fl (v==0) 4) (Pl.fl (decide (sg s v<0)) 8))))∧w'=w:=by
 go_enter func154,ntmps154;go_wp2_with fail;refine (TV s v _ h).mono ?_;rintro e w' ⟨rfl,rfl⟩;go_wp2_with fail;go_ret;exact ⟨rfl,rfl⟩
theorem Cc (v:Int) (w:World) (lv : -9223372036854775808<=v) (hv:v<=9223372036854775807) :
  Calls prog 263 #[iv v] w fun e w'=>e=.returned (.tuple #[iv (lX v),.bool (okv 1 v)])∧w'=w:=by
 cases k:okv 1 v
 ·have HV:Hid (lX v=0):=aab (by simp [lX,k]);go_enter func263,ntmps263;go_wp2_with fail;refine (bU 1 v _ lv hv).mono ?_;rintro e w' ⟨rfl,rfl⟩;go_wp2_with fail;go_ret2;exact ⟨rIB HV.o.symm rfl,rfl⟩
 ·have HV:Hid (lX v=sg 1 v%65536):=aab (by simp [lX,k]);have e1:=lh k;have hw:IntKind.u16.wrap (sg 1 v)=sg 1 v%65536:=IntKind.wrap_u16 _;go_enter func263,ntmps263;go_wp2_with fail;refine (bU 1 v _ lv hv).mono ?_;rintro e w' ⟨rfl,rfl⟩;go_wp2_with fail;go_ret2;exact ⟨rIB HV.o.symm rfl,rfl⟩
theorem uT (v:Int) (w:World) :
  Calls prog 215 #[iv v] w fun e w'=>e=.returned (.tuple #[iv (lX v),.bool (okv 1 v)])∧w'=w:=by
 cases k:okv 1 v
 ·have HV:Hid (lX v=0):=aab (by simp [lX,k]);go_enter func215,ntmps215;go_wp2_with fail;refine (jP 1 v _).mono ?_;rintro e w' ⟨rfl,rfl⟩;go_wp2_with fail;go_ret2;exact ⟨rIB HV.o.symm rfl,rfl⟩
 ·have HV:Hid (lX v=sg 1 v%65536):=aab (by simp [lX,k]);have em:=fJ (sg 1 v);go_enter func215,ntmps215;go_wp2_with fail;refine (jP 1 v _).mono ?_;rintro e w' ⟨rfl,rfl⟩;go_wp2_with fail;refine (BQ 1 v _ k).mono ?_;rintro e w' ⟨rfl,rfl⟩;go_wp2_with fail;go_ret2;exact ⟨rIB HV.o.symm rfl,rfl⟩
theorem EZ (v:Int) (w:World) (lv : -9223372036854775808<=v) (hv:v<=9223372036854775807) :
  Calls prog 262 #[iv v] w fun e w'=>e=.returned (.tuple #[iv (lG v),.bool (okv 2 v)])∧w'=w:=by
 cases k:okv 2 v
 ·have HV:Hid (lG v=0):=aab (by simp [lG,k]);go_enter func262,ntmps262;go_wp2_with fail;refine (bU 2 v _ lv hv).mono ?_;rintro e w' ⟨rfl,rfl⟩;go_wp2_with fail;go_ret2;exact ⟨rIB HV.o.symm rfl,rfl⟩
 ·have HV:Hid (lG v=v%256*256+v/256):=aab (by simp [lG,k]);have h0:0<=v:=by have:=aQ k;omega
  have h1:v<65536:=by have:=aQ k;omega
  go_enter func262,ntmps262;go_wp2_with fail;refine (bU 2 v _ lv hv).mono ?_;rintro e w' ⟨rfl,rfl⟩;go_wp2_with fail;go_ret2;exact ⟨rIB HV.o.symm rfl,rfl⟩
theorem wK (v:Int) (w:World) :
  Calls prog 213 #[iv v] w fun e w'=>e=.returned (.tuple #[iv (lG v),.bool (okv 2 v)])∧w'=w:=by
 cases k:okv 2 v
 ·have HV:Hid (lG v=0):=aab (by simp [lG,k]);go_enter func213,ntmps213;go_wp2_with fail;refine (jP 2 v _).mono ?_;rintro e w' ⟨rfl,rfl⟩;go_wp2_with fail;go_ret2;exact ⟨rIB HV.o.symm rfl,rfl⟩
 ·have HV:Hid (lG v=v%256*256+v/256):=aab (by simp [lG,k]);have h0:0<=v:=by have:=aQ k;omega
  have h1:v<65536:=by have:=aQ k;omega
  have em:=gW v;have eo:=NT v h0 h1;go_enter func213,ntmps213;go_wp2_with fail;refine (jP 2 v _).mono ?_;rintro e w' ⟨rfl,rfl⟩;go_wp2_with fail;go_ret2;exact ⟨rIB HV.o.symm rfl,rfl⟩
theorem JY (z:Int) (hz:z=1∨z=2) (w:World):Calls prog 205 #[iv z] w fun e w'=>e=.returned (iv (Pl.top z))∧w'=w:=by
 rcases hz with rfl|rfl
 ·exact iO w
 ·exact iM w
theorem Jy (w:World) (gd cd ga ca:Nat) (r:Rg) (z k:Int) (hD:Own w gd r.xs) (hg:Pl.Good r) (hz:z=1∨z=2) (k0:0<=k) (k1:k<=3) :
  Calls prog 152 #[jF r gd cd ga ca,iv z,iv k] w fun e w'=>e=.returned (iv (el r.xs k.toNat%Pl.top z))∧Kept 0 0 w w':=by
 obtain ⟨n,rfl⟩:∃n:Nat,k=(n:Int):=⟨k.toNat,by omega⟩
 have hn:n<4:=by omega
 have k4:(n:Int)<4:=by omega
 have hA:=rC (hD.ai (kept_alloc w (.cells #[.slice (some (aac gd 0)) 4 cd,.slice (some (aac ga 0)) 4 ca,iv r.o,iv r.p,iv r.f,iv r.m,.bool r.s,.bool r.t] 35)) (by omega)) n (by rw [hg.d4];omega);obtain ⟨hc,_⟩:=hA
 have HE:Hid (bits .and .i64 (el r.xs n) (Pl.top z-1)=el r.xs n%Pl.top z):=aab (by
  rcases hz with rfl|rfl
  ·exact gW _
  ·exact fJ _)
 have HT:=JY z hz;have hT:256<=Pl.top z∧Pl.top z<=65536:=by rcases hz with rfl|rfl<;>decide
 obtain ⟨hT0,hT1⟩:=hT;have hK:=aab (kept_alloc w (.cells #[.slice (some (aac gd 0)) 4 cd,.slice (some (aac ga 0)) 4 ca,iv r.o,iv r.p,iv r.f,iv r.m,.bool r.s,.bool r.t] 35));have hg4:=Blk.lt (Blk.new w #[.slice (some (aac gd 0)) 4 cd,.slice (some (aac ga 0)) 4 ca,iv r.o,iv r.p,iv r.f,iv r.m,.bool r.s,.bool r.t] 35);clear hD hg hg4;unfold jF;generalize Pl.top z=T at *;clear hz;go_enter func152,ntmps152;go_wp2_with fail;go_region_with (go_at_call 205;refine st (HT _) ?_)
 all_goals
  go_wp2_with fail;go_ret;exact ⟨rI (by rw [IntKind.wrap_i64,show (T-1+9223372036854775808)%18446744073709551616-9223372036854775808=T-1 by omega];exact HE.o),ah hK.o⟩
theorem Jv (w:World) (lo mid hi p g2:Nat) (c:Mc) (v:Int) (h:MAt w lo mid hi p g2 c) :
  Calls prog 212 #[.pointer (some (aac p 0)),iv v] w fun e w'=>e=.returned (.tuple #[])∧∃g3,MAt w' lo mid hi p g3 (c.raise v)∧Since w lo hi g2 w' g3:=by
 have hl:=h.lo;have HM:=aab h;obtain ⟨gd,cd,ga,ca,g1,c1,c2,HB,HO⟩:=h.op;have t3:=HB.o.k3;have t11:=HB.o.k11;have t12:=HB.o.k12;have f11:=HB.o.frozen 11;have f12:=HB.o.frozen 12;go_enter func212,ntmps212;go_wp2_with fail;go_end0;have hp:=HO.o.p0;have hd:=HO.o.d0;have hd1:=HO.o.d1;have KK:=(ak w p 11 (iv v)).one 12 (iv c.r.p);have hq:(lo<=p∧p<hi)∨w.heap.size<=p:=by have:=HO.o.p1;omega
 exact ⟨rfl,g2,⟨gd,cd,ga,ca,g1,c1,c2,(HB.o.cV v).cPc c.r.p,HO.o.own KK⟩,((Since.refl _ _ _ _).set p 11 _ hq).set p 12 _ hq⟩
theorem je {z f v:Int} (w:World) (hv:okv z v=true) (hf:Pl.flags f=true):Calls prog 154 #[iv z,iv f,iv v] w fun e w'=>e=.returned (iv (dA z f v))∧w'=w:=by
 have e:dA z f v=bits .or .i64 (bits .and .i64 f 16) (bits .or .i64 (Pl.fl (v==0) 4) (Pl.fl (decide (sg z v<0)) 8)):=by unfold dA;rw [hv,hf];rfl
 rw [e];exact Pj z f v w hv
theorem DI (w:World) (lo mid hi p g2:Nat) (c:Mc) (z k v:Int) (h:MAt w lo mid hi p g2 c) (G:GM c) (k0:0<=k) (k1:k<=3) (hv:okv z v=true) :
  Calls prog 214 #[.pointer (some (aac p 0)),iv z,iv k,iv v] w fun e w'=>e=.returned (.tuple #[])∧∃g3,MAt w' lo mid hi p g3 (c.data z k v)∧Since w lo hi g2 w' g3:=by
 have hl:=h.lo;have HF:=aab (di G);have HG:=aab ((G.aI (fU z c.r.f v hv (di G)).1 (fU z c.r.f v hv (di G)).2).g);have HM:=aab h;obtain ⟨gd,cd,ga,ca,g1,c1,c2,HB,HO⟩:=h.op;obtain ⟨t0,t1,t2,t3,t4,t5,t6,t7⟩:=HB.o.c8;have f0:=HB.o.fz;have hp:=HO.o.p0;have hd:=HO.o.d0;have hd1:=HO.o.d1;have hs:=HB.o.lt;have K1:=aab (ak w p 4 (iv (dA z c.r.f v)));have HO1:=aab (HO.o.own K1.o);have HB1:=aab (HB.o.cF (dA z c.r.f v));clear G;go_enter func214,ntmps214;go_wp2_with (first|(go_at_call 154;refine st (je _ hv HF.o) ?_)|(go_at_call 157;refine (yZ _ lo mid gd cd ga ca {c.r with f:=dA z c.r.f v} z k v (MO.reg (r:={c.r with f:=dA z c.r.f v}) HO1.o) (by simp;omega) HG.o k0 k1 hv).mono ?_;unfold jF;rintro e9 W ⟨rfl,hr9,hk9⟩;have HO2:=aab (HO1.o.regs hr9 hk9);have HB2:=aab (HB1.o.regs hk9 hp);have HK2:=aab hk9;clear hr9 hk9 t0 t1 t2 t3 t4 t5 t6 t7 f0;obtain ⟨t0,t1,t2,t3,t4,t5,t6,t7,_⟩:=HB2.o.cells;have f0:=HB2.o.frozen 0;have f1:=HB2.o.frozen 1;have f2:=HB2.o.frozen 2;have f3:=HB2.o.frozen 3;have f4:=HB2.o.frozen 4;have f5:=HB2.o.frozen 5;have f6:=HB2.o.frozen 6;have f7:=HB2.o.frozen 7));go_end0;have hq:(lo<=p∧p<hi)∨w.heap.size<=p:=by have:=HO.o.p1;omega
 have hm9:=HO.o.p1;exact ⟨rfl,g2,MAt.laid HB2.o HO2.o,jl (((Since.refl w lo hi g2).set p 4 _ hq).ai HK2.o (Nat.le_refl _) (by omega)) hq _ _ _ _ _ _ _ _⟩
theorem xR (w:World) (lo mid hi p g2:Nat) (c:Mc) (z m k x a v:Int) (h:MAt w lo mid hi p g2 c) (G:GM c) (k0:0<=k) (k1:k<=3) (a0:0<=a) (a1:a<=65535) (hv:okv z v=true) :
  Calls prog 153 #[.pointer (some (aac p 0)),iv z,.agg #[iv m,iv k,iv x],iv a,iv v] w fun e w'=>e=.returned (.tuple #[])∧∃g3,MAt w' lo mid hi p g3 (c.write z m k a v)∧Since w lo hi g2 w' g3:=by
 have hl:=h.lo;cases hm:(m==0)
 ·have KA:=aab (kept_alloc w (.cells #[iv m,iv k,iv x] 46));have E:Hid (c.write z m k a v=c.acc 2 z a v):=aab (by unfold Mc.write;rw [hm];rfl);have HM1:=aab (h.any KA.o);have HG:=aab G;have HA:Hid (eP 2 z a v=true):=aab (by simp [eP,dM,Pl.addr,hv];omega);clear G h;go_enter func153,ntmps153;go_wp2_with (go_at_call 184;refine (fQ _ lo mid hi p g2 c 2 z a v HM1.o HG.o HA.o).mono ?_;rintro e9 W ⟨rfl,g3,hm9,hb9⟩;have HM2:=aab hm9;have HL2:=aab hb9;clear hm9 hb9);go_end0;exact ⟨rfl,g3,by rw [E.o];exact HM2.o,((Since.refl w lo hi g2).any KA.o).trans HL2.o⟩
 ·have E:Hid (c.write z m k a v=c.bi (kU c.r z k v)):=aab (by unfold Mc.write;rw [hm];rfl);have HG:=aab G.g;have KA:=aab (kept_alloc w (.cells #[iv m,iv k,iv x] 46));have BA:=Blk.new w #[iv m,iv k,iv x] 46;obtain ⟨X,hX⟩:∃X:World,w.alloc (.cells #[iv m,iv k,iv x] 46)=X:=⟨_,rfl⟩
  rw [hX] at KA BA;have b0:=BA.all;have hbw:=BA.lt;have h2:=h.any KA.o;have hl2:=h2.lo;clear h BA;have HM:=aab h2;obtain ⟨gd,cd,ga,ca,g1,c1,c2,HB,HO⟩:=h2.op;obtain ⟨t0,t1,t2,t3,t4,t5,t6,t7⟩:=HB.o.c8;have f0:=HB.o.fz;have hp:=HO.o.p0;have hd:=HO.o.d0;have hd1:=HO.o.d1;have hs:=HB.o.lt;have HMH:Hid (mid<=hi):=aab (by have:=HO.o.p1;omega);have HPH:Hid (lo<=p∧p<hi):=aab (by have:=HO.o.p1;omega);have HRD:=aab (MO.reg (r:=c.r) (HO.o.any (ah (Kept.refl 0 0 X))));have HOD:=aab (HO.o.any (ah (Kept.refl 0 0 X)));have HBD:=aab (HB.o.any (ah (Kept.refl 0 0 X)));have HMD:Hid (mid<=X.drew.heap.size):=aab hl2.2.1;clear G;go_enter func153,ntmps153;go_wp2_with fail;go_region_with (go_at_call 157;refine (yZ _ lo mid gd cd ga ca c.r z k v HRD.o HMD.o HG.o k0 k1 hv).mono ?_;unfold jF;rintro e9 W ⟨rfl,hr9,hk9⟩;have HO2:=aab (HOD.o.regs hr9 hk9);have HB2:=aab (HBD.o.regs hk9 hp);have HK2:=aab hk9;clear hr9 hk9;clear t0 t1 t2 t3 t4 t5 t6 t7 f0;obtain ⟨t0,t1,t2,t3,t4,t5,t6,t7,_⟩:=HB2.o.cells;have f0:=HB2.o.frozen 0;have f1:=HB2.o.frozen 1;have f2:=HB2.o.frozen 2;have f3:=HB2.o.frozen 3;have f4:=HB2.o.frozen 4;have f5:=HB2.o.frozen 5;have f6:=HB2.o.frozen 6;have f7:=HB2.o.frozen 7)
  all_goals
   go_wp2_with fail;first|go_end0|refine bodyPost_ret (results_none rfl _ _ _) rfl ?_
   exact ⟨rfl,g2,by rw [E.o];exact MAt.laid HB2.o HO2.o,jl (((Since.refl w lo hi g2).any KA.o).drew.ai HK2.o (Nat.le_refl _) HMH.o) (.inl HPH.o) _ _ _ _ _ _ _ _⟩
theorem vJ (w:World) (lo mid hi p g2:Nat) (c:Mc) (z m k x:Int) (h:MAt w lo mid hi p g2 c) (G:GM c) (k0:0<=k) (k1:k<=3) (x0:0<=x) (x1:x<=65535) (hm1:m=0∨m=2∨m=3∨m=4∨m=5∨m=6) :
  Calls prog 151 #[.pointer (some (aac p 0)),iv z,.agg #[iv m,iv k,iv x]] w fun e w'=>e=.returned (iv (c.iI z m k x))∧∃g3,MAt w' lo mid hi p g3 (c.place z m k x)∧Since w lo hi g2 w' g3:=by
 have hl:=h.lo;cases hm:(m==0)
 ·have hm2:m=2∨m=3∨m=4∨m=5∨m=6:=by simp at hm;omega
  have HG:=aab G;have KA:=aab (kept_alloc w (.cells #[iv m,iv k,iv x] 46));have BA:=Blk.new w #[iv m,iv k,iv x] 46;obtain ⟨X,hX⟩:∃X:World,w.alloc (.cells #[iv m,iv k,iv x] 46)=X:=⟨_,rfl⟩
  rw [hX] at KA BA;have b0:=BA.all;have hbw:=BA.lt;have h2:=h.any KA.o;have hl2:=h2.lo;clear h BA;have HM:=aab h2;obtain ⟨gd,cd,ga,ca,g1,c1,c2,HB,HO⟩:=h2.op;obtain ⟨t0,t1,t2,t3,t4,t5,t6,t7⟩:=HB.o.c8;have f0:=HB.o.fz;have hp:=HO.o.p0;have hd:=HO.o.d0;have hd1:=HO.o.d1;have hs:=HB.o.lt;have HMH:Hid (mid<=hi):=aab (by have:=HO.o.p1;omega);have HPH:Hid (lo<=p∧p<hi):=aab (by have:=HO.o.p1;omega);have HRD:=aab (MO.reg (r:=c.r) (HO.o.any (ah (Kept.refl 0 0 X))));have HOD:=aab (HO.o.any (ah (Kept.refl 0 0 X)));have HBD:=aab (HB.o.any (ah (Kept.refl 0 0 X)));have HMD:Hid (mid<=X.drew.heap.size):=aab hl2.2.1;have KZ:Kept 0 0 X (X.drew.alloc (.cells #[.slice none 0 0,.slice none 0 0,iv 0,iv 0,iv 0,iv 0,.bool false,.bool false] 35)):=ag (ah (Kept.refl 0 0 X)) _;have HRZ:=aab (MO.reg (r:=c.r) (HO.o.any KZ));have HOZ:=aab (HO.o.any KZ);have HBZ:=aab (HB.o.any KZ);have HMZ:Hid (mid<=(X.drew.alloc (.cells #[.slice none 0 0,.slice none 0 0,iv 0,iv 0,iv 0,iv 0,.bool false,.bool false] 35)).heap.size):=aab (by rw [World.size_alloc];exact Nat.le_trans hl2.2.1 (Nat.le_succ _));have BZ:Hid (Blk (X.drew.alloc (.cells #[.slice none 0 0,.slice none 0 0,iv 0,iv 0,iv 0,iv 0,.bool false,.bool false] 35)) X.heap.size #[.slice none 0 0,.slice none 0 0,iv 0,iv 0,iv 0,iv 0,.bool false,.bool false] 35):=aab (Blk.new X.drew #[.slice none 0 0,.slice none 0 0,iv 0,iv 0,iv 0,iv 0,.bool false,.bool false] 35);have HKZ:=aab KZ;have hb1:=HO.o.b.lt (by rw [HG.o.bx];decide);have hb2:=HO.o.g2.2;clear KZ;have HP:=fun (w9:World) (hr:fM w9 lo mid c.r (some (aac gd 0)) (some (aac ga 0))) (hh:mid<=w9.heap.size)=>IR w9 lo mid gd cd ga ca c.r z m k x hr hh HG.o.g k0 k1 x0 x1 hm2;obtain ⟨R,hR⟩:∃R,bu c.r z m k x=R:=⟨_,rfl⟩
  obtain ⟨V,hV⟩:∃V,bg c.r z m k x=V:=⟨_,rfl⟩
  simp only [hR,hV,jF] at HP;have E:Hid (c.place z m k x=c.bi R):=aab (by unfold Mc.place Mc.plc;rw [hm,hR];rfl);have E2:Hid (c.iI z m k x=V):=aab (by unfold Mc.iI;rw [hm,hV];rfl);clear hR hV;have HNZ:Hid (¬(lo<=X.heap.size∧X.heap.size<mid)):=aab (by have q:=hl2.2.1;omega);have HPZ:Hid (p<X.heap.size):=aab hs;clear G hm1;go_enter func151,ntmps151;go_wp2_with fail;go_region_with (first|(go_at_call 204;refine (HP _ HRD.o HMD.o).mono ?_;rintro e9 W ⟨rfl,hr9,hk9⟩;have HO2:=aab (HOD.o.regs hr9 hk9);have HB2:=aab (HBD.o.regs hk9 hp);have HK2:=aab hk9;have HA1:=aab hk9;have hpW:=HB2.o.lt;clear hr9 hk9;clear t0 t1 t2 t3 t4 t5 t6 t7 f0;obtain ⟨t0,t1,t2,t3,t4,t5,t6,t7,_⟩:=HB2.o.cells;have f0:=HB2.o.frozen 0;have f1:=HB2.o.frozen 1;have f2:=HB2.o.frozen 2;have f3:=HB2.o.frozen 3;have f4:=HB2.o.frozen 4;have f5:=HB2.o.frozen 5;have f6:=HB2.o.frozen 6;have f7:=HB2.o.frozen 7)|(go_at_call 204;refine (HP _ HRZ.o HMZ.o).mono ?_;rintro e9 W ⟨rfl,hr9,hk9⟩;have HO2:=aab (HOZ.o.regs hr9 hk9);have HB2:=aab (HBZ.o.regs hk9 hp);have HK2:=aab hk9;have HA2:=aab hk9;have BZ2:=aab (Blk.kept BZ.o hk9 HNZ.o);clear hr9 hk9;clear t0 t1 t2 t3 t4 t5 t6 t7 f0;obtain ⟨t0,t1,t2,t3,t4,t5,t6,t7,_⟩:=HB2.o.cells;have f0:=HB2.o.frozen 0;have f1:=HB2.o.frozen 1;have f2:=HB2.o.frozen 2;have f3:=HB2.o.frozen 3;have f4:=HB2.o.frozen 4;have f5:=HB2.o.frozen 5;have f6:=HB2.o.frozen 6;have f7:=HB2.o.frozen 7;have y0:=BZ2.o.cell (i:=0) rfl;have v0:=BZ2.o.frozen 0;have y1:=BZ2.o.cell (i:=1) rfl;have v1:=BZ2.o.frozen 1;have y2:=BZ2.o.cell (i:=2) rfl;have v2:=BZ2.o.frozen 2;have y3:=BZ2.o.cell (i:=3) rfl;have v3:=BZ2.o.frozen 3;have y4:=BZ2.o.cell (i:=4) rfl;have v4:=BZ2.o.frozen 4;have y5:=BZ2.o.cell (i:=5) rfl;have v5:=BZ2.o.frozen 5;have y6:=BZ2.o.cell (i:=6) rfl;have v6:=BZ2.o.frozen 6;have y7:=BZ2.o.cell (i:=7) rfl;have v7:=BZ2.o.frozen 7))
  all_goals
   go_wp2_with fail;go_ret;rw [E.o]
   first
    | (have z9:=HA1;exact ⟨rI E2.o.symm,g2,(MAt.laid HB2.o HO2.o).any (kept_alloc _ _),(jl (((Since.refl w lo hi g2).any KA.o).drew.ai HK2.o (Nat.le_refl _) HMH.o) (.inl HPH.o) _ _ _ _ _ _ _ _).alloc _⟩)
    | (have z9:=HA2;exact ⟨rI E2.o.symm,g2,MAt.laid (HB2.o.past (MB.lD _ _ _ _ _ _ _ _) HPZ.o) (HO2.o.past (MB.lD _ _ _ _ _ _ _ _) hl2.2.1 hb1 hb2),jl (jl ((((Since.refl w lo hi g2).any KA.o).any HKZ.o).ai HK2.o (Nat.le_refl _) HMH.o) (.inr KA.o.size) _ _ _ _ _ _ _ _) (.inl HPH.o) _ _ _ _ _ _ _ _⟩)
 ·have KA:=aab (kept_alloc w (.cells #[iv m,iv k,iv x] 46));have E:Hid (c.place z m k x=c):=aab (by unfold Mc.place;rw [hm];rfl);have E2:Hid (c.iI z m k x=0):=aab (by unfold Mc.iI;rw [hm];rfl);have HM:=aab (h.any KA.o);clear h G;go_enter func151,ntmps151;go_wp2_with fail;go_ret;exact ⟨rI E2.o.symm,g2,by rw [E.o];exact HM.o,(Since.refl w lo hi g2).any KA.o⟩
end Go.Proofs.YtgikibaajanjiaaGreatDoor
