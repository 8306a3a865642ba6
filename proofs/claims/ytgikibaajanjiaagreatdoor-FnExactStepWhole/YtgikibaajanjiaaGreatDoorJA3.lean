/- Part 3 of what the last text leans on. -/
import Derived.Test.YtgikibaajanjiaaGreatDoorJA1
import Derived.Test.YtgikibaajanjiaaGreatDoorJA2
set_option maxRecDepth 100000
set_option maxHeartbeats 16000000
namespace Go.Proofs.YtgikibaajanjiaaGreatDoor
open Pl
open Go.RowKit Go.Proofs.Tryz
set_option linter.unusedVariables false
theorem wB (v:Int) (w:World) (lo : -9223372036854775808<=v) (hi:v<=9223372036854775807) :
  Calls prog 175 #[iv v] w fun e w'=>e=.returned (.tuple #[iv (nV 1 v),.bool (okv 1 v)])∧w'=w:=by
 by_cases h:0<=v∧v<256
 ·obtain ⟨h0,h1⟩:=h;have hs:IntKind.u8.signed=false:=rfl;have hm:IntKind.u8.max=255:=by decide
  have hb:bits .xor .u8 255 0=255:=by decide
  by_cases h:127<v
  all_goals
   go_enter func175,ntmps175;go_wp2;go_ret2;exact ⟨rIB (by simp [nV,okv,sg,Pl.top,h0,h1];omega) (by simp [okv,Pl.top,h0,h1]),rfl⟩
 ·go_enter func175,ntmps175;go_wp2;go_ret2
  have k:okv 1 v=false:=by
   cases c:okv 1 v
   ·rfl
   ·have:=aO c;omega
  exact ⟨rIB (by simp [nV,k]) k.symm,rfl⟩
theorem uA (v:Int) (w:World) (lo : -9223372036854775808<=v) (hi:v<=9223372036854775807) :
  Calls prog 176 #[iv v] w fun e w'=>e=.returned (.tuple #[iv (nV 2 v),.bool (okv 2 v)])∧w'=w:=by
 by_cases h:0<=v∧v<65536
 ·obtain ⟨h0,h1⟩:=h;have hs:IntKind.u16.signed=false:=rfl;have hm:IntKind.u16.max=65535:=by decide
  have hb:bits .xor .u16 65535 0=65535:=by decide
  by_cases h:32767<v
  all_goals
   go_enter func176,ntmps176;go_wp2;go_ret2;exact ⟨rIB (by simp [nV,okv,sg,Pl.top,h0,h1];omega) (by simp [okv,Pl.top,h0,h1]),rfl⟩
 ·have hw:IntKind.u16.wrap v=v%65536:=IntKind.wrap_u16 v;go_enter func176,ntmps176;go_wp2;go_ret2
  have k:okv 2 v=false:=by
   cases c:okv 2 v
   ·rfl
   ·have:=aO c;omega
  exact ⟨rIB (by simp [nV,k]) k.symm,rfl⟩
theorem bQ (s v:Int) (w:World) (lo : -9223372036854775808<=v) (hi:v<=9223372036854775807) :
  Calls prog 120 #[iv s,iv v] w fun e w'=>e=.returned (.tuple #[iv (nV s v),.bool (okv s v)])∧w'=w:=by
 by_cases h1:s=1
 ·subst h1;go_enter func120,ntmps120;go_wp2_with fail;refine (wB v _ lo hi).mono ?_;rintro e w' ⟨rfl,rfl⟩;go_wp2_with fail;go_ret2;exact ⟨rfl,rfl⟩
 ·by_cases h2:s=2
  ·subst h2;go_enter func120,ntmps120;go_wp2_with fail;refine (uA v _ lo hi).mono ?_;rintro e w' ⟨rfl,rfl⟩;go_wp2_with fail;go_ret2;exact ⟨rfl,rfl⟩
  ·have k:okv s v=false:=by simp [okv,h1,h2]
   have k1:(s==1)=false:=by simpa using h1
   have k2:(s==2)=false:=by simpa using h2
   go_enter func120,ntmps120;go_wp2_with fail;go_ret2;exact ⟨rIB (by simp [nV,k]) k.symm,rfl⟩
theorem fQ (b:Bool) (f:Int) (w:World) :
  Calls prog 242 #[.bool b,iv f] w fun e w'=>e=.returned (iv (Pl.fl b f))∧w'=w:=by
 cases b
 all_goals
  go_enter func242,ntmps242;go_wp2;go_ret;exact ⟨rfl,rfl⟩
theorem Dl (x:Int) (w:World) :
  Calls prog 286 #[iv x] w fun e w'=>e=.returned (.bool (Pl.bit x))∧w'=w:=by
 by_cases h0:x=0
 ·subst h0;go_enter func286,ntmps286;go_wp2;go_ret;exact ⟨rfl,rfl⟩
 ·by_cases h1:x=1
  ·subst h1;go_enter func286,ntmps286;go_wp2;go_ret;exact ⟨rfl,rfl⟩
  ·have k0:(x==0)=false:=by simpa using h0
   have k1:(x==1)=false:=by simpa using h1
   go_enter func286,ntmps286;go_wp2;go_ret;exact ⟨rB (by simp [Pl.bit];omega),rfl⟩
theorem ui (x:Int) (w:World) :
  Calls prog 191 #[iv x] w fun e w'=>e=.returned (.bool (Pl.flags x))∧w'=w:=by
 by_cases h0:0<=x
 all_goals
  by_cases h1:x<=31
  all_goals
   go_enter func191,ntmps191;go_wp2;go_ret;exact ⟨rB (by simp [Pl.flags];omega),rfl⟩
theorem ig (s a b:Int) (w:World) (la : -9223372036854775808<=a) (ha:a<=9223372036854775807) (lb : -9223372036854775808<=b) (hb:b<=9223372036854775807) :
  Calls prog 295 #[iv s,iv a,iv b] w fun e w'=>e=.returned (.tuple #[iv (nV s a),iv (nV s b),.bool (okv s a&&okv s b)])∧w'=w:=by
 cases ka:okv s a
 all_goals
  cases kb:okv s b
  all_goals
   go_enter func295,ntmps295;go_wp2_with fail;refine (bQ s a _ la ha).mono ?_;rintro e w' ⟨rfl,rfl⟩;go_wp2_with fail;refine (bQ s b _ lb hb).mono ?_;rintro e w' ⟨rfl,rfl⟩;go_wp2_with fail;go_ret3;exact ⟨lD rfl rfl rfl,rfl⟩
theorem Gl (p q:Int) (w:World) :
  Calls prog 316 #[iv p,iv q] w fun e w'=>e=.returned (.tuple #[iv (p%256),iv (iy 1 p q)])∧w'=w:=by
 go_enter func316,ntmps316;go_wp2_with fail;refine (wB _ _ (by omega) (by omega)).mono ?_;rintro e w' ⟨rfl,rfl⟩;go_wp2_with fail;refine (fQ _ _ _).mono ?_;rintro e w' ⟨rfl,rfl⟩;go_wp2_with fail;refine (fQ _ _ _).mono ?_;rintro e w' ⟨rfl,rfl⟩;go_wp2_with fail;refine (fQ _ _ _).mono ?_;rintro e w' ⟨rfl,rfl⟩;go_wp2_with fail;refine (fQ _ _ _).mono ?_;rintro e w' ⟨rfl,rfl⟩;go_wp2_with fail;go_ret2;exact ⟨rII rfl (V5 p q),rfl⟩
theorem DZ (p q:Int) (w:World) :
  Calls prog 317 #[iv p,iv q] w fun e w'=>e=.returned (.tuple #[iv (p%65536),iv (iy 2 p q)])∧w'=w:=by
 have hw:IntKind.u16.wrap p=p%65536:=IntKind.wrap_u16 p;go_enter func317,ntmps317;go_wp2_with fail;refine (uA _ _ (by omega) (by omega)).mono ?_;rintro e w' ⟨rfl,rfl⟩;go_wp2_with fail;refine (fQ _ _ _).mono ?_;rintro e w' ⟨rfl,rfl⟩;go_wp2_with fail;refine (fQ _ _ _).mono ?_;rintro e w' ⟨rfl,rfl⟩;go_wp2_with fail;refine (fQ _ _ _).mono ?_;rintro e w' ⟨rfl,rfl⟩;go_wp2_with fail;refine (fQ _ _ _).mono ?_;rintro e w' ⟨rfl,rfl⟩;go_wp2_with fail;go_ret2;exact ⟨rII rfl (Pl.kept2 p q),rfl⟩
theorem ru (s p q:Int) (w:World) (hs:s=1∨s=2) :
  Calls prog 296 #[iv s,iv p,iv q] w fun e w'=>e=.returned (.tuple #[iv (p%Pl.top s),iv (iy s p q)])∧w'=w:=by
 rcases hs with rfl|rfl
 ·go_enter func296,ntmps296;go_wp2_with fail;refine (Gl _ _ _).mono ?_;rintro e w' ⟨rfl,rfl⟩;go_wp2_with fail;go_ret2;exact ⟨rII rfl rfl,rfl⟩
 ·go_enter func296,ntmps296;go_wp2_with fail;refine (DZ _ _ _).mono ?_;rintro e w' ⟨rfl,rfl⟩;go_wp2_with fail;go_ret2;exact ⟨rII rfl rfl,rfl⟩
theorem LJ (s x a b:Int) (w:World) (la : -9223372036854775808<=a) (ha:a<=9223372036854775807) (lb : -9223372036854775808<=b) (hb:b<=9223372036854775807) :
  Calls prog 272 #[iv s,iv x,iv a,iv b] w fun e w'=>e=.returned (.tuple #[iv (rY s x a b),iv (qW s x a b),.bool (Pl.two s x a b)])∧w'=w:=by
 cases k:Pl.two s x a b
 ·have HV:Hid (rY s x a b=0):=Zr (by simp [rY,k]);have HF:Hid (qW s x a b=0):=Zr (by simp [qW,k])
  have k':okv s a=false∨okv s b=false∨(okv s a=true∧okv s b=true∧Pl.bit x=false):=by
   revert k
   unfold Pl.two;cases okv s a<;>cases okv s b<;>cases Pl.bit x<;>simp
  clear k;rcases k' with ka|kb|⟨ka,kb,kx⟩
  ·go_enter func272,ntmps272;go_wp2_with fail;refine (ig s a b _ la ha lb hb).mono ?_;rintro e w' ⟨rfl,rfl⟩;go_wp2_with fail;go_ret3;exact ⟨lD HV.o.symm HF.o.symm rfl,rfl⟩
  ·have kab:(okv s a&&okv s b)=false:=by rw [kb];simp
   go_enter func272,ntmps272;go_wp2_with fail;refine (ig s a b _ la ha lb hb).mono ?_;rintro e w' ⟨rfl,rfl⟩;go_wp2_with fail;go_ret3;exact ⟨lD HV.o.symm HF.o.symm rfl,rfl⟩
  ·go_enter func272,ntmps272;go_wp2_with fail;refine (ig s a b _ la ha lb hb).mono ?_;rintro e w' ⟨rfl,rfl⟩;go_wp2_with fail;refine (Dl x _).mono ?_;rintro e w' ⟨rfl,rfl⟩;go_wp2_with fail;go_ret3;exact ⟨lD HV.o.symm HF.o.symm rfl,rfl⟩
 ·have HV:Hid (rY s x a b=(a+b+x)%Pl.top s):=Zr (by simp [rY,k]);have HF:Hid (qW s x a b=iy s (a+b+x) (sg s a+sg s b+x)):=Zr (by simp [qW,k]);obtain ⟨ka,kb,kx⟩:=Aq k;have ea:=kV ka;have eb:=kV kb;obtain ⟨hs,a0,a1⟩:=aO ka;obtain ⟨_,b0,b1⟩:=aO kb;obtain ⟨x0,x1⟩:=rV kx
  have sa : -32768<=sg s a∧sg s a<=32767:=by
   rcases hs with ⟨rfl,_⟩|⟨rfl,_⟩
   ·have:=nZ a0 a1;omega
   ·exact nY a0 a1
  have sb : -32768<=sg s b∧sg s b<=32767:=by
   rcases hs with ⟨rfl,_⟩|⟨rfl,_⟩
   ·have:=nZ b0 b1;omega
   ·exact nY b0 b1
  obtain ⟨sa0,sa1⟩:=sa;obtain ⟨sb0,sb1⟩:=sb;have a2:a<65536:=by omega
  have b2:b<65536:=by omega
  have hs2:s=1∨s=2:=by omega
  clear k hs a1 b1;go_enter func272,ntmps272;go_wp2_with fail;refine (ig s a b _ la ha lb hb).mono ?_;rintro e w' ⟨rfl,rfl⟩;go_wp2_with fail;refine (Dl x _).mono ?_;rintro e w' ⟨rfl,rfl⟩;go_wp2_with fail;refine (ru s _ _ _ hs2).mono ?_;rintro e w' ⟨rfl,rfl⟩;go_wp2_with fail;go_ret3;exact ⟨lD HV.o.symm HF.o.symm rfl,rfl⟩
theorem nO (s x a b:Int) (w:World) (la : -9223372036854775808<=a) (ha:a<=9223372036854775807) (lb : -9223372036854775808<=b) (hb:b<=9223372036854775807) :
  Calls prog 273 #[iv s,iv x,iv a,iv b] w fun e w'=>e=.returned (.tuple #[iv (lC s x a b),iv (jW s x a b),.bool (Pl.two s x a b)])∧w'=w:=by
 cases k:Pl.two s x a b
 ·have HV:Hid (lC s x a b=0):=Zr (by simp [lC,k]);have HF:Hid (jW s x a b=0):=Zr (by simp [jW,k])
  have k':okv s a=false∨okv s b=false∨(okv s a=true∧okv s b=true∧Pl.bit x=false):=by
   revert k
   unfold Pl.two;cases okv s a<;>cases okv s b<;>cases Pl.bit x<;>simp
  clear k;rcases k' with ka|kb|⟨ka,kb,kx⟩
  ·go_enter func273,ntmps273;go_wp2_with fail;refine (ig s a b _ la ha lb hb).mono ?_;rintro e w' ⟨rfl,rfl⟩;go_wp2_with fail;go_ret3;exact ⟨lD HV.o.symm HF.o.symm rfl,rfl⟩
  ·have kab:(okv s a&&okv s b)=false:=by rw [kb];simp
   go_enter func273,ntmps273;go_wp2_with fail;refine (ig s a b _ la ha lb hb).mono ?_;rintro e w' ⟨rfl,rfl⟩;go_wp2_with fail;go_ret3;exact ⟨lD HV.o.symm HF.o.symm rfl,rfl⟩
  ·go_enter func273,ntmps273;go_wp2_with fail;refine (ig s a b _ la ha lb hb).mono ?_;rintro e w' ⟨rfl,rfl⟩;go_wp2_with fail;refine (Dl x _).mono ?_;rintro e w' ⟨rfl,rfl⟩;go_wp2_with fail;go_ret3;exact ⟨lD HV.o.symm HF.o.symm rfl,rfl⟩
 ·have HV:Hid (lC s x a b=(a-b-x)%Pl.top s):=Zr (by simp [lC,k]);have HF:Hid (jW s x a b=iy s (a-b-x) (sg s a-sg s b-x)):=Zr (by simp [jW,k]);obtain ⟨ka,kb,kx⟩:=Aq k;have ea:=kV ka;have eb:=kV kb;obtain ⟨hs,a0,a1⟩:=aO ka;obtain ⟨_,b0,b1⟩:=aO kb;obtain ⟨x0,x1⟩:=rV kx
  have sa : -32768<=sg s a∧sg s a<=32767:=by
   rcases hs with ⟨rfl,_⟩|⟨rfl,_⟩
   ·have:=nZ a0 a1;omega
   ·exact nY a0 a1
  have sb : -32768<=sg s b∧sg s b<=32767:=by
   rcases hs with ⟨rfl,_⟩|⟨rfl,_⟩
   ·have:=nZ b0 b1;omega
   ·exact nY b0 b1
  obtain ⟨sa0,sa1⟩:=sa;obtain ⟨sb0,sb1⟩:=sb;have a2:a<65536:=by omega
  have b2:b<65536:=by omega
  have hs2:s=1∨s=2:=by omega
  clear k hs a1 b1;go_enter func273,ntmps273;go_wp2_with fail;refine (ig s a b _ la ha lb hb).mono ?_;rintro e w' ⟨rfl,rfl⟩;go_wp2_with fail;refine (Dl x _).mono ?_;rintro e w' ⟨rfl,rfl⟩;go_wp2_with fail;refine (ru s _ _ _ hs2).mono ?_;rintro e w' ⟨rfl,rfl⟩;go_wp2_with fail;go_ret3;exact ⟨lD HV.o.symm HF.o.symm rfl,rfl⟩
theorem II (s a:Int) (w:World) (la : -9223372036854775808<=a) (ha:a<=9223372036854775807) :
  Calls prog 255 #[iv s,iv a] w fun e w'=>e=.returned (.tuple #[iv (lC s 0 0 a),iv (jW s 0 0 a),.bool (Pl.two s 0 0 a)])∧w'=w:=by
 go_enter func255,ntmps255;go_wp2_with fail;refine (nO s 0 0 a _ (by omega) (by omega) la ha).mono ?_;rintro e w' ⟨rfl,rfl⟩;go_wp2_with fail;go_ret3;exact ⟨rfl,rfl⟩
theorem jG (v:Int) (w:World) (h0:0<=v) (h1:v<256) :
  Calls prog 244 #[iv 1,iv v] w fun e w'=>e=.returned (iv (sg 1 v))∧w'=w:=by
 by_cases h:128<=v
 ·go_enter func244,ntmps244;go_wp2_with fail;refine (iJ _).mono ?_;rintro e w' ⟨rfl,rfl⟩;go_wp2_with fail;refine (iJ _).mono ?_;rintro e w' ⟨rfl,rfl⟩;go_wp2_with fail;go_ret;exact ⟨rI (by simp [sg,Pl.top];omega),rfl⟩
 ·go_enter func244,ntmps244;go_wp2_with fail;refine (iJ _).mono ?_;rintro e w' ⟨rfl,rfl⟩;go_wp2_with fail;go_ret;exact ⟨rI (by simp [sg,Pl.top];omega),rfl⟩
theorem jF (v:Int) (w:World) (h0:0<=v) (h1:v<65536) :
  Calls prog 244 #[iv 2,iv v] w fun e w'=>e=.returned (iv (sg 2 v))∧w'=w:=by
 by_cases h:32768<=v
 ·go_enter func244,ntmps244;go_wp2_with fail;refine (iI _).mono ?_;rintro e w' ⟨rfl,rfl⟩;go_wp2_with fail;refine (iI _).mono ?_;rintro e w' ⟨rfl,rfl⟩;go_wp2_with fail;go_ret;exact ⟨rI (by simp [sg,Pl.top];omega),rfl⟩
 ·go_enter func244,ntmps244;go_wp2_with fail;refine (iI _).mono ?_;rintro e w' ⟨rfl,rfl⟩;go_wp2_with fail;go_ret;exact ⟨rI (by simp [sg,Pl.top];omega),rfl⟩
theorem Bg (s v:Int) (w:World) (h:okv s v=true) :
  Calls prog 244 #[iv s,iv v] w fun e w'=>e=.returned (iv (sg s v))∧w'=w:=by
 obtain ⟨hs,h0,h1⟩:=aO h;rcases hs with ⟨rfl,_⟩|⟨rfl,_⟩
 ·exact jG v w h0 h1
 ·exact jF v w h0 h1
theorem Tf (x a b:Int) (w:World) (a0:0<=a) (a1:a<256) (b0:0<=b) (b1:b<256) (x0:0<=x) (x1:x<=1) :
  Calls prog 219 #[iv 1,iv x,iv a,iv b] w fun e w'=>e=.returned (.tuple #[iv ((a+b+x)%256),iv (iy 1 (a+b+x) (sg 1 a+sg 1 b+x))])∧w'=w:=by
 have em:=gK (a+b+x);obtain ⟨sa0,sa1⟩:=nZ a0 a1;obtain ⟨sb0,sb1⟩:=nZ b0 b1;go_enter func219,ntmps219;go_wp2_with fail;refine (iJ _).mono ?_;rintro e w' ⟨rfl,rfl⟩;go_wp2_with fail;refine (jG a _ a0 a1).mono ?_;rintro e w' ⟨rfl,rfl⟩;go_wp2_with fail;refine (jG b _ b0 b1).mono ?_;rintro e w' ⟨rfl,rfl⟩;go_wp2_with fail;refine (bK _ _ _).mono ?_;rintro e w' ⟨rfl,rfl⟩;go_wp2_with fail;refine (jG ((a+b+x)%256) _ (by omega) (by omega)).mono ?_;rintro e w' ⟨rfl,rfl⟩;go_wp2_with fail;refine (bK _ _ _).mono ?_;rintro e w' ⟨rfl,rfl⟩;go_wp2_with fail;refine (mZ _ _).mono ?_;rintro e w' ⟨rfl,rfl⟩;go_wp2_with fail;go_ret2;exact ⟨rII rfl (Hf _ _),rfl⟩
theorem Td (x a b:Int) (w:World) (a0:0<=a) (a1:a<65536) (b0:0<=b) (b1:b<65536) (x0:0<=x) (x1:x<=1) :
  Calls prog 219 #[iv 2,iv x,iv a,iv b] w fun e w'=>e=.returned (.tuple #[iv ((a+b+x)%65536),iv (iy 2 (a+b+x) (sg 2 a+sg 2 b+x))])∧w'=w:=by
 have em:=fE (a+b+x);obtain ⟨sa0,sa1⟩:=nY a0 a1;obtain ⟨sb0,sb1⟩:=nY b0 b1;go_enter func219,ntmps219;go_wp2_with fail;refine (iI _).mono ?_;rintro e w' ⟨rfl,rfl⟩;go_wp2_with fail;refine (jF a _ a0 a1).mono ?_;rintro e w' ⟨rfl,rfl⟩;go_wp2_with fail;refine (jF b _ b0 b1).mono ?_;rintro e w' ⟨rfl,rfl⟩;go_wp2_with fail;refine (bK _ _ _).mono ?_;rintro e w' ⟨rfl,rfl⟩;go_wp2_with fail;refine (jF ((a+b+x)%65536) _ (by omega) (by omega)).mono ?_;rintro e w' ⟨rfl,rfl⟩;go_wp2_with fail;refine (bK _ _ _).mono ?_;rintro e w' ⟨rfl,rfl⟩;go_wp2_with fail;refine (mY _ _).mono ?_;rintro e w' ⟨rfl,rfl⟩;go_wp2_with fail;go_ret2;exact ⟨rII rfl (He _ _),rfl⟩
theorem SV (x a b:Int) (w:World) (a0:0<=a) (a1:a<256) (b0:0<=b) (b1:b<256) (x0:0<=x) (x1:x<=1) :
  Calls prog 207 #[iv 1,iv x,iv a,iv b] w fun e w'=>e=.returned (.tuple #[iv ((a-b-x)%256),iv (iy 1 (a-b-x) (sg 1 a-sg 1 b-x))])∧w'=w:=by
 have em:=gK (a-b-x);obtain ⟨sa0,sa1⟩:=nZ a0 a1;obtain ⟨sb0,sb1⟩:=nZ b0 b1;go_enter func207,ntmps207;go_wp2_with fail;refine (iJ _).mono ?_;rintro e w' ⟨rfl,rfl⟩;go_wp2_with fail;refine (jG a _ a0 a1).mono ?_;rintro e w' ⟨rfl,rfl⟩;go_wp2_with fail;refine (jG b _ b0 b1).mono ?_;rintro e w' ⟨rfl,rfl⟩;go_wp2_with fail;refine (bK _ _ _).mono ?_;rintro e w' ⟨rfl,rfl⟩;go_wp2_with fail;refine (jG ((a-b-x)%256) _ (by omega) (by omega)).mono ?_;rintro e w' ⟨rfl,rfl⟩;go_wp2_with fail;refine (bK _ _ _).mono ?_;rintro e w' ⟨rfl,rfl⟩;go_wp2_with fail;refine (mZ _ _).mono ?_;rintro e w' ⟨rfl,rfl⟩;go_wp2_with fail;go_ret2;exact ⟨rII rfl (Nw _ _ (by omega)),rfl⟩
theorem SQ (x a b:Int) (w:World) (a0:0<=a) (a1:a<65536) (b0:0<=b) (b1:b<65536) (x0:0<=x) (x1:x<=1) :
  Calls prog 207 #[iv 2,iv x,iv a,iv b] w fun e w'=>e=.returned (.tuple #[iv ((a-b-x)%65536),iv (iy 2 (a-b-x) (sg 2 a-sg 2 b-x))])∧w'=w:=by
 have em:=fE (a-b-x);obtain ⟨sa0,sa1⟩:=nY a0 a1;obtain ⟨sb0,sb1⟩:=nY b0 b1;go_enter func207,ntmps207;go_wp2_with fail;refine (iI _).mono ?_;rintro e w' ⟨rfl,rfl⟩;go_wp2_with fail;refine (jF a _ a0 a1).mono ?_;rintro e w' ⟨rfl,rfl⟩;go_wp2_with fail;refine (jF b _ b0 b1).mono ?_;rintro e w' ⟨rfl,rfl⟩;go_wp2_with fail;refine (bK _ _ _).mono ?_;rintro e w' ⟨rfl,rfl⟩;go_wp2_with fail;refine (jF ((a-b-x)%65536) _ (by omega) (by omega)).mono ?_;rintro e w' ⟨rfl,rfl⟩;go_wp2_with fail;refine (bK _ _ _).mono ?_;rintro e w' ⟨rfl,rfl⟩;go_wp2_with fail;refine (mY _ _).mono ?_;rintro e w' ⟨rfl,rfl⟩;go_wp2_with fail;go_ret2;exact ⟨rII rfl (Nv _ _ (by omega)),rfl⟩
theorem KN (s f a b:Int) (w:World) (la : -9223372036854775808<=a) (ha:a<=9223372036854775807) (lb : -9223372036854775808<=b) (hb:b<=9223372036854775807) :
  Calls prog 274 #[iv s,iv f,iv a,iv b] w fun e w'=>e=.returned (.tuple #[iv (nz s f a b),.bool (Pl.two s 0 a b&&Pl.flags f)])∧w'=w:=by
 cases k:Pl.two s 0 a b
 ·have HV:Hid (nz s f a b=0):=Zr (by simp [nz,k]);go_enter func274,ntmps274;go_wp2_with fail;refine (nO s 0 a b _ la ha lb hb).mono ?_;rintro e w' ⟨rfl,rfl⟩;go_wp2_with fail;go_ret2;exact ⟨rIB HV.o.symm rfl,rfl⟩
 ·cases kf:Pl.flags f
  ·have HV:Hid (nz s f a b=0):=Zr (by simp [nz,kf]);go_enter func274,ntmps274;go_wp2_with fail;refine (nO s 0 a b _ la ha lb hb).mono ?_;rintro e w' ⟨rfl,rfl⟩;go_wp2_with fail;refine (ui f _).mono ?_;rintro e w' ⟨rfl,rfl⟩;go_wp2_with fail;go_ret2;exact ⟨rIB HV.o.symm rfl,rfl⟩
  ·have HV:Hid (nz s f a b=bits .or .i64 (bits .andNot .i64 (jW s 0 a b) 16) (bits .and .i64 f 16)):=Zr (by simp only [nz,k,kf,Bool.and_self,if_true,LD _ (mi s 0 a b).1 (mi s 0 a b).2]);go_enter func274,ntmps274;go_wp2_with fail;refine (nO s 0 a b _ la ha lb hb).mono ?_;rintro e w' ⟨rfl,rfl⟩;go_wp2_with fail;refine (ui f _).mono ?_;rintro e w' ⟨rfl,rfl⟩;go_wp2_with fail;go_ret2;exact ⟨rIB HV.o.symm rfl,rfl⟩
theorem xy (s x a b:Int) (w:World) (h:Pl.two s x a b=true) :
  Calls prog 207 #[iv s,iv x,iv a,iv b] w fun e w'=>e=.returned (.tuple #[iv (lC s x a b),iv (jW s x a b)])∧w'=w:=by
 have HV:lC s x a b=(a-b-x)%Pl.top s:=by simp [lC,h]
 have HF:jW s x a b=iy s (a-b-x) (sg s a-sg s b-x):=by simp [jW,h]
 rw [HV,HF];obtain ⟨ka,kb,kx⟩:=Aq h;obtain ⟨hs,a0,a1⟩:=aO ka;obtain ⟨_,b0,b1⟩:=aO kb;obtain ⟨x0,x1⟩:=rV kx;rcases hs with ⟨rfl,_⟩|⟨rfl,_⟩
 ·exact SV x a b w a0 a1 b0 b1 x0 x1
 ·exact SQ x a b w a0 a1 b0 b1 x0 x1
theorem V3 (s f a b:Int) (w:World) (h:Pl.two s 0 a b=true) :
  Calls prog 220 #[iv s,iv f,iv a,iv b] w fun e w'=>e=.returned (iv (bits .or .i64 (bits .and .i64 (jW s 0 a b) 15) (bits .and .i64 f 16)))∧w'=w:=by
 go_enter func220,ntmps220;go_wp2_with fail;refine (xy s 0 a b _ h).mono ?_;rintro e w' ⟨rfl,rfl⟩;go_wp2_with fail;go_ret;exact ⟨rfl,rfl⟩
theorem iQ (s f v:Int) (w:World) (lv : -9223372036854775808<=v) (hv:v<=9223372036854775807) :
  Calls prog 277 #[iv s,iv f,iv v] w fun e w'=>e=.returned (.tuple #[iv (dh s f v),.bool (okv s v&&Pl.flags f)])∧w'=w:=by
 cases k:okv s v
 ·have HV:Hid (dh s f v=0):=Zr (by simp [dh,k]);go_enter func277,ntmps277;go_wp2_with fail;refine (bQ s v _ lv hv).mono ?_;rintro e w' ⟨rfl,rfl⟩;go_wp2_with fail;go_ret2;exact ⟨rIB HV.o.symm rfl,rfl⟩
 ·cases kf:Pl.flags f
  ·have HV:Hid (dh s f v=0):=Zr (by simp [dh,kf]);go_enter func277,ntmps277;go_wp2_with fail;refine (bQ s v _ lv hv).mono ?_;rintro e w' ⟨rfl,rfl⟩;go_wp2_with fail;refine (ui f _).mono ?_;rintro e w' ⟨rfl,rfl⟩;go_wp2_with fail;go_ret2;exact ⟨rIB HV.o.symm rfl,rfl⟩
  ·have HV:Hid (dh s f v=bits .or .i64 (iy s v (nV s v)) (bits .and .i64 f 16)):=Zr (by
    simp only [dh,k,kf,Bool.and_self,if_true,kV k,Pl.keptSelf k];rw [Pl.or_comm])
   have hs:s=1∨s=2:=by have:=aO k;omega
   go_enter func277,ntmps277;go_wp2_with fail;refine (bQ s v _ lv hv).mono ?_;rintro e w' ⟨rfl,rfl⟩;go_wp2_with fail;refine (ui f _).mono ?_;rintro e w' ⟨rfl,rfl⟩;go_wp2_with fail;refine (ru s _ _ _ hs).mono ?_;rintro e w' ⟨rfl,rfl⟩;go_wp2_with fail;go_ret2;exact ⟨rIB HV.o.symm rfl,rfl⟩
theorem SN (s v:Int) (w:World) (h:okv s v=true) :
  Calls prog 206 #[iv s,iv v] w fun e w'=>e=.returned (iv (bits .or .i64 (Pl.fl (v==0) 4) (Pl.fl (decide (sg s v<0)) 8)))∧w'=w:=by
 obtain ⟨hs,h0,h1⟩:=aO h;rcases hs with ⟨rfl,_⟩|⟨rfl,_⟩
 ·rw [<-VE h0 h1];exact mZ v w
 ·rw [<-VD h0 h1];exact mY v w
theorem Ou (s f v:Int) (w:World) (h:okv s v=true) :
  Calls prog 154 #[iv s,iv f,iv v] w fun e w'=>e=.returned (iv (bits .or .i64 (bits .and .i64 f 16) (bits .or .i64 (Pl.fl (v==0) 4) (Pl.fl (decide (sg s v<0)) 8))))∧w'=w:=by
 go_enter func154,ntmps154;go_wp2_with fail;refine (SN s v _ h).mono ?_;rintro e w' ⟨rfl,rfl⟩;go_wp2_with fail;go_ret;exact ⟨rfl,rfl⟩
theorem Bl (v:Int) (w:World) (lv : -9223372036854775808<=v) (hv:v<=9223372036854775807) :
  Calls prog 263 #[iv v] w fun e w'=>e=.returned (.tuple #[iv (lS v),.bool (okv 1 v)])∧w'=w:=by
 cases k:okv 1 v
 ·have HV:Hid (lS v=0):=Zr (by simp [lS,k]);go_enter func263,ntmps263;go_wp2_with fail;refine (bQ 1 v _ lv hv).mono ?_;rintro e w' ⟨rfl,rfl⟩;go_wp2_with fail;go_ret2;exact ⟨rIB HV.o.symm rfl,rfl⟩
 ·have HV:Hid (lS v=sg 1 v%65536):=Zr (by simp [lS,k]);have e1:=kV k;have hw:IntKind.u16.wrap (sg 1 v)=sg 1 v%65536:=IntKind.wrap_u16 _;go_enter func263,ntmps263;go_wp2_with fail;refine (bQ 1 v _ lv hv).mono ?_;rintro e w' ⟨rfl,rfl⟩;go_wp2_with fail;go_ret2;exact ⟨rIB HV.o.symm rfl,rfl⟩
theorem uw (v:Int) (w:World) :
  Calls prog 215 #[iv v] w fun e w'=>e=.returned (.tuple #[iv (lS v),.bool (okv 1 v)])∧w'=w:=by
 cases k:okv 1 v
 ·have HV:Hid (lS v=0):=Zr (by simp [lS,k]);go_enter func215,ntmps215;go_wp2_with fail;refine (jK 1 v _).mono ?_;rintro e w' ⟨rfl,rfl⟩;go_wp2_with fail;go_ret2;exact ⟨rIB HV.o.symm rfl,rfl⟩
 ·have HV:Hid (lS v=sg 1 v%65536):=Zr (by simp [lS,k]);have em:=fE (sg 1 v);go_enter func215,ntmps215;go_wp2_with fail;refine (jK 1 v _).mono ?_;rintro e w' ⟨rfl,rfl⟩;go_wp2_with fail;refine (Bg 1 v _ k).mono ?_;rintro e w' ⟨rfl,rfl⟩;go_wp2_with fail;go_ret2;exact ⟨rIB HV.o.symm rfl,rfl⟩
theorem Em (v:Int) (w:World) (lv : -9223372036854775808<=v) (hv:v<=9223372036854775807) :
  Calls prog 262 #[iv v] w fun e w'=>e=.returned (.tuple #[iv (lw v),.bool (okv 2 v)])∧w'=w:=by
 cases k:okv 2 v
 ·have HV:Hid (lw v=0):=Zr (by simp [lw,k]);go_enter func262,ntmps262;go_wp2_with fail;refine (bQ 2 v _ lv hv).mono ?_;rintro e w' ⟨rfl,rfl⟩;go_wp2_with fail;go_ret2;exact ⟨rIB HV.o.symm rfl,rfl⟩
 ·have HV:Hid (lw v=v%256*256+v/256):=Zr (by simp [lw,k]);have h0:0<=v:=by have:=aO k;omega
  have h1:v<65536:=by have:=aO k;omega
  go_enter func262,ntmps262;go_wp2_with fail;refine (bQ 2 v _ lv hv).mono ?_;rintro e w' ⟨rfl,rfl⟩;go_wp2_with fail;go_ret2;exact ⟨rIB HV.o.symm rfl,rfl⟩
theorem vT (v:Int) (w:World) :
  Calls prog 213 #[iv v] w fun e w'=>e=.returned (.tuple #[iv (lw v),.bool (okv 2 v)])∧w'=w:=by
 cases k:okv 2 v
 ·have HV:Hid (lw v=0):=Zr (by simp [lw,k]);go_enter func213,ntmps213;go_wp2_with fail;refine (jK 2 v _).mono ?_;rintro e w' ⟨rfl,rfl⟩;go_wp2_with fail;go_ret2;exact ⟨rIB HV.o.symm rfl,rfl⟩
 ·have HV:Hid (lw v=v%256*256+v/256):=Zr (by simp [lw,k]);have h0:0<=v:=by have:=aO k;omega
  have h1:v<65536:=by have:=aO k;omega
  have em:=gK v;have eo:=Nj v h0 h1;go_enter func213,ntmps213;go_wp2_with fail;refine (jK 2 v _).mono ?_;rintro e w' ⟨rfl,rfl⟩;go_wp2_with fail;go_ret2;exact ⟨rIB HV.o.symm rfl,rfl⟩
theorem Jz (z:Int) (hz:z=1∨z=2) (w:World):Calls prog 205 #[iv z] w fun e w'=>e=.returned (iv (Pl.top z))∧w'=w:=by
 rcases hz with rfl|rfl
 ·exact iJ w
 ·exact iI w
theorem Ja (w:World) (gd cd ga ca:Nat) (r:Rg) (z k:Int) (hD:Own w gd r.xs) (hg:Pl.Good r) (hz:z=1∨z=2) (k0:0<=k) (k1:k<=3) :
  Calls prog 152 #[jA r gd cd ga ca,iv z,iv k] w fun e w'=>e=.returned (iv (el r.xs k.toNat%Pl.top z))∧Kept 0 0 w w':=by
 obtain ⟨n,rfl⟩:∃n:Nat,k=(n:Int):=⟨k.toNat,by omega⟩
 have hn:n<4:=by omega
 have k4:(n:Int)<4:=by omega
 have hA:=qO (hD.ai (kept_alloc w (.cells #[.slice (some (Zt gd 0)) 4 cd,.slice (some (Zt ga 0)) 4 ca,iv r.o,iv r.p,iv r.f,iv r.m,.bool r.s,.bool r.t] 35)) (by omega)) n (by rw [hg.d4];omega);obtain ⟨hc,_⟩:=hA
 have HE:Hid (bits .and .i64 (el r.xs n) (Pl.top z-1)=el r.xs n%Pl.top z):=Zr (by
  rcases hz with rfl|rfl
  ·exact gK _
  ·exact fE _)
 have HT:=Jz z hz;have hT:256<=Pl.top z∧Pl.top z<=65536:=by rcases hz with rfl|rfl<;>decide
 obtain ⟨hT0,hT1⟩:=hT;have hK:=Zr (kept_alloc w (.cells #[.slice (some (Zt gd 0)) 4 cd,.slice (some (Zt ga 0)) 4 ca,iv r.o,iv r.p,iv r.f,iv r.m,.bool r.s,.bool r.t] 35));have hg4:=Blk.lt (Blk.new w #[.slice (some (Zt gd 0)) 4 cd,.slice (some (Zt ga 0)) 4 ca,iv r.o,iv r.p,iv r.f,iv r.m,.bool r.s,.bool r.t] 35);clear hD hg hg4;unfold jA;generalize Pl.top z=T at *;clear hz;go_enter func152,ntmps152;go_wp2_with fail;go_region_with (go_at_call 205;refine st (HT _) ?_)
 all_goals
  go_wp2_with fail;go_ret;exact ⟨rI (by rw [IntKind.wrap_i64,show (T-1+9223372036854775808)%18446744073709551616-9223372036854775808=T-1 by omega];exact HE.o),ah hK.o⟩
theorem IY (w:World) (lo mid hi p g2:Nat) (c:Mc) (v:Int) (h:MAt w lo mid hi p g2 c) :
  Calls prog 212 #[.pointer (some (Zt p 0)),iv v] w fun e w'=>e=.returned (.tuple #[])∧∃g3,MAt w' lo mid hi p g3 (c.raise v)∧Since w lo hi g2 w' g3:=by
 have hl:=h.lo;have HM:=Zr h;obtain ⟨gd,cd,ga,ca,g1,c1,c2,HB,HO⟩:=h.op;have t3:=HB.o.k3;have t11:=HB.o.k11;have t12:=HB.o.k12;have f11:=HB.o.frozen 11;have f12:=HB.o.frozen 12;go_enter func212,ntmps212;go_wp2_with fail;go_end0;have hp:=HO.o.p0;have hd:=HO.o.d0;have hd1:=HO.o.d1;have KK:=(ak w p 11 (iv v)).one 12 (iv c.r.p);have hq:(lo<=p∧p<hi)∨w.heap.size<=p:=by have:=HO.o.p1;omega
 exact ⟨rfl,g2,⟨gd,cd,ga,ca,g1,c1,c2,(HB.o.cV v).cPc c.r.p,HO.o.own KK⟩,((Since.refl _ _ _ _).set p 11 _ hq).set p 12 _ hq⟩
theorem iZ {z f v:Int} (w:World) (hv:okv z v=true) (hf:Pl.flags f=true):Calls prog 154 #[iv z,iv f,iv v] w fun e w'=>e=.returned (iv (dh z f v))∧w'=w:=by
 have e:dh z f v=bits .or .i64 (bits .and .i64 f 16) (bits .or .i64 (Pl.fl (v==0) 4) (Pl.fl (decide (sg z v<0)) 8)):=by unfold dh;rw [hv,hf];rfl
 rw [e];exact Ou z f v w hv
theorem CX (w:World) (lo mid hi p g2:Nat) (c:Mc) (z k v:Int) (h:MAt w lo mid hi p g2 c) (G:GM c) (k0:0<=k) (k1:k<=3) (hv:okv z v=true) :
  Calls prog 214 #[.pointer (some (Zt p 0)),iv z,iv k,iv v] w fun e w'=>e=.returned (.tuple #[])∧∃g3,MAt w' lo mid hi p g3 (c.data z k v)∧Since w lo hi g2 w' g3:=by
 have hl:=h.lo;have HF:=Zr (bZ G);have HG:=Zr ((G.aH (fM z c.r.f v hv (bZ G)).1 (fM z c.r.f v hv (bZ G)).2).g);have HM:=Zr h;obtain ⟨gd,cd,ga,ca,g1,c1,c2,HB,HO⟩:=h.op;obtain ⟨t0,t1,t2,t3,t4,t5,t6,t7⟩:=HB.o.c8;have f0:=HB.o.fz;have hp:=HO.o.p0;have hd:=HO.o.d0;have hd1:=HO.o.d1;have hs:=HB.o.lt;have K1:=Zr (ak w p 4 (iv (dh z c.r.f v)));have HO1:=Zr (HO.o.own K1.o);have HB1:=Zr (HB.o.cF (dh z c.r.f v));clear G;go_enter func214,ntmps214;go_wp2_with (first|(go_at_call 154;refine st (iZ _ hv HF.o) ?_)|(go_at_call 157;refine (yI _ lo mid gd cd ga ca {c.r with f:=dh z c.r.f v} z k v (MO.reg (r:={c.r with f:=dh z c.r.f v}) HO1.o) (by simp;omega) HG.o k0 k1 hv).mono ?_;unfold jA;rintro e9 W ⟨rfl,hr9,hk9⟩;have HO2:=Zr (HO1.o.regs hr9 hk9);have HB2:=Zr (HB1.o.regs hk9 hp);have HK2:=Zr hk9;clear hr9 hk9 t0 t1 t2 t3 t4 t5 t6 t7 f0;obtain ⟨t0,t1,t2,t3,t4,t5,t6,t7,_⟩:=HB2.o.cells;have f0:=HB2.o.frozen 0;have f1:=HB2.o.frozen 1;have f2:=HB2.o.frozen 2;have f3:=HB2.o.frozen 3;have f4:=HB2.o.frozen 4;have f5:=HB2.o.frozen 5;have f6:=HB2.o.frozen 6;have f7:=HB2.o.frozen 7));go_end0;have hq:(lo<=p∧p<hi)∨w.heap.size<=p:=by have:=HO.o.p1;omega
 have hm9:=HO.o.p1;exact ⟨rfl,g2,MAt.laid HB2.o HO2.o,jf (((Since.refl w lo hi g2).set p 4 _ hq).ai HK2.o (Nat.le_refl _) (by omega)) hq _ _ _ _ _ _ _ _⟩
theorem xu (w:World) (lo mid hi p g2:Nat) (c:Mc) (z m k x a v:Int) (h:MAt w lo mid hi p g2 c) (G:GM c) (k0:0<=k) (k1:k<=3) (a0:0<=a) (a1:a<=65535) (hv:okv z v=true) :
  Calls prog 153 #[.pointer (some (Zt p 0)),iv z,.agg #[iv m,iv k,iv x],iv a,iv v] w fun e w'=>e=.returned (.tuple #[])∧∃g3,MAt w' lo mid hi p g3 (c.write z m k a v)∧Since w lo hi g2 w' g3:=by
 have hl:=h.lo;cases hm:(m==0)
 ·have KA:=Zr (kept_alloc w (.cells #[iv m,iv k,iv x] 46));have E:Hid (c.write z m k a v=c.acc 2 z a v):=Zr (by unfold Mc.write;rw [hm];rfl);have HM1:=Zr (h.any KA.o);have HG:=Zr G;have HA:Hid (dX 2 z a v=true):=Zr (by simp [dX,dI,Pl.addr,hv];omega);clear G h;go_enter func153,ntmps153;go_wp2_with (go_at_call 184;refine (fK _ lo mid hi p g2 c 2 z a v HM1.o HG.o HA.o).mono ?_;rintro e9 W ⟨rfl,g3,hm9,hb9⟩;have HM2:=Zr hm9;have HL2:=Zr hb9;clear hm9 hb9);go_end0;exact ⟨rfl,g3,by rw [E.o];exact HM2.o,((Since.refl w lo hi g2).any KA.o).trans HL2.o⟩
 ·have E:Hid (c.write z m k a v=c.bg (kQ c.r z k v)):=Zr (by unfold Mc.write;rw [hm];rfl);have HG:=Zr G.g;have KA:=Zr (kept_alloc w (.cells #[iv m,iv k,iv x] 46));have BA:=Blk.new w #[iv m,iv k,iv x] 46;obtain ⟨X,hX⟩:∃X:World,w.alloc (.cells #[iv m,iv k,iv x] 46)=X:=⟨_,rfl⟩
  rw [hX] at KA BA;have b0:=BA.all;have hbw:=BA.lt;have h2:=h.any KA.o;have hl2:=h2.lo;clear h BA;have HM:=Zr h2;obtain ⟨gd,cd,ga,ca,g1,c1,c2,HB,HO⟩:=h2.op;obtain ⟨t0,t1,t2,t3,t4,t5,t6,t7⟩:=HB.o.c8;have f0:=HB.o.fz;have hp:=HO.o.p0;have hd:=HO.o.d0;have hd1:=HO.o.d1;have hs:=HB.o.lt;have HMH:Hid (mid<=hi):=Zr (by have:=HO.o.p1;omega);have HPH:Hid (lo<=p∧p<hi):=Zr (by have:=HO.o.p1;omega);have HRD:=Zr (MO.reg (r:=c.r) (HO.o.any (ah (Kept.refl 0 0 X))));have HOD:=Zr (HO.o.any (ah (Kept.refl 0 0 X)));have HBD:=Zr (HB.o.any (ah (Kept.refl 0 0 X)));have HMD:Hid (mid<=X.drew.heap.size):=Zr hl2.2.1;clear G;go_enter func153,ntmps153;go_wp2_with fail;go_region_with (go_at_call 157;refine (yI _ lo mid gd cd ga ca c.r z k v HRD.o HMD.o HG.o k0 k1 hv).mono ?_;unfold jA;rintro e9 W ⟨rfl,hr9,hk9⟩;have HO2:=Zr (HOD.o.regs hr9 hk9);have HB2:=Zr (HBD.o.regs hk9 hp);have HK2:=Zr hk9;clear hr9 hk9;clear t0 t1 t2 t3 t4 t5 t6 t7 f0;obtain ⟨t0,t1,t2,t3,t4,t5,t6,t7,_⟩:=HB2.o.cells;have f0:=HB2.o.frozen 0;have f1:=HB2.o.frozen 1;have f2:=HB2.o.frozen 2;have f3:=HB2.o.frozen 3;have f4:=HB2.o.frozen 4;have f5:=HB2.o.frozen 5;have f6:=HB2.o.frozen 6;have f7:=HB2.o.frozen 7)
  all_goals
   go_wp2_with fail;first|go_end0|refine bodyPost_ret (results_none rfl _ _ _) rfl ?_
   exact ⟨rfl,g2,by rw [E.o];exact MAt.laid HB2.o HO2.o,jf (((Since.refl w lo hi g2).any KA.o).drew.ai HK2.o (Nat.le_refl _) HMH.o) (.inl HPH.o) _ _ _ _ _ _ _ _⟩
theorem uO (w:World) (lo mid hi p g2:Nat) (c:Mc) (z m k x:Int) (h:MAt w lo mid hi p g2 c) (G:GM c) (k0:0<=k) (k1:k<=3) (x0:0<=x) (x1:x<=65535) (hm1:m=0∨m=2∨m=3∨m=4∨m=5∨m=6) :
  Calls prog 151 #[.pointer (some (Zt p 0)),iv z,.agg #[iv m,iv k,iv x]] w fun e w'=>e=.returned (iv (c.iE z m k x))∧∃g3,MAt w' lo mid hi p g3 (c.place z m k x)∧Since w lo hi g2 w' g3:=by
 have hl:=h.lo;cases hm:(m==0)
 ·have hm2:m=2∨m=3∨m=4∨m=5∨m=6:=by simp at hm;omega
  have HG:=Zr G;have KA:=Zr (kept_alloc w (.cells #[iv m,iv k,iv x] 46));have BA:=Blk.new w #[iv m,iv k,iv x] 46;obtain ⟨X,hX⟩:∃X:World,w.alloc (.cells #[iv m,iv k,iv x] 46)=X:=⟨_,rfl⟩
  rw [hX] at KA BA;have b0:=BA.all;have hbw:=BA.lt;have h2:=h.any KA.o;have hl2:=h2.lo;clear h BA;have HM:=Zr h2;obtain ⟨gd,cd,ga,ca,g1,c1,c2,HB,HO⟩:=h2.op;obtain ⟨t0,t1,t2,t3,t4,t5,t6,t7⟩:=HB.o.c8;have f0:=HB.o.fz;have hp:=HO.o.p0;have hd:=HO.o.d0;have hd1:=HO.o.d1;have hs:=HB.o.lt;have HMH:Hid (mid<=hi):=Zr (by have:=HO.o.p1;omega);have HPH:Hid (lo<=p∧p<hi):=Zr (by have:=HO.o.p1;omega);have HRD:=Zr (MO.reg (r:=c.r) (HO.o.any (ah (Kept.refl 0 0 X))));have HOD:=Zr (HO.o.any (ah (Kept.refl 0 0 X)));have HBD:=Zr (HB.o.any (ah (Kept.refl 0 0 X)));have HMD:Hid (mid<=X.drew.heap.size):=Zr hl2.2.1;have KZ:Kept 0 0 X (X.drew.alloc (.cells #[.slice none 0 0,.slice none 0 0,iv 0,iv 0,iv 0,iv 0,.bool false,.bool false] 35)):=ag (ah (Kept.refl 0 0 X)) _;have HRZ:=Zr (MO.reg (r:=c.r) (HO.o.any KZ));have HOZ:=Zr (HO.o.any KZ);have HBZ:=Zr (HB.o.any KZ);have HMZ:Hid (mid<=(X.drew.alloc (.cells #[.slice none 0 0,.slice none 0 0,iv 0,iv 0,iv 0,iv 0,.bool false,.bool false] 35)).heap.size):=Zr (by rw [World.size_alloc];exact Nat.le_trans hl2.2.1 (Nat.le_succ _));have BZ:Hid (Blk (X.drew.alloc (.cells #[.slice none 0 0,.slice none 0 0,iv 0,iv 0,iv 0,iv 0,.bool false,.bool false] 35)) X.heap.size #[.slice none 0 0,.slice none 0 0,iv 0,iv 0,iv 0,iv 0,.bool false,.bool false] 35):=Zr (Blk.new X.drew #[.slice none 0 0,.slice none 0 0,iv 0,iv 0,iv 0,iv 0,.bool false,.bool false] 35);have HKZ:=Zr KZ;have hb1:=HO.o.b.lt (by rw [HG.o.bx];decide);have hb2:=HO.o.g2.2;clear KZ;have HP:=fun (w9:World) (hr:fG w9 lo mid c.r (some (Zt gd 0)) (some (Zt ga 0))) (hh:mid<=w9.heap.size)=>Ii w9 lo mid gd cd ga ca c.r z m k x hr hh HG.o.g k0 k1 x0 x1 hm2;obtain ⟨R,hR⟩:∃R,bi c.r z m k x=R:=⟨_,rfl⟩
  obtain ⟨V,hV⟩:∃V,bf c.r z m k x=V:=⟨_,rfl⟩
  simp only [hR,hV,jA] at HP;have E:Hid (c.place z m k x=c.bg R):=Zr (by unfold Mc.place Mc.plc;rw [hm,hR];rfl);have E2:Hid (c.iE z m k x=V):=Zr (by unfold Mc.iE;rw [hm,hV];rfl);clear hR hV;have HNZ:Hid (¬(lo<=X.heap.size∧X.heap.size<mid)):=Zr (by have q:=hl2.2.1;omega);have HPZ:Hid (p<X.heap.size):=Zr hs;clear G hm1;go_enter func151,ntmps151;go_wp2_with fail;go_region_with (first|(go_at_call 204;refine (HP _ HRD.o HMD.o).mono ?_;rintro e9 W ⟨rfl,hr9,hk9⟩;have HO2:=Zr (HOD.o.regs hr9 hk9);have HB2:=Zr (HBD.o.regs hk9 hp);have HK2:=Zr hk9;have HA1:=Zr hk9;have hpW:=HB2.o.lt;clear hr9 hk9;clear t0 t1 t2 t3 t4 t5 t6 t7 f0;obtain ⟨t0,t1,t2,t3,t4,t5,t6,t7,_⟩:=HB2.o.cells;have f0:=HB2.o.frozen 0;have f1:=HB2.o.frozen 1;have f2:=HB2.o.frozen 2;have f3:=HB2.o.frozen 3;have f4:=HB2.o.frozen 4;have f5:=HB2.o.frozen 5;have f6:=HB2.o.frozen 6;have f7:=HB2.o.frozen 7)|(go_at_call 204;refine (HP _ HRZ.o HMZ.o).mono ?_;rintro e9 W ⟨rfl,hr9,hk9⟩;have HO2:=Zr (HOZ.o.regs hr9 hk9);have HB2:=Zr (HBZ.o.regs hk9 hp);have HK2:=Zr hk9;have HA2:=Zr hk9;have BZ2:=Zr (Blk.kept BZ.o hk9 HNZ.o);clear hr9 hk9;clear t0 t1 t2 t3 t4 t5 t6 t7 f0;obtain ⟨t0,t1,t2,t3,t4,t5,t6,t7,_⟩:=HB2.o.cells;have f0:=HB2.o.frozen 0;have f1:=HB2.o.frozen 1;have f2:=HB2.o.frozen 2;have f3:=HB2.o.frozen 3;have f4:=HB2.o.frozen 4;have f5:=HB2.o.frozen 5;have f6:=HB2.o.frozen 6;have f7:=HB2.o.frozen 7;have y0:=BZ2.o.cell (i:=0) rfl;have v0:=BZ2.o.frozen 0;have y1:=BZ2.o.cell (i:=1) rfl;have v1:=BZ2.o.frozen 1;have y2:=BZ2.o.cell (i:=2) rfl;have v2:=BZ2.o.frozen 2;have y3:=BZ2.o.cell (i:=3) rfl;have v3:=BZ2.o.frozen 3;have y4:=BZ2.o.cell (i:=4) rfl;have v4:=BZ2.o.frozen 4;have y5:=BZ2.o.cell (i:=5) rfl;have v5:=BZ2.o.frozen 5;have y6:=BZ2.o.cell (i:=6) rfl;have v6:=BZ2.o.frozen 6;have y7:=BZ2.o.cell (i:=7) rfl;have v7:=BZ2.o.frozen 7))
  all_goals
   go_wp2_with fail;go_ret;rw [E.o]
   first
    | (have z9:=HA1;exact ⟨rI E2.o.symm,g2,(MAt.laid HB2.o HO2.o).any (kept_alloc _ _),(jf (((Since.refl w lo hi g2).any KA.o).drew.ai HK2.o (Nat.le_refl _) HMH.o) (.inl HPH.o) _ _ _ _ _ _ _ _).alloc _⟩)
    | (have z9:=HA2;exact ⟨rI E2.o.symm,g2,MAt.laid (HB2.o.past (MB.kZ _ _ _ _ _ _ _ _) HPZ.o) (HO2.o.past (MB.kZ _ _ _ _ _ _ _ _) hl2.2.1 hb1 hb2),jf (jf ((((Since.refl w lo hi g2).any KA.o).any HKZ.o).ai HK2.o (Nat.le_refl _) HMH.o) (.inr KA.o.size) _ _ _ _ _ _ _ _) (.inl HPH.o) _ _ _ _ _ _ _ _⟩)
 ·have KA:=Zr (kept_alloc w (.cells #[iv m,iv k,iv x] 46));have E:Hid (c.place z m k x=c):=Zr (by unfold Mc.place;rw [hm];rfl);have E2:Hid (c.iE z m k x=0):=Zr (by unfold Mc.iE;rw [hm];rfl);have HM:=Zr (h.any KA.o);clear h G;go_enter func151,ntmps151;go_wp2_with fail;go_ret;exact ⟨rI E2.o.symm,g2,by rw [E.o];exact HM.o,(Since.refl w lo hi g2).any KA.o⟩
end Go.Proofs.YtgikibaajanjiaaGreatDoor
