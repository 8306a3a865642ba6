/- Part 2 of what the last text leans on. -/
import Derived.Test.YtgikibaajanjiaaGreatDoorJB1
import Derived.BigRegion
import Derived.Deep.DeepCutAuto
import Derived.Deep.RegionWith
import Derived.Maps.AppendAt
import Derived.Laws.AppendOwnNone
import Derived.Deep.RegionLawGrows
import Derived.Deep.AppendLies
set_option maxRecDepth 100000
set_option maxHeartbeats 16000000
namespace Go.Proofs.YtgikibaajanjiaaGreatDoor
open Pl
open Go.RowKit Go.Proofs.Tryz
set_option linter.unusedVariables false
theorem ql {p:Int->Prop} (h:∀m:Fin 1024,p (m.val:Int)) {n:Int} (h0:0<=n) (h1:n<=1023):p n:=by
 have:=h ⟨n.toNat,by omega⟩
 have e:((n.toNat:Nat):Int)=n:=by omega
 simpa [e] using this
theorem Rx {n:Int} (h0:0<=n) (h1:n<=1023):(bits .and .i64 n 256 != 0)=bK n:=ql (p:=fun n=>(bits .and .i64 n 256 != 0)=bK n) (by decide +kernel) h0 h1
theorem Rw {n:Int} (h0:0<=n) (h1:n<=1023):(bits .and .i64 n 512 != 0)=dC n:=ql (p:=fun n=>(bits .and .i64 n 512 != 0)=dC n) (by decide +kernel) h0 h1
theorem V9 {n:Int} (h0:0<=n) (h1:n<=1023):bits .and .i64 n 31=n%32:=ql (p:=fun n=>bits .and .i64 n 31=n%32) (by decide +kernel) h0 h1
theorem st7 {n:Int} (h0:0<=n) (h1:n<=1023):bits .and .i64 (n/32) 7=n/32%8:=ql (p:=fun n=>bits .and .i64 (n/32) 7=n/32%8) (by decide +kernel) h0 h1
theorem Ih (w:World) (lo hi:Nat) (r:Rg) (a b:Option Addr) (ca cb:Nat) (n:Int) (hr:fP w lo hi r a b) (hh:hi<=w.heap.size) (hg:Pl.Good r) (h0:0<=n) (h1:n<=1023) :
  Calls prog 162 #[.agg #[.slice a r.xs.length ca,.slice b r.ys.length cb,iv r.o,iv r.p,iv r.f,iv r.m,.bool r.s,.bool r.t],iv n] w fun e w'=>e=.returned (.agg #[.slice a (aW r n).xs.length ca,.slice b (aW r n).ys.length cb,iv (aW r n).o,iv (aW r n).p,iv (aW r n).f,iv (aW r n).m,.bool (aW r n).s,.bool (aW r n).t])∧fP w' lo hi (aW r n) a b∧Kept lo hi w w':=by
 have e1:=Rx h0 h1;have e2:=Rw h0 h1;have e3:=V9 h0 h1;have e4:=st7 h0 h1;have HR:=aaA hr;by_cases hs:bK n=r.s
 ·have q1:(bK n != r.s)=false:=by simp [hs]
  have E:Hid (aW r n={r with t:=dC n,m:=n/32%8,f:=n%32}):=aaA (by unfold aW;rw [if_pos hs,hs]);clear hr;go_enter func162,ntmps162;go_wp2_with fail;refine bodyPost_ret (v:=.agg #[.slice a r.xs.length ca,.slice b r.ys.length cb,iv r.o,iv r.p,iv (n%32),iv (n/32%8),.bool r.s,.bool (dC n)]) ?_ rfl ?_
  ·rw [aj rfl];go_simp
  ·rw [E.o];exact ⟨rfl,HR.o.kept (ah (kept_alloc _ _) _) (by omega),(ah (kept_alloc _ _) _).any⟩
 ·have q1:(bK n==r.s)=false:=by simpa using hs
  have E:Hid (aW r n={r with ys:=r.ys.set 3 r.o,o:=el r.ys 3,s:=bK n,t:=dC n,m:=n/32%8,f:=n%32}):=aaA (by unfold aW;rw [if_neg hs]);have h4:=hg.a4;have hl:(3:Int)<(r.ys.length:Int):=by omega
  have HL:=aaA h4;clear h4;obtain ⟨s1,s2,s3⟩:=hr;rcases s2 with ⟨_,e⟩|⟨g,rfl,b0,b1,hown⟩
  ·rw [e] at hl;simp at hl
  ·have b9:g<w.heap.size:=by omega
   have HO:=aaA hown;have HX:=aaA s1;have HN:=aaA s3;have c3:w.cell? (aaB g 3)=some (iv (el r.ys 3)):=(hown 3 (by have:=HL.o;omega)).1;have f3:=(hown 3 (by have:=HL.o;omega)).2;clear hown s1 s3 hs;go_enter func162,ntmps162;go_wp2_with fail;refine bodyPost_ret (v:=.agg #[.slice a r.xs.length ca,.slice (some (aaB g 0)) r.ys.length cb,iv (el r.ys 3),iv r.p,iv (n%32),iv (n/32%8),.bool (bK n),.bool (dC n)]) ?_ rfl ?_
   ·rw [aj rfl];go_simp
   ·rw [E.o];refine ⟨?_,(HR.o.uU (k:=3) r.o (by have:=HL.o;omega)).kept (ah (kept_alloc _ _) _) (by omega),(af (Kept.refl _ _ _) _ _ _ (.inl ⟨b0,b1⟩)).trans (ah (kept_alloc _ _) _).any⟩;simp
theorem Vw (x:Nat):x &&& 65280=x/256%256*256:=by
 apply Nat.eq_of_testBit_eq;intro i;rw [Nat.testBit_and,show (65280:Nat)=(2^8-1)*2^8 from by decide,Nat.testBit_mul_two_pow,Nat.testBit_two_pow_sub_one,show x/256%256*256=x/2^8%2^8*2^8 from rfl,Nat.testBit_mul_two_pow,Nat.testBit_mod_two_pow,Nat.testBit_div_two_pow];by_cases h:8<=i
 ·have e:i-8+8=i:=by omega
  simp [h,e,Bool.and_comm]
 ·simp [h]
theorem Nk (a:Int):bits .and .i64 a 65280=a/256%256*256:=by
 show IntKind.i64.wrap ((BitVec.ofInt 64 a &&& BitVec.ofInt 64 65280).toNat:Int)=_
 rw [BitVec.toNat_and,BitVec.toNat_ofInt,show (BitVec.ofInt 64 65280).toNat=65280 from by decide,Vw,IntKind.wrap_i64];omega
theorem Oy {x v:Int} (h0:0<=x) (h1:x<=65535) (v0:0<=v) (v1:v<=255):bits .or .i64 (bits .and .i64 x 65280) v=x/256*256+v:=by
 rw [Nk,show x/256%256=x/256 from by omega];exact bits_join .i64 62 (by decide) Pl.ig 8 (x/256*256) v (by omega) (by omega) (by omega) (by omega) (by omega) (by omega)
theorem Oc (w:World) (lo hi:Nat) (r:Rg) (a b:Option Addr) (ca cb:Nat) (z k v:Int) (hr:fP w lo hi r a b) (hh:hi<=w.heap.size) (hg:Pl.Good r) (hz:z=1∨z=2) (k0:0<=k) (k1:k<=3) (hv:okv z v=true) :
  Calls prog 157 #[.agg #[.slice a r.xs.length ca,.slice b r.ys.length cb,iv r.o,iv r.p,iv r.f,iv r.m,.bool r.s,.bool r.t],iv z,iv k,iv v] w fun e w'=>e=.returned (.agg #[.slice a (lw r z k v).xs.length ca,.slice b (lw r z k v).ys.length cb,iv (lw r z k v).o,iv (lw r z k v).p,iv (lw r z k v).f,iv (lw r z k v).m,.bool (lw r z k v).s,.bool (lw r z k v).t])∧fP w' lo hi (lw r z k v) a b∧Kept lo hi w w':=by
 obtain ⟨kn,rfl⟩:∃kn:Nat,k=(kn:Int):=⟨k.toNat,by omega⟩
 have HR:=aaA hr;have h4:=hg.d4;have hl:(kn:Int)<(r.xs.length:Int):=by omega
 have HL:=aaA h4;obtain ⟨x0,x1⟩:=hg.dw kn (by omega);clear h4;obtain ⟨s1,s2,s3⟩:=hr;rcases s1 with ⟨_,e⟩|⟨g,rfl,b0,b1,hown⟩
 ·rw [e] at hl;simp at hl;omega
 ·have c3:w.cell? ⟨g,kn,none⟩=some (iv (el r.xs kn)):=(hown kn (by omega)).1;have f3:=(hown kn (by omega)).2;have b9:g<w.heap.size:=by omega
  clear hown s2 s3;rcases hz with rfl|rfl
  ·obtain ⟨v0,v1⟩:0<=v∧v<=255:=by simp [okv,Pl.top] at hv;omega
   have hb:=Oy x0 x1 v0 v1;have E:Hid (lw r 1 (kn:Int) v={r with xs:=r.xs.set kn (el r.xs kn/256*256+v)}):=aaA (by simp [lw]);go_enter func157,ntmps157;go_upto_region 2 with fail;obtain ⟨X,hX⟩:∃X:World,X=(w.alloc (.cells #[.slice (some (aaB g 0)) r.xs.length ca,.slice b r.ys.length cb,iv r.o,iv r.p,iv r.f,iv r.m,.bool r.s,.bool r.t] 35)).alloc (.cells #[.slice none 0 0,.slice none 0 0,iv 0,iv 0,iv 0,iv 0,.bool false,.bool false] 35):=⟨_,rfl⟩
   have KX:Hid (Kept 0 0 w X):=aaA (by rw [hX];exact ah (kept_alloc _ _) _);have B0:Hid (Blk X w.heap.size #[.slice (some (aaB g 0)) r.xs.length ca,.slice b r.ys.length cb,iv r.o,iv r.p,iv r.f,iv r.m,.bool r.s,.bool r.t] 35):=aaA (by rw [hX];exact (Blk.new w _ _).alloc _);have R0:Hid (Blk X (w.heap.size+1) #[.slice none 0 0,.slice none 0 0,iv 0,iv 0,iv 0,iv 0,.bool false,.bool false] 35):=aaA (by rw [hX];have:=Blk.new (w.alloc (.cells #[.slice (some (aaB g 0)) r.xs.length ca,.slice b r.ys.length cb,iv r.o,iv r.p,iv r.f,iv r.m,.bool r.s,.bool r.t] 35)) #[.slice none 0 0,.slice none 0 0,iv 0,iv 0,iv 0,iv 0,.bool false,.bool false] 35;simpa only [World.size_alloc] using this);rw [<-hX];have d3:X.cell? ⟨g,kn,none⟩=some (iv (el r.xs kn)):=by rw [hX];go_simp
   have g3:X.frozen? ⟨g,kn,none⟩=false:=by rw [hX];go_simp
   clear hX c3 f3;have y0:=B0.o.cell (i:=0) rfl;go_region;have A3:=((HR.o.kept (KX.o) (by omega)).yZ (k:=kn) (el r.xs kn/256*256+v) (by have:=HL.o;omega)).kept (ai (Kept.refl 0 0 _)) (by omega);have K3:Kept lo hi w (X.setCell ⟨g,kn,none⟩ (iv (el r.xs kn/256*256+v))).drew:=ai (af KX.o.any _ _ _ (.inl ⟨b0,b1⟩));have B1:Hid (Blk (X.setCell ⟨g,kn,none⟩ (iv (el r.xs kn/256*256+v))).drew w.heap.size #[.slice (some (aaB g 0)) r.xs.length ca,.slice b r.ys.length cb,iv r.o,iv r.p,iv r.f,iv r.m,.bool r.s,.bool r.t] 35):=aaA (B0.o.other _ _ _ (by omega));have R1:Hid (Blk (X.setCell ⟨g,kn,none⟩ (iv (el r.xs kn/256*256+v))).drew (w.heap.size+1) #[.slice none 0 0,.slice none 0 0,iv 0,iv 0,iv 0,iv 0,.bool false,.bool false] 35):=aaA (R0.o.other _ _ _ (by omega));have nR:=R1.o.lt;obtain ⟨Y,hY⟩:∃Y:World,Y=(X.setCell ⟨g,kn,none⟩ (iv (el r.xs kn/256*256+v))).drew:=⟨_,rfl⟩
   rw [<-hY] at A3 K3 B1 R1 nR ⊢;clear hY d3 g3 y0;have m0:=B1.o.all;have n0:=R1.o.all;have nf0:=R1.o.fz;go_wp2_with fail;refine bodyPost_ret (v:=.agg #[.slice (some (aaB g 0)) r.xs.length ca,.slice b r.ys.length cb,iv r.o,iv r.p,iv r.f,iv r.m,.bool r.s,.bool r.t]) ?_ rfl ?_
   ·rw [aj rfl];go_simp
   ·rw [E.o];refine ⟨?_,((((((((A3.set _ _ _ (.inl (by omega))).set _ _ _ (.inl (by omega))).set _ _ _ (.inl (by omega))).set _ _ _ (.inl (by omega))).set _ _ _ (.inl (by omega))).set _ _ _ (.inl (by omega))).set _ _ _ (.inl (by omega))).set _ _ _ (.inl (by omega))),(af (af (af (af (af (af (af (af K3 _ _ _ (.inr (by omega))) _ _ _ (.inr (by omega))) _ _ _ (.inr (by omega))) _ _ _ (.inr (by omega))) _ _ _ (.inr (by omega))) _ _ _ (.inr (by omega))) _ _ _ (.inr (by omega))) _ _ _ (.inr (by omega)))⟩;simp
  ·have E:Hid (lw r 2 (kn:Int) v={r with xs:=r.xs.set kn v}):=aaA (by simp [lw]);go_enter func157,ntmps157;go_wp2_with fail;refine bodyPost_ret (v:=.agg #[.slice (some (aaB g 0)) r.xs.length ca,.slice b r.ys.length cb,iv r.o,iv r.p,iv r.f,iv r.m,.bool r.s,.bool r.t]) ?_ rfl ?_
   ·rw [aj rfl];go_simp
   ·rw [E.o];refine ⟨?_,(HR.o.yZ (k:=kn) v (by have:=HL.o;omega)).kept (ah (kept_alloc _ _) _) (by omega),(af (Kept.refl _ _ _) _ _ _ (.inl ⟨b0,b1⟩)).trans (ah (kept_alloc _ _) _).any⟩;simp
theorem Ij (z k:Int) (w:World):Calls prog 243 #[iv z,iv k] w fun e w'=>e=.returned (iv (byN z k))∧w'=w:=by
 by_cases h1:z=1
 ·subst h1;cases h2:(k != 3)
  all_goals
   have q:Hid (k=3∨k≠3):=aaA (by omega);go_enter func243,ntmps243;go_wp2;go_ret;simp at h2;exact ⟨rI (by simp [byN,h2]),rfl⟩
 ·have q1:(z==1)=false:=by simpa using h1
  go_enter func243,ntmps243;go_wp2;go_ret;exact ⟨rI (by simp [byN,h1]),rfl⟩
theorem Vo (z k:Int):1<=byN z k∧byN z k<=2:=by unfold byN;split<;>omega
theorem Ff (w:World) (lo hi:Nat) (r:Rg) (a b:Option Addr) (ca cb:Nat) (z m k e:Int) (hr:fP w lo hi r a b) (hh:hi<=w.heap.size) (hg:Pl.Good r) (k0:0<=k) (k1:k<=3) (e0:0<=e) (e1:e<=65535) (hm:m=2∨m=3∨m=4∨m=5∨m=6) :
  Calls prog 204 #[.agg #[.slice a r.xs.length ca,.slice b r.ys.length cb,iv r.o,iv r.p,iv r.f,iv r.m,.bool r.s,.bool r.t],iv z,.agg #[iv m,iv k,iv e]] w fun e' w'=>e'=.returned (.tuple #[.agg #[.slice a (bG r z m k e).xs.length ca,.slice b (bG r z m k e).ys.length cb,iv (bG r z m k e).o,iv (bG r z m k e).p,iv (bG r z m k e).f,iv (bG r z m k e).m,.bool (bG r z m k e).s,.bool (bG r z m k e).t],iv (bu r z m k e)])∧fP w' lo hi (bG r z m k e) a b∧Kept lo hi w w':=by
 obtain ⟨kn,rfl⟩:∃kn:Nat,k=(kn:Int):=⟨k.toNat,by omega⟩
 have HR:=aaA hr;have h4:=hg.a4;have hl:(kn:Int)<(r.ys.length:Int):=by omega
 have HL:=aaA h4;obtain ⟨x0,x1⟩:=hg.aw kn (by omega);obtain ⟨y0,y1⟩:=Vo z (kn:Int);clear h4;obtain ⟨s1,s2,s3⟩:=hr;rcases s2 with ⟨_,ee⟩|⟨g,rfl,b0,b1,hown⟩
 ·rw [ee] at hl;simp at hl;omega
 ·have c3:w.cell? ⟨g,kn,none⟩=some (iv (el r.ys kn)):=(hown kn (by omega)).1;have f3:=(hown kn (by omega)).2;have b9:g<w.heap.size:=by omega
  have b2:g<w.heap.size+1:=by omega
  have b3:g<w.heap.size+1+1:=by omega
  clear hown s1 s3;have KX:=aaA (ah (ah (kept_alloc w (.cells #[.slice a r.xs.length ca,.slice (some (aaB g 0)) r.ys.length cb,iv r.o,iv r.p,iv r.f,iv r.m,.bool r.s,.bool r.t] 35)) (.cells #[iv m,iv (kn:Int),iv e] 46)) (.cells #[.slice none 0 0,.slice none 0 0,iv 0,iv 0,iv 0,iv 0,.bool false,.bool false] 35));rcases hm with rfl|rfl|rfl|rfl|rfl
  ·have E:Hid (bG r z 2 (kn:Int) e=r):=aaA (by simp [bG]);have EV:Hid (bu r z 2 (kn:Int) e=el r.ys kn):=aaA (by simp [bu]);go_enter func204,ntmps204;go_wp2_with fail;refine bodyPost_ret (v:=.tuple #[.agg #[.slice a r.xs.length ca,.slice (some (aaB g 0)) r.ys.length cb,iv r.o,iv r.p,iv r.f,iv r.m,.bool r.s,.bool r.t],iv (el r.ys kn)]) ?_ rfl ?_
   ·rw [results_cell_tmp rfl];go_simp
   ·rw [E.o,EV.o];exact ⟨rfl,HR.o.kept (ah (ah (kept_alloc _ _) _) _) (by omega),(ah (ah (kept_alloc _ _) _) _).any⟩
  ·have E:Hid (bG r z 3 (kn:Int) e={r with ys:=r.ys.set kn ((el r.ys kn+byN z kn)%65536)}):=aaA (by simp [bG]);have EV:Hid (bu r z 3 (kn:Int) e=el r.ys kn):=aaA (by simp [bu]);have hb:=fM (el r.ys kn+byN z kn);generalize hN:byN z (kn:Int)=N at y0 y1 E hb;have HN:=aaA hN;clear hN;go_enter func204,ntmps204;go_upto_region 4 with fail;obtain ⟨X,hX⟩:∃X:World,X=((w.alloc (.cells #[.slice a r.xs.length ca,.slice (some (aaB g 0)) r.ys.length cb,iv r.o,iv r.p,iv r.f,iv r.m,.bool r.s,.bool r.t] 35)).alloc (.cells #[iv 3,iv (kn:Int),iv e] 46)).alloc (.cells #[.slice none 0 0,.slice none 0 0,iv 0,iv 0,iv 0,iv 0,.bool false,.bool false] 35):=⟨_,rfl⟩
   have KY:Hid (Kept 0 0 w X):=aaA (by rw [hX];exact ah (ah (kept_alloc _ _) _) _);have B0:Hid (Blk X w.heap.size #[.slice a r.xs.length ca,.slice (some (aaB g 0)) r.ys.length cb,iv r.o,iv r.p,iv r.f,iv r.m,.bool r.s,.bool r.t] 35):=aaA (by rw [hX];exact ((Blk.new w _ _).alloc _).alloc _);have Q0:Hid (Blk X (w.heap.size+1) #[iv 3,iv (kn:Int),iv e] 46):=aaA (by rw [hX];have:=(Blk.new (w.alloc (.cells #[.slice a r.xs.length ca,.slice (some (aaB g 0)) r.ys.length cb,iv r.o,iv r.p,iv r.f,iv r.m,.bool r.s,.bool r.t] 35)) #[iv 3,iv (kn:Int),iv e] 46).alloc (.cells #[.slice none 0 0,.slice none 0 0,iv 0,iv 0,iv 0,iv 0,.bool false,.bool false] 35);simpa only [World.size_alloc] using this);have R0:Hid (Blk X (w.heap.size+1+1) #[.slice none 0 0,.slice none 0 0,iv 0,iv 0,iv 0,iv 0,.bool false,.bool false] 35):=aaA (by rw [hX];have:=Blk.new ((w.alloc (.cells #[.slice a r.xs.length ca,.slice (some (aaB g 0)) r.ys.length cb,iv r.o,iv r.p,iv r.f,iv r.m,.bool r.s,.bool r.t] 35)).alloc (.cells #[iv 3,iv (kn:Int),iv e] 46)) #[.slice none 0 0,.slice none 0 0,iv 0,iv 0,iv 0,iv 0,.bool false,.bool false] 35;simpa only [World.size_alloc] using this);rw [<-hX];have d3:X.cell? ⟨g,kn,none⟩=some (iv (el r.ys kn)):=by rw [hX];go_simp
   have g3:X.frozen? ⟨g,kn,none⟩=false:=by rw [hX];go_simp
   clear hX c3 f3 KX;have t0:=B0.o.cell (i:=1) rfl;have t1:=Q0.o.cell (i:=1) rfl;have hw64:IntKind.i64.wrap (el r.ys kn+N)=el r.ys kn+N:=w64 (by omega) (by omega);go_region_with (first|(go_at_call 243;refine (Ij _ _ _).mono ?_;rw [HN.o];rintro e w' ⟨rfl,hw⟩;have hw2:=hw.symm;clear hw;subst hw2)|fail)
   all_goals
    obtain ⟨Y,hY⟩:∃Y:World,Y=(X.setCell ⟨g,kn,none⟩ (iv ((el r.ys kn+N)%65536))).drew:=⟨_,rfl⟩
    rw [<-hY]
    have A3:fP Y lo hi {r with ys:=r.ys.set kn ((el r.ys kn+N)%65536)} a (some (aaB g 0)):=by
     rw [hY];exact ((HR.o.kept (KY.o) (by omega)).uU (k:=kn) ((el r.ys kn+N)%65536) (by have:=HL.o;omega)).kept (ai (Kept.refl 0 0 _)) (by omega)
    have K3:Kept lo hi w Y:=by
     rw [hY];exact ai (af KY.o.any _ _ _ (.inl ⟨b0,b1⟩))
    have B1:Hid (Blk Y w.heap.size #[.slice a r.xs.length ca,.slice (some (aaB g 0)) r.ys.length cb,iv r.o,iv r.p,iv r.f,iv r.m,.bool r.s,.bool r.t] 35):=aaA (by rw [hY];exact B0.o.other _ _ _ (by omega));have R1:Hid (Blk Y (w.heap.size+1+1) #[.slice none 0 0,.slice none 0 0,iv 0,iv 0,iv 0,iv 0,.bool false,.bool false] 35):=aaA (by rw [hY];exact R0.o.other _ _ _ (by omega));have nR:=R1.o.lt;clear hY d3 g3 t0 t1 hb hw64;have mm0:=B1.o.all;have nn0:=R1.o.all;have nnf0:=R1.o.fz;go_wp2_with fail;refine bodyPost_ret (v:=.tuple #[.agg #[.slice a r.xs.length ca,.slice (some (aaB g 0)) r.ys.length cb,iv r.o,iv r.p,iv r.f,iv r.m,.bool r.s,.bool r.t],iv (el r.ys kn)]) ?_ rfl ?_
    ·rw [results_cell_tmp rfl];go_simp
    ·rw [E.o,EV.o];refine ⟨?_,((((((((A3.set _ _ _ (.inl (by omega))).set _ _ _ (.inl (by omega))).set _ _ _ (.inl (by omega))).set _ _ _ (.inl (by omega))).set _ _ _ (.inl (by omega))).set _ _ _ (.inl (by omega))).set _ _ _ (.inl (by omega))).set _ _ _ (.inl (by omega))),(af (af (af (af (af (af (af (af K3 _ _ _ (.inr (by omega))) _ _ _ (.inr (by omega))) _ _ _ (.inr (by omega))) _ _ _ (.inr (by omega))) _ _ _ (.inr (by omega))) _ _ _ (.inr (by omega))) _ _ _ (.inr (by omega))) _ _ _ (.inr (by omega)))⟩;simp
  ·have E:Hid (bG r z 4 (kn:Int) e={r with ys:=r.ys.set kn ((el r.ys kn-byN z kn)%65536)}):=aaA (by simp [bG]);have EV:Hid (bu r z 4 (kn:Int) e=(el r.ys kn-byN z kn)%65536):=aaA (by simp [bu]);have hb:=fM (el r.ys kn-byN z kn);generalize hN:byN z (kn:Int)=N at y0 y1 E EV hb;have HN:=aaA hN;clear hN;go_enter func204,ntmps204;go_wp2_with (go_at_call 243;refine (Ij _ _ _).mono ?_;rw [HN.o];rintro e w' ⟨rfl,hw⟩;have hw2:=hw.symm;clear hw;subst hw2);refine bodyPost_ret (v:=.tuple #[.agg #[.slice a r.xs.length ca,.slice (some (aaB g 0)) r.ys.length cb,iv r.o,iv r.p,iv r.f,iv r.m,.bool r.s,.bool r.t],iv ((el r.ys kn-N)%65536)]) ?_ rfl ?_
   ·rw [results_cell_tmp rfl];go_simp
   ·rw [E.o,EV.o];refine ⟨?_,(HR.o.uU (k:=kn) _ (by have:=HL.o;omega)).kept (ah (ah (kept_alloc _ _) _) _) (by omega),(af (Kept.refl _ _ _) _ _ _ (.inl ⟨b0,b1⟩)).trans (ah (ah (kept_alloc _ _) _) _).any⟩;simp
  ·have E:Hid (bG r z 5 (kn:Int) e=r):=aaA (by simp [bG]);have EV:Hid (bu r z 5 (kn:Int) e=(el r.ys kn+e)%65536):=aaA (by simp [bu]);have hb:=fM (el r.ys kn+e);go_enter func204,ntmps204;go_wp2_with fail;refine bodyPost_ret (v:=.tuple #[.agg #[.slice a r.xs.length ca,.slice (some (aaB g 0)) r.ys.length cb,iv r.o,iv r.p,iv r.f,iv r.m,.bool r.s,.bool r.t],iv ((el r.ys kn+e)%65536)]) ?_ rfl ?_
   ·rw [results_cell_tmp rfl];go_simp
   ·rw [E.o,EV.o];exact ⟨rfl,HR.o.kept (ah (ah (kept_alloc _ _) _) _) (by omega),(ah (ah (kept_alloc _ _) _) _).any⟩
  ·have E:Hid (bG r z 6 (kn:Int) e=r):=aaA (by simp [bG]);have EV:Hid (bu r z 6 (kn:Int) e=e):=aaA (by simp [bu]);go_enter func204,ntmps204;go_wp2_with fail;refine bodyPost_ret (v:=.tuple #[.agg #[.slice a r.xs.length ca,.slice (some (aaB g 0)) r.ys.length cb,iv r.o,iv r.p,iv r.f,iv r.m,.bool r.s,.bool r.t],iv e]) ?_ rfl ?_
   ·rw [results_cell_tmp rfl];go_simp
   ·rw [E.o,EV.o];exact ⟨rfl,HR.o.kept (ah (ah (kept_alloc _ _) _) _) (by omega),(ah (ah (kept_alloc _ _) _) _).any⟩
theorem F9 (w : World) (ga oa gb ob : Nat) (ca cb m : Nat) (xs ys : List Int) (ha : aG w (some ⟨ga, oa, none⟩) xs) (hb : aG w (some ⟨gb, ob, none⟩) ys) (lx : xs.length <= 2000000) (ly : ys.length = 5 * m) (bm : m <= 2000000) (x0 : 0 < xs.length) (m0 : 0 < m) :
    Calls prog 130 #[.agg #[.slice (some ⟨ga, oa, none⟩) xs.length ca, .slice (some ⟨gb, ob, none⟩) m cb]] w fun e w' => ∃ (g1 c1 g2 c2 : Nat), e = .returned (.agg #[.slice (some ⟨g1, 0, none⟩) xs.length c1, .slice (some ⟨g2, 0, none⟩) m c2]) ∧ w'.ownsRow w.heap.size 3 1 (.slice (some ⟨g1, 0, none⟩) xs.length c1) xs.length (xs.map (Value.int .i64)) ∧ w'.ownsRow w.heap.size 179 5 (.slice (some ⟨g2, 0, none⟩) m c2) m (ys.map (Value.int .i64)) ∧ g1 < g2 ∧ Kept 0 0 w w' := by
  obtain ⟨i, hi, hz0, hz1, hz2⟩ := info_parts Tryz.info3;obtain ⟨j, hj, hy0, hy1, hy2⟩ := info_parts Tryz.jU;have HY := aaA ly;have HA := aaA ha;have HB := aaA hb;have K0 := aaA (ah (kept_alloc w (.cells #[.slice (some ⟨ga, oa, none⟩) xs.length ca, .slice (some ⟨gb, ob, none⟩) m cb] 38)) (.cells #[.slice none 0 0, .slice none 0 0] 38));have B0 := aaA ((Blk.new w #[.slice (some ⟨ga, oa, none⟩) xs.length ca, .slice (some ⟨gb, ob, none⟩) m cb] 38).alloc (.cells #[.slice none 0 0, .slice none 0 0] 38));have B1 := Blk.new (w.alloc (.cells #[.slice (some ⟨ga, oa, none⟩) xs.length ca, .slice (some ⟨gb, ob, none⟩) m cb] 38)) #[.slice none 0 0, .slice none 0 0] 38;simp only [World.size_alloc] at B1;replace B1 := aaA B1;have hn5 : (ys.map (Value.int .i64)).length = m * 5 := by rw [List.length_map, ly]; omega
  have hmx : 0 + m <= maxLen := by unfold maxLen; omega
  have hby : (0 + m) * 40 <= 140737488355328 := by omega
  have HX1 : Hid ((xs.map (Value.int .i64)).length = xs.length * 1) := aaA (by simp);have HXM : Hid (0 + xs.length <= maxLen) := aaA (by unfold maxLen; omega);have HXB : Hid ((0 + xs.length) * 8 <= 140737488355328) := aaA (by omega);have H5 : Hid (0 < 5) := aaA (by decide);have HN5 := aaA hn5;have HMX := aaA hmx;have HBY := aaA hby
  clear ly ha hb hn5 hmx hby
  go_enter func130, ntmps130;go_wp2_with fail
  go_region_law (first
    | (refine step_append_grows rfl (.tmp 3) (.tmp 5) 22 rfl 3 i (iv 0) 1 8 underlying22 hi hz0 hz1 hz2 rfl Nat.one_pos _ 0 0 [] rfl ?n1 rfl ?n2 ⟨ga, oa, none⟩ xs.length ca (xs.map (Value.int .i64)) rfl HX1.o ?news iF ?n3 HXM.o HXB.o ?_
       (case n1 => intro h; cases h)
       (case n2 => intro b _ j u h; simp at h)
       (case n3 => omega)
       (case news => first | exact iL (HA.o.ag (ai (ah K0.o _))) | exact iL (HA.o.ag (ai (ah (ah K0.o _) _))))
       intro v1 w1 own1 gr1;obtain ⟨g1, c1, rfl, b1, l1⟩ := qU own1 (by omega);have k1 := aK (bf gr1);have O1 := aaA (own_base (base' := w.heap.size) own1 (by simp <;> omega));have B01 : Hid (Blk w1 w.heap.size #[.slice (some ⟨ga, oa, none⟩) xs.length ca, .slice (some ⟨gb, ob, none⟩) m cb] 38) := by first | exact aaA (((B0.o.alloc _).ae k1)) | exact aaA ((((B0.o.alloc _).alloc _).ae k1))
       have B11 : Hid (Blk w1 (w.heap.size + 1) #[.slice none 0 0, .slice none 0 0] 38) := by first | exact aaA (((B1.o.alloc _).ae k1)) | exact aaA ((((B1.o.alloc _).alloc _).ae k1))
       have K1 : Hid (Kept 0 0 w w1) := by first | exact aaA ((ah K0.o _).trans k1) | exact aaA ((ah (ah K0.o _) _).trans k1)
       have q1 := B01.o.cell (i := 1) rfl;have q2 : ∀ o, (w1.alloc o).cell? ⟨w.heap.size, 1, none⟩ = some (.slice (some ⟨gb, ob, none⟩) m cb) := fun o => (B01.o.alloc o).cell (i := 1) rfl;simp at b1
       clear own1 gr1 k1)
    | (refine step_append_grows rfl (.tmp 7) (.tmp 9) 36 rfl 179 j (.agg #[iv 0, iv 0, iv 0, iv 0, iv 0]) 5 40 underlying36 hj hy0 hy1 hy2 rfl H5.o _ 0 0 [] rfl ?n1 rfl ?n2 ⟨gb, ob, none⟩ m cb (ys.map (Value.int .i64)) rfl HN5.o ?news iF ?n3 HMX.o HBY.o ?_
       (case n1 => intro h; cases h)
       (case n2 => intro b _ j u h; simp at h)
       (case n3 => omega)
       (case news => first | exact iL (HB.o.ag K1.o) | exact iL (HB.o.ag (ah K1.o _)))
       intro v2 w2 FC gr2;obtain ⟨g2, c2, rfl, b2, l2⟩ := qU FC (by omega);have k2 := bf gr2;have O2 := aaA (own_base (base' := w.heap.size) FC (by have := K1.o.size; simp <;> omega));have B12 : Hid (Blk w2 (w.heap.size + 1) #[.slice none 0 0, .slice none 0 0] 38) := by first | exact aaA (B11.o.ae k2) | exact aaA ((B11.o.alloc _).ae k2)
       have K2 : Hid (Kept 0 0 w w2) := by first | exact aaA (K1.o.trans k2) | exact aaA ((ah K1.o _).trans k2)
       have O12 : Hid (w2.ownsRow w.heap.size 3 1 (.slice (some ⟨g1, 0, none⟩) (0 + xs.length) c1) (0 + xs.length) ([] ++ xs.map (Value.int .i64))) := by first | exact aaA (O1.o.kept gr2 (.inr (fun h => by cases h))) | exact aaA ((O1.o.alloc _).kept gr2 (.inr (fun h => by cases h)))
       have r0 := B12.o.cell (i := 0) rfl;have r1 := B12.o.cell (i := 1) rfl;have f0 := B12.o.frozen 0;have f1 := B12.o.frozen 1
       clear FC gr2 k2))
  all_goals
    try simp only [World.size_alloc] at b2
    go_wp2_with fail;refine bodyPost_ret (v := .agg #[.slice (some ⟨g1, 0, none⟩) xs.length c1, .slice (some ⟨g2, 0, none⟩) m c2]) ?_ rfl ⟨g1, c1, g2, c2, rfl, ?_, ?_, by omega, ?_⟩
    · rw [aj rfl]; go_simp
    · have h := O12.o
      simp only [Nat.zero_add, List.nil_append] at h;exact ((h.kept (grownBy_set _ _ _ _) (.inr (fun e => by have h2 : g1 = w.heap.size + 1 := Option.some.inj e; omega))).kept (grownBy_set _ _ _ _) (.inr (fun e => by have h2 : g1 = w.heap.size + 1 := Option.some.inj e; omega)))
    · have h := O2.o
      simp only [Nat.zero_add, List.nil_append] at h;exact ((h.kept (grownBy_set _ _ _ _) (.inr (fun e => by have h2 : g2 = w.heap.size + 1 := Option.some.inj e; omega))).kept (grownBy_set _ _ _ _) (.inr (fun e => by have h2 : g2 = w.heap.size + 1 := Option.some.inj e; omega)))
    · exact af (af K2.o _ _ _ (.inr (by omega))) _ _ _ (.inr (by omega))
structure FrP (P:Nat->Prop) (w w':World):Prop where
 os:w'.os=w.os
 tape:w'.tape=w.tape
 output:w'.output=w.output
 size:w.heap.size<=w'.heap.size
 block:∀k,k<w.heap.size->¬P k->w'.heap[k]? = w.heap[k]?
theorem FrP.refl (P:Nat->Prop) (w:World):FrP P w w:=⟨rfl,rfl,rfl,Nat.le_refl _,fun _ _ _=>rfl⟩
theorem FrP.trans {P:Nat->Prop} {a b c:World} (h:FrP P a b) (k:FrP P b c):FrP P a c:=
 ⟨k.os.trans h.os,k.tape.trans h.tape,k.output.trans h.output,Nat.le_trans h.size k.size,fun i hi hn=>(k.block i (Nat.lt_of_lt_of_le hi h.size) hn).trans (h.block i hi hn)⟩
theorem FrP.wide {P Q:Nat->Prop} {a b:World} (h:FrP P a b) (hq:∀k,k<a.heap.size->P k->Q k):FrP Q a b:=
 ⟨h.os,h.tape,h.output,h.size,fun k hk hn=>h.block k hk (fun hp=>hn (hq k hk hp))⟩
theorem jX {P:Nat->Prop} {lo hi:Nat} {w w':World} (h:Kept lo hi w w') (hp:∀k,lo<=k->k<hi->P k):FrP P w w':=
 ⟨h.os,h.tape,h.output,h.size,fun k hk hn=>h.block k hk (fun q=>hn (hp k q.1 q.2))⟩
theorem FrP.alloc {P:Nat->Prop} {a w:World} (h:FrP P a w) (o:Obj):FrP P a (w.alloc o):=h.trans (jX (kept_alloc w o) (by omega))
theorem FrP.drew {P:Nat->Prop} {a w:World} (h:FrP P a w):FrP P a w.drew:=⟨h.os,h.tape,h.output,h.size,h.block⟩
theorem FrP.grown {P:Nat->Prop} {a w w':World} {row:Option Nat} (h:FrP P a w) (hg:w.grownBy w' row) (hr:∀g,row=some g->P g):FrP P a w':=
 h.trans ⟨hg.os,hg.tape,hg.output,hg.size,fun k hk hn=>hg.block k hk (fun e=>hn (hr k e.symm))⟩
theorem FrP.set {P:Nat->Prop} {a w:World} (h:FrP P a w) (b i:Nat) (v:Value) (hb:P b∨a.heap.size<=b):FrP P a (w.setCell ⟨b,i,none⟩ v):=
 ⟨h.os,h.tape,h.output,Nat.le_trans h.size (by simp),fun k hk hn=>(Below.heap_setCell w ⟨b,i,none⟩ v k (fun e=>by
  have e2:k=b:=e;subst e2;rcases hb with hb|hb
  ·exact hn hb
  ·omega)).trans (h.block k hk hn)⟩
theorem FrP.blk {P:Nat->Prop} {w w':World} (h:FrP P w w') {b:Nat} {cs:Array Value} {ty:TypeId} (hB:Blk w b cs ty) (hn:¬P b):Blk w' b cs ty:=(h.block b hB.lt hn).trans hB
theorem FrP.own {P:Nat->Prop} {w w':World} (h:FrP P w w') {b:Nat} {xs:List Int} (hB:Own w b xs) (hn:¬P b):Own w' b xs:=by
 intro i hi;obtain ⟨hc,hf⟩:=hB i hi;have e:=h.block b (World.block_lt_of_cell? _ _ hc) hn;exact ⟨by rw [World.cell?_of_block (w:=w) e];exact hc,by rw [World.frozen?_of_block (w:=w) e];exact hf⟩
def own (lo hi g k:Nat):Prop:=(lo<=k∧k<hi)∨k=g
def Since (w:World) (lo hi g:Nat) (w':World) (g':Nat):Prop:=(g'=g∨w.heap.size<=g')∧FrP (own lo hi g) w w'
theorem Since.refl (w:World) (lo hi g:Nat):Since w lo hi g w g:=⟨.inl rfl,FrP.refl _ _⟩
theorem Since.size {w w':World} {lo hi g g':Nat} (h:Since w lo hi g w' g'):w.heap.size<=w'.heap.size:=h.2.size
theorem Since.trans {w a b:World} {lo hi g ga gb:Nat} (h:Since w lo hi g a ga) (k:Since a lo hi ga b gb):Since w lo hi g b gb:=by
 refine ⟨?_,?_⟩
 ·have:=h.2.size
  rcases k.1 with e|e
  ·rcases h.1 with e2|e2
   ·exact .inl (e.trans e2)
   ·exact .inr (by omega)
  ·exact .inr (by omega)
 ·refine ⟨k.2.os.trans h.2.os,k.2.tape.trans h.2.tape,k.2.output.trans h.2.output,Nat.le_trans h.2.size k.2.size,fun i hi hn=>(k.2.block i (Nat.lt_of_lt_of_le hi h.2.size) (fun q=>hn ?_)).trans (h.2.block i hi hn)⟩;rcases q with q|q
  ·exact .inl q
  ·rcases h.1 with e|e
   ·exact .inr (by omega)
   ·omega
theorem Since.alloc {w a:World} {lo hi g g':Nat} (h:Since w lo hi g a g') (o:Obj):Since w lo hi g (a.alloc o) g':=⟨h.1,h.2.alloc o⟩
theorem Since.drew {w a:World} {lo hi g g':Nat} (h:Since w lo hi g a g'):Since w lo hi g a.drew g':=⟨h.1,h.2.drew⟩
theorem Since.set {w a:World} {lo hi g g':Nat} (h:Since w lo hi g a g') (b i:Nat) (v:Value) (hb:(lo<=b∧b<hi)∨w.heap.size<=b):Since w lo hi g (a.setCell ⟨b,i,none⟩ v) g':=
 ⟨h.1,h.2.set b i v (by rcases hb with q|q;exact .inl (.inl q);exact .inr q)⟩
theorem Since.ag {w a b:World} {lo hi x y g g':Nat} (h:Since w lo hi g a g') (k:Kept x y a b) (hx:lo<=x) (hy:y<=hi):Since w lo hi g b g':=⟨h.1,h.2.trans (jX k (fun i h1 h2=>.inl (by omega)))⟩
theorem Since.any {w a b:World} {lo hi g g':Nat} (h:Since w lo hi g a g') (k:Kept 0 0 a b):Since w lo hi g b g':=⟨h.1,h.2.trans (jX k (by omega))⟩
theorem Since.blk {w w':World} {lo hi g g':Nat} (h:Since w lo hi g w' g') {b:Nat} {cs:Array Value} {ty:TypeId} (hB:Blk w b cs ty) (hb:hi<=b) (hn:b≠g):Blk w' b cs ty:=h.2.blk hB (by unfold own;omega)
theorem Since.ne {w w':World} {lo hi g g':Nat} (h:Since w lo hi g w' g') {b:Nat} (hb:b<w.heap.size) (hn:b≠g):b≠g':=by rcases h.1 with e|e<;>omega
theorem Pl.iw {m:Nat} {k s a C:Int} (hC:C=Pl.code k s a) {b1 b2 b3:Bool} (h1:decide ((m:Int)<400)=b1) (h2:(k != 3)=b2) (h3:(C != 0)=b3):Pl.logs m k s a=(b1&&(b2||b3)):=by
 have e:decide (m<400)=decide ((m:Int)<400):=by rw [Bool.eq_iff_iff];simp;omega
 unfold Pl.logs;rw [<-hC,h2,h3,e,h1]
theorem Pz (w:World) (p base g1 g2:Nat) (d0 d1 d2 d3 d4 d5 d6 d7 d10 d11 d12 d13 d14 d15:Value) (xs ys:List Int) (c1 m c2:Nat) (k s a C:Int) (hP:Blk w p #[d0,d1,d2,d3,d4,d5,d6,d7,.slice (some (aaB g1 0)) 512 c1,.slice (some (aaB g2 0)) m c2,d10,d11,d12,d13,d14,d15] 143) (h1:Own w g1 xs) (lx:xs.length=512) (hby:aY xs=true)
  (hO:w.ownsRow base 179 5 (.slice (some (aaB g2 0)) m c2) m (ys.map (Value.int .i64))) (hp:base<=p) (hg:base<=g1) (n1:p≠g1) (n2:p≠g2) (n3:g1≠g2) (bm:m<=400) (HC:Hid (C=Pl.code k s a)) (hc:(C==0)=false) (hs1:1<=s) (hs2:s<=2) (a0:0<=a) (a1:a<=65535) (hk:(k != 2)=true) :
  Calls prog 235 #[.pointer (some (aaB p 8)),iv k,iv s,iv a,iv 0] w fun e w'=>∃g3 c3:Nat,e=.returned (.tuple #[iv (Pl.lv xs k s a 0),iv (Pl.code k s a)])∧
   Blk w' p #[d0,d1,d2,d3,d4,d5,d6,d7,.slice (some (aaB g1 0)) 512 c1,.slice (some (aaB g3 0)) (nm m k s a) c3,d10,d11,d12,d13,d14,d15] 143∧Own w' g1 (Pl.nb xs k s a 0)∧w'.ownsRow base 179 5 (.slice (some (aaB g3 0)) (nm m k s a) c3) (nm m k s a) ((nl xs ys m k s a 0).map (Value.int .i64))∧(g3=g2∨w.heap.size<=g3)∧FrP (fun k=>k=p∨k=g1∨k=g2) w w':=by
 obtain ⟨i,hi0,hz0,hz1,hz2⟩:=info_parts Tryz.jU;have hcode:¬Pl.code k s a=0:=by rw [<-HC.o];simpa using hc
 have E1:Hid (xs=Pl.nb xs k s a 0):=aaA (by unfold Pl.nb;rw [if_neg (fun h=>hcode h.1)]);have E2:Hid (0=Pl.lv xs k s a 0):=aaA (by unfold Pl.lv;rw [if_neg (fun h=>hcode h.1)]);clear hcode;have PX:=aaA hP;have EX:=aaA h1;have OX:=aaA hO;have KX:=aaA (FrP.refl (fun k=>k=p∨k=g1∨k=g2) w);have wM:=lx;have t0:=hP.cell (i:=8) rfl;have t1:=hP.cell (i:=9) rfl;clear hP h1 hO lx hby
 have g4:(C != 0)=true:=by simpa using hc
 cases gm:decide ((m:Int)<400)
 ·cases g3:(k != 3)
  ·have HL:Hid (Pl.logs m k s a=false):=aaA (iw HC.o gm g3 g4);have hnm:Hid (nm m k s a=m):=aaA (by unfold nm;rw [HL.o];rfl);have hnl:Hid (nl xs ys m k s a 0=ys):=aaA (by unfold nl;rw [HL.o];rfl);go_enter func235,ntmps235;go_wp2_with (go_at_call 266;refine st (ny k s a _ hs1 hs2 a0 a1) ?_;rw [<-HC.o]);go_ret2;exact ⟨g2,c2,rII E2.o HC.o,by rw [hnm.o];exact PX.o,by rw [<-E1.o];exact EX.o,by rw [hnm.o,hnl.o];exact OX.o,.inl rfl,KX.o⟩
  ·have HL:Hid (Pl.logs m k s a=false):=aaA (iw HC.o gm g3 g4);have hnm:Hid (nm m k s a=m):=aaA (by unfold nm;rw [HL.o];rfl);have hnl:Hid (nl xs ys m k s a 0=ys):=aaA (by unfold nl;rw [HL.o];rfl);go_enter func235,ntmps235;go_wp2_with (go_at_call 266;refine st (ny k s a _ hs1 hs2 a0 a1) ?_;rw [<-HC.o]);go_ret2;exact ⟨g2,c2,rII E2.o HC.o,by rw [hnm.o];exact PX.o,by rw [<-E1.o];exact EX.o,by rw [hnm.o,hnl.o];exact OX.o,.inl rfl,KX.o⟩
 ·cases g3:(k != 3)
  ·have HL:Hid (Pl.logs m k s a=true):=aaA (iw HC.o gm g3 g4);have H63:Hid (m+1<=maxLen):=aaA (by unfold maxLen;simp at gm;omega);have HBT:Hid ((m+1)*40<=140737488355328):=aaA (by simp at gm;omega);have hnm:Hid (nm m k s a=m+1):=aaA (by unfold nm;rw [HL.o];rfl);have hnl:Hid (nl xs ys m k s a 0=ys++([k,s,(a:Int),0,C]:List Int)):=aaA (by unfold nl;rw [HL.o,<-HC.o,<-E2.o];rfl);go_enter func235,ntmps235;go_wp2_with (first|(go_at_call 266;refine st (ny k s a _ hs1 hs2 a0 a1) ?_;rw [<-HC.o])|(at_builtin;refine wpList_append_lies _ rfl _ _ _ rfl base 179 i _ 5 40 underlying36 hi0 hz0 hz1 hz2 rfl (by omega) (.slice (some (aaB g2 0)) m c2) m (ys.map (Value.int .i64)) rfl (OX.o.alloc _) (aaB w.heap.size 0) 1 1 [iv k,iv s,iv a,iv 0,iv C] rfl rfl (World.news_of_block (cs:=#[iv k,iv s,iv a,iv 0,iv C]) (t:=179) (fr:=(0,0)) (heap_alloc_new w _)) (by simp [Value.oneCell']) (by omega) H63.o HBT.o (by have:=PX.o.lt;simp;omega) (w.heap.size+1) (by simp) ?_));intro g3 c3 w1 hown1 hgrow hat hlt;have lp:=PX.o.lt;have lg:=EX.o.lt (by rw [wM];decide);obtain ⟨lg2,lg3⟩:=OX.o.lt g2 rfl;have P1:Hid (Blk w1 p #[d0,d1,d2,d3,d4,d5,d6,d7,.slice (some (aaB g1 0)) 512 c1,.slice (some (aaB g2 0)) m c2,d10,d11,d12,d13,d14,d15] 143):=aaA ((hgrow.block p (by simp;omega) (by simp [Value.ownBlock];omega)).trans (PX.o.alloc _));have G1:Hid (Own w1 g1 xs):=aaA ((EX.o.ag (kept_alloc _ _) (by omega)).kept hgrow (by simp [Value.ownBlock];omega));have y0:=P1.o.cell (i:=8) rfl;have y1:=P1.o.cell (i:=9) rfl;have f1:=P1.o.frozen 9;have O1:=aaA hown1;have K1:Hid (FrP (fun k=>k=p∨k=g1∨k=g2) w w1):=aaA ((KX.o.alloc _).grown hgrow (by intro g hg;have h2:g2=g:=Option.some.inj hg;exact .inr (.inr h2.symm)));have hsz:=KX.o.size
   have hat2:g2=g3∨g3=w.heap.size+1:=by
    rcases hat with h|h
    ·exact .inl (Option.some.inj h)
    ·exact .inr h
   clear hown1 hgrow hat;go_wp2_with fail;go_ret2;refine ⟨g3,c3,rII E2.o HC.o,by rw [hnm.o];exact P1.o.set 9 _,by rw [<-E1.o];exact G1.o.setOther _ _ _ (by omega),?_,by omega,K1.o.set _ _ _ (.inl (.inl rfl))⟩;rw [hnl.o,hnm.o,List.map_append];exact O1.o.kept (grownBy_set _ _ _ _) (.inr (fun e=>by have h3:g3=p:=Option.some.inj e;omega))
  ·have HL:Hid (Pl.logs m k s a=true):=aaA (iw HC.o gm g3 g4);have H63:Hid (m+1<=maxLen):=aaA (by unfold maxLen;simp at gm;omega);have HBT:Hid ((m+1)*40<=140737488355328):=aaA (by simp at gm;omega);have hnm:Hid (nm m k s a=m+1):=aaA (by unfold nm;rw [HL.o];rfl);have hnl:Hid (nl xs ys m k s a 0=ys++([k,s,(a:Int),0,C]:List Int)):=aaA (by unfold nl;rw [HL.o,<-HC.o,<-E2.o];rfl);go_enter func235,ntmps235;go_wp2_with (first|(go_at_call 266;refine st (ny k s a _ hs1 hs2 a0 a1) ?_;rw [<-HC.o])|(at_builtin;refine wpList_append_lies _ rfl _ _ _ rfl base 179 i _ 5 40 underlying36 hi0 hz0 hz1 hz2 rfl (by omega) (.slice (some (aaB g2 0)) m c2) m (ys.map (Value.int .i64)) rfl (OX.o.alloc _) (aaB w.heap.size 0) 1 1 [iv k,iv s,iv a,iv 0,iv C] rfl rfl (World.news_of_block (cs:=#[iv k,iv s,iv a,iv 0,iv C]) (t:=179) (fr:=(0,0)) (heap_alloc_new w _)) (by simp [Value.oneCell']) (by omega) H63.o HBT.o (by have:=PX.o.lt;simp;omega) (w.heap.size+1) (by simp) ?_));intro g3 c3 w1 hown1 hgrow hat hlt;have lp:=PX.o.lt;have lg:=EX.o.lt (by rw [wM];decide);obtain ⟨lg2,lg3⟩:=OX.o.lt g2 rfl;have P1:Hid (Blk w1 p #[d0,d1,d2,d3,d4,d5,d6,d7,.slice (some (aaB g1 0)) 512 c1,.slice (some (aaB g2 0)) m c2,d10,d11,d12,d13,d14,d15] 143):=aaA ((hgrow.block p (by simp;omega) (by simp [Value.ownBlock];omega)).trans (PX.o.alloc _));have G1:Hid (Own w1 g1 xs):=aaA ((EX.o.ag (kept_alloc _ _) (by omega)).kept hgrow (by simp [Value.ownBlock];omega));have y0:=P1.o.cell (i:=8) rfl;have y1:=P1.o.cell (i:=9) rfl;have f1:=P1.o.frozen 9;have O1:=aaA hown1;have K1:Hid (FrP (fun k=>k=p∨k=g1∨k=g2) w w1):=aaA ((KX.o.alloc _).grown hgrow (by intro g hg;have h2:g2=g:=Option.some.inj hg;exact .inr (.inr h2.symm)));have hsz:=KX.o.size
   have hat2:g2=g3∨g3=w.heap.size+1:=by
    rcases hat with h|h
    ·exact .inl (Option.some.inj h)
    ·exact .inr h
   clear hown1 hgrow hat;go_wp2_with fail;go_ret2;refine ⟨g3,c3,rII E2.o HC.o,by rw [hnm.o];exact P1.o.set 9 _,by rw [<-E1.o];exact G1.o.setOther _ _ _ (by omega),?_,by omega,K1.o.set _ _ _ (.inl (.inl rfl))⟩;rw [hnl.o,hnm.o,List.map_append];exact O1.o.kept (grownBy_set _ _ _ _) (.inr (fun e=>by have h3:g3=p:=Option.some.inj e;omega))
theorem Py (w:World) (p base g1 g2:Nat) (d0 d1 d2 d3 d4 d5 d6 d7 d10 d11 d12 d13 d14 d15:Value) (xs ys:List Int) (c1 m c2:Nat) (s a v C:Int) (hP:Blk w p #[d0,d1,d2,d3,d4,d5,d6,d7,.slice (some (aaB g1 0)) 512 c1,.slice (some (aaB g2 0)) m c2,d10,d11,d12,d13,d14,d15] 143) (h1:Own w g1 xs) (lx:xs.length=512) (hby:aY xs=true)
  (hO:w.ownsRow base 179 5 (.slice (some (aaB g2 0)) m c2) m (ys.map (Value.int .i64))) (hp:base<=p) (hg:base<=g1) (n1:p≠g1) (n2:p≠g2) (n3:g1≠g2) (bm:m<=400) (HC:Hid (C=Pl.code 2 s a)) (hc:(C==0)=false) (hs1:1<=s) (hs2:s<=2) (a0:0<=a) (a1:a<=65535) :
  Calls prog 235 #[.pointer (some (aaB p 8)),iv 2,iv s,iv a,iv v] w fun e w'=>∃g3 c3:Nat,e=.returned (.tuple #[iv (Pl.lv xs 2 s a v),iv (Pl.code 2 s a)])∧
   Blk w' p #[d0,d1,d2,d3,d4,d5,d6,d7,.slice (some (aaB g1 0)) 512 c1,.slice (some (aaB g3 0)) (nm m 2 s a) c3,d10,d11,d12,d13,d14,d15] 143∧Own w' g1 (Pl.nb xs 2 s a v)∧w'.ownsRow base 179 5 (.slice (some (aaB g3 0)) (nm m 2 s a) c3) (nm m 2 s a) ((nl xs ys m 2 s a v).map (Value.int .i64))∧(g3=g2∨w.heap.size<=g3)∧FrP (fun k=>k=p∨k=g1∨k=g2) w w':=by
 obtain ⟨i,hi0,hz0,hz1,hz2⟩:=info_parts Tryz.jU;have hcode:¬Pl.code 2 s a=0:=by rw [<-HC.o];simpa using hc
 have E1:Hid (xs=Pl.nb xs 2 s a v):=aaA (by unfold Pl.nb;rw [if_neg (fun h=>hcode h.1)]);have E2:Hid (v=Pl.lv xs 2 s a v):=aaA (by unfold Pl.lv;rw [if_neg (fun h=>hcode h.1)]);clear hcode;have PX:=aaA hP;have EX:=aaA h1;have OX:=aaA hO;have KX:=aaA (FrP.refl (fun k=>k=p∨k=g1∨k=g2) w);have wM:=lx;have t0:=hP.cell (i:=8) rfl;have t1:=hP.cell (i:=9) rfl;clear hP h1 hO lx hby
 have g4:(C != 0)=true:=by simpa using hc
 cases gm:decide ((m:Int)<400)
 ·have HL:Hid (Pl.logs m 2 s a=false):=aaA (iw HC.o gm rfl g4);have hnm:Hid (nm m 2 s a=m):=aaA (by unfold nm;rw [HL.o];rfl);have hnl:Hid (nl xs ys m 2 s a v=ys):=aaA (by unfold nl;rw [HL.o];rfl);go_enter func235,ntmps235;go_wp2_with (go_at_call 266;refine st (ny 2 s a _ hs1 hs2 a0 a1) ?_;rw [<-HC.o]);go_ret2;exact ⟨g2,c2,rII E2.o HC.o,by rw [hnm.o];exact PX.o,by rw [<-E1.o];exact EX.o,by rw [hnm.o,hnl.o];exact OX.o,.inl rfl,KX.o⟩
 ·have HL:Hid (Pl.logs m 2 s a=true):=aaA (iw HC.o gm rfl g4);have H63:Hid (m+1<=maxLen):=aaA (by unfold maxLen;simp at gm;omega);have HBT:Hid ((m+1)*40<=140737488355328):=aaA (by simp at gm;omega);have hnm:Hid (nm m 2 s a=m+1):=aaA (by unfold nm;rw [HL.o];rfl);have hnl:Hid (nl xs ys m 2 s a v=ys++([2,s,(a:Int),v,C]:List Int)):=aaA (by unfold nl;rw [HL.o,<-HC.o,<-E2.o];rfl);go_enter func235,ntmps235;go_wp2_with (first|(go_at_call 266;refine st (ny 2 s a _ hs1 hs2 a0 a1) ?_;rw [<-HC.o])|(at_builtin;refine wpList_append_lies _ rfl _ _ _ rfl base 179 i _ 5 40 underlying36 hi0 hz0 hz1 hz2 rfl (by omega) (.slice (some (aaB g2 0)) m c2) m (ys.map (Value.int .i64)) rfl (OX.o.alloc _) (aaB w.heap.size 0) 1 1 [iv 2,iv s,iv a,iv v,iv C] rfl rfl (World.news_of_block (cs:=#[iv 2,iv s,iv a,iv v,iv C]) (t:=179) (fr:=(0,0)) (heap_alloc_new w _)) (by simp [Value.oneCell']) (by omega) H63.o HBT.o (by have:=PX.o.lt;simp;omega) (w.heap.size+1) (by simp) ?_));intro g3 c3 w1 hown1 hgrow hat hlt;have lp:=PX.o.lt;have lg:=EX.o.lt (by rw [wM];decide);obtain ⟨lg2,lg3⟩:=OX.o.lt g2 rfl;have P1:Hid (Blk w1 p #[d0,d1,d2,d3,d4,d5,d6,d7,.slice (some (aaB g1 0)) 512 c1,.slice (some (aaB g2 0)) m c2,d10,d11,d12,d13,d14,d15] 143):=aaA ((hgrow.block p (by simp;omega) (by simp [Value.ownBlock];omega)).trans (PX.o.alloc _));have G1:Hid (Own w1 g1 xs):=aaA ((EX.o.ag (kept_alloc _ _) (by omega)).kept hgrow (by simp [Value.ownBlock];omega));have y0:=P1.o.cell (i:=8) rfl;have y1:=P1.o.cell (i:=9) rfl;have f1:=P1.o.frozen 9;have O1:=aaA hown1;have K1:Hid (FrP (fun k=>k=p∨k=g1∨k=g2) w w1):=aaA ((KX.o.alloc _).grown hgrow (by intro g hg;have h2:g2=g:=Option.some.inj hg;exact .inr (.inr h2.symm)));have hsz:=KX.o.size
  have hat2:g2=g3∨g3=w.heap.size+1:=by
   rcases hat with h|h
   ·exact .inl (Option.some.inj h)
   ·exact .inr h
  clear hown1 hgrow hat;go_wp2_with fail;go_ret2;refine ⟨g3,c3,rII E2.o HC.o,by rw [hnm.o];exact P1.o.set 9 _,by rw [<-E1.o];exact G1.o.setOther _ _ _ (by omega),?_,by omega,K1.o.set _ _ _ (.inl (.inl rfl))⟩;rw [hnl.o,hnm.o,List.map_append];exact O1.o.kept (grownBy_set _ _ _ _) (.inr (fun e=>by have h3:g3=p:=Option.some.inj e;omega))
theorem Px (w:World) (p base g1 g2:Nat) (d0 d1 d2 d3 d4 d5 d6 d7 d10 d11 d12 d13 d14 d15:Value) (xs ys:List Int) (c1 m c2:Nat) (n:Nat) (v:Int) (hP:Blk w p #[d0,d1,d2,d3,d4,d5,d6,d7,.slice (some (aaB g1 0)) 512 c1,.slice (some (aaB g2 0)) m c2,d10,d11,d12,d13,d14,d15] 143) (h1:Own w g1 xs) (lx:xs.length=512) (hby:aY xs=true)
  (hO:w.ownsRow base 179 5 (.slice (some (aaB g2 0)) m c2) m (ys.map (Value.int .i64))) (hp:base<=p) (hg:base<=g1) (n1:p≠g1) (n2:p≠g2) (n3:g1≠g2) (bm:m<=400) (HC:Hid (0=Pl.code 2 1 n)) (hn:n+1<=512) (v0:0<=v) (v1:v<=255) :
  Calls prog 235 #[.pointer (some (aaB p 8)),iv 2,iv 1,iv n,iv v] w fun e w'=>∃g3 c3:Nat,e=.returned (.tuple #[iv (Pl.lv xs 2 1 n v),iv (Pl.code 2 1 n)])∧
   Blk w' p #[d0,d1,d2,d3,d4,d5,d6,d7,.slice (some (aaB g1 0)) 512 c1,.slice (some (aaB g3 0)) (nm m 2 1 n) c3,d10,d11,d12,d13,d14,d15] 143∧Own w' g1 (Pl.nb xs 2 1 n v)∧w'.ownsRow base 179 5 (.slice (some (aaB g3 0)) (nm m 2 1 n) c3) (nm m 2 1 n) ((nl xs ys m 2 1 n v).map (Value.int .i64))∧(g3=g2∨w.heap.size<=g3)∧FrP (fun k=>k=p∨k=g1∨k=g2) w w':=by
 obtain ⟨i,hi0,hz0,hz1,hz2⟩:=info_parts Tryz.jU;have E1:Hid (xs.set n v=Pl.nb xs 2 1 n v):=aaA (by unfold Pl.nb;rw [if_pos ⟨HC.o.symm,rfl⟩];rfl);have E2:Hid (v=Pl.lv xs 2 1 n v):=aaA (by unfold Pl.lv;rw [if_neg (by simp)]);have t0:=hP.cell (i:=8) rfl;have t1:=hP.cell (i:=9) rfl;have i0:(0:Int)<=(n:Int):=by omega
 have i1:(n:Int)<512:=by omega
 have e255:bits .and .i64 v 255=v:=by rw [gX];omega
 obtain ⟨c0,f0⟩:=h1 n (by omega);go_enter func235,ntmps235;go_wp2_with (go_at_call 266;refine st (ny 2 1 n _ (by omega) (by omega) (by omega) (by omega)) ?_;rw [<-HC.o]);go_loopw [13,14] (fun x j wr=>x=iv v∧((j=iv 0∧wr=w)∨(j=iv 1∧Blk wr p #[d0,d1,d2,d3,d4,d5,d6,d7,.slice (some (aaB g1 0)) 512 c1,.slice (some (aaB g2 0)) m c2,d10,d11,d12,d13,d14,d15] 143∧Own wr g1 (xs.set n v)∧wr.ownsRow base 179 5 (.slice (some (aaB g2 0)) m c2) m (ys.map (Value.int .i64))∧Kept g1 (g1+1) w wr))) (fun _ j _=>(3-intOf j).toNat)
 case atStart=>exact ⟨rfl,.inl ⟨rfl,rfl⟩⟩
 case round=>
  obtain ⟨rfl,hrel⟩:=hrel;rcases hrel with ⟨rfl,hw⟩|⟨rfl,hp1,ho1,hr1,hk1⟩
  ·have hw2:=hw.symm;clear hw;subst hw2;go_wp2;go_roundw
   case rel=>exact ⟨rfl,.inr ⟨by go_num,hP.other _ _ _ n1,h1.uT _,hO.kept (grownBy_set _ _ _ _) (.inr (fun e=>by have h3:g2=g1:=Option.some.inj e;omega)),af (Kept.refl _ _ _) _ _ _ (.inl (by omega))⟩⟩
   case measure=>simp [intOf]
  ·clear t0 t1 c0 f0;have PX:=aaA hp1;have EX:=aaA ho1;have OX:=aaA hr1;have lg:=h1.lt (by rw [lx];decide);have KX:Hid (FrP (fun k=>k=p∨k=g1∨k=g2) w wr):=aaA (jX hk1 (fun i h1 h2=>.inr (.inl (by omega))));have wM:(xs.set n v).length=512:=by simp [lx]
   have t0:=hp1.cell (i:=8) rfl;have t1:=hp1.cell (i:=9) rfl;clear hp1 ho1 hr1 hk1 hP h1 hO lg;cases gm:decide ((m:Int)<400)
   ·have HL:Hid (Pl.logs m 2 1 n=false):=aaA (iw HC.o gm rfl rfl);have hnm:Hid (nm m 2 1 n=m):=aaA (by unfold nm;rw [HL.o];rfl);have hnl:Hid (nl xs ys m 2 1 n v=ys):=aaA (by unfold nl;rw [HL.o];rfl);skip;go_wp2_with fail;go_ret2;exact ⟨g2,c2,rII E2.o HC.o,by rw [hnm.o];exact PX.o,by rw [<-E1.o];exact EX.o,by rw [hnm.o,hnl.o];exact OX.o,.inl rfl,KX.o⟩
   ·have HL:Hid (Pl.logs m 2 1 n=true):=aaA (iw HC.o gm rfl rfl);have H63:Hid (m+1<=maxLen):=aaA (by unfold maxLen;simp at gm;omega);have HBT:Hid ((m+1)*40<=140737488355328):=aaA (by simp at gm;omega);have hnm:Hid (nm m 2 1 n=m+1):=aaA (by unfold nm;rw [HL.o];rfl);have hnl:Hid (nl xs ys m 2 1 n v=ys++([2,1,(n:Int),v,0]:List Int)):=aaA (by unfold nl;rw [HL.o,<-HC.o,<-E2.o];rfl);skip;go_wp2_with (first|(at_builtin;refine wpList_append_lies _ rfl _ _ _ rfl base 179 i _ 5 40 underlying36 hi0 hz0 hz1 hz2 rfl (by omega) (.slice (some (aaB g2 0)) m c2) m (ys.map (Value.int .i64)) rfl (OX.o.alloc _) (aaB wr.heap.size 0) 1 1 [iv 2,iv 1,iv n,iv v,iv 0] rfl rfl (World.news_of_block (cs:=#[iv 2,iv 1,iv n,iv v,iv 0]) (t:=179) (fr:=(0,0)) (heap_alloc_new wr _)) (by simp [Value.oneCell']) (by omega) H63.o HBT.o (by have:=PX.o.lt;simp;omega) (wr.heap.size+1) (by simp) ?_));intro g3 c3 w1 hown1 hgrow hat hlt;have lp:=PX.o.lt;have lg:=EX.o.lt (by rw [wM];decide);obtain ⟨lg2,lg3⟩:=OX.o.lt g2 rfl;have P1:Hid (Blk w1 p #[d0,d1,d2,d3,d4,d5,d6,d7,.slice (some (aaB g1 0)) 512 c1,.slice (some (aaB g2 0)) m c2,d10,d11,d12,d13,d14,d15] 143):=aaA ((hgrow.block p (by simp;omega) (by simp [Value.ownBlock];omega)).trans (PX.o.alloc _));have G1:Hid (Own w1 g1 (xs.set n v)):=aaA ((EX.o.ag (kept_alloc _ _) (by omega)).kept hgrow (by simp [Value.ownBlock];omega));have y0:=P1.o.cell (i:=8) rfl;have y1:=P1.o.cell (i:=9) rfl;have f1:=P1.o.frozen 9;have O1:=aaA hown1;have K1:Hid (FrP (fun k=>k=p∨k=g1∨k=g2) w w1):=aaA ((KX.o.alloc _).grown hgrow (by intro g hg;have h2:g2=g:=Option.some.inj hg;exact .inr (.inr h2.symm)));have hsz:=KX.o.size
    have hat2:g2=g3∨g3=wr.heap.size+1:=by
     rcases hat with h|h
     ·exact .inl (Option.some.inj h)
     ·exact .inr h
    clear hown1 hgrow hat;go_wp2_with fail;go_ret2;refine ⟨g3,c3,rII E2.o HC.o,by rw [hnm.o];exact P1.o.set 9 _,by rw [<-E1.o];exact G1.o.setOther _ _ _ (by omega),?_,by omega,K1.o.set _ _ _ (.inl (.inl rfl))⟩;rw [hnl.o,hnm.o,List.map_append];exact O1.o.kept (grownBy_set _ _ _ _) (.inr (fun e=>by have h3:g3=p:=Option.some.inj e;omega))
theorem Pv (w:World) (p base g1 g2:Nat) (d0 d1 d2 d3 d4 d5 d6 d7 d10 d11 d12 d13 d14 d15:Value) (xs ys:List Int) (c1 m c2:Nat) (n:Nat) (v:Int) (hP:Blk w p #[d0,d1,d2,d3,d4,d5,d6,d7,.slice (some (aaB g1 0)) 512 c1,.slice (some (aaB g2 0)) m c2,d10,d11,d12,d13,d14,d15] 143) (h1:Own w g1 xs) (lx:xs.length=512) (hby:aY xs=true)
  (hO:w.ownsRow base 179 5 (.slice (some (aaB g2 0)) m c2) m (ys.map (Value.int .i64))) (hp:base<=p) (hg:base<=g1) (n1:p≠g1) (n2:p≠g2) (n3:g1≠g2) (bm:m<=400) (HC:Hid (0=Pl.code 2 2 n)) (hn:n+2<=512) (v0:0<=v) (v1:v<=65535) :
  Calls prog 235 #[.pointer (some (aaB p 8)),iv 2,iv 2,iv n,iv v] w fun e w'=>∃g3 c3:Nat,e=.returned (.tuple #[iv (Pl.lv xs 2 2 n v),iv (Pl.code 2 2 n)])∧
   Blk w' p #[d0,d1,d2,d3,d4,d5,d6,d7,.slice (some (aaB g1 0)) 512 c1,.slice (some (aaB g3 0)) (nm m 2 2 n) c3,d10,d11,d12,d13,d14,d15] 143∧Own w' g1 (Pl.nb xs 2 2 n v)∧w'.ownsRow base 179 5 (.slice (some (aaB g3 0)) (nm m 2 2 n) c3) (nm m 2 2 n) ((nl xs ys m 2 2 n v).map (Value.int .i64))∧(g3=g2∨w.heap.size<=g3)∧FrP (fun k=>k=p∨k=g1∨k=g2) w w':=by
 obtain ⟨i,hi0,hz0,hz1,hz2⟩:=info_parts Tryz.jU;have E1:Hid ((xs.set n (v/256)).set (n+1) (v%256)=Pl.nb xs 2 2 n v):=aaA (by unfold Pl.nb;rw [if_pos ⟨HC.o.symm,rfl⟩];rfl);have E2:Hid (v=Pl.lv xs 2 2 n v):=aaA (by unfold Pl.lv;rw [if_neg (by simp)]);have t0:=hP.cell (i:=8) rfl;have t1:=hP.cell (i:=9) rfl;have i0:(0:Int)<=(n:Int):=by omega
 have i1:(n:Int)<512:=by omega
 have e255:=gX v;have e256:bits .and .i64 (v/256) 255=v/256:=by rw [gX];omega
 have i2:(0:Int)<=(n:Int)+1:=by omega
 have i3:(n:Int)+1<512:=by omega
 obtain ⟨c0,f0⟩:=h1 n (by omega);go_enter func235,ntmps235;go_wp2_with (go_at_call 266;refine st (ny 2 2 n _ (by omega) (by omega) (by omega) (by omega)) ?_;rw [<-HC.o]);go_loopw [13,14] (fun x j wr=>x=iv v∧((j=iv 0∧wr=w)∨(j=iv 1∧Blk wr p #[d0,d1,d2,d3,d4,d5,d6,d7,.slice (some (aaB g1 0)) 512 c1,.slice (some (aaB g2 0)) m c2,d10,d11,d12,d13,d14,d15] 143∧Own wr g1 (xs.set n (v/256))∧wr.ownsRow base 179 5 (.slice (some (aaB g2 0)) m c2) m (ys.map (Value.int .i64))∧Kept g1 (g1+1) w wr)∨(j=iv 2∧Blk wr p #[d0,d1,d2,d3,d4,d5,d6,d7,.slice (some (aaB g1 0)) 512 c1,.slice (some (aaB g2 0)) m c2,d10,d11,d12,d13,d14,d15] 143∧Own wr g1 ((xs.set n (v/256)).set (n+1) (v%256))∧wr.ownsRow base 179 5 (.slice (some (aaB g2 0)) m c2) m (ys.map (Value.int .i64))∧Kept g1 (g1+1) w wr))) (fun _ j _=>(3-intOf j).toNat)
 case atStart=>exact ⟨rfl,.inl ⟨rfl,rfl⟩⟩
 case round=>
  obtain ⟨rfl,hrel⟩:=hrel;rcases hrel with ⟨rfl,hw⟩|⟨rfl,hp1,ho1,hr1,hk1⟩|⟨rfl,hp1,ho1,hr1,hk1⟩
  ·have hw2:=hw.symm;clear hw;subst hw2;go_wp2;go_roundw
   case rel=>exact ⟨rfl,.inr (.inl ⟨by go_num,hP.other _ _ _ n1,h1.uT _,hO.kept (grownBy_set _ _ _ _) (.inr (fun e=>by have h3:g2=g1:=Option.some.inj e;omega)),af (Kept.refl _ _ _) _ _ _ (.inl (by omega))⟩)⟩
   case measure=>simp [intOf]
  ·obtain ⟨c1',f1'⟩:=ho1 (n+1) (by rw [List.length_set];omega);have P1:=aaA hp1;have O1:=aaA ho1;have R1:=aaA hr1;have K1:=aaA hk1;have s0:=hp1.cell (i:=8) rfl;have s1:=hp1.cell (i:=9) rfl;clear hp1 ho1 hr1 hk1 c0 f0 t0 t1;go_wp2;go_roundw
   case rel=>exact ⟨rfl,.inr (.inr ⟨by go_num,P1.o.other _ _ _ n1,O1.o.uT _,R1.o.kept (grownBy_set _ _ _ _) (.inr (fun e=>by have h3:g2=g1:=Option.some.inj e;omega)),af K1.o _ _ _ (.inl (by omega))⟩)⟩
   case measure=>simp [intOf]
  ·clear t0 t1 c0 f0;have PX:=aaA hp1;have EX:=aaA ho1;have OX:=aaA hr1;have lg:=h1.lt (by rw [lx];decide);have KX:Hid (FrP (fun k=>k=p∨k=g1∨k=g2) w wr):=aaA (jX hk1 (fun i h1 h2=>.inr (.inl (by omega))));have wM:((xs.set n (v/256)).set (n+1) (v%256)).length=512:=by simp [lx]
   have t0:=hp1.cell (i:=8) rfl;have t1:=hp1.cell (i:=9) rfl;clear hp1 ho1 hr1 hk1 hP h1 hO lg;cases gm:decide ((m:Int)<400)
   ·have HL:Hid (Pl.logs m 2 2 n=false):=aaA (iw HC.o gm rfl rfl);have hnm:Hid (nm m 2 2 n=m):=aaA (by unfold nm;rw [HL.o];rfl);have hnl:Hid (nl xs ys m 2 2 n v=ys):=aaA (by unfold nl;rw [HL.o];rfl);skip;go_wp2_with fail;go_ret2;exact ⟨g2,c2,rII E2.o HC.o,by rw [hnm.o];exact PX.o,by rw [<-E1.o];exact EX.o,by rw [hnm.o,hnl.o];exact OX.o,.inl rfl,KX.o⟩
   ·have HL:Hid (Pl.logs m 2 2 n=true):=aaA (iw HC.o gm rfl rfl);have H63:Hid (m+1<=maxLen):=aaA (by unfold maxLen;simp at gm;omega);have HBT:Hid ((m+1)*40<=140737488355328):=aaA (by simp at gm;omega);have hnm:Hid (nm m 2 2 n=m+1):=aaA (by unfold nm;rw [HL.o];rfl);have hnl:Hid (nl xs ys m 2 2 n v=ys++([2,2,(n:Int),v,0]:List Int)):=aaA (by unfold nl;rw [HL.o,<-HC.o,<-E2.o];rfl);skip;go_wp2_with (first|(at_builtin;refine wpList_append_lies _ rfl _ _ _ rfl base 179 i _ 5 40 underlying36 hi0 hz0 hz1 hz2 rfl (by omega) (.slice (some (aaB g2 0)) m c2) m (ys.map (Value.int .i64)) rfl (OX.o.alloc _) (aaB wr.heap.size 0) 1 1 [iv 2,iv 2,iv n,iv v,iv 0] rfl rfl (World.news_of_block (cs:=#[iv 2,iv 2,iv n,iv v,iv 0]) (t:=179) (fr:=(0,0)) (heap_alloc_new wr _)) (by simp [Value.oneCell']) (by omega) H63.o HBT.o (by have:=PX.o.lt;simp;omega) (wr.heap.size+1) (by simp) ?_));intro g3 c3 w1 hown1 hgrow hat hlt;have lp:=PX.o.lt;have lg:=EX.o.lt (by rw [wM];decide);obtain ⟨lg2,lg3⟩:=OX.o.lt g2 rfl;have P1:Hid (Blk w1 p #[d0,d1,d2,d3,d4,d5,d6,d7,.slice (some (aaB g1 0)) 512 c1,.slice (some (aaB g2 0)) m c2,d10,d11,d12,d13,d14,d15] 143):=aaA ((hgrow.block p (by simp;omega) (by simp [Value.ownBlock];omega)).trans (PX.o.alloc _));have G1:Hid (Own w1 g1 ((xs.set n (v/256)).set (n+1) (v%256))):=aaA ((EX.o.ag (kept_alloc _ _) (by omega)).kept hgrow (by simp [Value.ownBlock];omega));have y0:=P1.o.cell (i:=8) rfl;have y1:=P1.o.cell (i:=9) rfl;have f1:=P1.o.frozen 9;have O1:=aaA hown1;have K1:Hid (FrP (fun k=>k=p∨k=g1∨k=g2) w w1):=aaA ((KX.o.alloc _).grown hgrow (by intro g hg;have h2:g2=g:=Option.some.inj hg;exact .inr (.inr h2.symm)));have hsz:=KX.o.size
    have hat2:g2=g3∨g3=wr.heap.size+1:=by
     rcases hat with h|h
     ·exact .inl (Option.some.inj h)
     ·exact .inr h
    clear hown1 hgrow hat;go_wp2_with fail;go_ret2;refine ⟨g3,c3,rII E2.o HC.o,by rw [hnm.o];exact P1.o.set 9 _,by rw [<-E1.o];exact G1.o.setOther _ _ _ (by omega),?_,by omega,K1.o.set _ _ _ (.inl (.inl rfl))⟩;rw [hnl.o,hnm.o,List.map_append];exact O1.o.kept (grownBy_set _ _ _ _) (.inr (fun e=>by have h3:g3=p:=Option.some.inj e;omega))
theorem Uh (w:World) (p base g1 g2:Nat) (d0 d1 d2 d3 d4 d5 d6 d7 d10 d11 d12 d13 d14 d15:Value) (xs ys:List Int) (c1 m c2:Nat) (k:Int) (s n:Nat) (hP:Blk w p #[d0,d1,d2,d3,d4,d5,d6,d7,.slice (some (aaB g1 0)) 512 c1,.slice (some (aaB g2 0)) m c2,d10,d11,d12,d13,d14,d15] 143) (h1:Own w g1 xs) (lx:xs.length=512) (hby:aY xs=true)
  (hO:w.ownsRow base 179 5 (.slice (some (aaB g2 0)) m c2) m (ys.map (Value.int .i64))) (hp:base<=p) (hg:base<=g1) (n1:p≠g1) (n2:p≠g2) (n3:g1≠g2) (bm:m<=400) (HC:Hid (0=Pl.code k s n)) (hk:(k != 2)=true) (hs1:1<=s) (hs2:s<=2) (hn:n+s<=512) :
  Calls prog 235 #[.pointer (some (aaB p 8)),iv k,iv s,iv n,iv 0] w fun e w'=>∃g3 c3:Nat,e=.returned (.tuple #[iv (Pl.lv xs k s n 0),iv (Pl.code k s n)])∧
   Blk w' p #[d0,d1,d2,d3,d4,d5,d6,d7,.slice (some (aaB g1 0)) 512 c1,.slice (some (aaB g3 0)) (nm m k s n) c3,d10,d11,d12,d13,d14,d15] 143∧Own w' g1 (Pl.nb xs k s n 0)∧w'.ownsRow base 179 5 (.slice (some (aaB g3 0)) (nm m k s n) c3) (nm m k s n) ((nl xs ys m k s n 0).map (Value.int .i64))∧(g3=g2∨w.heap.size<=g3)∧FrP (fun k=>k=p∨k=g1∨k=g2) w w':=by
 obtain ⟨i,hi0,hz0,hz1,hz2⟩:=info_parts Tryz.jU;have hk2:¬k=2:=by simpa using hk
 have E1:Hid (xs=Pl.nb xs k s n 0):=aaA (by unfold Pl.nb;rw [if_neg (fun h=>hk2 h.2)]);have E2:Hid (Pl.rd xs s n=Pl.lv xs k s n 0):=aaA (by unfold Pl.lv;rw [if_pos ⟨HC.o.symm,hk2⟩];rfl);have hkeq:(k==2)=false:=by simpa using hk2
 have PX:=aaA hP;have EX:=aaA h1;have OX:=aaA hO;have KX:=aaA (FrP.refl (fun k=>k=p∨k=g1∨k=g2) w);have wM:=lx;have HBY:=aaA hby
 have t0:=hP.cell (i:=8) rfl;have t1:=hP.cell (i:=9) rfl;clear hP h1 hO hby hk2;go_enter func235,ntmps235;go_wp2_with (go_at_call 266;refine st (ny k s n _ (by omega) (by omega) (by omega) (by omega)) ?_;rw [<-HC.o]);go_loopw [13,14] (fun x j wr=>∃q:Nat,q<=s∧j=iv q∧x=iv (rdK xs n q)∧wr=w) (fun _ j _=>s-(intOf j).toNat)
 case atStart=>exact ⟨0,Nat.zero_le _,rfl,rfl,rfl⟩
 case round=>
  obtain ⟨q,hq,rfl,rfl,hw⟩:=hrel;have hw2:=hw.symm;clear hw;subst hw2;by_cases hlt:q<s
  ·obtain ⟨hc,_⟩:=EX.o (n+q) (by omega);have b0:=dE HBY.o n (by omega);have b1:=dE HBY.o (n+q) (by omega);rw [show xs[n+q]?.getD 0=el xs (n+q) from rfl] at hc;obtain ⟨b00,b01⟩:=b0;obtain ⟨b10,b11⟩:=b1;have i0:(0:Int)<=(n:Int)+(q:Int):=by omega
   have i1:(n:Int)+(q:Int)<512:=by omega
   have i2:((n:Int)+(q:Int)).toNat=n+q:=by omega
   by_cases hk0:q=0
   ·subst hk0;have hor:=um (h:=0) (by decide) (by decide) b10 b11;rw [Int.zero_mul,Int.zero_add] at hor;rw [Nat.add_zero] at hc hor b10 b11;rw [show rdK xs n 0=0 from rfl];go_wp2;go_roundw
    case rel=>exact ⟨1,by omega,rfl,rfl,trivial⟩
    case measure=>simp [intOf];omega
   ·obtain rfl:q=1:=by omega
    have hor:=um b00 b01 b10 b11;rw [show rdK xs n 1=el xs n from rfl];go_wp2;go_roundw
    case rel=>exact ⟨2,by omega,rfl,rfl,trivial⟩
    case measure=>simp [intOf];omega
  ·have E:Hid (rdK xs n q=Pl.rd xs s n):=aaA (by
    have:q=1∨q=2:=by omega
    unfold rdK Pl.rd;rcases this with rfl|rfl
    ·rw [if_neg (by decide),if_pos rfl,if_pos (by omega)]
    ·rw [if_neg (by decide),if_neg (by decide),if_neg (by omega)])
   rw [E.o];clear E;cases gm:decide ((m:Int)<400)
   ·cases g3:(k != 3)
    ·have HL:Hid (Pl.logs m k s n=false):=aaA (iw HC.o gm g3 rfl);have hnm:Hid (nm m k s n=m):=aaA (by unfold nm;rw [HL.o];rfl);have hnl:Hid (nl xs ys m k s n 0=ys):=aaA (by unfold nl;rw [HL.o];rfl);skip;go_wp2_with fail;go_ret2;exact ⟨g2,c2,rII E2.o HC.o,by rw [hnm.o];exact PX.o,by rw [<-E1.o];exact EX.o,by rw [hnm.o,hnl.o];exact OX.o,.inl rfl,KX.o⟩
    ·have HL:Hid (Pl.logs m k s n=false):=aaA (iw HC.o gm g3 rfl);have hnm:Hid (nm m k s n=m):=aaA (by unfold nm;rw [HL.o];rfl);have hnl:Hid (nl xs ys m k s n 0=ys):=aaA (by unfold nl;rw [HL.o];rfl);skip;go_wp2_with fail;go_ret2;exact ⟨g2,c2,rII E2.o HC.o,by rw [hnm.o];exact PX.o,by rw [<-E1.o];exact EX.o,by rw [hnm.o,hnl.o];exact OX.o,.inl rfl,KX.o⟩
   ·cases g3:(k != 3)
    ·have HL:Hid (Pl.logs m k s n=false):=aaA (iw HC.o gm g3 rfl);have hnm:Hid (nm m k s n=m):=aaA (by unfold nm;rw [HL.o];rfl);have hnl:Hid (nl xs ys m k s n 0=ys):=aaA (by unfold nl;rw [HL.o];rfl);skip;go_wp2_with fail;go_ret2;exact ⟨g2,c2,rII E2.o HC.o,by rw [hnm.o];exact PX.o,by rw [<-E1.o];exact EX.o,by rw [hnm.o,hnl.o];exact OX.o,.inl rfl,KX.o⟩
    ·have HL:Hid (Pl.logs m k s n=true):=aaA (iw HC.o gm g3 rfl);have H63:Hid (m+1<=maxLen):=aaA (by unfold maxLen;simp at gm;omega);have HBT:Hid ((m+1)*40<=140737488355328):=aaA (by simp at gm;omega);have hnm:Hid (nm m k s n=m+1):=aaA (by unfold nm;rw [HL.o];rfl);have hnl:Hid (nl xs ys m k s n 0=ys++([k,s,(n:Int),(Pl.rd xs s n),0]:List Int)):=aaA (by unfold nl;rw [HL.o,<-HC.o,<-E2.o];rfl);skip;go_wp2_with (first|(at_builtin;refine wpList_append_lies _ rfl _ _ _ rfl base 179 i _ 5 40 underlying36 hi0 hz0 hz1 hz2 rfl (by omega) (.slice (some (aaB g2 0)) m c2) m (ys.map (Value.int .i64)) rfl (OX.o.alloc _) (aaB w.heap.size 0) 1 1 [iv k,iv s,iv n,iv (Pl.rd xs s n),iv 0] rfl rfl (World.news_of_block (cs:=#[iv k,iv s,iv n,iv (Pl.rd xs s n),iv 0]) (t:=179) (fr:=(0,0)) (heap_alloc_new w _)) (by simp [Value.oneCell']) (by omega) H63.o HBT.o (by have:=PX.o.lt;simp;omega) (w.heap.size+1) (by simp) ?_));intro g3 c3 w1 hown1 hgrow hat hlt;have lp:=PX.o.lt;have lg:=EX.o.lt (by rw [wM];decide);obtain ⟨lg2,lg3⟩:=OX.o.lt g2 rfl;have P1:Hid (Blk w1 p #[d0,d1,d2,d3,d4,d5,d6,d7,.slice (some (aaB g1 0)) 512 c1,.slice (some (aaB g2 0)) m c2,d10,d11,d12,d13,d14,d15] 143):=aaA ((hgrow.block p (by simp;omega) (by simp [Value.ownBlock];omega)).trans (PX.o.alloc _));have G1:Hid (Own w1 g1 (xs)):=aaA ((EX.o.ag (kept_alloc _ _) (by omega)).kept hgrow (by simp [Value.ownBlock];omega));have y0:=P1.o.cell (i:=8) rfl;have y1:=P1.o.cell (i:=9) rfl;have f1:=P1.o.frozen 9;have O1:=aaA hown1;have K1:Hid (FrP (fun k=>k=p∨k=g1∨k=g2) w w1):=aaA ((KX.o.alloc _).grown hgrow (by intro g hg;have h2:g2=g:=Option.some.inj hg;exact .inr (.inr h2.symm)));have hsz:=KX.o.size
     have hat2:g2=g3∨g3=w.heap.size+1:=by
      rcases hat with h|h
      ·exact .inl (Option.some.inj h)
      ·exact .inr h
     clear hown1 hgrow hat;go_wp2_with fail;go_ret2;refine ⟨g3,c3,rII E2.o HC.o,by rw [hnm.o];exact P1.o.set 9 _,by rw [<-E1.o];exact G1.o.setOther _ _ _ (by omega),?_,by omega,K1.o.set _ _ _ (.inl (.inl rfl))⟩;rw [hnl.o,hnm.o,List.map_append];exact O1.o.kept (grownBy_set _ _ _ _) (.inr (fun e=>by have h3:g3=p:=Option.some.inj e;omega))
end Go.Proofs.YtgikibaajanjiaaGreatDoor
