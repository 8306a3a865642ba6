/- Part 3 of what the last text leans on. -/
import Derived.Test.YtkkmnnhaailkcaaGreatDoorJA2
import Derived.Deep.RegionWith
set_option maxRecDepth 100000
set_option maxHeartbeats 16000000
namespace Go.Proofs.YtkkmnnhaailkcaaGreatDoor
open Go.RowKit Go.Proofs.Tryz
set_option linter.unusedVariables false
theorem Ha (z k:Int) (w:World):Calls prog 181 #[iv z,iv k] w fun e w'=>e=.returned (iv (Pl.byN z k))∧w'=w:=by
 by_cases h1:z=1
 ·subst h1
  cases h2:(k != 3)
  all_goals
   have q:Hid (k=3∨k≠3):=hide (by omega)
   go_enter func181,ntmps181
   go_wp2
   go_ret
   simp at h2
   exact ⟨rI (by simp [Pl.byN,h2]),rfl⟩
 ·have q1:(z==1)=false:=by simpa using h1
  go_enter func181,ntmps181
  go_wp2
  go_ret
  exact ⟨rI (by simp [Pl.byN,h1]),rfl⟩
theorem Uc (z k:Int):1≤Pl.byN z k∧Pl.byN z k≤2:=by unfold Pl.byN;split<;>omega
theorem Eu (w:World) (lo hi:Nat) (r:Pl.Rg) (a b:Option Addr) (ca cb:Nat) (z m k e:Int) (hr:fZ w lo hi r a b) (hh:hi≤w.heap.size) (hg:Pl.Good r) (k0:0≤k) (k1:k≤3) (e0:0≤e) (e1:e≤65535) (hm:m=2∨m=3∨m=4∨m=5∨m=6) :
  Calls prog 142 #[.agg #[.slice a r.xs.length ca,.slice b r.ys.length cb,iv r.o,iv r.p,iv r.f,iv r.m,.bool r.s,.bool r.t],iv z,.agg #[iv m,iv k,iv e]] w fun e' w'=>e'=.returned (.tuple #[.agg #[.slice a (Pl.cZ r z m k e).xs.length ca,.slice b (Pl.cZ r z m k e).ys.length cb,iv (Pl.cZ r z m k e).o,iv (Pl.cZ r z m k e).p,iv (Pl.cZ r z m k e).f,iv (Pl.cZ r z m k e).m,.bool (Pl.cZ r z m k e).s,.bool (Pl.cZ r z m k e).t],iv (Pl.bZ r z m k e)])∧fZ w' lo hi (Pl.cZ r z m k e) a b∧Kept lo hi w w':=by
 obtain ⟨kn,rfl⟩:∃kn:Nat,k=(kn:Int):=⟨k.toNat,by omega⟩
 have HR:=hide hr
 have h4:=hg.a4
 have hl:(kn:Int)<(r.ys.length:Int):=by omega
 have HL:=hide h4
 obtain ⟨x0,x1⟩:=hg.aw kn (by omega)
 obtain ⟨y0,y1⟩:=Uc z (kn:Int)
 clear h4
 obtain ⟨s1,s2,s3⟩:=hr
 rcases s2 with ⟨_,ee⟩|⟨g,rfl,b0,b1,hown⟩
 ·rw [ee] at hl;simp at hl;omega
 ·have c3:w.cell? ⟨g,kn,none⟩=some (iv (el r.ys kn)):=(hown kn (by omega)).1
  have f3:=(hown kn (by omega)).2
  have b9:g<w.heap.size:=by omega
  have b2:g<w.heap.size+1:=by omega
  have b3:g<w.heap.size+1+1:=by omega
  clear hown s1 s3
  have KX:=hide (ah (ah (kept_alloc w (.cells #[.slice a r.xs.length ca,.slice (some ⟨g,0,none⟩) r.ys.length cb,iv r.o,iv r.p,iv r.f,iv r.m,.bool r.s,.bool r.t] 31)) (.cells #[iv m,iv (kn:Int),iv e] 107)) (.cells #[.slice none 0 0,.slice none 0 0,iv 0,iv 0,iv 0,iv 0,.bool false,.bool false] 31))
  rcases hm with rfl|rfl|rfl|rfl|rfl
  ·have E:Hid (Pl.cZ r z 2 (kn:Int) e=r):=hide (by simp [Pl.cZ])
   have EV:Hid (Pl.bZ r z 2 (kn:Int) e=el r.ys kn):=hide (by simp [Pl.bZ])
   go_enter func142,ntmps142
   go_wp2_with fail
   refine bodyPost_ret (v:=.tuple #[.agg #[.slice a r.xs.length ca,.slice (some ⟨g,0,none⟩) r.ys.length cb,iv r.o,iv r.p,iv r.f,iv r.m,.bool r.s,.bool r.t],iv (el r.ys kn)]) ?_ rfl ?_
   ·rw [results_cell_tmp rfl];go_simp
   ·rw [E.o,EV.o]
    exact ⟨rfl,HR.o.kept (ah (ah (kept_alloc _ _) _) _) (by omega),(ah (ah (kept_alloc _ _) _) _).any⟩
  ·have E:Hid (Pl.cZ r z 3 (kn:Int) e={r with ys:=r.ys.set kn ((el r.ys kn+Pl.byN z kn)%65536)}):=hide (by simp [Pl.cZ])
   have EV:Hid (Pl.bZ r z 3 (kn:Int) e=el r.ys kn):=hide (by simp [Pl.bZ])
   have hb:=Pl.fU (el r.ys kn+Pl.byN z kn)
   generalize hN:Pl.byN z (kn:Int)=N at y0 y1 E hb
   have HN:=hide hN
   clear hN
   go_enter func142,ntmps142
   go_upto_region 4 with fail
   obtain ⟨X,hX⟩:∃X:World,X=((w.alloc (.cells #[.slice a r.xs.length ca,.slice (some ⟨g,0,none⟩) r.ys.length cb,iv r.o,iv r.p,iv r.f,iv r.m,.bool r.s,.bool r.t] 31)).alloc (.cells #[iv 3,iv (kn:Int),iv e] 107)).alloc (.cells #[.slice none 0 0,.slice none 0 0,iv 0,iv 0,iv 0,iv 0,.bool false,.bool false] 31):=⟨_,rfl⟩
   have KY:Hid (Kept 0 0 w X):=hide (by rw [hX];exact ah (ah (kept_alloc _ _) _) _)
   have B0:Hid (Blk X w.heap.size #[.slice a r.xs.length ca,.slice (some ⟨g,0,none⟩) r.ys.length cb,iv r.o,iv r.p,iv r.f,iv r.m,.bool r.s,.bool r.t] 31):=hide (by rw [hX];exact ((Blk.new w _ _).alloc _).alloc _)
   have Q0:Hid (Blk X (w.heap.size+1) #[iv 3,iv (kn:Int),iv e] 107):=hide (by rw [hX];have:=(Blk.new (w.alloc (.cells #[.slice a r.xs.length ca,.slice (some ⟨g,0,none⟩) r.ys.length cb,iv r.o,iv r.p,iv r.f,iv r.m,.bool r.s,.bool r.t] 31)) #[iv 3,iv (kn:Int),iv e] 107).alloc (.cells #[.slice none 0 0,.slice none 0 0,iv 0,iv 0,iv 0,iv 0,.bool false,.bool false] 31);simpa only [World.size_alloc] using this)
   have R0:Hid (Blk X (w.heap.size+1+1) #[.slice none 0 0,.slice none 0 0,iv 0,iv 0,iv 0,iv 0,.bool false,.bool false] 31):=hide (by rw [hX];have:=Blk.new ((w.alloc (.cells #[.slice a r.xs.length ca,.slice (some ⟨g,0,none⟩) r.ys.length cb,iv r.o,iv r.p,iv r.f,iv r.m,.bool r.s,.bool r.t] 31)).alloc (.cells #[iv 3,iv (kn:Int),iv e] 107)) #[.slice none 0 0,.slice none 0 0,iv 0,iv 0,iv 0,iv 0,.bool false,.bool false] 31;simpa only [World.size_alloc] using this)
   rw [←hX]
   have d3:X.cell? ⟨g,kn,none⟩=some (iv (el r.ys kn)):=by rw [hX];go_simp
   have g3:X.frozen? ⟨g,kn,none⟩=false:=by rw [hX];go_simp
   clear hX c3 f3 KX
   have t0:=B0.o.cell (i:=1) rfl
   have t1:=Q0.o.cell (i:=1) rfl
   have hw64:IntKind.i64.wrap (el r.ys kn+N)=el r.ys kn+N:=w64 (by omega) (by omega)
   go_region_with (first|(go_at_call 181;refine (Ha _ _ _).mono ?_;rw [HN.o];rintro e w' ⟨rfl,hw⟩;have hw2:=hw.symm;clear hw;subst hw2)|fail)
   all_goals
    obtain ⟨Y,hY⟩:∃Y:World,Y=(X.setCell ⟨g,kn,none⟩ (iv ((el r.ys kn+N)%65536))).drew:=⟨_,rfl⟩
    rw [←hY]
    have A3:fZ Y lo hi {r with ys:=r.ys.set kn ((el r.ys kn+N)%65536)} a (some ⟨g,0,none⟩):=by
     rw [hY]
     exact ((HR.o.kept (KY.o) (by omega)).uV (k:=kn) ((el r.ys kn+N)%65536) (by have:=HL.o;omega)).kept (ae (Kept.refl 0 0 _)) (by omega)
    have K3:Kept lo hi w Y:=by
     rw [hY]
     exact ae (ag KY.o.any _ _ _ (.inl ⟨b0,b1⟩))
    have B1:Hid (Blk Y w.heap.size #[.slice a r.xs.length ca,.slice (some ⟨g,0,none⟩) r.ys.length cb,iv r.o,iv r.p,iv r.f,iv r.m,.bool r.s,.bool r.t] 31):=hide (by rw [hY];exact B0.o.other _ _ _ (by omega))
    have R1:Hid (Blk Y (w.heap.size+1+1) #[.slice none 0 0,.slice none 0 0,iv 0,iv 0,iv 0,iv 0,.bool false,.bool false] 31):=hide (by rw [hY];exact R0.o.other _ _ _ (by omega))
    have nR:=R1.o.lt
    clear hY d3 g3 t0 t1 hb hw64
    have mm0:=B1.o.all
    have nn0:=R1.o.all
    have nnf0:=R1.o.fz
    go_wp2_with fail
    refine bodyPost_ret (v:=.tuple #[.agg #[.slice a r.xs.length ca,.slice (some ⟨g,0,none⟩) r.ys.length cb,iv r.o,iv r.p,iv r.f,iv r.m,.bool r.s,.bool r.t],iv (el r.ys kn)]) ?_ rfl ?_
    ·rw [results_cell_tmp rfl];go_simp
    ·rw [E.o,EV.o]
     refine ⟨?_,((((((((A3.set _ _ _ (.inl (by omega))).set _ _ _ (.inl (by omega))).set _ _ _ (.inl (by omega))).set _ _ _ (.inl (by omega))).set _ _ _ (.inl (by omega))).set _ _ _ (.inl (by omega))).set _ _ _ (.inl (by omega))).set _ _ _ (.inl (by omega))),(ag (ag (ag (ag (ag (ag (ag (ag K3 _ _ _ (.inr (by omega))) _ _ _ (.inr (by omega))) _ _ _ (.inr (by omega))) _ _ _ (.inr (by omega))) _ _ _ (.inr (by omega))) _ _ _ (.inr (by omega))) _ _ _ (.inr (by omega))) _ _ _ (.inr (by omega)))⟩
     simp
  ·have E:Hid (Pl.cZ r z 4 (kn:Int) e={r with ys:=r.ys.set kn ((el r.ys kn-Pl.byN z kn)%65536)}):=hide (by simp [Pl.cZ])
   have EV:Hid (Pl.bZ r z 4 (kn:Int) e=(el r.ys kn-Pl.byN z kn)%65536):=hide (by simp [Pl.bZ])
   have hb:=Pl.fU (el r.ys kn-Pl.byN z kn)
   generalize hN:Pl.byN z (kn:Int)=N at y0 y1 E EV hb
   have HN:=hide hN
   clear hN
   go_enter func142,ntmps142
   go_wp2_with (go_at_call 181;refine (Ha _ _ _).mono ?_;rw [HN.o];rintro e w' ⟨rfl,hw⟩;have hw2:=hw.symm;clear hw;subst hw2)
   refine bodyPost_ret (v:=.tuple #[.agg #[.slice a r.xs.length ca,.slice (some ⟨g,0,none⟩) r.ys.length cb,iv r.o,iv r.p,iv r.f,iv r.m,.bool r.s,.bool r.t],iv ((el r.ys kn-N)%65536)]) ?_ rfl ?_
   ·rw [results_cell_tmp rfl];go_simp
   ·rw [E.o,EV.o]
    refine ⟨?_,(HR.o.uV (k:=kn) _ (by have:=HL.o;omega)).kept (ah (ah (kept_alloc _ _) _) _) (by omega),(ag (Kept.refl _ _ _) _ _ _ (.inl ⟨b0,b1⟩)).trans (ah (ah (kept_alloc _ _) _) _).any⟩
    simp
  ·have E:Hid (Pl.cZ r z 5 (kn:Int) e=r):=hide (by simp [Pl.cZ])
   have EV:Hid (Pl.bZ r z 5 (kn:Int) e=(el r.ys kn+e)%65536):=hide (by simp [Pl.bZ])
   have hb:=Pl.fU (el r.ys kn+e)
   go_enter func142,ntmps142
   go_wp2_with fail
   refine bodyPost_ret (v:=.tuple #[.agg #[.slice a r.xs.length ca,.slice (some ⟨g,0,none⟩) r.ys.length cb,iv r.o,iv r.p,iv r.f,iv r.m,.bool r.s,.bool r.t],iv ((el r.ys kn+e)%65536)]) ?_ rfl ?_
   ·rw [results_cell_tmp rfl];go_simp
   ·rw [E.o,EV.o]
    exact ⟨rfl,HR.o.kept (ah (ah (kept_alloc _ _) _) _) (by omega),(ah (ah (kept_alloc _ _) _) _).any⟩
  ·have E:Hid (Pl.cZ r z 6 (kn:Int) e=r):=hide (by simp [Pl.cZ])
   have EV:Hid (Pl.bZ r z 6 (kn:Int) e=e):=hide (by simp [Pl.bZ])
   go_enter func142,ntmps142
   go_wp2_with fail
   refine bodyPost_ret (v:=.tuple #[.agg #[.slice a r.xs.length ca,.slice (some ⟨g,0,none⟩) r.ys.length cb,iv r.o,iv r.p,iv r.f,iv r.m,.bool r.s,.bool r.t],iv e]) ?_ rfl ?_
   ·rw [results_cell_tmp rfl];go_simp
   ·rw [E.o,EV.o]
    exact ⟨rfl,HR.o.kept (ah (ah (kept_alloc _ _) _) _) (by omega),(ah (ah (kept_alloc _ _) _) _).any⟩
end Go.Proofs.YtkkmnnhaailkcaaGreatDoor
