/- Part 3 of what the last text leans on. -/
import Derived.Test.YtkkmnnhaailkcaaGreatJE2
import Derived.Deep.AppendLies
import Derived.Test.YtkkmnnhaailkcaaGreatJE1
import Derived.Deep.RegionWith
import Derived.BigRegion
import Derived.Deep.DeepCutAuto
set_option maxRecDepth 100000
set_option maxHeartbeats 16000000
namespace Go.Proofs.YtkkmnnhaailkcaaGreat
open Go.RowKit Go.Proofs.Tryz
set_option linter.unusedVariables false
theorem l4Tm_B1 (w:World) (p base g1 g2:Nat) (d0 d1 d2 d3 d4 d5 d6 d7 d10 d11 d12 d13 d14 d15:Value) (xs ys:List Int) (c1 m c2:Nat) (n:Nat) (v:Int) (hP:Blk w p #[d0,d1,d2,d3,d4,d5,d6,d7,.slice (some ⟨g1,0,none⟩) 512 c1,.slice (some ⟨g2,0,none⟩) m c2,d10,d11,d12,d13,d14,d15] 72) (h1:Own w g1 xs) (lx:xs.length=512) (hby:Pl.bytesOk xs=true)
  (hO:w.ownsRow base 96 5 (.slice (some ⟨g2,0,none⟩) m c2) m (ys.map (Value.int .i64))) (hp:base≤p) (hg:base≤g1) (n1:p≠g1) (n2:p≠g2) (n3:g1≠g2) (bm:m≤400) (HC:Hid (0=Pl.code 2 1 n)) (hn:n+1≤512) (v0:0≤v) (v1:v≤255) :
  Calls prog 74 #[.pointer (some ⟨p,8,none⟩),iv 2,iv 1,iv n,iv v] w fun e w'=>∃g3 c3:Nat,e=.returned (.tuple #[iv (Pl.lv xs 2 1 n v),iv (Pl.code 2 1 n)])∧
   Blk w' p #[d0,d1,d2,d3,d4,d5,d6,d7,.slice (some ⟨g1,0,none⟩) 512 c1,.slice (some ⟨g3,0,none⟩) (Pl.nm m 2 1 n) c3,d10,d11,d12,d13,d14,d15] 72∧Own w' g1 (Pl.nb xs 2 1 n v)∧w'.ownsRow base 96 5 (.slice (some ⟨g3,0,none⟩) (Pl.nm m 2 1 n) c3) (Pl.nm m 2 1 n) ((Pl.nl xs ys m 2 1 n v).map (Value.int .i64))∧(g3=g2∨w.heap.size≤g3)∧FrP (fun k=>k=p∨k=g1∨k=g2) w w':=by
 obtain ⟨i,hi0,hz0,hz1,hz2⟩:=info_parts Tryz.infoAcc
 have E1:Hid (xs.set n v=Pl.nb xs 2 1 n v):=hide (by unfold Pl.nb;rw [if_pos ⟨HC.out.symm,rfl⟩];rfl)
 have E2:Hid (v=Pl.lv xs 2 1 n v):=hide (by unfold Pl.lv;rw [if_neg (by simp)])
 have t0:=hP.cell (i:=8) rfl
 have t1:=hP.cell (i:=9) rfl
 have i0:(0:Int)≤(n:Int):=by omega
 have i1:(n:Int)<512:=by omega
 have e255:bits .and .i64 v 255=v:=by rw [Pl.and255];omega
 obtain ⟨c0,f0⟩:=h1 n (by omega)
 go_enter func74,ntmps74
 go_wp2_with (go_at_call 95;refine st (l4Code 2 1 n _ (by omega) (by omega) (by omega) (by omega)) ?_;rw [←HC.out])
 go_loopw [13,14] (fun x j wr=>x=iv v∧((j=iv 0∧wr=w)∨(j=iv 1∧Blk wr p #[d0,d1,d2,d3,d4,d5,d6,d7,.slice (some ⟨g1,0,none⟩) 512 c1,.slice (some ⟨g2,0,none⟩) m c2,d10,d11,d12,d13,d14,d15] 72∧Own wr g1 (xs.set n v)∧wr.ownsRow base 96 5 (.slice (some ⟨g2,0,none⟩) m c2) m (ys.map (Value.int .i64))∧Kept g1 (g1+1) w wr))) (fun _ j _=>(3-intOf j).toNat)
 case atStart=>exact ⟨rfl,.inl ⟨rfl,rfl⟩⟩
 case round=>
  obtain ⟨rfl,hrel⟩:=hrel
  rcases hrel with ⟨rfl,hw⟩|⟨rfl,hp1,ho1,hr1,hk1⟩
  ·have hw2:=hw.symm
   clear hw
   subst hw2
   go_wp2
   go_roundw
   case rel=>exact ⟨rfl,.inr ⟨by go_num,hP.other _ _ _ n1,h1.set_el _,hO.kept (grownBy_set _ _ _ _) (.inr (fun e=>by have h3:g2=g1:=Option.some.inj e;omega)),kept_set (Kept.refl _ _ _) _ _ _ (.inl (by omega))⟩⟩
   case measure=>simp [intOf]
  ·clear t0 t1 c0 f0
   have PX:=hide hp1
   have EX:=hide ho1
   have OX:=hide hr1
   have lg:=h1.lt (by rw [lx];decide)
   have KX:Hid (FrP (fun k=>k=p∨k=g1∨k=g2) w wr):=hide (frp_kept hk1 (fun i h1 h2=>.inr (.inl (by omega))))
   have NLEN:(xs.set n v).length=512:=by simp [lx]
   have t0:=hp1.cell (i:=8) rfl
   have t1:=hp1.cell (i:=9) rfl
   clear hp1 ho1 hr1 hk1 hP h1 hO lg
   cases gm:decide ((m:Int)<400)
   ·have HL:Hid (Pl.logs m 2 1 n=false):=hide (Pl.logs_at HC.out gm rfl rfl)
    have hnm:Hid (Pl.nm m 2 1 n=m):=hide (by unfold Pl.nm;rw [HL.out];rfl)
    have hnl:Hid (Pl.nl xs ys m 2 1 n v=ys):=hide (by unfold Pl.nl;rw [HL.out];rfl)
    skip
    go_wp2_with fail
    go_ret2
    exact ⟨g2,c2,rII E2.out HC.out,by rw [hnm.out];exact PX.out,by rw [←E1.out];exact EX.out,by rw [hnm.out,hnl.out];exact OX.out,.inl rfl,KX.out⟩
   ·have HL:Hid (Pl.logs m 2 1 n=true):=hide (Pl.logs_at HC.out gm rfl rfl)
    have H63:Hid (m+1≤maxLen):=hide (by unfold maxLen;simp at gm;omega)
    have HBT:Hid ((m+1)*40≤140737488355328):=hide (by simp at gm;omega)
    have hnm:Hid (Pl.nm m 2 1 n=m+1):=hide (by unfold Pl.nm;rw [HL.out];rfl)
    have hnl:Hid (Pl.nl xs ys m 2 1 n v=ys++([2,1,(n:Int),v,0]:List Int)):=hide (by unfold Pl.nl;rw [HL.out,←HC.out,←E2.out];rfl)
    skip
    go_wp2_with (first|(at_builtin;refine wpList_append_lies _ rfl _ _ _ rfl base 96 i _ 5 40 underlying34 hi0 hz0 hz1 hz2 rfl (by omega) (.slice (some ⟨g2,0,none⟩) m c2) m (ys.map (Value.int .i64)) rfl (OX.out.alloc _) ⟨wr.heap.size,0,none⟩ 1 1 [iv 2,iv 1,iv n,iv v,iv 0] rfl rfl (World.news_of_block (cs:=#[iv 2,iv 1,iv n,iv v,iv 0]) (t:=96) (fr:=(0,0)) (heap_alloc_new wr _)) (by simp [Value.oneCell']) (by omega) H63.out HBT.out (by have:=PX.out.lt;simp;omega) (wr.heap.size+1) (by simp) ?_))
    intro g3 c3 w1 hown1 hgrow hat hlt
    have lp:=PX.out.lt
    have lg:=EX.out.lt (by rw [NLEN];decide)
    obtain ⟨lg2,lg3⟩:=OX.out.lt g2 rfl
    have P1:Hid (Blk w1 p #[d0,d1,d2,d3,d4,d5,d6,d7,.slice (some ⟨g1,0,none⟩) 512 c1,.slice (some ⟨g2,0,none⟩) m c2,d10,d11,d12,d13,d14,d15] 72):=hide ((hgrow.block p (by simp;omega) (by simp [Value.ownBlock];omega)).trans (PX.out.alloc _))
    have G1:Hid (Own w1 g1 (xs.set n v)):=hide ((EX.out.keptS (kept_alloc _ _) (by omega)).kept hgrow (by simp [Value.ownBlock];omega))
    have y0:=P1.out.cell (i:=8) rfl
    have y1:=P1.out.cell (i:=9) rfl
    have f1:=P1.out.frozen 9
    have O1:=hide hown1
    have K1:Hid (FrP (fun k=>k=p∨k=g1∨k=g2) w w1):=hide ((KX.out.alloc _).grown hgrow (by intro g hg;have h2:g2=g:=Option.some.inj hg;exact .inr (.inr h2.symm)))
    have hsz:=KX.out.size
    have hat2:g2=g3∨g3=wr.heap.size+1:=by
     rcases hat with h|h
     ·exact .inl (Option.some.inj h)
     ·exact .inr h
    clear hown1 hgrow hat
    go_wp2_with fail
    go_ret2
    refine ⟨g3,c3,rII E2.out HC.out,by rw [hnm.out];exact P1.out.set 9 _,by rw [←E1.out];exact G1.out.setOther _ _ _ (by omega),?_,by omega,K1.out.set _ _ _ (.inl (.inl rfl))⟩
    rw [hnl.out,hnm.out,List.map_append]
    exact O1.out.kept (grownBy_set _ _ _ _) (.inr (fun e=>by have h3:g3=p:=Option.some.inj e;omega))
theorem l4Tm_B2 (w:World) (p base g1 g2:Nat) (d0 d1 d2 d3 d4 d5 d6 d7 d10 d11 d12 d13 d14 d15:Value) (xs ys:List Int) (c1 m c2:Nat) (n:Nat) (v:Int) (hP:Blk w p #[d0,d1,d2,d3,d4,d5,d6,d7,.slice (some ⟨g1,0,none⟩) 512 c1,.slice (some ⟨g2,0,none⟩) m c2,d10,d11,d12,d13,d14,d15] 72) (h1:Own w g1 xs) (lx:xs.length=512) (hby:Pl.bytesOk xs=true)
  (hO:w.ownsRow base 96 5 (.slice (some ⟨g2,0,none⟩) m c2) m (ys.map (Value.int .i64))) (hp:base≤p) (hg:base≤g1) (n1:p≠g1) (n2:p≠g2) (n3:g1≠g2) (bm:m≤400) (HC:Hid (0=Pl.code 2 2 n)) (hn:n+2≤512) (v0:0≤v) (v1:v≤65535) :
  Calls prog 74 #[.pointer (some ⟨p,8,none⟩),iv 2,iv 2,iv n,iv v] w fun e w'=>∃g3 c3:Nat,e=.returned (.tuple #[iv (Pl.lv xs 2 2 n v),iv (Pl.code 2 2 n)])∧
   Blk w' p #[d0,d1,d2,d3,d4,d5,d6,d7,.slice (some ⟨g1,0,none⟩) 512 c1,.slice (some ⟨g3,0,none⟩) (Pl.nm m 2 2 n) c3,d10,d11,d12,d13,d14,d15] 72∧Own w' g1 (Pl.nb xs 2 2 n v)∧w'.ownsRow base 96 5 (.slice (some ⟨g3,0,none⟩) (Pl.nm m 2 2 n) c3) (Pl.nm m 2 2 n) ((Pl.nl xs ys m 2 2 n v).map (Value.int .i64))∧(g3=g2∨w.heap.size≤g3)∧FrP (fun k=>k=p∨k=g1∨k=g2) w w':=by
 obtain ⟨i,hi0,hz0,hz1,hz2⟩:=info_parts Tryz.infoAcc
 have E1:Hid ((xs.set n (v/256)).set (n+1) (v%256)=Pl.nb xs 2 2 n v):=hide (by unfold Pl.nb;rw [if_pos ⟨HC.out.symm,rfl⟩];rfl)
 have E2:Hid (v=Pl.lv xs 2 2 n v):=hide (by unfold Pl.lv;rw [if_neg (by simp)])
 have t0:=hP.cell (i:=8) rfl
 have t1:=hP.cell (i:=9) rfl
 have i0:(0:Int)≤(n:Int):=by omega
 have i1:(n:Int)<512:=by omega
 have e255:=Pl.and255 v
 have e256:bits .and .i64 (v/256) 255=v/256:=by rw [Pl.and255];omega
 have i2:(0:Int)≤(n:Int)+1:=by omega
 have i3:(n:Int)+1<512:=by omega
 obtain ⟨c0,f0⟩:=h1 n (by omega)
 go_enter func74,ntmps74
 go_wp2_with (go_at_call 95;refine st (l4Code 2 2 n _ (by omega) (by omega) (by omega) (by omega)) ?_;rw [←HC.out])
 go_loopw [13,14] (fun x j wr=>x=iv v∧((j=iv 0∧wr=w)∨(j=iv 1∧Blk wr p #[d0,d1,d2,d3,d4,d5,d6,d7,.slice (some ⟨g1,0,none⟩) 512 c1,.slice (some ⟨g2,0,none⟩) m c2,d10,d11,d12,d13,d14,d15] 72∧Own wr g1 (xs.set n (v/256))∧wr.ownsRow base 96 5 (.slice (some ⟨g2,0,none⟩) m c2) m (ys.map (Value.int .i64))∧Kept g1 (g1+1) w wr)∨(j=iv 2∧Blk wr p #[d0,d1,d2,d3,d4,d5,d6,d7,.slice (some ⟨g1,0,none⟩) 512 c1,.slice (some ⟨g2,0,none⟩) m c2,d10,d11,d12,d13,d14,d15] 72∧Own wr g1 ((xs.set n (v/256)).set (n+1) (v%256))∧wr.ownsRow base 96 5 (.slice (some ⟨g2,0,none⟩) m c2) m (ys.map (Value.int .i64))∧Kept g1 (g1+1) w wr))) (fun _ j _=>(3-intOf j).toNat)
 case atStart=>exact ⟨rfl,.inl ⟨rfl,rfl⟩⟩
 case round=>
  obtain ⟨rfl,hrel⟩:=hrel
  rcases hrel with ⟨rfl,hw⟩|⟨rfl,hp1,ho1,hr1,hk1⟩|⟨rfl,hp1,ho1,hr1,hk1⟩
  ·have hw2:=hw.symm
   clear hw
   subst hw2
   go_wp2
   go_roundw
   case rel=>exact ⟨rfl,.inr (.inl ⟨by go_num,hP.other _ _ _ n1,h1.set_el _,hO.kept (grownBy_set _ _ _ _) (.inr (fun e=>by have h3:g2=g1:=Option.some.inj e;omega)),kept_set (Kept.refl _ _ _) _ _ _ (.inl (by omega))⟩)⟩
   case measure=>simp [intOf]
  ·obtain ⟨c1',f1'⟩:=ho1 (n+1) (by rw [List.length_set];omega)
   have P1:=hide hp1
   have O1:=hide ho1
   have R1:=hide hr1
   have K1:=hide hk1
   have s0:=hp1.cell (i:=8) rfl
   have s1:=hp1.cell (i:=9) rfl
   clear hp1 ho1 hr1 hk1 c0 f0 t0 t1
   go_wp2
   go_roundw
   case rel=>exact ⟨rfl,.inr (.inr ⟨by go_num,P1.out.other _ _ _ n1,O1.out.set_el _,R1.out.kept (grownBy_set _ _ _ _) (.inr (fun e=>by have h3:g2=g1:=Option.some.inj e;omega)),kept_set K1.out _ _ _ (.inl (by omega))⟩)⟩
   case measure=>simp [intOf]
  ·clear t0 t1 c0 f0
   have PX:=hide hp1
   have EX:=hide ho1
   have OX:=hide hr1
   have lg:=h1.lt (by rw [lx];decide)
   have KX:Hid (FrP (fun k=>k=p∨k=g1∨k=g2) w wr):=hide (frp_kept hk1 (fun i h1 h2=>.inr (.inl (by omega))))
   have NLEN:((xs.set n (v/256)).set (n+1) (v%256)).length=512:=by simp [lx]
   have t0:=hp1.cell (i:=8) rfl
   have t1:=hp1.cell (i:=9) rfl
   clear hp1 ho1 hr1 hk1 hP h1 hO lg
   cases gm:decide ((m:Int)<400)
   ·have HL:Hid (Pl.logs m 2 2 n=false):=hide (Pl.logs_at HC.out gm rfl rfl)
    have hnm:Hid (Pl.nm m 2 2 n=m):=hide (by unfold Pl.nm;rw [HL.out];rfl)
    have hnl:Hid (Pl.nl xs ys m 2 2 n v=ys):=hide (by unfold Pl.nl;rw [HL.out];rfl)
    skip
    go_wp2_with fail
    go_ret2
    exact ⟨g2,c2,rII E2.out HC.out,by rw [hnm.out];exact PX.out,by rw [←E1.out];exact EX.out,by rw [hnm.out,hnl.out];exact OX.out,.inl rfl,KX.out⟩
   ·have HL:Hid (Pl.logs m 2 2 n=true):=hide (Pl.logs_at HC.out gm rfl rfl)
    have H63:Hid (m+1≤maxLen):=hide (by unfold maxLen;simp at gm;omega)
    have HBT:Hid ((m+1)*40≤140737488355328):=hide (by simp at gm;omega)
    have hnm:Hid (Pl.nm m 2 2 n=m+1):=hide (by unfold Pl.nm;rw [HL.out];rfl)
    have hnl:Hid (Pl.nl xs ys m 2 2 n v=ys++([2,2,(n:Int),v,0]:List Int)):=hide (by unfold Pl.nl;rw [HL.out,←HC.out,←E2.out];rfl)
    skip
    go_wp2_with (first|(at_builtin;refine wpList_append_lies _ rfl _ _ _ rfl base 96 i _ 5 40 underlying34 hi0 hz0 hz1 hz2 rfl (by omega) (.slice (some ⟨g2,0,none⟩) m c2) m (ys.map (Value.int .i64)) rfl (OX.out.alloc _) ⟨wr.heap.size,0,none⟩ 1 1 [iv 2,iv 2,iv n,iv v,iv 0] rfl rfl (World.news_of_block (cs:=#[iv 2,iv 2,iv n,iv v,iv 0]) (t:=96) (fr:=(0,0)) (heap_alloc_new wr _)) (by simp [Value.oneCell']) (by omega) H63.out HBT.out (by have:=PX.out.lt;simp;omega) (wr.heap.size+1) (by simp) ?_))
    intro g3 c3 w1 hown1 hgrow hat hlt
    have lp:=PX.out.lt
    have lg:=EX.out.lt (by rw [NLEN];decide)
    obtain ⟨lg2,lg3⟩:=OX.out.lt g2 rfl
    have P1:Hid (Blk w1 p #[d0,d1,d2,d3,d4,d5,d6,d7,.slice (some ⟨g1,0,none⟩) 512 c1,.slice (some ⟨g2,0,none⟩) m c2,d10,d11,d12,d13,d14,d15] 72):=hide ((hgrow.block p (by simp;omega) (by simp [Value.ownBlock];omega)).trans (PX.out.alloc _))
    have G1:Hid (Own w1 g1 ((xs.set n (v/256)).set (n+1) (v%256))):=hide ((EX.out.keptS (kept_alloc _ _) (by omega)).kept hgrow (by simp [Value.ownBlock];omega))
    have y0:=P1.out.cell (i:=8) rfl
    have y1:=P1.out.cell (i:=9) rfl
    have f1:=P1.out.frozen 9
    have O1:=hide hown1
    have K1:Hid (FrP (fun k=>k=p∨k=g1∨k=g2) w w1):=hide ((KX.out.alloc _).grown hgrow (by intro g hg;have h2:g2=g:=Option.some.inj hg;exact .inr (.inr h2.symm)))
    have hsz:=KX.out.size
    have hat2:g2=g3∨g3=wr.heap.size+1:=by
     rcases hat with h|h
     ·exact .inl (Option.some.inj h)
     ·exact .inr h
    clear hown1 hgrow hat
    go_wp2_with fail
    go_ret2
    refine ⟨g3,c3,rII E2.out HC.out,by rw [hnm.out];exact P1.out.set 9 _,by rw [←E1.out];exact G1.out.setOther _ _ _ (by omega),?_,by omega,K1.out.set _ _ _ (.inl (.inl rfl))⟩
    rw [hnl.out,hnm.out,List.map_append]
    exact O1.out.kept (grownBy_set _ _ _ _) (.inr (fun e=>by have h3:g3=p:=Option.some.inj e;omega))
theorem l4Tm_C (w:World) (p base g1 g2:Nat) (d0 d1 d2 d3 d4 d5 d6 d7 d10 d11 d12 d13 d14 d15:Value) (xs ys:List Int) (c1 m c2:Nat) (k:Int) (s n:Nat) (hP:Blk w p #[d0,d1,d2,d3,d4,d5,d6,d7,.slice (some ⟨g1,0,none⟩) 512 c1,.slice (some ⟨g2,0,none⟩) m c2,d10,d11,d12,d13,d14,d15] 72) (h1:Own w g1 xs) (lx:xs.length=512) (hby:Pl.bytesOk xs=true)
  (hO:w.ownsRow base 96 5 (.slice (some ⟨g2,0,none⟩) m c2) m (ys.map (Value.int .i64))) (hp:base≤p) (hg:base≤g1) (n1:p≠g1) (n2:p≠g2) (n3:g1≠g2) (bm:m≤400) (HC:Hid (0=Pl.code k s n)) (hk:(k != 2)=true) (hs1:1≤s) (hs2:s≤2) (hn:n+s≤512) :
  Calls prog 74 #[.pointer (some ⟨p,8,none⟩),iv k,iv s,iv n,iv 0] w fun e w'=>∃g3 c3:Nat,e=.returned (.tuple #[iv (Pl.lv xs k s n 0),iv (Pl.code k s n)])∧
   Blk w' p #[d0,d1,d2,d3,d4,d5,d6,d7,.slice (some ⟨g1,0,none⟩) 512 c1,.slice (some ⟨g3,0,none⟩) (Pl.nm m k s n) c3,d10,d11,d12,d13,d14,d15] 72∧Own w' g1 (Pl.nb xs k s n 0)∧w'.ownsRow base 96 5 (.slice (some ⟨g3,0,none⟩) (Pl.nm m k s n) c3) (Pl.nm m k s n) ((Pl.nl xs ys m k s n 0).map (Value.int .i64))∧(g3=g2∨w.heap.size≤g3)∧FrP (fun k=>k=p∨k=g1∨k=g2) w w':=by
 obtain ⟨i,hi0,hz0,hz1,hz2⟩:=info_parts Tryz.infoAcc
 have hk2:¬k=2:=by simpa using hk
 have E1:Hid (xs=Pl.nb xs k s n 0):=hide (by unfold Pl.nb;rw [if_neg (fun h=>hk2 h.2)])
 have E2:Hid (Pl.rd xs s n=Pl.lv xs k s n 0):=hide (by unfold Pl.lv;rw [if_pos ⟨HC.out.symm,hk2⟩];rfl)
 have hkeq:(k==2)=false:=by simpa using hk2
 have PX:=hide hP
 have EX:=hide h1
 have OX:=hide hO
 have KX:=hide (FrP.refl (fun k=>k=p∨k=g1∨k=g2) w)
 have NLEN:=lx
 have HBY:=hide hby
 have t0:=hP.cell (i:=8) rfl
 have t1:=hP.cell (i:=9) rfl
 clear hP h1 hO hby hk2
 go_enter func74,ntmps74
 go_wp2_with (go_at_call 95;refine st (l4Code k s n _ (by omega) (by omega) (by omega) (by omega)) ?_;rw [←HC.out])
 go_loopw [13,14] (fun x j wr=>∃q:Nat,q≤s∧j=iv q∧x=iv (Pl.rdK xs n q)∧wr=w) (fun _ j _=>s-(intOf j).toNat)
 case atStart=>exact ⟨0,Nat.zero_le _,rfl,rfl,rfl⟩
 case round=>
  obtain ⟨q,hq,rfl,rfl,hw⟩:=hrel
  have hw2:=hw.symm
  clear hw
  subst hw2
  by_cases hlt:q<s
  ·obtain ⟨hc,_⟩:=EX.out (n+q) (by omega)
   have b0:=Pl.bytesOk_at HBY.out n (by omega)
   have b1:=Pl.bytesOk_at HBY.out (n+q) (by omega)
   rw [show xs[n+q]?.getD 0=el xs (n+q) from rfl] at hc
   obtain ⟨b00,b01⟩:=b0
   obtain ⟨b10,b11⟩:=b1
   have i0:(0:Int)≤(n:Int)+(q:Int):=by omega
   have i1:(n:Int)+(q:Int)<512:=by omega
   have i2:((n:Int)+(q:Int)).toNat=n+q:=by omega
   by_cases hk0:q=0
   ·subst hk0
    have hor:=Pl.word_or (h:=0) (by decide) (by decide) b10 b11
    rw [Int.zero_mul,Int.zero_add] at hor
    rw [Nat.add_zero] at hc hor b10 b11
    rw [show Pl.rdK xs n 0=0 from rfl]
    go_wp2
    go_roundw
    case rel=>exact ⟨1,by omega,rfl,rfl,trivial⟩
    case measure=>simp [intOf];omega
   ·obtain rfl:q=1:=by omega
    have hor:=Pl.word_or b00 b01 b10 b11
    rw [show Pl.rdK xs n 1=el xs n from rfl]
    go_wp2
    go_roundw
    case rel=>exact ⟨2,by omega,rfl,rfl,trivial⟩
    case measure=>simp [intOf];omega
  ·have E:Hid (Pl.rdK xs n q=Pl.rd xs s n):=hide (by
    have:q=1∨q=2:=by omega
    unfold Pl.rdK Pl.rd
    rcases this with rfl|rfl
    ·rw [if_neg (by decide),if_pos rfl,if_pos (by omega)]
    ·rw [if_neg (by decide),if_neg (by decide),if_neg (by omega)])
   rw [E.out]
   clear E
   cases gm:decide ((m:Int)<400)
   ·cases g3:(k != 3)
    ·have HL:Hid (Pl.logs m k s n=false):=hide (Pl.logs_at HC.out gm g3 rfl)
     have hnm:Hid (Pl.nm m k s n=m):=hide (by unfold Pl.nm;rw [HL.out];rfl)
     have hnl:Hid (Pl.nl xs ys m k s n 0=ys):=hide (by unfold Pl.nl;rw [HL.out];rfl)
     skip
     go_wp2_with fail
     go_ret2
     exact ⟨g2,c2,rII E2.out HC.out,by rw [hnm.out];exact PX.out,by rw [←E1.out];exact EX.out,by rw [hnm.out,hnl.out];exact OX.out,.inl rfl,KX.out⟩
    ·have HL:Hid (Pl.logs m k s n=false):=hide (Pl.logs_at HC.out gm g3 rfl)
     have hnm:Hid (Pl.nm m k s n=m):=hide (by unfold Pl.nm;rw [HL.out];rfl)
     have hnl:Hid (Pl.nl xs ys m k s n 0=ys):=hide (by unfold Pl.nl;rw [HL.out];rfl)
     skip
     go_wp2_with fail
     go_ret2
     exact ⟨g2,c2,rII E2.out HC.out,by rw [hnm.out];exact PX.out,by rw [←E1.out];exact EX.out,by rw [hnm.out,hnl.out];exact OX.out,.inl rfl,KX.out⟩
   ·cases g3:(k != 3)
    ·have HL:Hid (Pl.logs m k s n=false):=hide (Pl.logs_at HC.out gm g3 rfl)
     have hnm:Hid (Pl.nm m k s n=m):=hide (by unfold Pl.nm;rw [HL.out];rfl)
     have hnl:Hid (Pl.nl xs ys m k s n 0=ys):=hide (by unfold Pl.nl;rw [HL.out];rfl)
     skip
     go_wp2_with fail
     go_ret2
     exact ⟨g2,c2,rII E2.out HC.out,by rw [hnm.out];exact PX.out,by rw [←E1.out];exact EX.out,by rw [hnm.out,hnl.out];exact OX.out,.inl rfl,KX.out⟩
    ·have HL:Hid (Pl.logs m k s n=true):=hide (Pl.logs_at HC.out gm g3 rfl)
     have H63:Hid (m+1≤maxLen):=hide (by unfold maxLen;simp at gm;omega)
     have HBT:Hid ((m+1)*40≤140737488355328):=hide (by simp at gm;omega)
     have hnm:Hid (Pl.nm m k s n=m+1):=hide (by unfold Pl.nm;rw [HL.out];rfl)
     have hnl:Hid (Pl.nl xs ys m k s n 0=ys++([k,s,(n:Int),(Pl.rd xs s n),0]:List Int)):=hide (by unfold Pl.nl;rw [HL.out,←HC.out,←E2.out];rfl)
     skip
     go_wp2_with (first|(at_builtin;refine wpList_append_lies _ rfl _ _ _ rfl base 96 i _ 5 40 underlying34 hi0 hz0 hz1 hz2 rfl (by omega) (.slice (some ⟨g2,0,none⟩) m c2) m (ys.map (Value.int .i64)) rfl (OX.out.alloc _) ⟨w.heap.size,0,none⟩ 1 1 [iv k,iv s,iv n,iv (Pl.rd xs s n),iv 0] rfl rfl (World.news_of_block (cs:=#[iv k,iv s,iv n,iv (Pl.rd xs s n),iv 0]) (t:=96) (fr:=(0,0)) (heap_alloc_new w _)) (by simp [Value.oneCell']) (by omega) H63.out HBT.out (by have:=PX.out.lt;simp;omega) (w.heap.size+1) (by simp) ?_))
     intro g3 c3 w1 hown1 hgrow hat hlt
     have lp:=PX.out.lt
     have lg:=EX.out.lt (by rw [NLEN];decide)
     obtain ⟨lg2,lg3⟩:=OX.out.lt g2 rfl
     have P1:Hid (Blk w1 p #[d0,d1,d2,d3,d4,d5,d6,d7,.slice (some ⟨g1,0,none⟩) 512 c1,.slice (some ⟨g2,0,none⟩) m c2,d10,d11,d12,d13,d14,d15] 72):=hide ((hgrow.block p (by simp;omega) (by simp [Value.ownBlock];omega)).trans (PX.out.alloc _))
     have G1:Hid (Own w1 g1 (xs)):=hide ((EX.out.keptS (kept_alloc _ _) (by omega)).kept hgrow (by simp [Value.ownBlock];omega))
     have y0:=P1.out.cell (i:=8) rfl
     have y1:=P1.out.cell (i:=9) rfl
     have f1:=P1.out.frozen 9
     have O1:=hide hown1
     have K1:Hid (FrP (fun k=>k=p∨k=g1∨k=g2) w w1):=hide ((KX.out.alloc _).grown hgrow (by intro g hg;have h2:g2=g:=Option.some.inj hg;exact .inr (.inr h2.symm)))
     have hsz:=KX.out.size
     have hat2:g2=g3∨g3=w.heap.size+1:=by
      rcases hat with h|h
      ·exact .inl (Option.some.inj h)
      ·exact .inr h
     clear hown1 hgrow hat
     go_wp2_with fail
     go_ret2
     refine ⟨g3,c3,rII E2.out HC.out,by rw [hnm.out];exact P1.out.set 9 _,by rw [←E1.out];exact G1.out.setOther _ _ _ (by omega),?_,by omega,K1.out.set _ _ _ (.inl (.inl rfl))⟩
     rw [hnl.out,hnm.out,List.map_append]
     exact O1.out.kept (grownBy_set _ _ _ _) (.inr (fun e=>by have h3:g3=p:=Option.some.inj e;omega))
theorem l4Tm (w:World) (p base g1 g2:Nat) (d0 d1 d2 d3 d4 d5 d6 d7 d10 d11 d12 d13 d14 d15:Value) (xs ys:List Int) (c1 m c2:Nat) (k s a v:Int) (hP:Blk w p #[d0,d1,d2,d3,d4,d5,d6,d7,.slice (some ⟨g1,0,none⟩) 512 c1,.slice (some ⟨g2,0,none⟩) m c2,d10,d11,d12,d13,d14,d15] 72) (h1:Own w g1 xs) (lx:xs.length=512) (hby:Pl.bytesOk xs=true)
  (hO:w.ownsRow base 96 5 (.slice (some ⟨g2,0,none⟩) m c2) m (ys.map (Value.int .i64))) (hp:base≤p) (hg:base≤g1) (n1:p≠g1) (n2:p≠g2) (n3:g1≠g2) (bm:m≤400) (hask:Pl.askOk k s a v=true) :
  Calls prog 74 #[.pointer (some ⟨p,8,none⟩),iv k,iv s,iv a,iv v] w fun e w'=>∃g3 c3:Nat,e=.returned (.tuple #[iv (Pl.lv xs k s a v),iv (Pl.code k s a)])∧
   Blk w' p #[d0,d1,d2,d3,d4,d5,d6,d7,.slice (some ⟨g1,0,none⟩) 512 c1,.slice (some ⟨g3,0,none⟩) (Pl.nm m k s a) c3,d10,d11,d12,d13,d14,d15] 72∧Own w' g1 (Pl.nb xs k s a v)∧w'.ownsRow base 96 5 (.slice (some ⟨g3,0,none⟩) (Pl.nm m k s a) c3) (Pl.nm m k s a) ((Pl.nl xs ys m k s a v).map (Value.int .i64))∧(g3=g2∨w.heap.size≤g3)∧FrP (fun k=>k=p∨k=g1∨k=g2) w w':=by
 obtain ⟨hk13,hs,v0,⟨a0,a1⟩,hkv⟩:=Pl.ask_ok hask
 by_cases hc:Pl.code k s a=0
 ·have hlow:=Pl.code_low hc a0
  obtain ⟨n,rfl⟩:∃n:Nat,a=(n:Int):=⟨a.toNat,by omega⟩
  by_cases h2:k=2
  ·subst h2
   rcases hs with ⟨rfl,hv⟩|⟨rfl,hv⟩
   ·exact l4Tm_B1 w p base g1 g2 d0 d1 d2 d3 d4 d5 d6 d7 d10 d11 d12 d13 d14 d15 xs ys c1 m c2 n v hP h1 lx hby hO hp hg n1 n2 n3 bm (hide hc.symm) (by omega) v0 hv
   ·exact l4Tm_B2 w p base g1 g2 d0 d1 d2 d3 d4 d5 d6 d7 d10 d11 d12 d13 d14 d15 xs ys c1 m c2 n v hP h1 lx hby hO hp hg n1 n2 n3 bm (hide hc.symm) (by omega) v0 hv
  ·obtain rfl:v=0:=by omega
   obtain ⟨t,rfl⟩:∃t:Nat,s=(t:Int):=⟨s.toNat,by omega⟩
   exact l4Tm_C w p base g1 g2 d0 d1 d2 d3 d4 d5 d6 d7 d10 d11 d12 d13 d14 d15 xs ys c1 m c2 k t n hP h1 lx hby hO hp hg n1 n2 n3 bm (hide hc.symm) (by simpa using h2) (by omega) (by omega) (by omega)
 ·by_cases h2:k=2
  ·subst h2
   exact l4Tm_A2 w p base g1 g2 d0 d1 d2 d3 d4 d5 d6 d7 d10 d11 d12 d13 d14 d15 xs ys c1 m c2 s a v _ hP h1 lx hby hO hp hg n1 n2 n3 bm (hide rfl) (by simpa using hc) (by omega) (by omega) a0 a1
  ·obtain rfl:v=0:=by omega
   exact l4Tm_A1 w p base g1 g2 d0 d1 d2 d3 d4 d5 d6 d7 d10 d11 d12 d13 d14 d15 xs ys c1 m c2 k s a _ hP h1 lx hby hO hp hg n1 n2 n3 bm (hide rfl) (by simpa using hc) (by omega) (by omega) a0 a1 (by simpa using h2)
end Go.Proofs.YtkkmnnhaailkcaaGreat
namespace Go.Proofs.YtkkmnnhaailkcaaGreat.Pl
set_option linter.unusedVariables false
structure GM (c:Mc):Prop where
 g:Good c.r
 p0:0≤c.r.p
 p1:c.r.p≤65535
 bx:c.bx.length=512
 ok:bytesOk c.bx=true
 bl:c.bl.length=5*c.bm
 bm:c.bm≤400
 ac:accsOk c.bl c.bm=true
theorem el_set {xs:List Int} {k i:Nat} {v:Int} (h:k<xs.length):el (xs.set k v) i=if k=i then v else el xs i:=by
 unfold el
 by_cases e:k=i
 ·subst e;rw [if_pos rfl];simp [h]
 ·rw [if_neg e,List.getElem?_set_ne e]
theorem bytesOk_set {xs:List Int} {i:Nat} {v:Int} (h:bytesOk xs=true) (v0:0≤v) (v1:v≤255):bytesOk (xs.set i v)=true:=by
 apply bytesOk_of
 intro j hj
 rw [List.length_set] at hj
 by_cases hi:i<xs.length
 ·rw [el_set hi]
  split
  ·simp [byteOk];omega
  ·have:=bytesOk_at h j hj;simp [byteOk];omega
 ·rw [List.set_eq_of_length_le (by omega)]
  have:=bytesOk_at h j hj;simp [byteOk];omega
theorem wr_ok {xs:List Int} {s:Int} {i:Nat} {v:Int} (h:bytesOk xs=true) (hv:okv s v=true):bytesOk (wr xs s i v)=true:=by
 have:=top_ok hv
 unfold wr
 split
 ·exact bytesOk_set h (by omega) (by omega)
 ·exact bytesOk_set (bytesOk_set h (by omega) (by omega)) (by omega) (by omega)
theorem code_in (k s a:Int):0≤code k s a∧code k s a≤3:=by
 unfold code
 repeat' split
 all_goals omega
theorem rd_in {xs:List Int} {s:Int} {i:Nat} (h:bytesOk xs=true) (hs:s=1∨s=2) (hi:i+s.toNat≤xs.length):okv s (rd xs s i)=true:=by
 rcases hs with rfl|rfl
 ·have:=bytesOk_at h i (by omega)
  simp [okv,rd,top];omega
 ·have:=bytesOk_at h i (by omega)
  have:=bytesOk_at h (i+1) (by omega)
  simp [okv,rd,top];omega
theorem lv_in {xs:List Int} {k s a v:Int} (h:bytesOk xs=true) (hl:xs.length=512) (ha:askOk k s a v=true):okv s (lv xs k s a v)=true:=by
 obtain ⟨hk,hs,v0,⟨a0,a1⟩,_⟩:=ask_ok ha
 unfold lv
 split
 ·rename_i q
  obtain ⟨q1,q2⟩:=code_low q.1 a0
  refine rd_in h (by omega) ?_
  rw [hl];rcases hs with ⟨rfl,_⟩|⟨rfl,_⟩<;>omega
 ·simp only [askOk,Bool.and_eq_true] at ha
  exact ha.2.1
theorem el_app {xs ys:List Int} {i:Nat} (h:i<xs.length):el (xs++ys) i=el xs i:=by unfold el;rw [List.getElem?_append_left h]
theorem el_app2 {xs ys:List Int} {i:Nat} (h:xs.length≤i):el (xs++ys) i=el ys (i-xs.length):=by unfold el;rw [List.getElem?_append_right h]
theorem accs_more {ys:List Int} {m:Nat} {k s a v c:Int} (hl:ys.length=5*m) (h:accsOk ys m=true) (ho:accOk k s a v c=true):accsOk (ys++[k,s,a,v,c]) (m+1)=true:=by
 unfold accsOk at *
 rw [List.all_eq_true] at *
 intro i hi
 rw [List.mem_range] at hi
 by_cases e:i<m
 ·have:=h i (List.mem_range.2 e)
  unfold accAt at *
  rw [el_app (by omega),el_app (by omega),el_app (by omega),el_app (by omega),el_app (by omega)]
  exact this
 ·have e2:i=m:=by omega
  subst e2
  unfold accAt
  rw [el_app2 (by omega),el_app2 (by omega),el_app2 (by omega),el_app2 (by omega),el_app2 (by omega),show i*5-ys.length=0 by omega,show i*5+1-ys.length=1 by omega,show i*5+2-ys.length=2 by omega,show i*5+3-ys.length=3 by omega,show i*5+4-ys.length=4 by omega]
  exact ho
theorem GM.accV {c:Mc} (h:GM c) {k s a v:Int} (ha:askOk k s a v=true):okv s (c.accV k s a v)=true:=lv_in h.ok h.bx ha
theorem GM.acc {c:Mc} (h:GM c) {k s a v:Int} (ha:askOk k s a v=true):GM (c.acc k s a v):=by
 have hv:=lv_in h.ok h.bx ha
 have ha2:=ha
 simp only [askOk,Bool.and_eq_true] at ha2
 refine ⟨h.g,h.p0,h.p1,by rw [←h.bx];exact nb_len _ _ _ _ _,?_,nl_len _ _ _ _ h.bl,nm_le _ _ _ h.bm,?_⟩
 ·show bytesOk (nb c.bx k s a v)=true
  unfold nb
  split
  ·exact wr_ok h.ok ha2.2.1
  ·exact h.ok
 ·show accsOk (nl c.bx c.bl c.bm k s a v) (nm c.bm k s a)=true
  unfold nl nm
  split
  ·rename_i hl
   refine accs_more h.bl h.ac ?_
   have hc:=code_in k s a
   simp only [logs,Bool.and_eq_true] at hl
   simp only [accOk,Bool.and_eq_true,decide_eq_true_eq]
   exact ⟨ha2.1,hv,ha2.2.2.1,hc,hl.2⟩
  ·exact h.ac
theorem Good.setA {r:Rg} (h:Good r) (k:Nat) {v:Int} (v0:0≤v) (v1:v≤65535):Good {r with ys:=r.ys.set k v}:=by
 refine ⟨h.d4,by simp [h.a4],h.dw,fun i hi => ?_,h.o0,h.o1,h.f0,h.f1,h.m0,h.m1⟩
 show 0≤el (r.ys.set k v) i∧el (r.ys.set k v) i≤65535
 by_cases hk:k<r.ys.length
 ·rw [el_set hk];split
  ·exact ⟨v0,v1⟩
  ·exact h.aw i hi
 ·rw [List.set_eq_of_length_le (by omega)];exact h.aw i hi
theorem Good.with {r:Rg} (h:Good r) (n:Int):Good (withR r n):=by
 unfold withR
 split
 ·exact ⟨h.d4,h.a4,h.dw,h.aw,h.o0,h.o1,by show 0≤n%32;omega,by show n%32≤31;omega,by show 0≤n/32%8;omega,by show n/32%8≤7;omega⟩
 ·have q:=h.setA 3 h.o0 h.o1
  have a3:=h.aw 3 (by omega)
  exact ⟨h.d4,q.a4,h.dw,q.aw,a3.1,a3.2,by show 0≤n%32;omega,by show n%32≤31;omega,by show 0≤n/32%8;omega,by show n/32%8≤7;omega⟩
theorem status_in {r:Rg} (h:Good r):0≤status r∧status r≤1023:=by
 have:=h.f0;have:=h.f1;have:=h.m0;have:=h.m1
 unfold status fl1
 cases r.s<;>cases r.t<;>simp<;>omega
theorem GM.setR {c:Mc} (h:GM c) {r:Rg} (g:Good r) (hp:0≤r.p∧r.p≤65535):GM (c.setR r):=⟨g,hp.1,hp.2,h.bx,h.ok,h.bl,h.bm,h.ac⟩
theorem GM.setP {c:Mc} (h:GM c) {v:Int} (v0:0≤v) (v1:v≤65535):GM (c.setP v):=⟨⟨h.g.d4,h.g.a4,h.g.dw,h.g.aw,h.g.o0,h.g.o1,h.g.f0,h.g.f1,h.g.m0,h.g.m1⟩,v0,v1,h.bx,h.ok,h.bl,h.bm,h.ac⟩
theorem GM.setA {c:Mc} (h:GM c) (k:Nat) {v:Int} (v0:0≤v) (v1:v≤65535):GM (c.setA k v):=⟨h.g.setA k v0 v1,h.p0,h.p1,h.bx,h.ok,h.bl,h.bm,h.ac⟩
theorem withR_p (r:Rg) (n:Int):(withR r n).p=r.p:=by unfold withR;split<;>rfl
theorem GM.with {c:Mc} (h:GM c) (n:Int):GM (c.setR (withR c.r n)):=h.setR (h.g.with n) (by rw [withR_p];exact ⟨h.p0,h.p1⟩)
theorem GM.of {c:Cp} (h:cpOk c=true) (hl:c.bl.length=5*c.bm) (b:Bool):GM ⟨c.r,c.bx,c.bl,c.bm,b,ftNo⟩:=by
 simp only [cpOk,Bool.and_eq_true] at h
 obtain ⟨h1,h2,_⟩:=h
 obtain ⟨q1,q2,q3,q4⟩:=goodBus_ok h2
 have hp:0≤c.r.p∧c.r.p≤65535:=by
  simp only [rgOk,Bool.and_eq_true,wordOk,within,decide_eq_true_eq] at h1
  exact h1.2.2.2.1
 exact ⟨good_of h1,hp.1,hp.2,q1,q2,hl,q3,q4⟩
end Go.Proofs.YtkkmnnhaailkcaaGreat.Pl
namespace Go.Proofs.YtkkmnnhaailkcaaGreat
open Go.RowKit Go.Proofs.Tryz
set_option linter.unusedVariables false
theorem ownsRow_keptS {w w':World} {base g n cap size lo hi:Nat} {e:TypeId} {xs:List Value} (h:w.ownsRow base e size (.slice (some ⟨g,0,none⟩) n cap) n xs) (k:Kept lo hi w w') (hn:¬(lo≤g∧g<hi)):w'.ownsRow base e size (.slice (some ⟨g,0,none⟩) n cap) n xs:=by
 have hlt:=h.lt g rfl
 rcases h with ⟨hl,⟨e1,e0⟩|⟨g',cap',cur,e1,hb,hgg,rest⟩⟩
 ·cases e1
 ·cases e1
  exact ⟨hl,.inr ⟨g,cap,cur,rfl,hb,(k.block g hlt.2 hn).trans hgg,rest⟩⟩
def mcells (c:Pl.Mc) (gd cd ga ca g1 c1 g2 c2:Nat):Array Value:=#[.slice (some ⟨gd,0,none⟩) 4 cd,.slice (some ⟨ga,0,none⟩) 4 ca,iv c.r.o,iv c.r.p,iv c.r.f,iv c.r.m,.bool c.r.s,.bool c.r.t,.slice (some ⟨g1,0,none⟩) 512 c1,.slice (some ⟨g2,0,none⟩) c.bm c2,.bool c.st,iv c.f.v,iv c.f.pc,iv c.f.ad,iv c.f.wo,.bool c.f.wr]
structure MO (w:World) (lo mid hi p gd ga g1 g2 c2:Nat) (xs ys bx bl:List Int) (bm:Nat):Prop where
 d:Own w gd xs
 a:Own w ga ys
 b:Own w g1 bx
 l:w.ownsRow mid 96 5 (.slice (some ⟨g2,0,none⟩) bm c2) bm (bl.map (Value.int .i64))
 d0:lo≤gd
 d1:gd<mid
 a0:lo≤ga
 a1:ga<mid
 da:gd≠ga
 p0:mid≤p
 b0:mid≤g1
 pb:p≠g1
 pl:p≠g2
 p1:p<hi
 b1:g1<hi
 bl':g1≠g2
 hh:hi≤w.heap.size
def MB (w:World) (p gd cd ga ca g1 c1 g2 c2:Nat) (c:Pl.Mc):Prop:=Blk w p (mcells c gd cd ga ca g1 c1 g2 c2) 72
def MAt (w:World) (lo mid hi p g2:Nat) (c:Pl.Mc):Prop:=∃gd cd ga ca g1 c1 c2:Nat,MB w p gd cd ga ca g1 c1 g2 c2 c∧MO w lo mid hi p gd ga g1 g2 c2 c.r.xs c.r.ys c.bx c.bl c.bm
theorem MO.kept {w w':World} {lo mid hi p gd ga g1 g2 c2 x y:Nat} {xs ys bx bl:List Int} {bm:Nat} (h:MO w lo mid hi p gd ga g1 g2 c2 xs ys bx bl bm) (k:Kept x y w w') (hd:¬(x≤gd∧gd<y)) (ha:¬(x≤ga∧ga<y)) (h1:¬(x≤g1∧g1<y)) (h2:¬(x≤g2∧g2<y)):MO w' lo mid hi p gd ga g1 g2 c2 xs ys bx bl bm:=
 ⟨h.d.keptS k hd,h.a.keptS k ha,h.b.keptS k h1,ownsRow_keptS h.l k h2,h.d0,h.d1,h.a0,h.a1,h.da,h.p0,h.b0,h.pb,h.pl,h.p1,h.b1,h.bl',Nat.le_trans h.hh k.size⟩
theorem MO.g2 {w:World} {lo mid hi p gd ga g1 g2 c2:Nat} {xs ys bx bl:List Int} {bm:Nat} (h:MO w lo mid hi p gd ga g1 g2 c2 xs ys bx bl bm):mid≤g2∧g2<w.heap.size:=h.l.lt g2 rfl
theorem MO.own {w w':World} {lo mid hi p gd ga g1 g2 c2:Nat} {xs ys bx bl:List Int} {bm:Nat} (h:MO w lo mid hi p gd ga g1 g2 c2 xs ys bx bl bm) (k:Kept p (p+1) w w'):MO w' lo mid hi p gd ga g1 g2 c2 xs ys bx bl bm:=by
 have:=h.d1;have:=h.a1;have:=h.p0;have:=h.pb;have:=h.pl
 exact h.kept k (by omega) (by omega) (by omega) (by omega)
theorem MO.any {w w':World} {lo mid hi p gd ga g1 g2 c2:Nat} {xs ys bx bl:List Int} {bm:Nat} (h:MO w lo mid hi p gd ga g1 g2 c2 xs ys bx bl bm) (k:Kept 0 0 w w'):MO w' lo mid hi p gd ga g1 g2 c2 xs ys bx bl bm:=h.kept k (by omega) (by omega) (by omega) (by omega)
theorem MO.setA {w:World} {lo mid hi p gd ga g1 g2 c2:Nat} {xs ys bx bl:List Int} {bm:Nat} (h:MO w lo mid hi p gd ga g1 g2 c2 xs ys bx bl bm) (k:Nat) (v:Int):MO (w.setCell ⟨ga,k,none⟩ (iv v)) lo mid hi p gd ga g1 g2 c2 xs (ys.set k v) bx bl bm:=by
 have:=h.d1;have:=h.a1;have:=h.p0;have:=h.pb;have:=h.pl;have:=h.g2;have:=h.b0;have:=h.da
 exact ⟨h.d.setOther _ _ _ (by omega),h.a.set_el v,h.b.setOther _ _ _ (by omega),h.l.kept (grownBy_set _ _ _ _) (.inr (fun e=>by have h3:g2=ga:=Option.some.inj e;omega)),h.d0,h.d1,h.a0,h.a1,h.da,h.p0,h.b0,h.pb,h.pl,h.p1,h.b1,h.bl',by simpa using h.hh⟩
theorem MO.reg {w:World} {lo mid hi p gd ga g1 g2 c2:Nat} {r:Pl.Rg} {bx bl:List Int} {bm:Nat} (h:MO w lo mid hi p gd ga g1 g2 c2 r.xs r.ys bx bl bm):RegAt w lo mid r (some ⟨gd,0,none⟩) (some ⟨ga,0,none⟩):=
 ⟨.inr ⟨gd,rfl,h.d0,h.d1,h.d⟩,.inr ⟨ga,rfl,h.a0,h.a1,h.a⟩,fun g e q=>h.da (by have e1:gd=g:=Option.some.inj e;have e2:ga=g:=Option.some.inj q;omega)⟩
theorem slotIn_own {w:World} {lo hi g:Nat} {xs:List Int} (h:SlotIn w lo hi (some ⟨g,0,none⟩) xs):Own w g xs:=by
 rcases h with ⟨e,_⟩|⟨g',e,_,_,ho⟩
 ·cases e
 ·cases e;exact ho
theorem MO.regs {w w':World} {lo mid hi p gd ga g1 g2 c2:Nat} {xs ys bx bl:List Int} {bm:Nat} {r:Pl.Rg} (h:MO w lo mid hi p gd ga g1 g2 c2 xs ys bx bl bm) (hr:RegAt w' lo mid r (some ⟨gd,0,none⟩) (some ⟨ga,0,none⟩)) (k:Kept lo mid w w'):MO w' lo mid hi p gd ga g1 g2 c2 r.xs r.ys bx bl bm:=by
 have:=h.p0;have:=h.g2;have:=h.b0
 exact ⟨slotIn_own hr.1,slotIn_own hr.2.1,h.b.keptS k (by omega),ownsRow_keptS h.l k (by omega),h.d0,h.d1,h.a0,h.a1,h.da,h.p0,h.b0,h.pb,h.pl,h.p1,h.b1,h.bl',Nat.le_trans h.hh k.size⟩
theorem MB.regs {w w':World} {lo mid p gd cd ga ca g1 c1 g2 c2:Nat} {c:Pl.Mc} (h:MB w p gd cd ga ca g1 c1 g2 c2 c) (k:Kept lo mid w w') (hp:mid≤p):MB w' p gd cd ga ca g1 c1 g2 c2 c:=Blk.kept h k (by omega)
theorem MB.any {w w':World} {p gd cd ga ca g1 c1 g2 c2:Nat} {c:Pl.Mc} (h:MB w p gd cd ga ca g1 c1 g2 c2 c) (k:Kept 0 0 w w'):MB w' p gd cd ga ca g1 c1 g2 c2 c:=Blk.kept0 h k
theorem MB.cells {w:World} {p gd cd ga ca g1 c1 g2 c2:Nat} {c:Pl.Mc} (h:MB w p gd cd ga ca g1 c1 g2 c2 c) :
  w.cell? ⟨p,0,none⟩=some (.slice (some ⟨gd,0,none⟩) 4 cd)∧w.cell? ⟨p,1,none⟩=some (.slice (some ⟨ga,0,none⟩) 4 ca)∧w.cell? ⟨p,2,none⟩=some (iv c.r.o)∧w.cell? ⟨p,3,none⟩=some (iv c.r.p)∧w.cell? ⟨p,4,none⟩=some (iv c.r.f)∧w.cell? ⟨p,5,none⟩=some (iv c.r.m)∧w.cell? ⟨p,6,none⟩=some (.bool c.r.s)∧w.cell? ⟨p,7,none⟩=some (.bool c.r.t)∧
  w.cell? ⟨p,8,none⟩=some (.slice (some ⟨g1,0,none⟩) 512 c1)∧w.cell? ⟨p,9,none⟩=some (.slice (some ⟨g2,0,none⟩) c.bm c2)∧w.cell? ⟨p,10,none⟩=some (.bool c.st)∧w.cell? ⟨p,11,none⟩=some (iv c.f.v)∧w.cell? ⟨p,12,none⟩=some (iv c.f.pc)∧w.cell? ⟨p,13,none⟩=some (iv c.f.ad)∧w.cell? ⟨p,14,none⟩=some (iv c.f.wo)∧w.cell? ⟨p,15,none⟩=some (.bool c.f.wr):=
 ⟨Blk.cell (i:=0) h rfl,Blk.cell (i:=1) h rfl,Blk.cell (i:=2) h rfl,Blk.cell (i:=3) h rfl,Blk.cell (i:=4) h rfl,Blk.cell (i:=5) h rfl,Blk.cell (i:=6) h rfl,Blk.cell (i:=7) h rfl,Blk.cell (i:=8) h rfl,Blk.cell (i:=9) h rfl,Blk.cell (i:=10) h rfl,Blk.cell (i:=11) h rfl,Blk.cell (i:=12) h rfl,Blk.cell (i:=13) h rfl,Blk.cell (i:=14) h rfl,Blk.cell (i:=15) h rfl⟩
theorem MB.frozen {w:World} {p gd cd ga ca g1 c1 g2 c2:Nat} {c:Pl.Mc} (h:MB w p gd cd ga ca g1 c1 g2 c2 c) (i:Nat):w.frozen? ⟨p,i,none⟩=false:=Blk.frozen h i
theorem MB.lt {w:World} {p gd cd ga ca g1 c1 g2 c2:Nat} {c:Pl.Mc} (h:MB w p gd cd ga ca g1 c1 g2 c2 c):p<w.heap.size:=Blk.lt h
theorem s16_0 (a0 a1 a2 a3 a4 a5 a6 a7 a8 a9 a10 a11 a12 a13 a14 a15 v:Value):(#[a0,a1,a2,a3,a4,a5,a6,a7,a8,a9,a10,a11,a12,a13,a14,a15]:Array Value).setIfInBounds 0 v=#[v,a1,a2,a3,a4,a5,a6,a7,a8,a9,a10,a11,a12,a13,a14,a15]:=rfl
theorem s16_1 (a0 a1 a2 a3 a4 a5 a6 a7 a8 a9 a10 a11 a12 a13 a14 a15 v:Value):(#[a0,a1,a2,a3,a4,a5,a6,a7,a8,a9,a10,a11,a12,a13,a14,a15]:Array Value).setIfInBounds 1 v=#[a0,v,a2,a3,a4,a5,a6,a7,a8,a9,a10,a11,a12,a13,a14,a15]:=rfl
theorem s16_2 (a0 a1 a2 a3 a4 a5 a6 a7 a8 a9 a10 a11 a12 a13 a14 a15 v:Value):(#[a0,a1,a2,a3,a4,a5,a6,a7,a8,a9,a10,a11,a12,a13,a14,a15]:Array Value).setIfInBounds 2 v=#[a0,a1,v,a3,a4,a5,a6,a7,a8,a9,a10,a11,a12,a13,a14,a15]:=rfl
theorem s16_3 (a0 a1 a2 a3 a4 a5 a6 a7 a8 a9 a10 a11 a12 a13 a14 a15 v:Value):(#[a0,a1,a2,a3,a4,a5,a6,a7,a8,a9,a10,a11,a12,a13,a14,a15]:Array Value).setIfInBounds 3 v=#[a0,a1,a2,v,a4,a5,a6,a7,a8,a9,a10,a11,a12,a13,a14,a15]:=rfl
theorem s16_4 (a0 a1 a2 a3 a4 a5 a6 a7 a8 a9 a10 a11 a12 a13 a14 a15 v:Value):(#[a0,a1,a2,a3,a4,a5,a6,a7,a8,a9,a10,a11,a12,a13,a14,a15]:Array Value).setIfInBounds 4 v=#[a0,a1,a2,a3,v,a5,a6,a7,a8,a9,a10,a11,a12,a13,a14,a15]:=rfl
theorem s16_5 (a0 a1 a2 a3 a4 a5 a6 a7 a8 a9 a10 a11 a12 a13 a14 a15 v:Value):(#[a0,a1,a2,a3,a4,a5,a6,a7,a8,a9,a10,a11,a12,a13,a14,a15]:Array Value).setIfInBounds 5 v=#[a0,a1,a2,a3,a4,v,a6,a7,a8,a9,a10,a11,a12,a13,a14,a15]:=rfl
theorem s16_6 (a0 a1 a2 a3 a4 a5 a6 a7 a8 a9 a10 a11 a12 a13 a14 a15 v:Value):(#[a0,a1,a2,a3,a4,a5,a6,a7,a8,a9,a10,a11,a12,a13,a14,a15]:Array Value).setIfInBounds 6 v=#[a0,a1,a2,a3,a4,a5,v,a7,a8,a9,a10,a11,a12,a13,a14,a15]:=rfl
theorem s16_7 (a0 a1 a2 a3 a4 a5 a6 a7 a8 a9 a10 a11 a12 a13 a14 a15 v:Value):(#[a0,a1,a2,a3,a4,a5,a6,a7,a8,a9,a10,a11,a12,a13,a14,a15]:Array Value).setIfInBounds 7 v=#[a0,a1,a2,a3,a4,a5,a6,v,a8,a9,a10,a11,a12,a13,a14,a15]:=rfl
theorem s16_10 (a0 a1 a2 a3 a4 a5 a6 a7 a8 a9 a10 a11 a12 a13 a14 a15 v:Value):(#[a0,a1,a2,a3,a4,a5,a6,a7,a8,a9,a10,a11,a12,a13,a14,a15]:Array Value).setIfInBounds 10 v=#[a0,a1,a2,a3,a4,a5,a6,a7,a8,a9,v,a11,a12,a13,a14,a15]:=rfl
theorem s16_11 (a0 a1 a2 a3 a4 a5 a6 a7 a8 a9 a10 a11 a12 a13 a14 a15 v:Value):(#[a0,a1,a2,a3,a4,a5,a6,a7,a8,a9,a10,a11,a12,a13,a14,a15]:Array Value).setIfInBounds 11 v=#[a0,a1,a2,a3,a4,a5,a6,a7,a8,a9,a10,v,a12,a13,a14,a15]:=rfl
theorem s16_13 (a0 a1 a2 a3 a4 a5 a6 a7 a8 a9 a10 a11 a12 a13 a14 a15 v:Value):(#[a0,a1,a2,a3,a4,a5,a6,a7,a8,a9,a10,a11,a12,a13,a14,a15]:Array Value).setIfInBounds 13 v=#[a0,a1,a2,a3,a4,a5,a6,a7,a8,a9,a10,a11,a12,v,a14,a15]:=rfl
theorem s16_15 (a0 a1 a2 a3 a4 a5 a6 a7 a8 a9 a10 a11 a12 a13 a14 a15 v:Value):(#[a0,a1,a2,a3,a4,a5,a6,a7,a8,a9,a10,a11,a12,a13,a14,a15]:Array Value).setIfInBounds 15 v=#[a0,a1,a2,a3,a4,a5,a6,a7,a8,a9,a10,a11,a12,a13,a14,v]:=rfl
theorem MB.laid {w:World} {p gd cd ga ca g1 c1 g2 c2:Nat} {c:Pl.Mc} (h:MB w p gd cd ga ca g1 c1 g2 c2 c) (r:Pl.Rg):MB ((((((((w.setCell ⟨p,0,none⟩ (.slice (some ⟨gd,0,none⟩) 4 cd)).setCell ⟨p,1,none⟩ (.slice (some ⟨ga,0,none⟩) 4 ca)).setCell ⟨p,2,none⟩ (iv r.o)).setCell ⟨p,3,none⟩ (iv r.p)).setCell ⟨p,4,none⟩ (iv r.f)).setCell ⟨p,5,none⟩ (iv r.m)).setCell ⟨p,6,none⟩ (.bool r.s)).setCell ⟨p,7,none⟩ (.bool r.t)) p gd cd ga ca g1 c1 g2 c2 (c.setR r):=
 by
 have q:=(((((((Blk.set h 0 (.slice (some ⟨gd,0,none⟩) 4 cd)).set 1 (.slice (some ⟨ga,0,none⟩) 4 ca)).set 2 (iv r.o)).set 3 (iv r.p)).set 4 (iv r.f)).set 5 (iv r.m)).set 6 (.bool r.s)).set 7 (.bool r.t)
 unfold mcells at q
 rw [s16_0,s16_1,s16_2,s16_3,s16_4,s16_5,s16_6,s16_7] at q
 exact q
theorem MB.kept8 {w:World} {p:Nat} (v0 v1 v2 v3 v4 v5 v6 v7:Value):Kept p (p+1) w ((((((((w.setCell ⟨p,0,none⟩ v0).setCell ⟨p,1,none⟩ v1).setCell ⟨p,2,none⟩ v2).setCell ⟨p,3,none⟩ v3).setCell ⟨p,4,none⟩ v4).setCell ⟨p,5,none⟩ v5).setCell ⟨p,6,none⟩ v6).setCell ⟨p,7,none⟩ v7):=
 kept_set (kept_set (kept_set (kept_set (kept_set (kept_set (kept_set (kept_set (Kept.refl _ _ _) _ _ _ (.inl (by omega))) _ _ _ (.inl (by omega))) _ _ _ (.inl (by omega))) _ _ _ (.inl (by omega))) _ _ _ (.inl (by omega))) _ _ _ (.inl (by omega))) _ _ _ (.inl (by omega))) _ _ _ (.inl (by omega))
theorem MB.cP {w:World} {p gd cd ga ca g1 c1 g2 c2:Nat} {c:Pl.Mc} (h:MB w p gd cd ga ca g1 c1 g2 c2 c) (v:Int):MB (w.setCell ⟨p,3,none⟩ (iv v)) p gd cd ga ca g1 c1 g2 c2 (c.setP v):=by
 have q:=Blk.set h 3 (iv v)
 unfold mcells at q
 rw [s16_3] at q
 exact q
theorem MB.cSt {w:World} {p gd cd ga ca g1 c1 g2 c2:Nat} {c:Pl.Mc} (h:MB w p gd cd ga ca g1 c1 g2 c2 c) (v:Bool):MB (w.setCell ⟨p,10,none⟩ (.bool v)) p gd cd ga ca g1 c1 g2 c2 ({c with st:=v}):=by
 have q:=Blk.set h 10 (.bool v)
 unfold mcells at q
 rw [s16_10] at q
 exact q
theorem MB.cV {w:World} {p gd cd ga ca g1 c1 g2 c2:Nat} {c:Pl.Mc} (h:MB w p gd cd ga ca g1 c1 g2 c2 c) (v:Int):MB (w.setCell ⟨p,11,none⟩ (iv v)) p gd cd ga ca g1 c1 g2 c2 ({c with f:={c.f with v:=v}}):=by
 have q:=Blk.set h 11 (iv v)
 unfold mcells at q
 rw [s16_11] at q
 exact q
theorem MB.cAd {w:World} {p gd cd ga ca g1 c1 g2 c2:Nat} {c:Pl.Mc} (h:MB w p gd cd ga ca g1 c1 g2 c2 c) (v:Int):MB (w.setCell ⟨p,13,none⟩ (iv v)) p gd cd ga ca g1 c1 g2 c2 ({c with f:={c.f with ad:=v}}):=by
 have q:=Blk.set h 13 (iv v)
 unfold mcells at q
 rw [s16_13] at q
 exact q
theorem MB.cWr {w:World} {p gd cd ga ca g1 c1 g2 c2:Nat} {c:Pl.Mc} (h:MB w p gd cd ga ca g1 c1 g2 c2 c) (v:Bool):MB (w.setCell ⟨p,15,none⟩ (.bool v)) p gd cd ga ca g1 c1 g2 c2 ({c with f:={c.f with wr:=v}}):=by
 have q:=Blk.set h 15 (.bool v)
 unfold mcells at q
 rw [s16_15] at q
 exact q
theorem MB.otherD {w:World} {p gd cd ga ca g1 c1 g2 c2:Nat} {c:Pl.Mc} (h:MB w p gd cd ga ca g1 c1 g2 c2 c) (b i:Nat) (v:Value) (hn:p≠b):MB (w.setCell ⟨b,i,none⟩ v) p gd cd ga ca g1 c1 g2 c2 c:=Blk.other h b i v hn
theorem kept_one (w:World) (p i:Nat) (v:Value):Kept p (p+1) w (w.setCell ⟨p,i,none⟩ v):=kept_set (Kept.refl _ _ _) _ _ _ (.inl (by omega))
theorem Kept.one {w w':World} {p:Nat} (h:Kept p (p+1) w w') (i:Nat) (v:Value):Kept p (p+1) w (w'.setCell ⟨p,i,none⟩ v):=kept_set h _ _ _ (.inl (by omega))
theorem MAt.any {w w':World} {lo mid hi p g2:Nat} {c:Pl.Mc} (h:MAt w lo mid hi p g2 c) (k:Kept 0 0 w w'):MAt w' lo mid hi p g2 c:=by
 obtain ⟨gd,cd,ga,ca,g1,c1,c2,hB,hO⟩:=h
 exact ⟨gd,cd,ga,ca,g1,c1,c2,hB.any k,hO.any k⟩
theorem MAt.lo {w:World} {lo mid hi p g2:Nat} {c:Pl.Mc} (h:MAt w lo mid hi p g2 c):lo≤mid∧mid≤w.heap.size∧mid≤p∧p<hi∧p<w.heap.size∧g2<w.heap.size∧hi≤w.heap.size:=by
 obtain ⟨gd,cd,ga,ca,g1,c1,c2,hB,hO⟩:=h
 have:=hO.d0;have:=hO.d1;have:=hO.p0;have:=hB.lt;have:=hO.p1;have:=hO.g2;have:=hO.hh
 omega
theorem MAt.laid {W:World} {lo mid hi p gd cd ga ca g1 c1 g2 c2:Nat} {c:Pl.Mc} {r:Pl.Rg} (hB:MB W p gd cd ga ca g1 c1 g2 c2 c) (hO:MO W lo mid hi p gd ga g1 g2 c2 r.xs r.ys c.bx c.bl c.bm):MAt ((((((((W.setCell ⟨p,0,none⟩ (.slice (some ⟨gd,0,none⟩) 4 cd)).setCell ⟨p,1,none⟩ (.slice (some ⟨ga,0,none⟩) 4 ca)).setCell ⟨p,2,none⟩ (iv r.o)).setCell ⟨p,3,none⟩ (iv r.p)).setCell ⟨p,4,none⟩ (iv r.f)).setCell ⟨p,5,none⟩ (iv r.m)).setCell ⟨p,6,none⟩ (.bool r.s)).setCell ⟨p,7,none⟩ (.bool r.t)) lo mid hi p g2 (c.setR r):=
 ⟨gd,cd,ga,ca,g1,c1,c2,hB.laid r,hO.own (MB.kept8 _ _ _ _ _ _ _ _)⟩
def regV (r:Pl.Rg) (gd cd ga ca:Nat):Value:=.agg #[.slice (some ⟨gd,0,none⟩) 4 cd,.slice (some ⟨ga,0,none⟩) 4 ca,iv r.o,iv r.p,iv r.f,iv r.m,.bool r.s,.bool r.t]
theorem with4 (w:World) (lo mid gd cd ga ca:Nat) (r:Pl.Rg) (n:Int) (hr:RegAt w lo mid r (some ⟨gd,0,none⟩) (some ⟨ga,0,none⟩)) (hh:mid≤w.heap.size) (hg:Pl.Good r) (h0:0≤n) (h1:n≤1023) :
  Calls prog 39 #[regV r gd cd ga ca,iv n] w fun e w'=>e=.returned (regV (Pl.withR r n) gd cd ga ca)∧RegAt w' lo mid (Pl.withR r n) (some ⟨gd,0,none⟩) (some ⟨ga,0,none⟩)∧Kept lo mid w w':=by
 have h:=specWith w lo mid r _ _ cd ca n hr hh hg h0 h1
 rw [hg.d4,hg.a4,(hg.with n).d4,(hg.with n).a4] at h
 exact h
theorem touch16 (w:World) (lo mid hi p gd cd ga ca g1 c1 g2 c2:Nat) (c:Pl.Mc) (k s a v:Int) (hB:MB w p gd cd ga ca g1 c1 g2 c2 c) (hO:MO w lo mid hi p gd ga g1 g2 c2 c.r.xs c.r.ys c.bx c.bl c.bm) (G:Pl.GM c) (hask:Pl.askOk k s a v=true) :
  Calls prog 74 #[.pointer (some ⟨p,8,none⟩),iv k,iv s,iv a,iv v] w fun e w'=>∃g3 c3:Nat,e=.returned (.tuple #[iv (c.accV k s a v),iv (Pl.code k s a)])∧
   MB w' p gd cd ga ca g1 c1 g3 c3 {c.acc k s a v with f:=c.f}∧MO w' lo mid hi p gd ga g1 g3 c3 c.r.xs c.r.ys (c.acc k s a v).bx (c.acc k s a v).bl (c.acc k s a v).bm∧Since w lo hi g2 w' g3:=by
 refine (l4Tm w p mid g1 g2 _ _ _ _ _ _ _ _ _ _ _ _ _ _ c.bx c.bl c1 c.bm c2 k s a v hB hO.b G.bx G.ok hO.l hO.p0 hO.b0 hO.pb hO.pl hO.bl' G.bm hask).mono ?_
 rintro e w' ⟨g3,c3,rfl,hB2,hb2,hl2,n1,kk⟩
 have q1:=hO.d1
 have q2:=hO.a1
 have q3:=hO.d0
 have q4:=hB.lt
 have q5:=hO.p0
 have q6:=hO.p1
 have q7:=hO.b1
 have q8:=hO.b0
 have q9:=hO.g2
 have qa:=hO.pb
 have qb:=hO.pl
 have qc:=hO.bl'
 have qd:=hO.b.lt (by rw [G.bx];decide)
 exact ⟨g3,c3,rfl,hB2,⟨kk.own hO.d (by omega),kk.own hO.a (by omega),hb2,hl2,hO.d0,hO.d1,hO.a0,hO.a1,hO.da,hO.p0,hO.b0,hO.pb,by omega,hO.p1,hO.b1,by omega,Nat.le_trans hO.hh kk.size⟩,n1,kk.wide (fun i _ h=>by unfold own;omega)⟩
theorem MAt.past {w w':World} {lo mid hi p g2 b:Nat} {c:Pl.Mc} (h:MAt w lo mid hi p g2 c) (k:Kept b (b+1) w w') (hb:hi≤b) (hn:b≠g2):MAt w' lo mid hi p g2 c:=by
 obtain ⟨gd,cd,ga,ca,g1,c1,c2,hB,hO⟩:=h
 have:=hO.d1;have:=hO.a1;have:=hO.p0;have:=hO.p1;have:=hO.b1
 exact ⟨gd,cd,ga,ca,g1,c1,c2,Blk.kept hB k (by omega),hO.kept k (by omega) (by omega) (by omega) (by omega)⟩
theorem MAt.cell {w w':World} {lo mid hi p g2:Nat} {c c':Pl.Mc} (h:MAt w lo mid hi p g2 c) (k:Kept p (p+1) w w') (hB:∀gd cd ga ca g1 c1 c2:Nat,MB w p gd cd ga ca g1 c1 g2 c2 c→MB w' p gd cd ga ca g1 c1 g2 c2 c') (e1:c'.r.xs=c.r.xs) (e2:c'.r.ys=c.r.ys) (e3:c'.bx=c.bx) (e4:c'.bl=c.bl) (e5:c'.bm=c.bm):MAt w' lo mid hi p g2 c':=by
 obtain ⟨gd,cd,ga,ca,g1,c1,c2,hB0,hO⟩:=h
 refine ⟨gd,cd,ga,ca,g1,c1,c2,hB _ _ _ _ _ _ _ hB0,?_⟩
 rw [e1,e2,e3,e4,e5]
 exact hO.own k
theorem MAt.cP {w:World} {lo mid hi p g2:Nat} {c:Pl.Mc} (h:MAt w lo mid hi p g2 c) (v:Int):MAt (w.setCell ⟨p,3,none⟩ (iv v)) lo mid hi p g2 (c.setP v):=h.cell (kept_one _ _ _ _) (fun _ _ _ _ _ _ _ q=>q.cP v) rfl rfl rfl rfl rfl
theorem MAt.cSt {w:World} {lo mid hi p g2:Nat} {c:Pl.Mc} (h:MAt w lo mid hi p g2 c) (v:Bool):MAt (w.setCell ⟨p,10,none⟩ (.bool v)) lo mid hi p g2 ({c with st:=v}):=h.cell (kept_one _ _ _ _) (fun _ _ _ _ _ _ _ q=>q.cSt v) rfl rfl rfl rfl rfl
section
variable {w:World} {p gd cd ga ca g1 c1 g2 c2:Nat} {c:Pl.Mc}
theorem MB.k0 (h:MB w p gd cd ga ca g1 c1 g2 c2 c):w.cell? ⟨p,0,none⟩=some (.slice (some ⟨gd,0,none⟩) 4 cd):=Blk.cell h rfl
theorem MB.k1 (h:MB w p gd cd ga ca g1 c1 g2 c2 c):w.cell? ⟨p,1,none⟩=some (.slice (some ⟨ga,0,none⟩) 4 ca):=Blk.cell h rfl
theorem MB.k2 (h:MB w p gd cd ga ca g1 c1 g2 c2 c):w.cell? ⟨p,2,none⟩=some (iv c.r.o):=Blk.cell h rfl
theorem MB.k3 (h:MB w p gd cd ga ca g1 c1 g2 c2 c):w.cell? ⟨p,3,none⟩=some (iv c.r.p):=Blk.cell h rfl
theorem MB.k4 (h:MB w p gd cd ga ca g1 c1 g2 c2 c):w.cell? ⟨p,4,none⟩=some (iv c.r.f):=Blk.cell h rfl
theorem MB.k5 (h:MB w p gd cd ga ca g1 c1 g2 c2 c):w.cell? ⟨p,5,none⟩=some (iv c.r.m):=Blk.cell h rfl
theorem MB.k6 (h:MB w p gd cd ga ca g1 c1 g2 c2 c):w.cell? ⟨p,6,none⟩=some (.bool c.r.s):=Blk.cell h rfl
theorem MB.k7 (h:MB w p gd cd ga ca g1 c1 g2 c2 c):w.cell? ⟨p,7,none⟩=some (.bool c.r.t):=Blk.cell h rfl
theorem MB.k10 (h:MB w p gd cd ga ca g1 c1 g2 c2 c):w.cell? ⟨p,10,none⟩=some (.bool c.st):=Blk.cell h rfl
theorem MB.c8 (h:MB w p gd cd ga ca g1 c1 g2 c2 c):w.cell? ⟨p,0,none⟩=some (.slice (some ⟨gd,0,none⟩) 4 cd)∧w.cell? ⟨p,1,none⟩=some (.slice (some ⟨ga,0,none⟩) 4 ca)∧w.cell? ⟨p,2,none⟩=some (iv c.r.o)∧w.cell? ⟨p,3,none⟩=some (iv c.r.p)∧w.cell? ⟨p,4,none⟩=some (iv c.r.f)∧w.cell? ⟨p,5,none⟩=some (iv c.r.m)∧w.cell? ⟨p,6,none⟩=some (.bool c.r.s)∧w.cell? ⟨p,7,none⟩=some (.bool c.r.t):=⟨h.k0,h.k1,h.k2,h.k3,h.k4,h.k5,h.k6,h.k7⟩
end
theorem MAt.op {w:World} {lo mid hi p g2:Nat} {c:Pl.Mc} (h:MAt w lo mid hi p g2 c):∃gd cd ga ca g1 c1 c2:Nat,Hid (MB w p gd cd ga ca g1 c1 g2 c2 c)∧Hid (MO w lo mid hi p gd ga g1 g2 c2 c.r.xs c.r.ys c.bx c.bl c.bm):=by
 obtain ⟨gd,cd,ga,ca,g1,c1,c2,hB,hO⟩:=h
 exact ⟨gd,cd,ga,ca,g1,c1,c2,hide hB,hide hO⟩
theorem mFine (w:World) (lo mid hi p g2:Nat) (c:Pl.Mc) (h:MAt w lo mid hi p g2 c) :
  Calls prog 40 #[.pointer (some ⟨p,0,none⟩)] w fun e w'=>e=.returned (.bool c.fine)∧w'=w:=by
 obtain ⟨gd,cd,ga,ca,g1,c1,c2,hB,hO⟩:=h
 obtain ⟨t0,t1,t2,t3,t4,t5,t6,t7,t8,t9,t10,t11,t12,t13,t14,t15⟩:=hB.cells
 clear hB hO
 go_enter func40,ntmps40
 go_wp2
 go_ret
 exact ⟨rfl,rfl⟩
theorem MB.acc {w:World} {p gd cd ga ca g1 c1 g3 c3:Nat} {c:Pl.Mc} {k s a v:Int} (h:MB w p gd cd ga ca g1 c1 g3 c3 {c.acc k s a v with f:=c.f}) (e:Pl.Mc.accF c.f k s a=c.f):MB w p gd cd ga ca g1 c1 g3 c3 (c.acc k s a v):=by
 have q:c.acc k s a v={c.acc k s a v with f:=c.f}:=by
  unfold Pl.Mc.acc;rw [e]
 rw [q];exact h
theorem mAccess (w:World) (lo mid hi p g2:Nat) (c:Pl.Mc) (k s a v:Int) (h:MAt w lo mid hi p g2 c) (G:Pl.GM c) (hask:Pl.askOk k s a v=true) :
  Calls prog 42 #[.pointer (some ⟨p,0,none⟩),iv k,iv s,iv a,iv v] w fun e w'=>e=.returned (iv (c.accV k s a v))∧∃g3,MAt w' lo mid hi p g3 (c.acc k s a v)∧Since w lo hi g2 w' g3:=by
 obtain ⟨gd,cd,ga,ca,g1,c1,c2,hB,hO⟩:=h
 have HB:=hide hB
 have HO:=hide hO
 have HG:=hide G
 clear hB hO G
 cases hc:(Pl.code k s a != 0)
 ·have HF:Hid (Pl.Mc.accF c.f k s a=c.f):=hide (by unfold Pl.Mc.accF;rw [hc];rfl)
  go_enter func42,ntmps42
  go_wp2_with (go_at_call 74;refine (touch16 _ lo mid hi p gd cd ga ca g1 c1 g2 c2 c k s a v HB.out HO.out HG.out hask).mono ?_;rintro e9 W ⟨g3,c3,rfl,hB2,hO2,hb2⟩;have HB2:=hide hB2;have HO2:=hide hO2;have HL2:=hide hb2;clear hB2 hO2 hb2)
  go_ret
  exact ⟨rfl,g3,⟨gd,cd,ga,ca,g1,c1,c3,HB2.out.acc HF.out,HO2.out⟩,HL2.out⟩
 ·cases hv:(c.f.v==0)
  ·have HF:Hid (Pl.Mc.accF c.f k s a=c.f):=hide (by unfold Pl.Mc.accF;rw [hc,hv];rfl)
   go_enter func42,ntmps42
   go_wp2_with (go_at_call 74;refine (touch16 _ lo mid hi p gd cd ga ca g1 c1 g2 c2 c k s a v HB.out HO.out HG.out hask).mono ?_;rintro e9 W ⟨g3,c3,rfl,hB2,hO2,hb2⟩;have HB2:=hide hB2;have HO2:=hide hO2;have HL2:=hide hb2;obtain ⟨t0,t1,t2,t3,t4,t5,t6,t7,t8,t9,t10,t11,t12,t13,t14,t15⟩:=hB2.cells;simp only at t11;clear hB2 hO2 hb2 t0 t1 t2 t3 t4 t5 t6 t7 t8 t9 t10 t12 t13 t14 t15)
   go_ret
   exact ⟨rfl,g3,⟨gd,cd,ga,ca,g1,c1,c3,HB2.out.acc HF.out,HO2.out⟩,HL2.out⟩
  ·cases h2:(Pl.code k s a==2)
   ·have HF:Hid (Pl.Mc.accF c.f k s a={c.f with v:=2,ad:=a,wr:=k==2}):=hide (by unfold Pl.Mc.accF;rw [hc,hv,h2];rfl)
    go_enter func42,ntmps42
    go_wp2_with (go_at_call 74;refine (touch16 _ lo mid hi p gd cd ga ca g1 c1 g2 c2 c k s a v HB.out HO.out HG.out hask).mono ?_;rintro e9 W ⟨g3,c3,rfl,hB2,hO2,hb2⟩;have HB2:=hide hB2;have HO2:=hide hO2;have HL2:=hide hb2;obtain ⟨t0,t1,t2,t3,t4,t5,t6,t7,t8,t9,t10,t11,t12,t13,t14,t15⟩:=hB2.cells;simp only at t11;have f11:=hB2.frozen 11;have f13:=hB2.frozen 13;have f15:=hB2.frozen 15;clear hB2 hO2 hb2 t0 t1 t2 t3 t4 t5 t6 t7 t8 t9 t10 t12 t14)
    go_ret
    have hq:(lo≤p∧p<hi)∨w.heap.size≤p:=by have:=HO2.out.p0;have:=HO2.out.d0;have:=HO2.out.d1;have:=HO2.out.p1;omega
    have KK:=((kept_one W p 11 (iv 2)).one 13 (iv a)).one 15 (.bool (k==2))
    refine ⟨rfl,g3,⟨gd,cd,ga,ca,g1,c1,c3,?_,HO2.out.own KK⟩,((HL2.out.set p 11 _ hq).set p 13 _ hq).set p 15 _ hq⟩
    have q:=((HB2.out.cV 2).cAd a).cWr (k==2)
    unfold Pl.Mc.acc
    rw [HF.out]
    exact q
   ·have HF:Hid (Pl.Mc.accF c.f k s a={c.f with v:=3,ad:=a,wr:=k==2}):=hide (by unfold Pl.Mc.accF;rw [hc,hv,h2];rfl)
    go_enter func42,ntmps42
    go_wp2_with (go_at_call 74;refine (touch16 _ lo mid hi p gd cd ga ca g1 c1 g2 c2 c k s a v HB.out HO.out HG.out hask).mono ?_;rintro e9 W ⟨g3,c3,rfl,hB2,hO2,hb2⟩;have HB2:=hide hB2;have HO2:=hide hO2;have HL2:=hide hb2;obtain ⟨t0,t1,t2,t3,t4,t5,t6,t7,t8,t9,t10,t11,t12,t13,t14,t15⟩:=hB2.cells;simp only at t11;have f11:=hB2.frozen 11;have f13:=hB2.frozen 13;have f15:=hB2.frozen 15;clear hB2 hO2 hb2 t0 t1 t2 t3 t4 t5 t6 t7 t8 t9 t10 t12 t14)
    go_ret
    have hq:(lo≤p∧p<hi)∨w.heap.size≤p:=by have:=HO2.out.p0;have:=HO2.out.d0;have:=HO2.out.d1;have:=HO2.out.p1;omega
    have KK:=(((kept_one W p 11 (iv 2)).one 11 (iv 3)).one 13 (iv a)).one 15 (.bool (k==2))
    refine ⟨rfl,g3,⟨gd,cd,ga,ca,g1,c1,c3,?_,HO2.out.own KK⟩,(((HL2.out.set p 11 _ hq).set p 11 _ hq).set p 13 _ hq).set p 15 _ hq⟩
    have q:=(((HB2.out.cV 2).cV 3).cAd a).cWr (k==2)
    unfold Pl.Mc.acc
    rw [HF.out]
    exact q
theorem elAt {w:World} {g:Nat} {xs:List Int} (h:Own w g xs) (k:Nat) (hk:k<xs.length):w.cell? ⟨g,k,none⟩=some (iv (el xs k))∧w.frozen? ⟨g,k,none⟩=false:=h k hk
theorem mask16 (n:Int):bits .and .i64 n 65535=n%65536:=Pl.and65535 n
theorem Pl.ask_push {c:Pl.Mc} {v:Int} (h0:0≤v) (h1:v≤65535):Pl.askOk 2 2 c.spA v=true:=by
 have q:0≤c.spA∧c.spA≤65535:=by unfold Pl.Mc.spA;omega
 generalize c.spA=a at q
 simp [Pl.askOk,Pl.accKind,Pl.okv,Pl.top,Pl.addr];omega
theorem Pl.ask_read {k a:Int} (hk:k=1∨k=3) (h0:0≤a) (h1:a≤65535):Pl.askOk k 2 a 0=true:=by
 rcases hk with rfl|rfl<;>simp [Pl.askOk,Pl.accKind,Pl.okv,Pl.top,Pl.addr]<;>omega
theorem mPush (w:World) (lo mid hi p g2:Nat) (c:Pl.Mc) (v:Int) (h:MAt w lo mid hi p g2 c) (G:Pl.GM c) (v0:0≤v) (v1:v≤65535) :
  Calls prog 41 #[.pointer (some ⟨p,0,none⟩),iv v] w fun e w'=>e=.returned (.tuple #[])∧∃g3,MAt w' lo mid hi p g3 (c.push v)∧Since w lo hi g2 w' g3:=by
 have a3:=G.g.aw 3 (by omega)
 have HA:=hide (Pl.ask_push (c:=c) v0 v1)
 have HG:=hide G
 have h4:=hide G.g.a4
 obtain ⟨a30,a31⟩:=a3
 have hm:=mask16 (el c.r.ys 3-2)
 have HM:=hide h
 obtain ⟨gd,cd,ga,ca,g1,c1,c2,HB,HO⟩:=h.op
 have t1:=HB.out.k1
 obtain ⟨hc3,_⟩:=elAt HO.out.a 3 (by rw [h4.out];decide)
 clear G
 cases hf:(c.acc 2 2 c.spA v).fine
 ·have E:Hid (c.push v=c.acc 2 2 c.spA v):=hide (by unfold Pl.Mc.push;rw [hf];rfl)
  go_enter func41,ntmps41
  go_wp2_with (first|(go_at_call 42;refine (mAccess _ lo mid hi p g2 c 2 2 c.spA v HM.out HG.out HA.out).mono ?_;rintro e9 W_1 ⟨rfl,g2_1,hm9,hb9⟩;have HL_1:=hide hb9;clear hb9;have HM_1:=hide hm9;obtain ⟨gd_1,cd_1,ga_1,ca_1,g1_1,c1_1,c2_1,HB_1,HO_1⟩:=hm9.op)|(go_at_call 40;refine st (mFine _ lo mid hi p g2_1 _ HM_1.out) ?_;rw [hf]))
  go_end0
  exact ⟨rfl,g2_1,by rw [E.out];exact HM_1.out,HL_1.out⟩
 ·have E:Hid (c.push v=(c.acc 2 2 c.spA v).setA 3 c.spA):=hide (by unfold Pl.Mc.push;rw [hf];rfl)
  go_enter func41,ntmps41
  go_wp2_with (first|(go_at_call 42;refine (mAccess _ lo mid hi p g2 c 2 2 c.spA v HM.out HG.out HA.out).mono ?_;rintro e9 W_1 ⟨rfl,g2_1,hm9,hb9⟩;have HL_1:=hide hb9;clear hb9;have HM_1:=hide hm9;obtain ⟨gd_1,cd_1,ga_1,ca_1,g1_1,c1_1,c2_1,HB_1,HO_1⟩:=hm9.op;have t1_1:=HB_1.out.k1;obtain ⟨hd3,hf3⟩:=elAt HO_1.out.a 3 (by have:=h4.out;show 3<c.r.ys.length;omega))|(go_at_call 40;refine st (mFine _ lo mid hi p g2_1 _ HM_1.out) ?_;rw [hf]))
  go_end0
  have q0:=HO_1.out.a0
  have q1:=HO_1.out.a1
  have q2:=HO_1.out.p0
  have q3:=HO_1.out.p1
  refine ⟨rfl,g2_1,?_,HL_1.out.set _ _ _ (.inl (by omega))⟩
  rw [E.out]
  exact ⟨gd_1,cd_1,ga_1,ca_1,g1_1,c1_1,c2_1,HB_1.out.otherD _ _ _ (by omega),HO_1.out.setA 3 _⟩
end Go.Proofs.YtkkmnnhaailkcaaGreat
namespace Go.Proofs.YtkkmnnhaailkcaaGreat.Pl
set_option linter.unusedVariables false
namespace Mc
def ps (c:Mc) (v:Int):Mc:=bif c.fine then c.push v else c
def pushes (c:Mc) (xs:List Int):Mc:=xs.foldl ps c
def ent' (d:Mc) (v:Int):Mc:=bif d.fine then (bif (d.acc 1 2 (2*v) 0).fine then (d.acc 1 2 (2*v) 0).setP (d.accV 1 2 (2*v) 0) else d.acc 1 2 (2*v) 0) else d
def ent0 (c:Mc) (n:Int):Mc:={c.setR (withR c.r n) with st:=false}
def ent (c:Mc) (n:Int) (xs:List Int) (v:Int):Mc:=((c.ent0 n).pushes xs).ent' v
end Mc
def entN (r:Rg):Int:=r.f+32*r.m+256
theorem pushes_snoc (c:Mc) (xs:List Int) (v:Int):c.pushes (xs++[v])=(c.pushes xs).ps v:=by simp [Mc.pushes]
theorem pushes_take (c:Mc) (xs:List Int) {k:Nat} (h:k<xs.length):c.pushes (xs.take (k+1))=(c.pushes (xs.take k)).ps (el xs k):=by
 rw [List.take_succ_eq_append_getElem h,pushes_snoc];simp [el,h]
theorem pushes_stay {c:Mc} (h:c.fine=false) (xs:List Int):c.pushes xs=c:=by
 induction xs with
 | nil=>rfl
 | cons v xs ih=>show Mc.pushes (c.ps v) xs=c;rw [show c.ps v=c from by unfold Mc.ps;rw [h];rfl];exact ih
theorem pushes_split (c:Mc) (xs:List Int) (k:Nat):c.pushes xs=(c.pushes (xs.take k)).pushes (xs.drop k):=by
 unfold Mc.pushes;rw [←List.foldl_append,List.take_append_drop]
theorem pushes_bad {c:Mc} {xs:List Int} {k:Nat} (h:(c.pushes (xs.take k)).fine=false):c.pushes xs=c.pushes (xs.take k):=by
 rw [pushes_split c xs k,pushes_stay h]
def wordsOk (xs:List Int):Prop:=∀i,i<xs.length→0≤el xs i∧el xs i≤65535
theorem GM.psh {c:Mc} (h:GM c) {v:Int} (v0:0≤v) (v1:v≤65535):GM (c.push v):=by
 have q:=h.acc (ask_push (c:=c) v0 v1)
 unfold Mc.push
 cases (c.acc 2 2 c.spA v).fine
 ·exact q
 ·exact q.setA 3 (by unfold Mc.spA;omega) (by unfold Mc.spA;omega)
theorem GM.ps {c:Mc} (h:GM c) {v:Int} (v0:0≤v) (v1:v≤65535):GM (c.ps v):=by
 unfold Mc.ps;cases c.fine
 ·exact h
 ·exact h.psh v0 v1
theorem GM.pushes {c:Mc} (h:GM c) {xs:List Int} (hx:wordsOk xs) (k:Nat) (hk:k≤xs.length):GM (c.pushes (xs.take k)):=by
 induction k with
 | zero=>exact h
 | succ k ih=>rw [pushes_take c xs hk];exact (ih (by omega)).ps (hx k hk).1 (hx k hk).2
theorem accF_no {f:Ft} {k s a:Int} (h:f=ftNo) (hf:(Mc.accF f k s a).v=0):Mc.accF f k s a=ftNo:=by
 subst h
 unfold Mc.accF at hf ⊢
 cases hc:(code k s a != 0)
 ·rfl
 ·rw [hc] at hf;simp only [Bool.true_and] at hf
  exfalso;revert hf
  cases (code k s a==2)<;>simp [ftNo]
theorem push_f {c:Mc} {v:Int} (h:c.f=ftNo) (hf:(c.push v).fine=true):(c.push v).f=ftNo:=by
 have e:(c.push v).f=Mc.accF c.f 2 2 c.spA:=by unfold Mc.push;cases (c.acc 2 2 c.spA v).fine<;>rfl
 unfold Mc.fine at hf
 rw [e] at hf ⊢
 exact accF_no h (by simpa using hf)
theorem pushes_f {c:Mc} (h:c.f=ftNo) {xs:List Int} {k:Nat} (hk:k≤xs.length) (hf:(c.pushes (xs.take k)).fine=true):(c.pushes (xs.take k)).f=ftNo:=by
 induction k with
 | zero=>exact h
 | succ k ih=>
  rw [pushes_take c xs hk] at hf ⊢
  cases hb:(c.pushes (xs.take k)).fine
  ·unfold Mc.ps at hf;rw [hb] at hf;simp only [cond_false] at hf;rw [hb] at hf;cases hf
  ·have e:(c.pushes (xs.take k)).ps (el xs k)=(c.pushes (xs.take k)).push (el xs k):=by unfold Mc.ps;rw [hb];rfl
   rw [e] at hf ⊢
   exact push_f (ih (by omega) hb) hf
theorem GM.ent0 {c:Mc} (h:GM c) (n:Int):GM (c.ent0 n):=by
 have q:=h.with n
 exact ⟨q.g,q.p0,q.p1,q.bx,q.ok,q.bl,q.bm,q.ac⟩
theorem ftRow_ok {r:Rg} {f:Ft} (h:Good r) (hf:ftOk f=true):wordsOk (ftRow r f):=by
 obtain ⟨h1,h2,h3,h4,h5⟩:=ft_ok hf
 obtain ⟨s0,s1⟩:=status_in h
 have hi:0≤ftInfo r.s f∧ftInfo r.s f≤3:=by unfold ftInfo fl1;cases f.wr<;>cases r.s<;>decide
 intro i hi'
 unfold ftRow at hi' ⊢
 cases hl:ftLong f.v<;>rw [hl] at hi'<;>simp only [Bool.false_eq_true,if_false,if_true] at hi' ⊢
 ·rcases i with _|_|i
  ·exact h2
  ·exact ⟨s0,by show status r≤_;omega⟩
  ·simp at hi';omega
 ·rcases i with _|_|_|_|_|i
  ·exact h2
  ·exact ⟨s0,by show status r≤_;omega⟩
  ·exact h4
  ·exact h3
  ·exact ⟨hi.1,by show ftInfo r.s f≤_;omega⟩
  ·simp at hi';omega
theorem GM.ent {c:Mc} (h:GM c) {n v:Int} {xs:List Int} (hx:wordsOk xs) (v0:0≤v) (v1:v≤21):GM (c.ent n xs v):=by
 have q:GM ((c.ent0 n).pushes xs):=by have:=(h.ent0 n).pushes hx xs.length (Nat.le_refl _);rwa [List.take_length] at this
 have ha:askOk 1 2 (2*v) 0=true:=ask_read (k:=1) (.inl rfl) (by omega) (by omega)
 have hv:=q.accV ha
 unfold Mc.ent Mc.ent'
 cases ((c.ent0 n).pushes xs).fine
 ·exact q
 ·cases (((c.ent0 n).pushes xs).acc 1 2 (2*v) 0).fine
  ·exact q.acc ha
  ·have hw:0≤((c.ent0 n).pushes xs).accV 1 2 (2*v) 0∧((c.ent0 n).pushes xs).accV 1 2 (2*v) 0≤65535:=by
    have h9:0≤((c.ent0 n).pushes xs).accV 1 2 (2*v) 0∧((c.ent0 n).pushes xs).accV 1 2 (2*v) 0<65536:=by simpa [okv,within,top] using hv
    omega
   exact (q.acc ha).setP hw.1 hw.2
end Go.Proofs.YtkkmnnhaailkcaaGreat.Pl
