/- Part 13 of what the last text leans on. -/
import Derived.Test.YtgikibaajanjiaaGreatDoorJA12
import Derived.Deep.AppendLies
import Derived.Deep.QuietTactic
import Derived.BigQuiet
import Derived.Test.YtgikibaajanjiaaGreatDoorJA11
import Derived.Test.YtgikibaajanjiaaGreatDoorJA1
import Derived.Below
import Derived.Laws.Rows
import Derived.Laws.ResultCell
import Derived.Test.YtgikibaajanjiaaGreatDoorJA3
import Derived.Test.YtgikibaajanjiaaGreatDoorJA9
import Derived.RegionTactic
import Derived.ChangeAlike
import Derived.BigRegion
import Derived.Deep.RegionWith
import Derived.StillTailTactics
import Derived.Test.YtgikibaajanjiaaGreatDoorJA7
import Derived.Test.YtgikibaajanjiaaGreatDoorJA2
set_option maxRecDepth 100000
set_option maxHeartbeats 16000000
namespace Go.Proofs.YtgikibaajanjiaaGreatDoor
open Pl
open Go.RowKit Go.Proofs.Tryz
set_option linter.unusedVariables false
theorem Blk.Hm {w:World} {b:Nat} {r:Rg} {st:Bool} {ha:Hl} {xs:List Int} {u:Value} {ty:TypeId} (h:Blk w b (cor r xs u st ha) ty) {i:Nat} (hi:i<xs.length) (z:Int):Blk (w.setCell ⟨b,14+i,none⟩ (iv z)) b (cor r (xs.set i z) u st ha) ty:=by
 have:=h.set (14+i) (iv z)
 rwa [KG hi] at this
theorem Blk.Vf {w:World} {b:Nat} {r:Rg} {st:Bool} {ha:Hl} {xs:List Int} {u:Value} {ty:TypeId} (h:Blk w b (cor r xs u st ha) ty) (hl:xs.length=512) (u':Value):Blk (w.setCell (Zt b 526) u') b (cor r xs u' st ha) ty:=by
 have:=h.set 526 u'
 rwa [Ky hl] at this
theorem FI {w:World} {b:Nat} {r:Rg} {st:Bool} {ha:Hl} {xs:List Int} {u:Value} {ty:TypeId} (h:Blk w b (cor r xs u st ha) ty) (lx:xs.length=512):w.rangeAt b 14 (xs.map (Value.int .i64))∧w.cell? (Zt b 526)=some u:=by
 refine ⟨?_,h.cell (kC lx)⟩;intro j v hv
 have hj:j<xs.length:=by
  rcases Nat.lt_or_ge j xs.length with h'|h'
  ·exact h'
  ·rw [List.getElem?_eq_none (by simpa using h')] at hv;cases hv
 refine h.cell ?_;rw [vw hj];simpa [el,hj] using hv
theorem BI (w:World) {R:Rg} {ST:Bool} {HA:Hl} (b:Nat) (u:Value) (ty:TypeId) (xs:List Int) (n:Nat) (v:Int) (hB:Blk w b (cor R xs u ST HA) ty) (lx:xs.length=512) (hn:n+1<=512) (v0:0<=v) (v1:v<=255) :
  Calls prog 293 #[.pointer (some (Zt b 14)),iv 1,iv n,iv v] w fun e w'=>e=.returned (.tuple #[])∧Blk w' b (cor R (xs.set n v) u ST HA) ty∧Kept b (b+1) w w':=by
 have HB:=Zr hB;have LX:=Zr lx;have c0:=hB.cell (vw (r:=R) (u:=u) (st:=ST) (ha:=HA) (i:=n) (by omega));have f0:=hB.frozen (14+n);have e255:=gK v;have e0:v%256=v:=by omega
 rw [e0] at e255;have i0:(0:Int)<=(n:Int):=by omega
 have i1:(n:Int)<512:=by omega
 clear hB lx e0;go_enter func293,ntmps293;go_wp2_with fail;go_loopw [3,8] (fun x i wr=>(i=iv n∧x=iv v∧wr=w)∨(i=iv ((n:Int)-1)∧Blk wr b (cor R (xs.set n v) u ST HA) ty∧Kept b (b+1) w wr)) (fun _ i _=>(intOf i-n+1).toNat)
 case atStart=>exact .inl ⟨by go_num,rfl,rfl⟩
 case round=>
  rcases hrel with ⟨rfl,rfl,rfl⟩|⟨rfl,hb,hk⟩
  ·go_wp2;go_roundw
   case rel=>exact .inr ⟨rfl,HB.o.Hm (by rw [LX.o];omega) v,af (Kept.refl _ _ _) _ _ _ (.inl (by omega))⟩
   case measure=>simp [intOf];omega
  ·have HB2:=Zr hb;have HK2:=Zr hk;clear hb hk;have hd:decide ((n:Int)<=(n:Int)-1)=false:=by simp;omega
   go_wp2;go_end0;exact ⟨rfl,HB2.o,HK2.o⟩
theorem BG (w:World) {R:Rg} {ST:Bool} {HA:Hl} (b:Nat) (u:Value) (ty:TypeId) (xs:List Int) (n:Nat) (v:Int) (hB:Blk w b (cor R xs u ST HA) ty) (lx:xs.length=512) (hn:n+2<=512) (v0:0<=v) (v1:v<=65535) :
  Calls prog 293 #[.pointer (some (Zt b 14)),iv 2,iv n,iv v] w fun e w'=>e=.returned (.tuple #[])∧Blk w' b (cor R ((xs.set n (v/256)).set (n+1) (v%256)) u ST HA) ty∧Kept b (b+1) w w':=by
 have HB:=Zr hB;have LX:=Zr lx;have c1:=hB.cell (vw (r:=R) (u:=u) (st:=ST) (ha:=HA) (i:=n+1) (by omega));have f1:=hB.frozen (14+(n+1));have e255:=gK v;have e256:=gK (v/256);have e0:v/256%256=v/256:=by omega
 rw [e0] at e256;have i0:(0:Int)<=(n:Int):=by omega
 have i1:(n:Int)+1<512:=by omega
 have i2:(0:Int)<=(n:Int)+1:=by omega
 have i3:(n:Int)<512:=by omega
 clear hB lx e0;go_enter func293,ntmps293;go_wp2_with fail;go_loopw [3,8] (fun x i wr=>(i=iv ((n:Int)+1)∧x=iv v∧wr=w)∨(i=iv n∧x=iv (v/256)∧Blk wr b (cor R (xs.set (n+1) (v%256)) u ST HA) ty∧Kept b (b+1) w wr)∨(i=iv ((n:Int)-1)∧Blk wr b (cor R ((xs.set (n+1) (v%256)).set n (v/256)) u ST HA) ty∧Kept b (b+1) w wr)) (fun _ i _=>(intOf i-n+1).toNat)
 case atStart=>exact .inl ⟨by go_num,rfl,rfl⟩
 case round=>
  rcases hrel with ⟨rfl,rfl,rfl⟩|⟨rfl,rfl,hb,hk⟩|⟨rfl,hb,hk⟩
  ·go_wp2;go_roundw
   case rel=>exact .inr (.inl ⟨by go_num,by go_num,HB.o.Hm (by rw [LX.o];omega) _,af (Kept.refl _ _ _) _ _ _ (.inl (by omega))⟩)
   case measure=>simp [intOf];omega
  ·have HB2:=Zr hb;have HK2:=Zr hk;have c0:=hb.cell (vw (r:=R) (u:=u) (st:=ST) (ha:=HA) (i:=n) (by rw [List.length_set,LX.o];omega));have f0:=hb.frozen (14+n);clear hb hk c1 f1;go_wp2;go_roundw
   case rel=>exact .inr (.inr ⟨rfl,HB2.o.Hm (by rw [List.length_set,LX.o];omega) _,af HK2.o _ _ _ (.inl (by omega))⟩)
   case measure=>simp [intOf];omega
  ·have HB2:=Zr hb;have HK2:=Zr hk;clear hb hk;have hd:decide ((n:Int)<=(n:Int)-1)=false:=by simp;omega
   go_wp2;go_end0;refine ⟨rfl,?_,HK2.o⟩;have h:=HB2.o;rw [List.set_comm _ _ (by omega)] at h;exact h
theorem FY (w:World) {R:Rg} {ST:Bool} {HA:Hl} (b:Nat) (u:Value) (ty:TypeId) (xs:List Int) (s:Int) (n:Nat) (v:Int) (hB:Blk w b (cor R xs u ST HA) ty) (lx:xs.length=512) (hs:(s=1∧v<=255)∨(s=2∧v<=65535)) (hn:(n:Int)+s<=512) (v0:0<=v) :
  Calls prog 293 #[.pointer (some (Zt b 14)),iv s,iv n,iv v] w fun e w'=>e=.returned (.tuple #[])∧Blk w' b (cor R (Pl.wr xs s n v) u ST HA) ty∧Kept b (b+1) w w':=by
 rcases hs with ⟨rfl,hv⟩|⟨rfl,hv⟩
 ·exact BI w b u ty xs n v hB lx (by omega) v0 hv
 ·exact BG w b u ty xs n v hB lx (by omega) v0 hv
theorem zQ (w:World) {R:Rg} {ST:Bool} {HA:Hl} (b q:Nat) (u:Value) (xs:List Int) (s:Int) (n:Nat) (v c:Int) (hB:Blk w b (cor R xs u ST HA) HA.t.y) (hQ:Blk w q #[iv 2,iv s,iv n,iv v,iv c] 179) (lx:xs.length=512) (hs:(s=1∧v<=255)∨(s=2∧v<=65535)) (hn:(n:Int)+s<=512) (v0:0<=v) (hne:q≠b) :
  Calls prog 268 #[.pointer (some (Zt b 14)),.pointer (some (Zt q 0))] w fun e w'=>e=.returned (.tuple #[])∧Blk w' b (cor R (Pl.wr xs s n v) u ST HA) HA.t.y∧Kept b (b+1) w w':=by
 have HB:=Zr hB;have HX:=Zr lx;have HS:=Zr hs;have HN:=Zr hn;have HQ:=Zr hQ;have q0:=hQ.all;clear hB hQ lx hs hn;go_enter func268,ntmps268;go_wp2_with fail
 go_region_held3 (fun w'=>w'.cell? (Zt q 1)=some (iv s)∧w'.cell? (Zt q 2)=some (iv n)∧w'.cell? (Zt q 3)=some (iv v)) (first|exact YX Q3.o|go_keep)
  (first|(go_at_call 293;refine (FY _ b u HA.t.y xs s n v (HB.o.ae (ah (Kept.refl _ _ _))) HX.o HS.o HN.o v0).mono ?_;rintro e w3 ⟨rfl,hb3,kd⟩;have B3:=Zr hb3;have K3:=Zr (aK kd);have Q3:=Zr (HQ.o.kept (aK kd) (by omega));clear hb3 kd))
 go_wp2_with fail;refine bodyPost_ret (results_none rfl _ _ _) rfl ⟨rfl,B3.o,K3.o⟩
theorem zS (w:World) {R:Rg} {ST:Bool} {HA:Hl} (b q:Nat) (u:Value) (xs:List Int) (k s:Int) (n:Nat) (v c:Int) (hB:Blk w b (cor R xs u ST HA) HA.t.y) (hQ:Blk w q #[iv k,iv s,iv n,iv v,iv c] 179) (lx:xs.length=512) (hby:aW xs=true) (hk:¬k=2) (hs:s=1∨s=2) (hn:(n:Int)+s<=512) (hne:q≠b) :
  Calls prog 268 #[.pointer (some (Zt b 14)),.pointer (some (Zt q 0))] w fun e w'=>e=.returned (.tuple #[])∧Blk w' q #[iv k,iv s,iv n,iv (Pl.rd xs s n),iv c] 179∧Kept q (q+1) w w':=by
 have HB:=Zr hB;have HX:=Zr lx;have HS:=Zr hs;have HN:=Zr hn;have HQ:=Zr hQ;have HBY:=Zr hby
 have hu:=underlying154;have hcs:(xs.map (Value.int .i64)).length=512:=by rw [List.length_map,lx]
 have hi:(prog.info? 154).map (·.size)=some (xs.map (Value.int .i64)).length:=by rw [hcs];exact Tryz.xq
 have h1:∀v∈xs.map (Value.int .i64),v.oneCell'=true:=iq;have q0:=hQ.all;have r1:=(FI hB lx).1;have k2:(k==2)=false:=by simpa using hk
 clear hB hQ lx hs hn hk hby
 go_enter func268,ntmps268;go_wp2_with fail
 go_region_held3 (fun w'=>w'.rangeAt b 14 (xs.map (Value.int .i64))∧w'.cell? (Zt q 1)=some (iv s)∧w'.cell? (Zt q 2)=some (iv n)) (first|exact ⟨(FI B3.o HX.o).1,WQ Q3.o⟩|exact ⟨(FI (B3.o.other _ _ _ (fun e=>hne e.symm)) HX.o).1,WQ (Q3.o.set 3 _)⟩|go_keep_ranges|go_keep)
  (first|(go_at_call 294;refine (IP _ xs s n HX.o HBY.o HS.o HN.o).mono ?_;rintro e w3 ⟨rfl,kd⟩;have K3:=Zr (aK kd);have B3:=Zr (HB.o.ae (aK kd));have Q3:=Zr (HQ.o.ae (aK kd));have c3:=Q3.o.cell (i:=3) rfl;have f3:=Q3.o.frozen 3;clear kd))
 go_wp2_with fail;go_end0;refine ⟨rfl,Q3.o.set 3 _,?_⟩;exact af K3.o.any _ _ _ (.inl (by omega))
theorem Ep {w X w3:World} {b q g:Nat} (k:Kept 0 0 w X) (h:FrP (fun i=>i=b∨i=q) X w3) (hq:w.heap.size<=q):Since w b (b+1) g w3 g:=
 ⟨.inl rfl,⟨h.os.trans k.os,h.tape.trans k.tape,h.output.trans k.output,Nat.le_trans k.size h.size,fun i hi hn=>(h.block i (Nat.lt_of_lt_of_le hi k.size) (by unfold own at hn;omega)).trans (k.block i hi (by omega))⟩⟩
theorem FX (w:World) {R:Rg} {ST:Bool} {HA:Hl} (b:Nat) (xs:List Int) (d:Option Addr) (m cu:Nat) (k s a v c:Int) (hB:Blk w b (cor R xs (.slice d m cu) ST HA) HA.t.y) (lx:xs.length=512) (bm:m<=400) (lo : -9223372036854775808<=v) (hi:v<=9223372036854775807) (hno:(decide (m<400)&&fF k s a v c)=false) :
  Calls prog 269 #[.pointer (some (Zt b 14)),.agg #[iv k,iv s,iv a,iv v,iv c]] w fun e w'=>e=.returned (.tuple #[])∧Kept 0 0 w w':=by
 have HB:=Zr hB;have l0:=hB.cell (kC lx);have K0:=Zr (kept_alloc w (.cells #[iv k,iv s,iv a,iv v,iv c] 179));have l1:=(hB.alloc (.cells #[iv k,iv s,iv a,iv v,iv c] 179)).cell (kC lx);clear hB;cases h1:decide ((m:Int)<400)
 ·go_enter func269,ntmps269;go_wp2_with (go_at_call 193;fail);go_end0;exact ⟨rfl,K0.o⟩
 ·have h2:fF k s a v c=false:=by
   rw [show decide (m<400)=true from by simp at h1;simp;omega,Bool.true_and] at hno;exact hno
  clear hno;go_enter func269,ntmps269;go_wp2_with (go_at_call 193;refine (qK _ _ _ _ _ _ lo hi).mono ?_;rintro e w' ⟨rfl,o,p,rfl⟩;rw [h2]);go_end0;exact ⟨rfl,ag (ag K0.o _) _⟩
theorem FV (w:World) {R:Rg} {ST:Bool} {HA:Hl} (b base g2:Nat) (xs ys:List Int) (m cu:Nat) (k s a v c:Int) (hB:Blk w b (cor R xs (.slice (some (Zt g2 0)) m cu) ST HA) HA.t.y) (lx:xs.length=512) (hO:w.ownsRow base 179 5 (.slice (some (Zt g2 0)) m cu) m (ys.map (Value.int .i64))) (hb:base<=b) (hbs:base<=w.heap.size) (hne:b≠g2) (bm:m<400) (lo : -9223372036854775808<=v) (hi:v<=9223372036854775807) (hyes:fF k s a v c=true) :
  Calls prog 269 #[.pointer (some (Zt b 14)),.agg #[iv k,iv s,iv a,iv v,iv c]] w fun e w'=>∃g3 c3:Nat,e=.returned (.tuple #[])∧Blk w' b (cor R xs (.slice (some (Zt g3 0)) (m+1) c3) ST HA) HA.t.y∧w'.ownsRow base 179 5 (.slice (some (Zt g3 0)) (m+1) c3) (m+1) ((ys++[k,s,a,v,c]).map (Value.int .i64))∧b≠g3∧Since w b (b+1) g2 w' g3:=by
 obtain ⟨i,hi0,hz0,hz1,hz2⟩:=info_parts Tryz.jM;have HB:=Zr hB;have HO:=Zr hO;have HX:=Zr lx;have l0:=hB.cell (kC lx);have K0:=Zr (kept_alloc w (.cells #[iv k,iv s,iv a,iv v,iv c] 179));have l1:=(hB.alloc (.cells #[iv k,iv s,iv a,iv v,iv c] 179)).cell (kC lx);have h1:decide ((m:Int)<400)=true:=by simp;omega
 clear hB hO;go_enter func269,ntmps269;go_wp2_with (go_at_call 193;refine (qK _ _ _ _ _ _ lo hi).mono ?_;rintro e w' ⟨rfl,o,p,rfl⟩;rw [hyes]);have BW:=Zr ((((HB.o.alloc (.cells #[iv k,iv s,iv a,iv v,iv c] 179)).alloc o)).alloc p);have AW:=Zr (((Blk.new w #[iv k,iv s,iv a,iv v,iv c] 179).alloc o).alloc p);have KW:=Zr (ag (ag K0.o o) p);have OW:=Zr (((HO.o.alloc (.cells #[iv k,iv s,iv a,iv v,iv c] 179)).alloc o).alloc p);obtain ⟨W,hW⟩:∃W:World,W=((w.alloc (.cells #[iv k,iv s,iv a,iv v,iv c] 179)).alloc o).alloc p:=⟨_,rfl⟩
 rw [<-hW] at BW AW KW OW ⊢;have hsz:w.heap.size<W.heap.size:=AW.o.lt;clear hW l0 l1;have z0:=BW.o.cell (kC HX.o);have a0:=AW.o.all;have y0:∀o,(W.alloc o).cell? (Zt b 526)=some (.slice (some (Zt g2 0)) m cu):=fun o=>(BW.o.alloc o).cell (kC HX.o);have H63:Hid (m+1<=maxLen):=Zr (by unfold maxLen;omega);have HBY:Hid ((m+1)*40<=140737488355328):=Zr (by omega);go_region_law ((refine step_append_lies _ (by rfl) _ _ _ (by rfl) base 179 i _ 5 40 underlying36 hi0 hz0 hz1 hz2 rfl (by omega) (.slice (some (Zt g2 0)) m cu) m (ys.map (Value.int .i64)) (by rfl) ((OW.o.alloc _).drew) (Zt W.heap.size 0) 1 1 [iv k,iv s,iv a,iv v,iv c] (by rfl) (by rfl) (World.news_of_block (cs:=#[iv k,iv s,iv a,iv v,iv c]) (t:=179) (fr:=(0,0)) (heap_alloc_new W _)) (by simp [Value.oneCell']) (by omega) H63.o HBY.o (by simp;omega) (W.heap.size+1) (by simp) ?_;intro g3 c3 w1 hown1 hgrow hat hlt;have B1:Hid (Blk w1 b (cor R xs (.slice (some (Zt g2 0)) m cu) ST HA) HA.t.y):=Zr ((hgrow.block b (by have:=BW.o.lt;simp;omega) (by simp [Value.ownBlock];omega)).trans (BW.o.alloc _));have e0:=B1.o.cell (kC HX.o);have e1:=B1.o.frozen 526;have G1:=Zr hgrow;have O1:=Zr hown1;clear hgrow hown1))
 all_goals
  go_end0;have lb:=HB.o.lt;have lB:=BW.o.lt;obtain ⟨l1,l2⟩:=HO.o.lt g2 rfl
  have hat':g2=g3∨g3=W.heap.size+1:=by
   rcases hat with h|h
   ·exact .inl (Option.some.inj h)
   ·exact .inr h
  have hb3:b≠g3:=by omega
  refine ⟨g3,c3,rfl,B1.o.Vf HX.o _,?_,hb3,?_⟩
  ·have h:=O1.o.kept (grownBy_set w1 b 526 (.slice (some (Zt g3 0)) (m+1) c3)) (.inr (fun e=>by have h2:g3=b:=Option.some.inj e;omega));rw [List.map_append];exact h
  ·have k1:Kept 0 0 w (W.alloc (.cells #[iv k,iv s,iv a,iv v,iv c] 179)).drew:=ah (ag KW.o _);exact ⟨by omega,((jQ k1 (by omega)).grown G1.o (fun x hx=>.inr (Option.some.inj hx).symm)).set b 526 _ (.inl (.inl (by omega)))⟩
theorem FZ (w:World) {R:Rg} {ST:Bool} {HA:Hl} (b q base g2:Nat) (xs ys:List Int) (m cu:Nat) (k s a v c:Int) (hB:Blk w b (cor R xs (.slice (some (Zt g2 0)) m cu) ST HA) HA.t.y) (hQ:Blk w q #[iv k,iv s,iv a,iv v,iv c] 179) (lx:xs.length=512) (hby:aW xs=true)
  (hO:w.ownsRow base 179 5 (.slice (some (Zt g2 0)) m cu) m (ys.map (Value.int .i64))) (hb:base<=b) (hq:base<=q) (n1:q≠b) (n2:b≠g2) (n3:q≠g2) (hask:dX k s a v=true) (hc:Pl.code k s a=0) :
  Calls prog 268 #[.pointer (some (Zt b 14)),.pointer (some (Zt q 0))] w fun e w'=>e=.returned (.tuple #[])∧Blk w' b (cor R (Pl.nb xs k s a v) (.slice (some (Zt g2 0)) m cu) ST HA) HA.t.y∧Blk w' q #[iv k,iv s,iv a,iv (Pl.lv xs k s a v),iv c] 179∧
   w'.ownsRow base 179 5 (.slice (some (Zt g2 0)) m cu) m (ys.map (Value.int .i64))∧FrP (fun i=>i=b∨i=q) w w':=by
 obtain ⟨hk,hs,v0,⟨a0,a1⟩,hkv⟩:=qp hask;have hlow:=qQ hc a0;obtain ⟨n,rfl⟩:∃n:Nat,a=(n:Int):=⟨a.toNat,by omega⟩
 by_cases h2:k=2
 ·subst h2;have e1:Pl.nb xs 2 s n v=Pl.wr xs s n v:=by unfold Pl.nb;rw [if_pos ⟨hc,rfl⟩];rfl
  have e2:Pl.lv xs 2 s n v=v:=by unfold Pl.lv;rw [if_neg (by simp)]
  refine (zQ w b q _ xs s n v c hB hQ lx hs (by omega) v0 n1).mono ?_;rintro e w' ⟨rfl,hb',hk'⟩;have lb:=hB.lt;refine ⟨rfl,by rw [e1];exact hb',by rw [e2];exact hQ.kept hk' (by omega),hO.kept (xA hk') (.inr (fun e=>by have h3:g2=b:=Option.some.inj e;omega)),jQ hk' (by omega)⟩
 ·have e1:Pl.nb xs k s n v=xs:=by unfold Pl.nb;rw [if_neg (fun h=>h2 h.2)]
  have e2:Pl.lv xs k s n v=Pl.rd xs s n:=by unfold Pl.lv;rw [if_pos ⟨hc,h2⟩];rfl
  refine (zS w b q _ xs k s n v c hB hQ lx hby h2 (by omega) (by omega) n1).mono ?_;rintro e w' ⟨rfl,hq',hk'⟩;have lq:=hQ.lt;refine ⟨rfl,by rw [e1];exact hB.kept hk' (by omega),by rw [e2];exact hq',hO.kept (xA hk') (.inr (fun e=>by have h3:g2=q:=Option.some.inj e;omega)),jQ hk' (by omega)⟩
theorem QS (w:World) {R:Rg} {ST:Bool} {HA:Hl} (b base g2:Nat) (xs ys:List Int) (m cu:Nat) (k s a v c:Int) (hB:Blk w b (cor R xs (.slice (some (Zt g2 0)) m cu) ST HA) HA.t.y) (lx:xs.length=512) (hO:w.ownsRow base 179 5 (.slice (some (Zt g2 0)) m cu) m (ys.map (Value.int .i64))) (hb:base<=b) (hne:b≠g2) (bm:m<=400) (lo : -9223372036854775808<=v) (hi:v<=9223372036854775807)
  (m':Nat) (ys':List Int) (hm:m'=if (decide (m<400)&&fF k s a v c)=true then m+1 else m) (hy:ys'=if (decide (m<400)&&fF k s a v c)=true then ys++[k,s,a,v,c] else ys) :
  Calls prog 269 #[.pointer (some (Zt b 14)),.agg #[iv k,iv s,iv a,iv v,iv c]] w fun e w'=>∃g3 c3:Nat,e=.returned (.tuple #[])∧Blk w' b (cor R xs (.slice (some (Zt g3 0)) m' c3) ST HA) HA.t.y∧w'.ownsRow base 179 5 (.slice (some (Zt g3 0)) m' c3) m' (ys'.map (Value.int .i64))∧b≠g3∧Since w b (b+1) g2 w' g3:=by
 cases h:(decide (m<400)&&fF k s a v c)
 ·rw [hm,hy,h];refine (FX w b xs _ m cu k s a v c hB lx bm lo hi h).mono ?_;rintro e w' ⟨rfl,k'⟩;exact ⟨g2,cu,rfl,hB.ae k',hO.kept k'.grown (.inr (fun e=>by cases e)),hne,(Since.refl _ _ _ _).any k'⟩
 ·rw [hm,hy,h];simp only [Bool.and_eq_true,decide_eq_true_eq] at h;have lb:=hB.lt;show Calls _ _ _ _ _;exact FV w b base g2 xs ys m cu k s a v c hB lx hO hb (by omega) hne h.1 lo hi h.2
theorem TQ (w:World) {R:Rg} {ST:Bool} {HA:Hl} (b base g2:Nat) (xs ys:List Int) (m cu:Nat) (k s a v:Int) (hB:Blk w b (cor R xs (.slice (some (Zt g2 0)) m cu) ST HA) HA.t.y) (lx:xs.length=512) (hby:aW xs=true)
  (hO:w.ownsRow base 179 5 (.slice (some (Zt g2 0)) m cu) m (ys.map (Value.int .i64))) (hb:base<=b) (n2:b≠g2) (bm:m<=400) (hask:dX k s a v=true) (T:Int) (HT:Hid (T=if k=2 then 0 else Pl.lv xs k s a v)) :
  Calls prog 236 #[.pointer (some (Zt b 14)),.agg #[iv k,iv s,iv a,iv v,iv 0]] w fun e w'=>∃g3 c3:Nat,e=.returned (.tuple #[iv T,iv (Pl.code k s a)])∧
   Blk w' b (cor R (Pl.nb xs k s a v) (.slice (some (Zt g3 0)) (nm m k s a) c3) ST HA) HA.t.y∧w'.ownsRow base 179 5 (.slice (some (Zt g3 0)) (nm m k s a) c3) (nm m k s a) ((nl xs ys m k s a v).map (Value.int .i64))∧b≠g3∧Since w b (b+1) g2 w' g3:=by
 obtain ⟨_,hs,v0,⟨a0,a1⟩,hkv⟩:=qp hask;have hs':s=1∨s=2:=by omega
 have hlog:=LK lx hby hask;have hvb:=QG lx hby hask;have hv1:Pl.lv xs k s a v<=65535:=by split at hvb<;>omega
 obtain ⟨hg0,hg1⟩:=hO.lt g2 rfl;have lb:=hB.lt;have Qp:=Zr hlog;have HV:=Zr (And.intro hvb.1 hv1);have HX:=Zr lx;have HBY:=Zr hby
 have vY:=Zr hask;have HB0:=Zr hB;have HO0:=Zr hO;clear hB hO lx hby hask hlog hvb hs hkv;go_enter func236,ntmps236;go_wp2_with fail;refine (codeOf k s a v 0 _ hs' a0 a1).mono ?_;rintro e w1 ⟨rfl,o,rfl⟩;obtain ⟨C,hC⟩:∃C,C=Pl.code k s a:=⟨_,rfl⟩
 rw [<-hC];have HC:=Zr hC;clear hC;have BX:=Zr ((HB0.o.alloc (.cells #[iv k,iv s,iv a,iv v,iv C] 179)).alloc o);have OX:=Zr ((HO0.o.alloc (.cells #[iv k,iv s,iv a,iv v,iv C] 179)).alloc o);have QX:=Zr ((Blk.new w #[iv k,iv s,iv a,iv v,iv C] 179).alloc o);have KX:=Zr (ag (kept_alloc w (.cells #[iv k,iv s,iv a,iv v,iv C] 179)) o);obtain ⟨X,hX⟩:∃X:World,X=(w.alloc (.cells #[iv k,iv s,iv a,iv v,iv C] 179)).alloc o:=⟨_,rfl⟩
 rw [<-hX] at BX OX QX KX;cases hc:(C==0)
 ·have hc':¬Pl.code k s a=0:=by rw [<-HC.o];simpa using hc
  have e1:Pl.nb xs k s a v=xs:=by unfold Pl.nb;rw [if_neg (fun h=>hc' h.1)]
  have e2:Pl.lv xs k s a v=v:=by unfold Pl.lv;rw [if_neg (fun h=>hc' h.1)]
  have E1:=Zr e1;have E2:=Zr e2
  have HM:Hid (nm m k s a=if (decide (m<400)&&fF k s a v C)=true then m+1 else m):=Zr (by
   have h:=Qp.o;rw [e2] at h;rw [HC.o,h];rfl)
  have HY:Hid (nl xs ys m k s a v=if (decide (m<400)&&fF k s a v C)=true then ys++[k,s,a,v,C] else ys):=Zr (by
   have h:=Qp.o;rw [e2] at h;rw [HC.o,h];unfold nl;rw [e2];rfl)
  clear hc' e1 e2;go_wp2_with fail;rw [<-hX];clear hX;refine (QS X b base g2 xs ys m cu k s a v C BX.o HX.o OX.o hb n2 bm (by omega) (by have:=HV.o;rw [E2.o] at this;omega) _ _ HM.o HY.o).mono ?_;rintro e w4 ⟨g3,c3,rfl,hb4,ho4,hn4,hk4⟩;have Q4:=hk4.blk QX.o (by omega) (by omega);have B4:=Zr hb4;have O4:=Zr ho4;have K4:=Zr (((Since.refl w b (b+1) g2).any KX.o).trans hk4);have y0:=Q4.all;clear hb4 ho4 hk4 Q4;cases hk2:(k==2)
  ·have E3:Hid (v=T):=Zr (by rw [HT.o,if_neg (by simpa using hk2),E2.o]);go_wp2_with fail;go_quiet (fail);go_wp2_with fail;go_ret2;exact ⟨g3,c3,rII E3.o HC.o,by rw [E1.o];exact B4.o,O4.o,hn4,K4.o.any (au (Kept.refl 0 0 _) _)⟩
  ·have E3:Hid (0=T):=Zr (by rw [HT.o,if_pos (by simpa using hk2)]);go_wp2_with fail;go_quiet (fail);go_wp2_with fail;go_ret2;exact ⟨g3,c3,rII E3.o HC.o,by rw [E1.o];exact B4.o,O4.o,hn4,K4.o.any (au (Kept.refl 0 0 _) _)⟩
 ·have hc':Pl.code k s a=0:=by rw [<-HC.o];simpa using hc
  have HC0:=Zr hc';have HNL:Hid ((Pl.nb xs k s a v).length=512):=Zr (by rw [IJ];exact HX.o)
  have HM:Hid (nm m k s a=if (decide (m<400)&&fF k s a (Pl.lv xs k s a v) C)=true then m+1 else m):=Zr (by
   have h:=Qp.o;rw [HC.o,h];rfl)
  have HY:Hid (nl xs ys m k s a v=if (decide (m<400)&&fF k s a (Pl.lv xs k s a v) C)=true then ys++[k,s,a,Pl.lv xs k s a v,C] else ys):=Zr (by
   have h:=Qp.o;rw [HC.o,h];unfold nl;rfl)
  clear hc';go_wp2_with fail;rw [<-hX];clear hX;refine (FZ X b w.heap.size base g2 xs ys m cu k s a v C BX.o QX.o HX.o HBY.o OX.o hb (by omega) (by omega) n2 (by omega) vY.o HC0.o).mono ?_;rintro e w3 ⟨rfl,hb3,hq3,ho3,hk3⟩;have B3:=Zr hb3;have O3:=Zr ho3;have K3:=Zr (Ep (g:=g2) KX.o hk3 (Nat.le_refl _));have Q3:=Zr hq3;have z0:=hq3.all;clear hb3 ho3 hk3 hq3;go_wp2_with fail;clear z0;refine (QS w3 b base g2 (Pl.nb xs k s a v) ys m cu k s a (Pl.lv xs k s a v) C B3.o HNL.o O3.o hb n2 bm (by have:=HV.o;omega) (by have:=HV.o;omega) _ _ HM.o HY.o).mono ?_;rintro e w4 ⟨g3,c3,rfl,hb4,ho4,hn4,hk4⟩;have Q4:=hk4.blk Q3.o (by omega) (by omega);have B4:=Zr hb4;have O4:=Zr ho4;have K4:=Zr (K3.o.trans hk4);have y0:=Q4.all;clear hb4 ho4 hk4 Q4;cases hk2:(k==2)
  ·have E3:Hid (Pl.lv xs k s a v=T):=Zr (by rw [HT.o,if_neg (by simpa using hk2)]);go_wp2_with fail;go_quiet (fail);go_wp2_with fail;go_ret2;exact ⟨g3,c3,rII E3.o HC.o,B4.o,O4.o,hn4,K4.o.any (au (Kept.refl 0 0 _) _)⟩
  ·have E3:Hid (0=T):=Zr (by rw [HT.o,if_pos (by simpa using hk2)]);go_wp2_with fail;go_quiet (fail);go_wp2_with fail;go_ret2;exact ⟨g3,c3,rII E3.o HC.o,B4.o,O4.o,hn4,K4.o.any (au (Kept.refl 0 0 _) _)⟩
variable (w:World) (lo b g:Nat) (c:Mc) (h:Hl)
theorem PK (k s a v T:Int) (hC:CAt w lo b g c h) (G:GM c) (hask:dX k s a v=true) (HT:Hid (T=if k=2 then 0 else Pl.lv c.bx k s a v)) :
  Calls prog 236 #[.pointer (some (Zt b 14)),.agg #[iv k,iv s,iv a,iv v,iv 0]] w fun e w'=>∃g',e=.returned (.tuple #[iv T,iv (Pl.code k s a)])∧CAt w' lo b g' (c.acc k s a v) h∧Since w b (b+1) g w' g':=by
 obtain ⟨cu,hB,hO⟩:=hC;refine (TQ w b lo g c.bx c.bl c.bm cu k s a v hB G.bx G.ok hO.l hO.lo' hO.ne G.bm hask T HT).mono ?_;rintro e w' ⟨g3,c3,he,hb,ho,hn,hk⟩;exact ⟨g3,he,⟨c3,hb,⟨ho,hO.lo',hn⟩⟩,hk⟩
theorem bP (f:Ft) (w:World):Calls prog 79 #[.agg (ftA f)] w fun e w'=>e=.returned (.bool (f.v != 0))∧Kept 0 0 w w':=by
 go_enter func79,ntmps79;go_wp2;go_ret;exact ⟨rfl,kept_alloc _ _⟩
theorem Qo {w:World} {q:Nat} {k s a v c:Int} {ty:TypeId} (h:Blk w q #[iv k,iv s,iv a,iv v,iv c] ty):w.cell? (Zt q 0)=some (iv k)∧w.cell? (Zt q 1)=some (iv s)∧w.cell? (Zt q 2)=some (iv a)∧w.cell? (Zt q 3)=some (iv v)∧w.cell? (Zt q 4)=some (iv c):=
 ⟨h.cell (i:=0) rfl,h.cell (i:=1) rfl,h.cell (i:=2) rfl,h.cell (i:=3) rfl,h.cell (i:=4) rfl⟩
theorem jO (k s a v:Int) (hC:CAt w lo b g c h) (G:GM c) (hask:dX k s a v=true) (V:Int) (HV:Hid (V=if k=2 then 0 else Pl.lv c.bx k s a v)) (F:Ft) (HF:Hid (F=Mc.cZ aF k s a)) :
  Calls prog 187 #[.pointer (some (Zt b 0)),.agg #[iv k,iv s,iv a,iv v,iv 0]] w fun e w'=>∃g',e=.returned (.tuple #[iv V,.agg (ftC F)])∧CAt w' lo b g' (c.acc k s a v) h∧Since w b (b+1) g w' g':=by
 obtain ⟨l0,l1,l2,l3,l4⟩:=hC.lt;have HC:=Zr ((hC.alloc (.cells #[iv k,iv s,iv a,iv v,iv 0] 179)).alloc (.cells (ftC aF) 42));have A0:=Zr ((Blk.new w #[iv k,iv s,iv a,iv v,iv 0] 179).alloc (.cells (ftC aF) 42));have F0:=Blk.new (w.alloc (.cells #[iv k,iv s,iv a,iv v,iv 0] 179)) (ftC aF) 42;simp only [World.size_alloc] at F0;replace F0:=Zr F0;have K0:=Zr (ag (kept_alloc w (.cells #[iv k,iv s,iv a,iv v,iv 0] 179)) (.cells (ftC aF) 42));have HG:=Zr G;have vY:=Zr hask;clear hC G hask;obtain ⟨X,hX⟩:∃X:World,(w.alloc (.cells #[iv k,iv s,iv a,iv v,iv 0] 179)).alloc (.cells (ftC aF) 42)=X:=⟨_,rfl⟩
 rw [hX] at HC A0 F0 K0;obtain ⟨a0,a1,a2,a3,a4⟩:=Qo A0.o;have hX':(w.alloc (.cells #[iv k,iv s,iv a,iv v,iv 0] 179)).alloc (.cells ftZ 42)=X:=hX;clear hX;go_enter func187,ntmps187;go_wp2_with fail;clear hX'
 go_region_held3 (fun w'=>w'.cell? (Zt w.heap.size 0)=some (iv k)∧w'.cell? (Zt w.heap.size 1)=some (iv s)∧w'.cell? (Zt w.heap.size 2)=some (iv a)∧w'.cell? (Zt w.heap.size 3)=some (iv v)∧w'.cell? (Zt w.heap.size 4)=some (iv 0)) (first|exact Qo A3.o|exact Qo (show Blk _ _ _ _ from A0.o)|go_keep)
  (first|(go_at_call 236;refine (PK _ lo b g c h k s a v V HC.o.drew HG.o vY.o HV).mono ?_;rintro e w3 ⟨g',rfl,hc3,hs3⟩;have C3:=Zr hc3;have S3:=Zr (((Since.refl w b (b+1) g).any (ah K0.o)).trans hs3);have A3:=Zr (hs3.blk (show Blk X.drew _ _ _ from A0.o) (by omega) (by omega));have F3:=Zr (hs3.blk (show Blk X.drew _ _ _ from F0.o) (by omega) (by omega));have n3:=hs3.ne (b:=w.heap.size+1) F0.o.lt (by omega);clear hc3 hs3))
 clear a0 a1 a2 a3 a4;obtain ⟨a0,a1,a2,a3,a4⟩:=Qo A3.o;have p:=(show Blk w3 (w.heap.size+1) ftZ 42 from F3.o).all;have z:=F3.o.fz;obtain ⟨C,hCd⟩:∃C,C=Pl.code k s a:=⟨_,rfl⟩
 rw [<-hCd];unfold Mc.cZ at HF;rw [<-hCd] at HF
 have V0:Hid (¬C=0->V=0):=Zr (by
  intro hn;rw [HV.o];split
  ·rfl
  ·rename_i h2;obtain ⟨_,_,_,_,h5⟩:=qp vY.o;rw [show v=0 by omega];unfold Pl.lv
   rw [if_neg (by rw [<-hCd];exact fun q=>hn q.1)])
 clear hCd HV;cases h0:(C==0)
 ·have EV:=Zr (V0.o (by simpa using h0));have e1:(C != 0)=true:=by simpa using h0
  rw [e1] at HF;cases h2:(C==2)
  ·rw [h2] at HF;have q:F=⟨2,0,a,0,k==2⟩:=HF.o;subst q;clear HF e1;go_wp2_with fail;go_region;go_wp2_with fail;have K5:=ah (((((ak w3 (w.heap.size+1) 0 (iv 2)).one 1 (iv 0)).one 2 (iv a)).one 3 (iv 0)).one 4 (.bool (k==2)));refine bodyPost_ret (v:=.tuple #[iv 0,.agg #[iv 2,iv 0,iv a,iv 0,.bool (k==2)]]) ?_ rfl ⟨g',by rw [EV.o];rfl,C3.o.kept K5 (by omega) (by omega),S3.o.mine K5 (by omega)⟩;rw [gz rfl];go_simp
  ·rw [h2] at HF;have q:F=⟨3,0,a,0,k==2⟩:=HF.o;subst q;clear HF e1;go_wp2_with fail;go_region;go_wp2_with fail;have K5:=ah (((((ak w3 (w.heap.size+1) 0 (iv 3)).one 1 (iv 0)).one 2 (iv a)).one 3 (iv 0)).one 4 (.bool (k==2)));refine bodyPost_ret (v:=.tuple #[iv 0,.agg #[iv 3,iv 0,iv a,iv 0,.bool (k==2)]]) ?_ rfl ⟨g',by rw [EV.o];rfl,C3.o.kept K5 (by omega) (by omega),S3.o.mine K5 (by omega)⟩;rw [gz rfl];go_simp
 ·have e1:(C != 0)=false:=by simpa using h0
  rw [e1] at HF;have q:F=aF:=HF.o;subst q;clear HF e1;go_wp2_with fail;have K5:=((((ak w3 (w.heap.size+1) 0 (iv 0)).one 1 (iv 0)).one 2 (iv 0)).one 3 (iv 0)).one 4 (.bool false);refine bodyPost_ret (v:=.tuple #[iv V,.agg ftZ]) ?_ rfl ⟨g',rfl,C3.o.kept K5 (by omega) (by omega),S3.o.mine K5 (by omega)⟩;rw [gz rfl];go_simp
theorem Ap (k e:Int) (w:World):Calls prog 168 #[.agg #[iv 0,iv k,iv e]] w fun r w'=>r=.returned (.iface 228 (.agg #[iv k]))∧Kept 0 0 w w':=by
 go_enter func168,ntmps168;go_wp2;go_ret;exact ⟨rfl,kept_alloc w _⟩
theorem Am (k e:Int) (w:World):Calls prog 168 #[.agg #[iv 1,iv k,iv e]] w fun r w'=>r=.returned (.iface 229 (.agg #[iv k]))∧Kept 0 0 w w':=by
 go_enter func168,ntmps168;go_wp2;go_ret;exact ⟨rfl,kept_alloc w _⟩
theorem Ak (k e:Int) (w:World):Calls prog 168 #[.agg #[iv 2,iv k,iv e]] w fun r w'=>r=.returned (.iface 230 (.agg #[iv k]))∧Kept 0 0 w w':=by
 go_enter func168,ntmps168;go_wp2;go_ret;exact ⟨rfl,kept_alloc w _⟩
theorem Aj (k e:Int) (w:World):Calls prog 168 #[.agg #[iv 3,iv k,iv e]] w fun r w'=>r=.returned (.iface 231 (.agg #[iv k]))∧Kept 0 0 w w':=by
 go_enter func168,ntmps168;go_wp2;go_ret;exact ⟨rfl,kept_alloc w _⟩
theorem Ai (k e:Int) (w:World):Calls prog 168 #[.agg #[iv 4,iv k,iv e]] w fun r w'=>r=.returned (.iface 232 (.agg #[iv k]))∧Kept 0 0 w w':=by
 go_enter func168,ntmps168;go_wp2;go_ret;exact ⟨rfl,kept_alloc w _⟩
theorem Ah (k e:Int) (w:World):Calls prog 168 #[.agg #[iv 5,iv k,iv e]] w fun r w'=>r=.returned (.iface 234 (.agg #[iv k,iv e]))∧Kept 0 0 w w':=by
 go_enter func168,ntmps168;go_wp2;go_ret;exact ⟨rfl,kept_alloc w _⟩
theorem Ag (k e:Int) (w:World):Calls prog 168 #[.agg #[iv 6,iv k,iv e]] w fun r w'=>r=.returned (.iface 236 (.agg #[iv e]))∧Kept 0 0 w w':=by
 go_enter func168,ntmps168;go_wp2;go_ret;exact ⟨rfl,kept_alloc w _⟩
theorem Af (k e:Int) (w:World):Calls prog 168 #[.agg #[iv 7,iv k,iv e]] w fun r w'=>r=.returned (.iface 237 (.agg #[iv e]))∧Kept 0 0 w w':=by
 go_enter func168,ntmps168;go_wp2;go_ret;exact ⟨rfl,kept_alloc w _⟩
theorem BV (m k e:Int) (w:World) (h:bH m=false):Calls prog 168 #[.agg #[iv m,iv k,iv e]] w fun r w'=>r=.returned .nilIface∧Kept 0 0 w w':=by
 obtain ⟨n0,n1,n2,n3,n4,n5,n6,n7⟩:¬m=0∧¬m=1∧¬m=2∧¬m=3∧¬m=4∧¬m=5∧¬m=6∧¬m=7:=by
  simp [bH,within] at h;omega
 go_enter func168,ntmps168;go_wp2;go_ret;exact ⟨rfl,kept_alloc w _⟩
theorem Iz (k e:Int) (w:World):Calls prog 339 #[.agg #[iv k]] w fun r w'=>r=.returned (.agg #[iv 0,iv k,iv 0])∧Kept 0 0 w w':=by
 go_enter func339,ntmps339;go_wp2;refine bodyPost_ret (v:=.agg #[iv 0,iv k,iv 0]) ?_ rfl ⟨rfl,ag (kept_alloc w _) _⟩;rw [aj rfl];go_simp
theorem Iy (k e:Int) (w:World):Calls prog 340 #[.agg #[iv k]] w fun r w'=>r=.returned (.agg #[iv 1,iv k,iv 0])∧Kept 0 0 w w':=by
 go_enter func340,ntmps340;go_wp2;refine bodyPost_ret (v:=.agg #[iv 1,iv k,iv 0]) ?_ rfl ⟨rfl,ag (kept_alloc w _) _⟩;rw [aj rfl];go_simp
theorem Iw (k e:Int) (w:World):Calls prog 341 #[.agg #[iv k]] w fun r w'=>r=.returned (.agg #[iv 2,iv k,iv 0])∧Kept 0 0 w w':=by
 go_enter func341,ntmps341;go_wp2;refine bodyPost_ret (v:=.agg #[iv 2,iv k,iv 0]) ?_ rfl ⟨rfl,ag (kept_alloc w _) _⟩;rw [aj rfl];go_simp
theorem Iu (k e:Int) (w:World):Calls prog 342 #[.agg #[iv k]] w fun r w'=>r=.returned (.agg #[iv 3,iv k,iv 0])∧Kept 0 0 w w':=by
 go_enter func342,ntmps342;go_wp2;refine bodyPost_ret (v:=.agg #[iv 3,iv k,iv 0]) ?_ rfl ⟨rfl,ag (kept_alloc w _) _⟩;rw [aj rfl];go_simp
theorem Ir (k e:Int) (w:World):Calls prog 343 #[.agg #[iv k]] w fun r w'=>r=.returned (.agg #[iv 4,iv k,iv 0])∧Kept 0 0 w w':=by
 go_enter func343,ntmps343;go_wp2;refine bodyPost_ret (v:=.agg #[iv 4,iv k,iv 0]) ?_ rfl ⟨rfl,ag (kept_alloc w _) _⟩;rw [aj rfl];go_simp
theorem Iq (k e:Int) (w:World):Calls prog 344 #[.agg #[iv k,iv e]] w fun r w'=>r=.returned (.agg #[iv 5,iv k,iv e])∧Kept 0 0 w w':=by
 go_enter func344,ntmps344;go_wp2;refine bodyPost_ret (v:=.agg #[iv 5,iv k,iv e]) ?_ rfl ⟨rfl,ag (kept_alloc w _) _⟩;rw [aj rfl];go_simp
theorem Ip (k e:Int) (w:World):Calls prog 345 #[.agg #[iv e]] w fun r w'=>r=.returned (.agg #[iv 6,iv 0,iv e])∧Kept 0 0 w w':=by
 go_enter func345,ntmps345;go_wp2;refine bodyPost_ret (v:=.agg #[iv 6,iv 0,iv e]) ?_ rfl ⟨rfl,ag (kept_alloc w _) _⟩;rw [aj rfl];go_simp
theorem Io (k e:Int) (w:World):Calls prog 346 #[.agg #[iv e]] w fun r w'=>r=.returned (.agg #[iv 7,iv 0,iv e])∧Kept 0 0 w w':=by
 go_enter func346,ntmps346;go_wp2;refine bodyPost_ret (v:=.agg #[iv 7,iv 0,iv e]) ?_ rfl ⟨rfl,ag (kept_alloc w _) _⟩;rw [aj rfl];go_simp
theorem fn0 (a:Array Value) (w:World):(callFunc 339 a).run prog w=.ok (.enter 339 a) w:=by kernel_rfl
theorem VM (v:Value) (w:World):(method 412 228 v "loop.example/g00389/impl.operand").run prog w=.ok (339,v) w:=by kernel_rfl
theorem fn1 (a:Array Value) (w:World):(callFunc 340 a).run prog w=.ok (.enter 340 a) w:=by kernel_rfl
theorem VL (v:Value) (w:World):(method 412 229 v "loop.example/g00389/impl.operand").run prog w=.ok (340,v) w:=by kernel_rfl
theorem fn2 (a:Array Value) (w:World):(callFunc 341 a).run prog w=.ok (.enter 341 a) w:=by kernel_rfl
theorem VK (v:Value) (w:World):(method 412 230 v "loop.example/g00389/impl.operand").run prog w=.ok (341,v) w:=by kernel_rfl
theorem fn3 (a:Array Value) (w:World):(callFunc 342 a).run prog w=.ok (.enter 342 a) w:=by kernel_rfl
theorem VJ (v:Value) (w:World):(method 412 231 v "loop.example/g00389/impl.operand").run prog w=.ok (342,v) w:=by kernel_rfl
theorem fn4 (a:Array Value) (w:World):(callFunc 343 a).run prog w=.ok (.enter 343 a) w:=by kernel_rfl
theorem VI (v:Value) (w:World):(method 412 232 v "loop.example/g00389/impl.operand").run prog w=.ok (343,v) w:=by kernel_rfl
theorem fn5 (a:Array Value) (w:World):(callFunc 344 a).run prog w=.ok (.enter 344 a) w:=by kernel_rfl
theorem VH (v:Value) (w:World):(method 412 234 v "loop.example/g00389/impl.operand").run prog w=.ok (344,v) w:=by kernel_rfl
theorem fn6 (a:Array Value) (w:World):(callFunc 345 a).run prog w=.ok (.enter 345 a) w:=by kernel_rfl
theorem VG (v:Value) (w:World):(method 412 236 v "loop.example/g00389/impl.operand").run prog w=.ok (345,v) w:=by kernel_rfl
theorem fn7 (a:Array Value) (w:World):(callFunc 346 a).run prog w=.ok (.enter 346 a) w:=by kernel_rfl
theorem VF (v:Value) (w:World):(method 412 237 v "loop.example/g00389/impl.operand").run prog w=.ok (346,v) w:=by kernel_rfl
theorem Yc (v:Value) (w:World):(Instr.typeAssert (.iface 228 v) 196 230 true).run prog w=.ok (.tuple #[.agg #[iv 0],.bool false]) w:=by kernel_rfl
theorem Yb (v:Value) (w:World):(Instr.typeAssert (.iface 228 v) 196 231 true).run prog w=.ok (.tuple #[.agg #[iv 0],.bool false]) w:=by kernel_rfl
theorem Ya (v:Value) (w:World):(Instr.typeAssert (.iface 228 v) 196 232 true).run prog w=.ok (.tuple #[.agg #[iv 0],.bool false]) w:=by kernel_rfl
theorem U9 (v:Value) (w:World):(Instr.typeAssert (.iface 228 v) 196 234 true).run prog w=.ok (.tuple #[.agg #[iv 0,iv 0],.bool false]) w:=by kernel_rfl
theorem U8 (v:Value) (w:World):(Instr.typeAssert (.iface 228 v) 196 236 true).run prog w=.ok (.tuple #[.agg #[iv 0],.bool false]) w:=by kernel_rfl
theorem X9 (v:Value) (w:World):(Instr.typeAssert (.iface 228 v) 196 237 true).run prog w=.ok (.tuple #[.agg #[iv 0],.bool false]) w:=by kernel_rfl
theorem X8 (v:Value) (w:World):(Instr.typeAssert (.iface 229 v) 196 230 true).run prog w=.ok (.tuple #[.agg #[iv 0],.bool false]) w:=by kernel_rfl
theorem X7 (v:Value) (w:World):(Instr.typeAssert (.iface 229 v) 196 231 true).run prog w=.ok (.tuple #[.agg #[iv 0],.bool false]) w:=by kernel_rfl
theorem XZ (v:Value) (w:World):(Instr.typeAssert (.iface 229 v) 196 232 true).run prog w=.ok (.tuple #[.agg #[iv 0],.bool false]) w:=by kernel_rfl
theorem U7 (v:Value) (w:World):(Instr.typeAssert (.iface 229 v) 196 234 true).run prog w=.ok (.tuple #[.agg #[iv 0,iv 0],.bool false]) w:=by kernel_rfl
theorem U6 (v:Value) (w:World):(Instr.typeAssert (.iface 229 v) 196 236 true).run prog w=.ok (.tuple #[.agg #[iv 0],.bool false]) w:=by kernel_rfl
theorem XY (v:Value) (w:World):(Instr.typeAssert (.iface 229 v) 196 237 true).run prog w=.ok (.tuple #[.agg #[iv 0],.bool false]) w:=by kernel_rfl
theorem XX (v:Value) (w:World):(Instr.typeAssert (.iface 230 v) 196 230 true).run prog w=.ok (.tuple #[v,.bool true]) w:=by kernel_rfl
theorem XW (v:Value) (w:World):(Instr.typeAssert (.iface 230 v) 196 231 true).run prog w=.ok (.tuple #[.agg #[iv 0],.bool false]) w:=by kernel_rfl
theorem XV (v:Value) (w:World):(Instr.typeAssert (.iface 230 v) 196 232 true).run prog w=.ok (.tuple #[.agg #[iv 0],.bool false]) w:=by kernel_rfl
theorem U5 (v:Value) (w:World):(Instr.typeAssert (.iface 230 v) 196 234 true).run prog w=.ok (.tuple #[.agg #[iv 0,iv 0],.bool false]) w:=by kernel_rfl
theorem U4 (v:Value) (w:World):(Instr.typeAssert (.iface 230 v) 196 236 true).run prog w=.ok (.tuple #[.agg #[iv 0],.bool false]) w:=by kernel_rfl
theorem XU (v:Value) (w:World):(Instr.typeAssert (.iface 230 v) 196 237 true).run prog w=.ok (.tuple #[.agg #[iv 0],.bool false]) w:=by kernel_rfl
theorem XT (v:Value) (w:World):(Instr.typeAssert (.iface 231 v) 196 230 true).run prog w=.ok (.tuple #[.agg #[iv 0],.bool false]) w:=by kernel_rfl
theorem XR (v:Value) (w:World):(Instr.typeAssert (.iface 231 v) 196 231 true).run prog w=.ok (.tuple #[v,.bool true]) w:=by kernel_rfl
theorem XQ (v:Value) (w:World):(Instr.typeAssert (.iface 231 v) 196 232 true).run prog w=.ok (.tuple #[.agg #[iv 0],.bool false]) w:=by kernel_rfl
theorem U3 (v:Value) (w:World):(Instr.typeAssert (.iface 231 v) 196 234 true).run prog w=.ok (.tuple #[.agg #[iv 0,iv 0],.bool false]) w:=by kernel_rfl
theorem U2 (v:Value) (w:World):(Instr.typeAssert (.iface 231 v) 196 236 true).run prog w=.ok (.tuple #[.agg #[iv 0],.bool false]) w:=by kernel_rfl
theorem XP (v:Value) (w:World):(Instr.typeAssert (.iface 231 v) 196 237 true).run prog w=.ok (.tuple #[.agg #[iv 0],.bool false]) w:=by kernel_rfl
theorem XN (v:Value) (w:World):(Instr.typeAssert (.iface 232 v) 196 230 true).run prog w=.ok (.tuple #[.agg #[iv 0],.bool false]) w:=by kernel_rfl
theorem XM (v:Value) (w:World):(Instr.typeAssert (.iface 232 v) 196 231 true).run prog w=.ok (.tuple #[.agg #[iv 0],.bool false]) w:=by kernel_rfl
theorem XL (v:Value) (w:World):(Instr.typeAssert (.iface 232 v) 196 232 true).run prog w=.ok (.tuple #[v,.bool true]) w:=by kernel_rfl
theorem U1 (v:Value) (w:World):(Instr.typeAssert (.iface 232 v) 196 234 true).run prog w=.ok (.tuple #[.agg #[iv 0,iv 0],.bool false]) w:=by kernel_rfl
theorem U0 (v:Value) (w:World):(Instr.typeAssert (.iface 232 v) 196 236 true).run prog w=.ok (.tuple #[.agg #[iv 0],.bool false]) w:=by kernel_rfl
theorem XJ (v:Value) (w:World):(Instr.typeAssert (.iface 232 v) 196 237 true).run prog w=.ok (.tuple #[.agg #[iv 0],.bool false]) w:=by kernel_rfl
theorem XI (v:Value) (w:World):(Instr.typeAssert (.iface 234 v) 196 230 true).run prog w=.ok (.tuple #[.agg #[iv 0],.bool false]) w:=by kernel_rfl
theorem XH (v:Value) (w:World):(Instr.typeAssert (.iface 234 v) 196 231 true).run prog w=.ok (.tuple #[.agg #[iv 0],.bool false]) w:=by kernel_rfl
theorem XG (v:Value) (w:World):(Instr.typeAssert (.iface 234 v) 196 232 true).run prog w=.ok (.tuple #[.agg #[iv 0],.bool false]) w:=by kernel_rfl
theorem UZ (v:Value) (w:World):(Instr.typeAssert (.iface 234 v) 196 234 true).run prog w=.ok (.tuple #[v,.bool true]) w:=by kernel_rfl
theorem UY (v:Value) (w:World):(Instr.typeAssert (.iface 234 v) 196 236 true).run prog w=.ok (.tuple #[.agg #[iv 0],.bool false]) w:=by kernel_rfl
theorem XF (v:Value) (w:World):(Instr.typeAssert (.iface 234 v) 196 237 true).run prog w=.ok (.tuple #[.agg #[iv 0],.bool false]) w:=by kernel_rfl
theorem XE (v:Value) (w:World):(Instr.typeAssert (.iface 236 v) 196 230 true).run prog w=.ok (.tuple #[.agg #[iv 0],.bool false]) w:=by kernel_rfl
theorem XD (v:Value) (w:World):(Instr.typeAssert (.iface 236 v) 196 231 true).run prog w=.ok (.tuple #[.agg #[iv 0],.bool false]) w:=by kernel_rfl
theorem XC (v:Value) (w:World):(Instr.typeAssert (.iface 236 v) 196 232 true).run prog w=.ok (.tuple #[.agg #[iv 0],.bool false]) w:=by kernel_rfl
theorem UX (v:Value) (w:World):(Instr.typeAssert (.iface 236 v) 196 234 true).run prog w=.ok (.tuple #[.agg #[iv 0,iv 0],.bool false]) w:=by kernel_rfl
theorem UW (v:Value) (w:World):(Instr.typeAssert (.iface 236 v) 196 236 true).run prog w=.ok (.tuple #[v,.bool true]) w:=by kernel_rfl
theorem XB (v:Value) (w:World):(Instr.typeAssert (.iface 236 v) 196 237 true).run prog w=.ok (.tuple #[.agg #[iv 0],.bool false]) w:=by kernel_rfl
theorem XA (v:Value) (w:World):(Instr.typeAssert (.iface 237 v) 196 230 true).run prog w=.ok (.tuple #[.agg #[iv 0],.bool false]) w:=by kernel_rfl
theorem Xz (v:Value) (w:World):(Instr.typeAssert (.iface 237 v) 196 231 true).run prog w=.ok (.tuple #[.agg #[iv 0],.bool false]) w:=by kernel_rfl
theorem Xy (v:Value) (w:World):(Instr.typeAssert (.iface 237 v) 196 232 true).run prog w=.ok (.tuple #[.agg #[iv 0],.bool false]) w:=by kernel_rfl
theorem UV (v:Value) (w:World):(Instr.typeAssert (.iface 237 v) 196 234 true).run prog w=.ok (.tuple #[.agg #[iv 0,iv 0],.bool false]) w:=by kernel_rfl
theorem UU (v:Value) (w:World):(Instr.typeAssert (.iface 237 v) 196 236 true).run prog w=.ok (.tuple #[.agg #[iv 0],.bool false]) w:=by kernel_rfl
theorem Xx (v:Value) (w:World):(Instr.typeAssert (.iface 237 v) 196 237 true).run prog w=.ok (.tuple #[v,.bool true]) w:=by kernel_rfl
theorem OI (v:Value) (w:World):Calls prog 234 #[.iface 228 v] w fun r w'=>r=.returned (.bool false)∧w'=w:=by
 have t5:=U9;have t6:=U8;have t7:=X9;go_enter func234,ntmps234;go_wp2;go_ret;exact ⟨rfl,rfl⟩
theorem OH (v:Value) (w:World):Calls prog 234 #[.iface 229 v] w fun r w'=>r=.returned (.bool false)∧w'=w:=by
 have t5:=U7;have t6:=U6;have t7:=XY;go_enter func234,ntmps234;go_wp2;go_ret;exact ⟨rfl,rfl⟩
theorem OG (v:Value) (w:World):Calls prog 234 #[.iface 230 v] w fun r w'=>r=.returned (.bool false)∧w'=w:=by
 have t5:=U5;have t6:=U4;have t7:=XU;go_enter func234,ntmps234;go_wp2;go_ret;exact ⟨rfl,rfl⟩
theorem OE (v:Value) (w:World):Calls prog 234 #[.iface 231 v] w fun r w'=>r=.returned (.bool false)∧w'=w:=by
 have t5:=U3;have t6:=U2;have t7:=XP;go_enter func234,ntmps234;go_wp2;go_ret;exact ⟨rfl,rfl⟩
theorem OD (v:Value) (w:World):Calls prog 234 #[.iface 232 v] w fun r w'=>r=.returned (.bool false)∧w'=w:=by
 have t5:=U1;have t6:=U0;have t7:=XJ;go_enter func234,ntmps234;go_wp2;go_ret;exact ⟨rfl,rfl⟩
theorem OC (v:Value) (w:World):Calls prog 234 #[.iface 234 v] w fun r w'=>r=.returned (.bool true)∧w'=w:=by
 have t5:=UZ;have t6:=UY;have t7:=XF;go_enter func234,ntmps234;go_wp2;go_ret;exact ⟨rfl,rfl⟩
theorem OB (v:Value) (w:World):Calls prog 234 #[.iface 236 v] w fun r w'=>r=.returned (.bool true)∧w'=w:=by
 have t5:=UX;have t6:=UW;have t7:=XB;go_enter func234,ntmps234;go_wp2;go_ret;exact ⟨rfl,rfl⟩
theorem Oz (v:Value) (w:World):Calls prog 234 #[.iface 237 v] w fun r w'=>r=.returned (.bool true)∧w'=w:=by
 have t5:=UV;have t6:=UU;have t7:=Xx;go_enter func234,ntmps234;go_wp2;go_ret;exact ⟨rfl,rfl⟩
def W64 (n:Int):Prop := -9223372036854775808<=n∧n<=9223372036854775807
set_option linter.unusedSimpArgs false
theorem gZ (a:Addr) (fn:Fn) (m:Mode) (w:World):(store a (.func fn #[] #[]) m).run prog w=stored prog w a (.func fn #[] #[]) m:=run_store prog w a _ m rfl
theorem nJ {B:Nat} {w wt:World} (h:Below B w.drew wt):Below B w wt:=⟨h.os,h.tape,h.output,h.size,h.block⟩
def Box (w:World) (b:Nat) (v s x f:Int) (t:Bool):Prop:=w.heap[b]? = some (.cells #[iv v,iv s,iv x,iv f,.bool t] 273)
theorem Box.later {w wt:World} {b:Nat} {v s x f:Int} {t:Bool} (h:Box w b v s x f t) (hb:Below w.heap.size w wt):Box wt b v s x f t:=by
 have lt:b<w.heap.size:=by
  unfold Box at h;rcases Nat.lt_or_ge b w.heap.size with h'|h'
  ·exact h'
  ·rw [Array.getElem?_eq_none h'] at h;cases h
 exact (hb.block b lt).trans h
theorem Box.cells {w:World} {b:Nat} {v s x f:Int} {t:Bool} (h:Box w b v s x f t) :
  w.cell? (Zt b 0)=some (iv v)∧w.cell? (Zt b 1)=some (iv s)∧w.cell? (Zt b 2)=some (iv x)∧w.cell? (Zt b 3)=some (iv f)∧w.cell? (Zt b 4)=some (.bool t)∧
  w.frozen? (Zt b 0)=false∧w.frozen? (Zt b 1)=false∧w.frozen? (Zt b 2)=false∧w.frozen? (Zt b 3)=false∧w.frozen? (Zt b 4)=false:=by
 unfold Box at h;refine ⟨?_,?_,?_,?_,?_,?_,?_,?_,?_,?_⟩<;>simp [World.cell?,World.frozen?,h]
theorem gq {fn:Func} {p:Tmp} (h:fn.results=#[.cell p 273]) (tmps:Array Value) {w:World} {b:Nat} {v s x f:Int} {t:Bool} (hp:tmps.getD p undef=.pointer (some (Zt b 0))) (hB:Box w b v s x f t) :
  (results fn tmps).run prog w=.ok (.agg #[iv v,iv s,iv x,iv f,.bool t]) w:=
 results_cell_row h tmps w b _ _ _ _ hp hB (underlying273) rfl (by kernel_rfl)
theorem Box.set {w:World} {b:Nat} {v s x f v' s' x' f':Int} {t t':Bool} (h:Box w b v s x f t) :
  Box (((((w.setCell (Zt b 0) (iv v')).setCell (Zt b 1) (iv s')).setCell (Zt b 2) (iv x')).setCell (Zt b 3) (iv f')).setCell (Zt b 4) (.bool t')) b v' s' x' f' t':=by
 unfold Box at h ⊢;simp [World.setCell,Array.getElem?_modify,h]
theorem Box.Yl (w:World) (v s x f:Int) (t:Bool):Box (w.alloc (.cells #[iv v,iv s,iv x,iv f,.bool t] 273)) w.heap.size v s x f t:=heap_alloc_new w _
theorem Box.two {w:World} {b:Nat} {v s x f:Int} {t:Bool} (h:Box w b v s x f t) (o1 o2:Obj):Box ((w.alloc o1).alloc o2) b v s x f t:=
 h.later (((Below.refl _ w).alloc (Nat.le_refl _) o1).alloc (by simp) o2)
theorem Box.Ye {w:World} {b:Nat} {v s x f:Int} {t t':Bool} (h:Box w b v s x f t):Box (w.setCell (Zt b 4) (.bool t')) b v s x f t':=by
 unfold Box at h ⊢;simp [World.setCell,Array.getElem?_modify,h]
theorem Below.ny {B:Nat} {a w:World} (h:Below B a w) {b:Nat} (hb:B<=b) (v0 v1 v2 v3 v4:Value) :
  Below B a (((((w.setCell (Zt b 0) v0).setCell (Zt b 1) v1).setCell (Zt b 2) v2).setCell (Zt b 3) v3).setCell (Zt b 4) v4):=
 ((((h.setCell hb _).setCell hb _).setCell hb _).setCell hb _).setCell hb _
theorem Box.yR (w:World) (v s x f:Int) (t:Bool) (o1:Obj) (o2:Obj):Box (((w.alloc (.cells #[iv v,iv s,iv x,iv f,.bool t] 273)).alloc o1).alloc o2) w.heap.size v s x f t:=by
 unfold Box;rw [Below.heap_alloc _ _ _ (by simp<;>omega),Below.heap_alloc _ _ _ (by simp)];exact heap_alloc_new w _
theorem Box.yQ (w:World) (v s x f:Int) (t:Bool) (o1:Obj) (o2:Obj):Box (((w.alloc o1).alloc (.cells #[iv v,iv s,iv x,iv f,.bool t] 273)).alloc o2) (w.heap.size+1) v s x f t:=by
 unfold Box;rw [Below.heap_alloc _ _ _ (by simp)];exact heap_alloc2_new w _ _
theorem rA {a b c d a' b' c' d':Int} {t t':Bool} (ha:a=a') (hb:b=b') (hc:c=c') (hd:d=d') (ht:t=t'):Ending.returned (.agg #[iv a,iv b,iv c,iv d,.bool t])=.returned (.agg #[iv a',iv b',iv c',iv d',.bool t']):=by rw [ha,hb,hc,hd,ht]
theorem aN {fn:Func} {p:Tmp} {ty:TypeId} (h:fn.results=#[.cell p ty]) (tmps:Array Value) (P:Program) (w:World) :
  (results fn tmps).run P w=((asAddr (tmps.getD p undef)).run P w).andThen fun a w₁=>(loadVar ty a).run P w₁:=by
 simp only [results,h];simp [Sem.run_bind,Result.andThen]
theorem Pl.CJ {a q:Int} (h0:0<=a) (h1:a<131072) (h2:a%2=0) (q0:0<=q) (q1:q<=1):bits .or .i64 a q=a+q:=
 bits_join .i64 62 (by decide) gU 1 a q (by omega) (by omega) (by omega) (by omega) (by omega) (by omega)
theorem lowest (v s x f:Int) (t:Bool) (w:World) :
  Calls prog 323 #[.agg #[iv v,iv s,iv x,iv f,.bool t]] w fun e w'=>e=.returned (iv (v%2))∧∃o,w'=w.alloc o:=by
 have hA:=and1 v;go_enter func323,ntmps323;go_wp2;go_ret;exact ⟨rfl,_,rfl⟩
theorem aQ (v s x f:Int) (t:Bool) (w:World) :
  Calls prog 321 #[.agg #[iv v,iv s,iv x,iv f,.bool t]] w fun e w'=>e=.returned (.agg #[iv v,iv s,iv f,iv f,.bool t])∧∃o1 o2,w'=(w.alloc o1).alloc o2:=by
 go_enter func321,ntmps321;go_wp2;refine bodyPost_ret (v:=.agg #[iv v,iv s,iv f,iv f,.bool t]) ?_ rfl ⟨rfl,_,_,rfl⟩;rw [aN rfl];go_simp
theorem fD (v x f:Int) (t:Bool) (w:World) (h0:0<=v) (h1:v<256) :
  Calls prog 311 #[.agg #[iv v,iv 8,iv x,iv f,.bool t]] w fun e w'=>e=.returned (iv (Pl.hi 1 v))∧∃o,w'=w.alloc o:=by
 have E:Hid (v/128=Pl.hi 1 v):=Zr (by simp [Pl.hi,Pl.top];omega);go_enter func311,ntmps311;go_wp2;go_ret;exact ⟨rI E.o,_,rfl⟩
theorem pq (v x f i:Int) (t:Bool) (w:World) (h0:0<=v) (h1:v<256) (i0:0<=i) (i1:i<=1) :
  Calls prog 320 #[.agg #[iv v,iv 8,iv x,iv f,.bool t],iv i] w fun e w'=>e=.returned (.agg #[iv (v*2%256+i),iv 8,iv x,iv (Pl.hi 1 v),.bool t])∧∃o1 o2 o3,w'=(((w.alloc o1).alloc o2).alloc o3).drew:=by
 have hO:=CJ (a:=v*2) (q:=i) (by omega) (by omega) (by omega) i0 i1;have hA:=gK (v*2+i);have hE:(v*2+i)%256=v*2%256+i:=by omega
 go_enter func320,ntmps320;go_wp2_with fail;refine (fD v x f t _ h0 h1).mono ?_;rintro e w' ⟨rfl,o,rfl⟩;go_wp2_with fail;go_region;go_wp2_with fail;refine bodyPost_ret (v:=.agg #[iv (v*2%256+i),iv 8,iv x,iv (Pl.hi 1 v),.bool t]) ?_ rfl ⟨rfl,_,_,_,rfl⟩;rw [aN rfl];go_simp
theorem kF (v x f i:Int) (t:Bool) (w:World) (h0:0<=v) (h1:v<256) (i0:0<=i) (i1:i<=1) :
  Calls prog 322 #[.agg #[iv v,iv 8,iv x,iv f,.bool t],iv i] w fun e w'=>e=.returned (.agg #[iv (v/2+i*128),iv 8,iv x,iv (v%2),.bool t])∧∃o1 o2 o3,w'=(((w.alloc o1).alloc o2).alloc o3).drew:=by
 have hO:=oC (a:=v/2) (q:=i) (by omega) (by omega) i0 i1;go_enter func322,ntmps322;go_wp2_with fail;refine (lowest v 8 x f t _).mono ?_;rintro e w' ⟨rfl,o,rfl⟩;go_wp2_with fail;go_region;go_wp2_with fail;refine bodyPost_ret (v:=.agg #[iv (v/2+i*128),iv 8,iv x,iv (v%2),.bool t]) ?_ rfl ⟨rfl,_,_,_,rfl⟩;rw [aN rfl];go_simp
theorem fC (v x f:Int) (t:Bool) (w:World) (h0:0<=v) (h1:v<65536) :
  Calls prog 311 #[.agg #[iv v,iv 16,iv x,iv f,.bool t]] w fun e w'=>e=.returned (iv (Pl.hi 2 v))∧∃o,w'=w.alloc o:=by
 have E:Hid (v/32768=Pl.hi 2 v):=Zr (by simp [Pl.hi,Pl.top];omega);go_enter func311,ntmps311;go_wp2;go_ret;exact ⟨rI E.o,_,rfl⟩
theorem pg (v x f i:Int) (t:Bool) (w:World) (h0:0<=v) (h1:v<65536) (i0:0<=i) (i1:i<=1) :
  Calls prog 320 #[.agg #[iv v,iv 16,iv x,iv f,.bool t],iv i] w fun e w'=>e=.returned (.agg #[iv (v*2%65536+i),iv 16,iv x,iv (Pl.hi 2 v),.bool t])∧∃o1 o2 o3,w'=(((w.alloc o1).alloc o2).alloc o3).drew:=by
 have hO:=CJ (a:=v*2) (q:=i) (by omega) (by omega) (by omega) i0 i1;have hA:=fE (v*2+i);have hE:(v*2+i)%65536=v*2%65536+i:=by omega
 go_enter func320,ntmps320;go_wp2_with fail;refine (fC v x f t _ h0 h1).mono ?_;rintro e w' ⟨rfl,o,rfl⟩;go_wp2_with fail;go_region;go_wp2_with fail;refine bodyPost_ret (v:=.agg #[iv (v*2%65536+i),iv 16,iv x,iv (Pl.hi 2 v),.bool t]) ?_ rfl ⟨rfl,_,_,_,rfl⟩;rw [aN rfl];go_simp
theorem kE (v x f i:Int) (t:Bool) (w:World) (h0:0<=v) (h1:v<65536) (i0:0<=i) (i1:i<=1) :
  Calls prog 322 #[.agg #[iv v,iv 16,iv x,iv f,.bool t],iv i] w fun e w'=>e=.returned (.agg #[iv (v/2+i*32768),iv 16,iv x,iv (v%2),.bool t])∧∃o1 o2 o3,w'=(((w.alloc o1).alloc o2).alloc o3).drew:=by
 have hO:=oz (a:=v/2) (q:=i) (by omega) (by omega) i0 i1;go_enter func322,ntmps322;go_wp2_with fail;refine (lowest v 16 x f t _).mono ?_;rintro e w' ⟨rfl,o,rfl⟩;go_wp2_with fail;go_region;go_wp2_with fail;refine bodyPost_ret (v:=.agg #[iv (v/2+i*32768),iv 16,iv x,iv (v%2),.bool t]) ?_ rfl ⟨rfl,_,_,_,rfl⟩;rw [aN rfl];go_simp
def Pl.thr (k:Int):Bool:=(k==6)||(k==7)
theorem QJ (k:Int) (w:World):Calls prog 302 #[iv k] w fun e w'=>e=.returned (.bool (thr k))∧w'=w:=by
 by_cases h:k=6
 all_goals
  go_enter func302,ntmps302;go_wp2;go_ret;exact ⟨rB (by simp [thr,h]),rfl⟩
set_option linter.unusedSimpArgs false
theorem zu (b:Bool) (f:Int) (w:World) :
  Calls prog 242 #[.bool b,iv f] w fun e w'=>e=.returned (iv (Pl.fl b f))∧w'=w:=by
 cases b
 all_goals
  go_enter func242,ntmps242;go_wp2;go_ret;exact ⟨rfl,rfl⟩
theorem wS (s:Int) (w:World) (s0:0<=s) (s1:s<=2) :
  Calls prog 278 #[iv s] w fun e w'=>e=.returned (iv (8*s))∧w'=w:=by
 go_enter func278,ntmps278;go_wp2;go_ret;exact ⟨rI (by omega),rfl⟩
theorem xB (k:Int) (w:World) :
  Calls prog 301 #[iv k] w fun e w'=>e=.returned (.bool (Pl.kin k))∧w'=w:=by
 by_cases h0:0<=k
 all_goals
  by_cases h1:k<=7
  all_goals
   go_enter func301,ntmps301;go_wp2;go_ret;exact ⟨rB (by simp [Pl.kin];omega),rfl⟩
theorem uS (f:Int) (w:World) :
  Calls prog 191 #[iv f] w fun e w'=>e=.returned (.bool (Pl.flags f))∧w'=w:=by
 by_cases h0:0<=f
 all_goals
  by_cases h1:f<=31
  all_goals
   go_enter func191,ntmps191;go_wp2;go_ret;exact ⟨rB (by simp [Pl.flags];omega),rfl⟩
theorem Pl.five {x f h:Int} {t z:Bool} (hx:x=0∨x=1) (hf:f=0∨f=1) (hh:h=0∨h=1) :
  bits .or .i64 (bits .or .i64 (bits .or .i64 (bits .or .i64 (Pl.fl (f==1) 1) (Pl.fl t 2)) (Pl.fl z 4)) (Pl.fl (h==1) 8)) (Pl.fl (x==1) 16)=f+Pl.fl t 2+(Pl.fl z 4+Pl.fl (h==1) 8)+16*x:=by
 rcases hx with rfl|rfl<;>rcases hf with rfl|rfl<;>rcases hh with rfl|rfl<;>cases t<;>cases z<;>decide
theorem Pl.JD (s v:Int):(Pl.hi s v==1)=decide (Pl.top s/2<=v):=by
 unfold Pl.hi;split
 ·rename_i h;simp [h]
 ·rename_i h;simp [h]
theorem TD (v x f:Int) (t:Bool) (w:World) (h0:0<=v) (h1:v<256) (x0:0<=x) (x1:x<=1) (f0:0<=f) (f1:f<=1) :
  Calls prog 282 #[.agg #[iv v,iv 8,iv x,iv f,.bool t]] w fun e w'=>e=.returned (iv (f+Pl.fl t 2+zn 1 v+16*x))∧∃o1 o2,w'=(w.alloc o1).alloc o2:=by
 go_enter func282,ntmps282;go_wp2_with (first|(go_at_call 242;refine st (zu _ _ _) ?_)|(go_at_call 311;refine (fD _ _ _ _ _ h0 h1).mono ?_;rintro e w' ⟨rfl,o,rfl⟩));go_ret;obtain ⟨b0,b1⟩:=dC 1 v;refine ⟨rI ?_,_,_,rfl⟩;show bits .or .i64 _ _=_;rw [Pl.five (by omega) (by omega) (by omega),JD];rfl
theorem TC (v x f:Int) (t:Bool) (w:World) (h0:0<=v) (h1:v<65536) (x0:0<=x) (x1:x<=1) (f0:0<=f) (f1:f<=1) :
  Calls prog 282 #[.agg #[iv v,iv 16,iv x,iv f,.bool t]] w fun e w'=>e=.returned (iv (f+Pl.fl t 2+zn 2 v+16*x))∧∃o1 o2,w'=(w.alloc o1).alloc o2:=by
 go_enter func282,ntmps282;go_wp2_with (first|(go_at_call 242;refine st (zu _ _ _) ?_)|(go_at_call 311;refine (fC _ _ _ _ _ h0 h1).mono ?_;rintro e w' ⟨rfl,o,rfl⟩));go_ret;obtain ⟨b0,b1⟩:=dC 2 v;refine ⟨rI ?_,_,_,rfl⟩;show bits .or .i64 _ _=_;rw [Pl.five (by omega) (by omega) (by omega),JD];rfl
theorem TA (s v x f W:Int) (t:Bool) (w:World) (h:Pl.Fit s (v,x)) (hW:W=8*s) (f0:0<=f) (f1:f<=1) :
  Calls prog 282 #[.agg #[iv v,iv W,iv x,iv f,.bool t]] w fun e w'=>e=.returned (iv (f+Pl.fl t 2+zn s v+16*x))∧∃o1 o2,w'=(w.alloc o1).alloc o2:=by
 obtain ⟨hs,v0,v1,x0,x1⟩:=h;simp only at v0 v1 x0 x1;subst hW;rcases mX hs with ⟨rfl,e⟩|⟨rfl,e⟩<;>rw [e] at v1
 ·exact TD v x f t w v0 v1 x0 x1 f0 f1
 ·exact TC v x f t w v0 v1 x0 x1 f0 f1
theorem Es (k s f v:Int) (w:World) (lo : -9223372036854775808<=v) (hi:v<=9223372036854775807) (h:oL k s f v=false) :
  Calls prog 280 #[iv k,iv s,iv f,iv v] w fun e w'=>e=.returned (.tuple #[.agg ftZ,.bool false])∧Below w.heap.size w w':=by
 have H:(okv s v=false)∨(okv s v=true∧Pl.flags f=false)∨(okv s v=true∧Pl.flags f=true∧Pl.kin k=false):=by
  unfold oL at h;unfold Pl.kin;revert h;cases okv s v<;>cases Pl.flags f<;>simp
 clear h;rcases H with h1|⟨h1,h2⟩|⟨h1,h2,h3⟩
 all_goals
  go_enter func280,ntmps280;go_wp2_with (first|(go_at_call 120;refine st (bQ _ _ _ lo hi) ?_)|(go_at_call 191;refine st (uS _ _) ?_)|(go_at_call 301;refine st (xB _ _) ?_));refine bodyPost_ret (v:=.tuple #[.agg ftZ,.bool false]) ?_ rfl ⟨rfl,?_⟩
  ·rw [results_cell_tmp rfl];go_simp
  ·(repeat' (first|with_reducible exact Below.refl _ _|with_reducible refine Below.drew ?_|with_reducible refine Below.alloc ?_ ?_ _|(simp;done)|(simp;omega)))
def Pl.zB (k f:Int):Int:=if 6<=k then f/16 else 0
theorem rowOf (k s f v:Int) (w:World) (h:oL k s f v=true) :
  Calls prog 280 #[iv k,iv s,iv f,iv v] w fun e w'=>e=.returned (.tuple #[.agg #[iv v,iv (8*s),iv (f/16),iv (zB k f),.bool false],.bool true])∧Below w.heap.size w w':=by
 obtain ⟨k0,k1,h1,f0,f1,hs,v0,v1,_,_⟩:=oK h;have h2:Pl.flags f=true:=by simp [Pl.flags,f0,f1]
 have h3:Pl.kin k=true:=by simp [Pl.kin,k0,k1]
 have vb:v<65536:=by
  simp only at v1
  rcases mX hs with ⟨_,e⟩|⟨_,e⟩<;>rw [e] at v1<;>omega
 simp only at v0 v1
 clear h v1;have s0:0<=s:=by omega
 have s1:s<=2:=by omega
 cases hx:thr k
 ·have E:Hid (0=zB k f):=Zr (by
   have hx2:=hx;simp [thr] at hx2
   simp [zB];omega)
  have HX:=Zr hx;clear hx;go_enter func280,ntmps280;go_wp2_with (first|(go_at_call 120;refine st (bQ _ _ _ (by omega) (by omega)) ?_)|(go_at_call 191;refine st (uS _ _) ?_)|(go_at_call 301;refine st (xB _ _) ?_)|(go_at_call 278;refine st (wS _ _ s0 s1) ?_)|(go_at_call 302;refine st (QJ _ _) ?_;rw [HX.o]));refine bodyPost_ret (v:=.tuple #[.agg #[iv v,iv (8*s),iv (f/16),iv 0,.bool false],.bool true]) ?_ rfl ⟨by rw [E.o],?_⟩
  ·rw [results_cell_tmp rfl];go_simp
  ·(repeat' (first|with_reducible exact Below.refl _ _|with_reducible refine Below.drew ?_|with_reducible refine Below.alloc ?_ ?_ _|(simp;done)|(simp;omega)))
 ·have E:Hid (f/16=zB k f):=Zr (by
   have hx2:=hx;simp [thr] at hx2
   simp [zB];omega)
  have HX:=Zr hx;clear hx;go_enter func280,ntmps280;go_wp2_with (first|(go_at_call 120;refine st (bQ _ _ _ (by omega) (by omega)) ?_)|(go_at_call 191;refine st (uS _ _) ?_)|(go_at_call 301;refine st (xB _ _) ?_)|(go_at_call 278;refine st (wS _ _ s0 s1) ?_)|(go_at_call 302;refine st (QJ _ _) ?_;rw [HX.o]));refine bodyPost_ret (v:=.tuple #[.agg #[iv v,iv (8*s),iv (f/16),iv (f/16),.bool false],.bool true]) ?_ rfl ⟨by rw [E.o],?_⟩
  ·rw [results_cell_tmp rfl];go_simp
  ·(repeat' (first|with_reducible exact Below.refl _ _|with_reducible refine Below.drew ?_|with_reducible refine Below.alloc ?_ ?_ _|(simp;done)|(simp;omega)))
def Ae (m k e:Int):Value:=if m=0 then .iface 228 (.agg #[iv k]) else if m=1 then .iface 229 (.agg #[iv k]) else if m=2 then .iface 230 (.agg #[iv k]) else if m=3 then .iface 231 (.agg #[iv k]) else if m=4 then .iface 232 (.agg #[iv k]) else if m=5 then .iface 234 (.agg #[iv k,iv e]) else if m=6 then .iface 236 (.agg #[iv e]) else .iface 237 (.agg #[iv e])
theorem UO (v:Value) (w:World):(Instr.typeAssert (.iface 228 v) 196 228 true).run prog w=.ok (.tuple #[v,.bool true]) w:=by kernel_rfl
theorem Xv (v:Value) (w:World):(Instr.typeAssert (.iface 229 v) 196 228 true).run prog w=.ok (.tuple #[.agg #[iv 0],.bool false]) w:=by kernel_rfl
theorem Xu (v:Value) (w:World):(Instr.typeAssert (.iface 229 v) 196 229 true).run prog w=.ok (.tuple #[v,.bool true]) w:=by kernel_rfl
theorem UN (v:Value) (w:World):(Instr.typeAssert (.iface 230 v) 196 228 true).run prog w=.ok (.tuple #[.agg #[iv 0],.bool false]) w:=by kernel_rfl
theorem Xt (v:Value) (w:World):(Instr.typeAssert (.iface 230 v) 196 229 true).run prog w=.ok (.tuple #[.agg #[iv 0],.bool false]) w:=by kernel_rfl
theorem Xr (v:Value) (w:World):(Instr.typeAssert (.iface 230 v) 196 237 true).run prog w=.ok (.tuple #[.agg #[iv 0],.bool false]) w:=by kernel_rfl
theorem UM (v:Value) (w:World):(Instr.typeAssert (.iface 231 v) 196 228 true).run prog w=.ok (.tuple #[.agg #[iv 0],.bool false]) w:=by kernel_rfl
theorem Xq (v:Value) (w:World):(Instr.typeAssert (.iface 231 v) 196 229 true).run prog w=.ok (.tuple #[.agg #[iv 0],.bool false]) w:=by kernel_rfl
theorem Xp (v:Value) (w:World):(Instr.typeAssert (.iface 231 v) 196 237 true).run prog w=.ok (.tuple #[.agg #[iv 0],.bool false]) w:=by kernel_rfl
theorem UL (v:Value) (w:World):(Instr.typeAssert (.iface 232 v) 196 228 true).run prog w=.ok (.tuple #[.agg #[iv 0],.bool false]) w:=by kernel_rfl
theorem Xo (v:Value) (w:World):(Instr.typeAssert (.iface 232 v) 196 229 true).run prog w=.ok (.tuple #[.agg #[iv 0],.bool false]) w:=by kernel_rfl
theorem Xn (v:Value) (w:World):(Instr.typeAssert (.iface 232 v) 196 237 true).run prog w=.ok (.tuple #[.agg #[iv 0],.bool false]) w:=by kernel_rfl
theorem UK (v:Value) (w:World):(Instr.typeAssert (.iface 234 v) 196 228 true).run prog w=.ok (.tuple #[.agg #[iv 0],.bool false]) w:=by kernel_rfl
theorem Xm (v:Value) (w:World):(Instr.typeAssert (.iface 234 v) 196 229 true).run prog w=.ok (.tuple #[.agg #[iv 0],.bool false]) w:=by kernel_rfl
theorem Xl (v:Value) (w:World):(Instr.typeAssert (.iface 234 v) 196 237 true).run prog w=.ok (.tuple #[.agg #[iv 0],.bool false]) w:=by kernel_rfl
theorem UJ (v:Value) (w:World):(Instr.typeAssert (.iface 236 v) 196 228 true).run prog w=.ok (.tuple #[.agg #[iv 0],.bool false]) w:=by kernel_rfl
theorem Xk (v:Value) (w:World):(Instr.typeAssert (.iface 236 v) 196 229 true).run prog w=.ok (.tuple #[.agg #[iv 0],.bool false]) w:=by kernel_rfl
theorem Xj (v:Value) (w:World):(Instr.typeAssert (.iface 236 v) 196 237 true).run prog w=.ok (.tuple #[.agg #[iv 0],.bool false]) w:=by kernel_rfl
theorem Xi (v:Value) (w:World):(Instr.typeAssert (.iface 237 v) 196 228 true).run prog w=.ok (.tuple #[.agg #[iv 0],.bool false]) w:=by kernel_rfl
theorem Xh (v:Value) (w:World):(Instr.typeAssert (.iface 237 v) 196 229 true).run prog w=.ok (.tuple #[.agg #[iv 0],.bool false]) w:=by kernel_rfl
theorem Xg (v:Value) (w:World):(Instr.typeAssert (.iface 237 v) 196 237 true).run prog w=.ok (.tuple #[v,.bool true]) w:=by kernel_rfl
theorem IB (z:Int) (w:World) (hz:z=1∨z=2):Calls prog 256 #[iv z] w fun e w'=>e=.returned (iv (Pl.top z-1))∧w'=w:=by
 rcases hz with rfl|rfl
 all_goals
  go_enter func256,ntmps256;go_wp2_with (go_at_call 278;refine st (wS _ _ (by decide) (by decide)) ?_);go_ret;exact ⟨rfl,rfl⟩
theorem Qi {z x:Int} (hz:z=1∨z=2):bits .and .i64 x (Pl.top z-1)=x%Pl.top z:=by
 rcases hz with rfl|rfl
 ·exact gK x
 ·exact fE x
theorem WE (z k:Int) (hC:CAt w lo b g c h) (hz:z=1∨z=2) (k0:0<=k) (k3:k<=3) :
  Calls prog 251 #[.pointer (some (Zt b 0)),iv z,iv k] w fun e w'=>e=.returned (iv (c.low z k))∧∃n,w'=w.drewN n:=by
 obtain ⟨n,rfl⟩:∃n:Nat,k=(n:Int):=⟨k.toNat,by omega⟩
 have hn:n<4:=by omega
 have q0:=hC.cX hn;have ha:=Qi (x:=el c.r.xs n) hz;clear hC;go_enter func251,ntmps251;go_wp2_with fail;go_quiet (first|(go_at_call 256;exact Calls.quiet_of_same (IB _ _ hz))|fail);go_wp2_with fail;go_ret;exact ⟨rfl,_,rfl⟩
theorem rU (z v:Int) (hC:CAt w lo b g c h) (v0:0<=v) (v1:v<=65535) :
  Calls prog 253 #[.pointer (some (Zt b 0)),iv z,iv v] w fun e w'=>e=.returned (.tuple #[])∧CAt w' lo b g (c.aH (dh z c.r.f v)) h∧Kept b (b+1) w w':=by
 have HC:=Zr hC;have q:=hC.cF;have qf:=hC.fz;clear hC;go_enter func253,ntmps253;go_wp2_with (go_at_call 277;refine st (iQ _ _ _ _ (by omega) (by omega)) ?_);go_end0;exact ⟨rfl,HC.o.aH _,ak _ _ _ _⟩
theorem QY (m k e:Int) (w:World) (m0:0<=m) (m7:m<=7):Calls prog 168 #[.agg #[iv m,iv k,iv e]] w fun r w'=>r=.returned (Ae m k e)∧Kept 0 0 w w':=by
 have:m=0∨m=1∨m=2∨m=3∨m=4∨m=5∨m=6∨m=7:=by omega
 rcases this with rfl|rfl|rfl|rfl|rfl|rfl|rfl|rfl
 ·exact Ap k e w
 ·exact Am k e w
 ·exact Ak k e w
 ·exact Aj k e w
 ·exact Ai k e w
 ·exact Ah k e w
 ·exact Ag k e w
 ·exact Af k e w
theorem PR (z k e:Int) (hC:CAt w lo b g c h) (hg:Pl.Good c.r) (hz:z=1∨z=2) (k0:0<=k) (k3:k<=3) (x0:0<=e) (x1:e<=65535) :
  Calls prog 257 #[.pointer (some (Zt b 0)),iv z,.iface 230 (.agg #[iv k])] w fun e' w'=>e'=.returned (.tuple #[iv (bf c.r z 2 k e),.bool true])∧CAt w' lo b g (c.plc z 2 k e) h∧Kept b (b+1) w w':=by
 have t2:=XX;have t3:=XW;have t4:=XV;have t5:=U5;have t6:=U4;obtain ⟨n,rfl⟩:∃n:Nat,k=(n:Int):=⟨k.toNat,by omega⟩
 have hn:n<4:=by omega
 obtain ⟨y0,y1⟩:=hg.aw n hn;have h4:=Zr hg.a4;have l9:=hC.lt;have HC:=Zr hC;have EV:Hid (el c.r.ys n=bf c.r z 2 (n:Int) e):=Zr (by simp [bf]);have ER:Hid (c.plc z 2 (n:Int) e=c):=Zr (by unfold Mc.plc bi;rw [if_neg (by decide),if_neg (by decide)];rfl);have HN:=Zr (Blk.new w #[iv (n:Int)] 230);have C1:=Zr (hC.alloc (.cells #[iv (n:Int)] 230));have HK:=Zr (kept_alloc w (.cells #[iv (n:Int)] 230));clear hg hC;obtain ⟨X,hX⟩:∃X:World,w.alloc (.cells #[iv (n:Int)] 230)=X:=⟨_,rfl⟩
 rw [hX] at HN C1 HK;have i0:(0:Int)<=(n:Int):=by omega
 have i1:(n:Int)<4:=by omega
 have n0:=HN.o.cell (i:=0) rfl;go_enter func257,ntmps257;go_wp2_with fail;clear hX t2 t3 t4 t5 t6;have q0:=C1.o.cY hn;go_region;go_wp2_with fail;go_ret2;exact ⟨rIB EV.o rfl,by rw [ER.o];exact C1.o.drew,ah HK.o.any⟩
theorem PO (z k e:Int) (hC:CAt w lo b g c h) (hg:Pl.Good c.r) (hz:z=1∨z=2) (k0:0<=k) (k3:k<=3) (x0:0<=e) (x1:e<=65535) :
  Calls prog 257 #[.pointer (some (Zt b 0)),iv z,.iface 234 (.agg #[iv k,iv e])] w fun e' w'=>e'=.returned (.tuple #[iv (bf c.r z 5 k e),.bool true])∧CAt w' lo b g (c.plc z 5 k e) h∧Kept b (b+1) w w':=by
 have t2:=XI;have t3:=XH;have t4:=XG;have t5:=UZ;have t6:=UY;obtain ⟨n,rfl⟩:∃n:Nat,k=(n:Int):=⟨k.toNat,by omega⟩
 have hn:n<4:=by omega
 obtain ⟨y0,y1⟩:=hg.aw n hn;have h4:=Zr hg.a4;have l9:=hC.lt;have HC:=Zr hC;have EV:Hid ((el c.r.ys n+e)%65536=bf c.r z 5 (n:Int) e):=Zr (by simp [bf]);have ER:Hid (c.plc z 5 (n:Int) e=c):=Zr (by unfold Mc.plc bi;rw [if_neg (by decide),if_neg (by decide)];rfl);have HN:=Zr (Blk.new w #[iv (n:Int),iv e] 234);have C1:=Zr (hC.alloc (.cells #[iv (n:Int),iv e] 234));have HK:=Zr (kept_alloc w (.cells #[iv (n:Int),iv e] 234));clear hg hC;obtain ⟨X,hX⟩:∃X:World,w.alloc (.cells #[iv (n:Int),iv e] 234)=X:=⟨_,rfl⟩
 rw [hX] at HN C1 HK;have i0:(0:Int)<=(n:Int):=by omega
 have i1:(n:Int)<4:=by omega
 have n0:=HN.o.cell (i:=0) rfl;go_enter func257,ntmps257;go_wp2_with fail;clear hX t2 t3 t4 t5 t6;have q0:=C1.o.cY hn;have n1:=HN.o.cell (i:=1) rfl;go_quiet (first|(go_at_call 178;exact Calls.quiet_of_same (gQ _ _))|fail);go_wp2_with fail;go_ret2;exact ⟨rIB EV.o rfl,by rw [ER.o];exact C1.o.any (au (Kept.refl _ _ _) _),au HK.o.any _⟩
theorem PN (z k e:Int) (hC:CAt w lo b g c h) (hg:Pl.Good c.r) (hz:z=1∨z=2) (k0:0<=k) (k3:k<=3) (x0:0<=e) (x1:e<=65535) :
  Calls prog 257 #[.pointer (some (Zt b 0)),iv z,.iface 236 (.agg #[iv e])] w fun e' w'=>e'=.returned (.tuple #[iv (bf c.r z 6 k e),.bool true])∧CAt w' lo b g (c.plc z 6 k e) h∧Kept b (b+1) w w':=by
 have t2:=XE;have t3:=XD;have t4:=XC;have t5:=UX;have t6:=UW;obtain ⟨n,rfl⟩:∃n:Nat,k=(n:Int):=⟨k.toNat,by omega⟩
 have hn:n<4:=by omega
 obtain ⟨y0,y1⟩:=hg.aw n hn;have h4:=Zr hg.a4;have l9:=hC.lt;have HC:=Zr hC;have EV:Hid (e=bf c.r z 6 (n:Int) e):=Zr (by simp [bf]);have ER:Hid (c.plc z 6 (n:Int) e=c):=Zr (by unfold Mc.plc bi;rw [if_neg (by decide),if_neg (by decide)];rfl);have HN:=Zr (Blk.new w #[iv e] 236);have C1:=Zr (hC.alloc (.cells #[iv e] 236));have HK:=Zr (kept_alloc w (.cells #[iv e] 236));clear hg hC;obtain ⟨X,hX⟩:∃X:World,w.alloc (.cells #[iv e] 236)=X:=⟨_,rfl⟩
 rw [hX] at HN C1 HK;have i0:(0:Int)<=(n:Int):=by omega
 have i1:(n:Int)<4:=by omega
 have n0:=HN.o.cell (i:=0) rfl;go_enter func257,ntmps257;go_wp2_with fail;clear hX t2 t3 t4 t5 t6;go_ret2;exact ⟨rIB EV.o rfl,by rw [ER.o];exact C1.o,HK.o.any⟩
theorem PQ (z k e:Int) (hC:CAt w lo b g c h) (hg:Pl.Good c.r) (hz:z=1∨z=2) (k0:0<=k) (k3:k<=3) (x0:0<=e) (x1:e<=65535) :
  Calls prog 257 #[.pointer (some (Zt b 0)),iv z,.iface 231 (.agg #[iv k])] w fun e' w'=>e'=.returned (.tuple #[iv (bf c.r z 3 k e),.bool true])∧CAt w' lo b g (c.plc z 3 k e) h∧Kept b (b+1) w w':=by
 have t2:=XT;have t3:=XR;have t4:=XQ;have t5:=U3;have t6:=U2;obtain ⟨n,rfl⟩:∃n:Nat,k=(n:Int):=⟨k.toNat,by omega⟩
 have hn:n<4:=by omega
 obtain ⟨y0,y1⟩:=hg.aw n hn;have h4:=Zr hg.a4;have l9:=hC.lt;have HC:=Zr hC;have EV:Hid (el c.r.ys n=bf c.r z 3 (n:Int) e):=Zr (by simp [bf]);obtain ⟨nb0,nb1⟩:1<=byN z (n:Int)∧byN z (n:Int)<=2:=by unfold byN;split<;>omega
 have ew:IntKind.i64.wrap (el c.r.ys n+byN z (n:Int))=el c.r.ys n+byN z (n:Int):=by rw [IntKind.wrap_i64];omega
 have ER:Hid (c.plc z 3 (n:Int) e=c.eG n ((el c.r.ys n+byN z (n:Int))%65536)):=Zr (by simp [Mc.plc,bi,Mc.eG,Mc.bg]);have HN:=Zr (Blk.new w #[iv (n:Int)] 231);have C1:=Zr (hC.alloc (.cells #[iv (n:Int)] 231));have HK:=Zr (kept_alloc w (.cells #[iv (n:Int)] 231));clear hg hC;obtain ⟨X,hX⟩:∃X:World,w.alloc (.cells #[iv (n:Int)] 231)=X:=⟨_,rfl⟩
 rw [hX] at HN C1 HK;have i0:(0:Int)<=(n:Int):=by omega
 have i1:(n:Int)<4:=by omega
 have n0:=HN.o.cell (i:=0) rfl;go_enter func257,ntmps257;go_wp2_with fail;clear hX t2 t3 t4 t5 t6;have q0:=C1.o.cY hn;go_region;go_wp2_with fail;clear q0 n0;refine wp_region_still_tail 12 (by kernel_rfl) (by kernel_rfl) ?_;simp only [List.take_succ_cons,List.take_zero,List.drop_succ_cons,List.drop_zero];obtain ⟨Y,hY⟩:∃Y:World,Y={X.drew with drawn:=(X.drew).drawn+1}:=⟨_,rfl⟩
 rw [<-hY];have CY:Hid (CAt Y lo b g c h):=Zr (by rw [hY];exact C1.o.any (ah (ah (Kept.refl _ _ _))));have NY:Hid (Blk Y w.heap.size #[iv (n:Int)] 231):=Zr (by rw [hY];exact HN.o);have KY:Hid (Kept 0 0 w Y):=Zr (by rw [hY];exact ah (ah HK.o));clear hY;have q1:=CY.o.cY hn;have qf:=CY.o.fz (4+n);have n1:=NY.o.cell (i:=0) rfl
 iterate 7 still_step
 still_call (yA _ _ _ hz)
 iterate 1 still_step
 still_call (gQ _ _)
 iterate 2 still_step
 refine wpStill_nil ?_;go_wp2_with fail;go_ret2;exact ⟨rIB EV.o rfl,by rw [ER.o];exact CY.o.uC h4.o hn _,af KY.o.any _ _ _ (.inl ⟨by omega,by omega⟩)⟩
theorem PP (z k e:Int) (hC:CAt w lo b g c h) (hg:Pl.Good c.r) (hz:z=1∨z=2) (k0:0<=k) (k3:k<=3) (x0:0<=e) (x1:e<=65535) :
  Calls prog 257 #[.pointer (some (Zt b 0)),iv z,.iface 232 (.agg #[iv k])] w fun e' w'=>e'=.returned (.tuple #[iv (bf c.r z 4 k e),.bool true])∧CAt w' lo b g (c.plc z 4 k e) h∧Kept b (b+1) w w':=by
 have t2:=XN;have t3:=XM;have t4:=XL;have t5:=U1;have t6:=U0;obtain ⟨n,rfl⟩:∃n:Nat,k=(n:Int):=⟨k.toNat,by omega⟩
 have hn:n<4:=by omega
 obtain ⟨y0,y1⟩:=hg.aw n hn;have h4:=Zr hg.a4;have l9:=hC.lt;have HC:=Zr hC;have EV:Hid ((el c.r.ys n-byN z (n:Int))%65536=bf c.r z 4 (n:Int) e):=Zr (by simp [bf]);obtain ⟨nb0,nb1⟩:1<=byN z (n:Int)∧byN z (n:Int)<=2:=by unfold byN;split<;>omega
 have ew:IntKind.i64.wrap (el c.r.ys n-byN z (n:Int))=el c.r.ys n-byN z (n:Int):=by rw [IntKind.wrap_i64];omega
 have ER:Hid (c.plc z 4 (n:Int) e=c.eG n ((el c.r.ys n-byN z (n:Int))%65536)):=Zr (by simp [Mc.plc,bi,Mc.eG,Mc.bg]);have HN:=Zr (Blk.new w #[iv (n:Int)] 232);have C1:=Zr (hC.alloc (.cells #[iv (n:Int)] 232));have HK:=Zr (kept_alloc w (.cells #[iv (n:Int)] 232));clear hg hC;obtain ⟨X,hX⟩:∃X:World,w.alloc (.cells #[iv (n:Int)] 232)=X:=⟨_,rfl⟩
 rw [hX] at HN C1 HK;have i0:(0:Int)<=(n:Int):=by omega
 have i1:(n:Int)<4:=by omega
 have n0:=HN.o.cell (i:=0) rfl;go_enter func257,ntmps257;go_wp2_with fail;clear hX t2 t3 t4 t5 t6;clear n0;refine wp_region_still_tail 18 (by kernel_rfl) (by kernel_rfl) ?_;simp only [List.take_succ_cons,List.take_zero,List.drop_succ_cons,List.drop_zero];obtain ⟨Y,hY⟩:∃Y:World,Y={X with drawn:=(X).drawn+1}:=⟨_,rfl⟩
 rw [<-hY];have CY:Hid (CAt Y lo b g c h):=Zr (by rw [hY];exact C1.o.any (ah (Kept.refl _ _ _)));have NY:Hid (Blk Y w.heap.size #[iv (n:Int)] 232):=Zr (by rw [hY];exact HN.o);have KY:Hid (Kept 0 0 w Y):=Zr (by rw [hY];exact ah HK.o);clear hY;have q1:=CY.o.cY hn;have qf:=CY.o.fz (4+n);have n1:=NY.o.cell (i:=0) rfl
 iterate 13 still_step
 still_call (yA _ _ _ hz)
 iterate 1 still_step
 still_call (gQ _ _)
 iterate 2 still_step
 refine wpStill_nil ?_;go_wp2_with fail;go_region;go_wp2_with fail;go_ret2;exact ⟨rIB EV.o rfl,by rw [ER.o];exact (CY.o.uC h4.o hn _).drew,ah (af KY.o.any _ _ _ (.inl ⟨by omega,by omega⟩))⟩
theorem PT (w:World) (b:Nat) (z:Int) (v:Value) :
  Calls prog 257 #[.pointer (some (Zt b 0)),iv z,.iface 228 v] w fun e' w'=>e'=.returned (.tuple #[iv 0,.bool false])∧w'=w:=by
 have t2:=Yc;have t3:=Yb;have t4:=Ya;have t5:=U9;have t6:=U8;go_enter func257,ntmps257;go_wp2_with fail;go_ret2;exact ⟨rfl,rfl⟩
theorem PS (w:World) (b:Nat) (z:Int) (v:Value) :
  Calls prog 257 #[.pointer (some (Zt b 0)),iv z,.iface 229 v] w fun e' w'=>e'=.returned (.tuple #[iv 0,.bool false])∧w'=w:=by
 have t2:=X8;have t3:=X7;have t4:=XZ;have t5:=U7;have t6:=U6;go_enter func257,ntmps257;go_wp2_with fail;go_ret2;exact ⟨rfl,rfl⟩
theorem PM (w:World) (b:Nat) (z:Int) (v:Value) :
  Calls prog 257 #[.pointer (some (Zt b 0)),iv z,.iface 237 v] w fun e' w'=>e'=.returned (.tuple #[iv 0,.bool false])∧w'=w:=by
 have t2:=XA;have t3:=Xz;have t4:=Xy;have t5:=UV;have t6:=UU;go_enter func257,ntmps257;go_wp2_with fail;go_ret2;exact ⟨rfl,rfl⟩
def Pl.Mc.slot (c:Mc) (z m k e:Int):Mc:=bif Mc.gu m then c else c.plc z m k e
theorem PL (z m k e:Int) (hC:CAt w lo b g c h) (hg:Pl.Good c.r) (hz:z=1∨z=2) (m0:0<=m) (m7:m<=7) (k0:0<=k) (k3:k<=3) (x0:0<=e) (x1:e<=65535) :
  Calls prog 257 #[.pointer (some (Zt b 0)),iv z,Ae m k e] w fun e' w'=>e'=.returned (.tuple #[iv (c.readA z m k e),.bool (!Mc.gu m)])∧CAt w' lo b g (c.slot z m k e) h∧Kept b (b+1) w w':=by
 have:m=0∨m=1∨m=2∨m=3∨m=4∨m=5∨m=6∨m=7:=by omega
 rcases this with rfl|rfl|rfl|rfl|rfl|rfl|rfl|rfl
 ·refine (PT w b z (.agg #[iv k])).mono ?_;rintro e9 w9 ⟨rfl,rfl⟩;exact ⟨rfl,hC,Kept.refl _ _ _⟩
 ·refine (PS w b z (.agg #[iv k])).mono ?_;rintro e9 w9 ⟨rfl,rfl⟩;exact ⟨rfl,hC,Kept.refl _ _ _⟩
 ·exact PR w lo b g c h z k e hC hg hz k0 k3 x0 x1
 ·exact PQ w lo b g c h z k e hC hg hz k0 k3 x0 x1
 ·exact PP w lo b g c h z k e hC hg hz k0 k3 x0 x1
 ·exact PO w lo b g c h z k e hC hg hz k0 k3 x0 x1
 ·exact PN w lo b g c h z k e hC hg hz k0 k3 x0 x1
 ·refine (PM w b z (.agg #[iv e])).mono ?_;rintro e9 w9 ⟨rfl,rfl⟩;exact ⟨rfl,hC,Kept.refl _ _ _⟩
theorem mV (z k:Int) (hC:CAt w lo b g c h) (hz:z=1∨z=2) (k0:0<=k) (k3:k<=3) :
  Calls prog 251 #[.pointer (some (Zt b 0)),iv z,iv k] w fun e w'=>e=.returned (iv (c.low z k))∧Kept 0 0 w w':=by
 refine (WE w lo b g c h z k hC hz k0 k3).mono ?_;rintro e w' ⟨rfl,n,rfl⟩;exact ⟨rfl,au (Kept.refl _ _ _) _⟩
theorem QH {w W W':World} {lo hi l h:Nat} (k:Kept lo hi w W) (m:Kept l h W W') (hg:w.heap.size<=l):Kept lo hi w W':=
 ⟨m.os.trans k.os,m.tape.trans k.tape,m.output.trans k.output,Nat.le_trans k.size m.size,fun i hi hn=>(m.block i (Nat.lt_of_lt_of_le hi k.size) (by omega)).trans (k.block i hi hn)⟩
theorem oV (m k e:Int):∃(T:TypeId) (U:Value),Ae m k e=.iface T U:=by
 unfold Ae;repeat' split
 all_goals exact ⟨_,_,rfl⟩
theorem vC (x:Pl.In) (hC:CAt w lo b g c h) (G:GM c) (B:InB x) :
  Calls prog 227 #[.pointer (some (Zt b 0)),.agg (inX x)] w fun e w'=>e=.returned (.agg #[Ae x.m x.k x.e,iv x.z,iv (c.readA x.z x.m x.k x.e)])∧CAt w' lo b g (c.slot x.z x.m x.k x.e) h∧Kept b (b+1) w w':=by
 obtain ⟨l0,l1,l2,l3,l4⟩:=hC.lt;have HB:=Zr B;have HG:=Zr G.g;have K0:=Zr (ag (kept_alloc w (.cells (inX x) 48)) (.cells #[.nilIface,iv 0,iv 0] 239));have C0:=Zr ((hC.alloc (.cells (inX x) 48)).alloc (.cells #[.nilIface,iv 0,iv 0] 239));have I0:=Zr ((Blk.new w (inX x) 48).alloc (.cells #[.nilIface,iv 0,iv 0] 239));have R0:=Blk.new (w.alloc (.cells (inX x) 48)) #[.nilIface,iv 0,iv 0] 239;simp only [World.size_alloc] at R0;replace R0:=Zr R0;obtain ⟨X,hX⟩:∃X:World,(w.alloc (.cells (inX x) 48)).alloc (.cells #[.nilIface,iv 0,iv 0] 239)=X:=⟨_,rfl⟩
 rw [hX] at K0 C0 I0 R0;obtain ⟨T,U,hV⟩:=oV x.m x.k x.e;have HV:=Zr hV;obtain ⟨A,hA⟩:∃A,A=c.readA x.z x.m x.k x.e:=⟨_,rfl⟩
 have HA:=Zr hA;rw [hV,<-hA];clear hC G B hV hA;have p:=I0.o.all;go_enter func227,ntmps227;go_wp2_with (go_at_call 168;refine (QY x.m x.k x.e _ HB.o.m0 HB.o.m1).mono ?_;rintro e9 W1 ⟨rfl,k1⟩;rw [HV.o];have C1:=Zr (C0.o.any k1);have I1:=Zr (I0.o.ae k1);have R1:=Zr (R0.o.ae k1);have K1:=Zr (K0.o.trans k1);clear k1);clear hX p;have p:=I1.o.cell (i:=1) rfl
 go_region_held3 (fun w'=>w'.cell? (Zt w.heap.size 1)=some (iv x.z)) (first|with_reducible exact I2.o.cell (i:=1) rfl|with_reducible exact I1.o.cell (i:=1) rfl|exact (show Blk _ _ _ _ from I1.o).cell (i:=1) rfl)
  (first|(go_at_call 257;rw [<-HV.o];refine (PL _ lo b g c h x.z x.m x.k x.e C1.o.drew HG.o HB.o.z HB.o.m0 HB.o.m1 HB.o.k0 HB.o.k1 HB.o.e0 HB.o.e1).mono ?_;rintro e9 W2 ⟨rfl,hc2,kd⟩;rw [<-HA.o];try rw [HV.o];have k2:=aK kd;have C2:=Zr hc2;have I2:=Zr (I1.o.kept k2 (by omega));have R2:=Zr (R1.o.kept k2 (by omega));have K2:=Zr (K1.o.any.trans k2);clear kd k2 hc2))
 clear p;have p2:=I2.o.all;have r2:=R2.o.all;have rf2:=R2.o.fz;go_wp2_with fail;have K3:=((ak W2 (w.heap.size+1) 0 (.iface T U)).one 1 (iv x.z)).one 2 (iv A);refine bodyPost_ret (v:=.agg #[.iface T U,iv x.z,iv A]) ?_ rfl ⟨rfl,C2.o.kept K3 (by omega) (by omega),QH K2.o K3 (by omega)⟩;rw [aj rfl];go_simp
theorem TV (z a k:Int) (hC:CAt w lo b g c h) (hz:z=1∨z=2) (k0:0<=k) (k3:k<=3) :
  Calls prog 249 #[.pointer (some (Zt b 0)),.agg #[.iface 228 (.agg #[iv k]),iv z,iv a]] w fun e w'=>e=.returned (.tuple #[iv (c.low z k),.agg ftZ])∧CAt w' lo b g c h∧Kept 0 0 w w':=by
 have t0:=UO;obtain ⟨l0,l1,l2,l3,l4⟩:=hC.lt;have K0:=Zr (ag (kept_alloc w (.cells #[.iface 228 (.agg #[iv k]),iv z,iv a] 239)) (.cells ftZ 42));have C0:=Zr ((hC.alloc (.cells #[.iface 228 (.agg #[iv k]),iv z,iv a] 239)).alloc (.cells ftZ 42));have I0:=Zr ((Blk.new w #[.iface 228 (.agg #[iv k]),iv z,iv a] 239).alloc (.cells ftZ 42));have R0:=Blk.new (w.alloc (.cells #[.iface 228 (.agg #[iv k]),iv z,iv a] 239)) ftZ 42;simp only [World.size_alloc] at R0;replace R0:=Zr R0;obtain ⟨X,hX⟩:∃X:World,(w.alloc (.cells #[.iface 228 (.agg #[iv k]),iv z,iv a] 239)).alloc (.cells ftZ 42)=X:=⟨_,rfl⟩
 rw [hX] at K0 C0 I0 R0;have p:=I0.o.all;have r:=R0.o.all;have rf:=R0.o.fz;have sX:w.heap.size+1<X.heap.size:=R0.o.lt;have K1:=Zr (ag K0.o (.cells #[iv k] 228));have C1:=Zr (C0.o.alloc (.cells #[iv k] 228));have R1:=Zr (R0.o.alloc (.cells #[iv k] 228));have I1:=Zr (I0.o.alloc (.cells #[iv k] 228));have N1:=Zr (Blk.new X #[iv k] 228);obtain ⟨W1,hW⟩:∃W:World,X.alloc (.cells #[iv k] 228)=W:=⟨_,rfl⟩
 rw [hW] at K1 C1 R1 I1 N1;have p1:=I1.o.all;have r1:=R1.o.all;have rf1:=R1.o.fz;have n1:=N1.o.all;have nf1:=N1.o.fz;have s1:X.heap.size<W1.heap.size:=N1.o.lt;clear hC;go_enter func249,ntmps249;go_wp2_with (go_at_call 251;refine (mV _ lo b g c h z k C1.o hz k0 k3).mono ?_;rintro e9 W2 ⟨rfl,k1⟩;have C2:=Zr (C1.o.any k1);have R2:=Zr (R1.o.ae k1);have K2:=Zr (K1.o.trans k1);have r2:=R2.o.all;have rf2:=R2.o.fz;clear k1);have K3:=(((((ak W2 (w.heap.size+1) 0 (iv 0)).one 1 (iv 0)).one 2 (iv 0)).one 3 (iv 0)).one 4 (.bool false))
 refine bodyPost_ret (v:=.tuple #[iv (c.low z k),.agg ftZ]) ?_ rfl ⟨rfl,C2.o.kept K3 (by omega) (by omega),aI K2.o K3 (by omega)⟩;rw [gz rfl];go_simp
theorem TU (z a k:Int) (hC:CAt w lo b g c h) (k0:0<=k) (k3:k<=3) :
  Calls prog 249 #[.pointer (some (Zt b 0)),.agg #[.iface 229 (.agg #[iv k]),iv z,iv a]] w fun e w'=>e=.returned (.tuple #[iv (el c.r.ys k.toNat),.agg ftZ])∧CAt w' lo b g c h∧Kept 0 0 w w':=by
 obtain ⟨n,rfl⟩:∃n:Nat,k=(n:Int):=⟨k.toNat,by omega⟩
 have hn:n<4:=by omega
 have t0:=Xv;have t1:=Xu;obtain ⟨l0,l1,l2,l3,l4⟩:=hC.lt;have K0:=Zr (ag (kept_alloc w (.cells #[.iface 229 (.agg #[iv (n:Int)]),iv z,iv a] 239)) (.cells ftZ 42));have C0:=Zr ((hC.alloc (.cells #[.iface 229 (.agg #[iv (n:Int)]),iv z,iv a] 239)).alloc (.cells ftZ 42));have I0:=Zr ((Blk.new w #[.iface 229 (.agg #[iv (n:Int)]),iv z,iv a] 239).alloc (.cells ftZ 42));have R0:=Blk.new (w.alloc (.cells #[.iface 229 (.agg #[iv (n:Int)]),iv z,iv a] 239)) ftZ 42;simp only [World.size_alloc] at R0;replace R0:=Zr R0;obtain ⟨X,hX⟩:∃X:World,(w.alloc (.cells #[.iface 229 (.agg #[iv (n:Int)]),iv z,iv a] 239)).alloc (.cells ftZ 42)=X:=⟨_,rfl⟩
 rw [hX] at K0 C0 I0 R0;have p:=I0.o.all;have r:=R0.o.all;have rf:=R0.o.fz;have sX:w.heap.size+1<X.heap.size:=R0.o.lt;have K1:=Zr (ag K0.o (.cells #[iv (n:Int)] 229));have C1:=Zr (C0.o.alloc (.cells #[iv (n:Int)] 229));have R1:=Zr (R0.o.alloc (.cells #[iv (n:Int)] 229));have I1:=Zr (I0.o.alloc (.cells #[iv (n:Int)] 229));have N1:=Zr (Blk.new X #[iv (n:Int)] 229);obtain ⟨W1,hW⟩:∃W:World,X.alloc (.cells #[iv (n:Int)] 229)=W:=⟨_,rfl⟩
 rw [hW] at K1 C1 R1 I1 N1;have p1:=I1.o.all;have r1:=R1.o.all;have rf1:=R1.o.fz;have n1:=N1.o.all;have nf1:=N1.o.fz;have s1:X.heap.size<W1.heap.size:=N1.o.lt;clear hC;have i0:(0:Int)<=(n:Int):=by omega
 have i1:(n:Int)<4:=by omega
 go_enter func249,ntmps249;go_wp2_with fail;clear hW hX p r rf;have q:=C1.o.cY hn;go_region;go_wp2_with fail;have K2:=ah (((((ak W1 (w.heap.size+1) 0 (iv 0)).one 1 (iv 0)).one 2 (iv 0)).one 3 (iv 0)).one 4 (.bool false));refine bodyPost_ret (v:=.tuple #[iv (el c.r.ys n),.agg ftZ]) ?_ rfl ⟨rfl,C1.o.kept K2 (by omega) (by omega),aI K1.o K2 (by omega)⟩;rw [gz rfl];go_simp
theorem TT (z a e:Int) (hC:CAt w lo b g c h) :
  Calls prog 249 #[.pointer (some (Zt b 0)),.agg #[.iface 237 (.agg #[iv e]),iv z,iv a]] w fun e' w'=>e'=.returned (.tuple #[iv e,.agg ftZ])∧CAt w' lo b g c h∧Kept 0 0 w w':=by
 have t0:=Xi;have t1:=Xh;have t7:=Xg;obtain ⟨l0,l1,l2,l3,l4⟩:=hC.lt;have K0:=Zr (ag (kept_alloc w (.cells #[.iface 237 (.agg #[iv e]),iv z,iv a] 239)) (.cells ftZ 42));have C0:=Zr ((hC.alloc (.cells #[.iface 237 (.agg #[iv e]),iv z,iv a] 239)).alloc (.cells ftZ 42));have I0:=Zr ((Blk.new w #[.iface 237 (.agg #[iv e]),iv z,iv a] 239).alloc (.cells ftZ 42));have R0:=Blk.new (w.alloc (.cells #[.iface 237 (.agg #[iv e]),iv z,iv a] 239)) ftZ 42;simp only [World.size_alloc] at R0;replace R0:=Zr R0;obtain ⟨X,hX⟩:∃X:World,(w.alloc (.cells #[.iface 237 (.agg #[iv e]),iv z,iv a] 239)).alloc (.cells ftZ 42)=X:=⟨_,rfl⟩
 rw [hX] at K0 C0 I0 R0;have p:=I0.o.all;have r:=R0.o.all;have rf:=R0.o.fz;have sX:w.heap.size+1<X.heap.size:=R0.o.lt;have K1:=Zr (ag K0.o (.cells #[iv e] 237));have C1:=Zr (C0.o.alloc (.cells #[iv e] 237));have R1:=Zr (R0.o.alloc (.cells #[iv e] 237));have I1:=Zr (I0.o.alloc (.cells #[iv e] 237));have N1:=Zr (Blk.new X #[iv e] 237);obtain ⟨W1,hW⟩:∃W:World,X.alloc (.cells #[iv e] 237)=W:=⟨_,rfl⟩
 rw [hW] at K1 C1 R1 I1 N1;have p1:=I1.o.all;have r1:=R1.o.all;have rf1:=R1.o.fz;have n1:=N1.o.all;have nf1:=N1.o.fz;have s1:X.heap.size<W1.heap.size:=N1.o.lt;clear hC;go_enter func249,ntmps249;go_wp2_with fail;have K2:=(((((ak W1 (w.heap.size+1) 0 (iv 0)).one 1 (iv 0)).one 2 (iv 0)).one 3 (iv 0)).one 4 (.bool false))
 refine bodyPost_ret (v:=.tuple #[iv e,.agg ftZ]) ?_ rfl ⟨rfl,C1.o.kept K2 (by omega) (by omega),aI K1.o K2 (by omega)⟩;rw [gz rfl];go_simp
theorem vG (z a:Int) (T:TypeId) (U:Value) (t0:∀w,(Instr.typeAssert (.iface T U) 196 228 true).run prog w=.ok (.tuple #[.agg #[iv 0],.bool false]) w) (t1:∀w,(Instr.typeAssert (.iface T U) 196 229 true).run prog w=.ok (.tuple #[.agg #[iv 0],.bool false]) w) (t7:∀w,(Instr.typeAssert (.iface T U) 196 237 true).run prog w=.ok (.tuple #[.agg #[iv 0],.bool false]) w) (hC:CAt w lo b g c h) (G:GM c) (hf:c.f=aF) (hz:z=1∨z=2) (a0:0<=a) (a1:a<=65535) :
  Calls prog 249 #[.pointer (some (Zt b 0)),.agg #[.iface T U,iv z,iv a]] w fun e w'=>∃g',e=.returned (.tuple #[iv (c.fZ 1 z a 0),.agg (ftC (c.acc 1 z a 0).f)])∧CAt w' lo b g' (c.acc 1 z a 0) h∧Since w b (b+1) g w' g':=by
 have HA:=Zr (yj hz a0 a1);have HG:=Zr G;obtain ⟨F,hF⟩:∃F,F=Mc.cZ aF 1 z a:=⟨_,rfl⟩
 have HF:=Zr hF;rw [show (c.acc 1 z a 0).f=F by show Mc.cZ c.f 1 z a=F;rw [hf,hF]];obtain ⟨V,hV⟩:∃V,V=c.fZ 1 z a 0:=⟨_,rfl⟩
 have HV:Hid (V=if (1:Int)=2 then 0 else Pl.lv c.bx 1 z a 0):=Zr hV;rw [<-hV];obtain ⟨l0,l1,l2,l3,l4⟩:=hC.lt;have K0:=Zr (ag (kept_alloc w (.cells #[.iface T U,iv z,iv a] 239)) (.cells ftZ 42));have C0:=Zr ((hC.alloc (.cells #[.iface T U,iv z,iv a] 239)).alloc (.cells ftZ 42));have I0:=Zr ((Blk.new w #[.iface T U,iv z,iv a] 239).alloc (.cells ftZ 42));have R0:=Blk.new (w.alloc (.cells #[.iface T U,iv z,iv a] 239)) ftZ 42;simp only [World.size_alloc] at R0;replace R0:=Zr R0;obtain ⟨X,hX⟩:∃X:World,(w.alloc (.cells #[.iface T U,iv z,iv a] 239)).alloc (.cells ftZ 42)=X:=⟨_,rfl⟩
 rw [hX] at K0 C0 I0 R0;have p:=I0.o.all;have r:=R0.o.all;have rf:=R0.o.fz;have sX:w.heap.size+1<X.heap.size:=R0.o.lt;clear hC G hF hV;go_enter func249,ntmps249;go_wp2_with (go_at_call 187;refine (jO _ lo b g c h 1 z a 0 C0.o HG.o HA.o V HV F HF).mono ?_;rintro e9 W1 ⟨g',rfl,hc1,hs1⟩;unfold ftC;have S1:=Zr (((Since.refl w b (b+1) g).any K0.o).trans hs1);have C1:=Zr hc1;have R1:=Zr (hs1.blk R0.o (by omega) (by omega));have n1:=hs1.ne (b:=w.heap.size+1) R0.o.lt (by omega);have r1:=R1.o.all;have rf1:=R1.o.fz;clear hc1 hs1);have K2:=(((((ak W1 (w.heap.size+1) 0 (iv F.v)).one 1 (iv F.pc)).one 2 (iv F.ad)).one 3 (iv F.wo)).one 4 (.bool F.wr))
 refine bodyPost_ret (v:=.tuple #[iv V,.agg (ftA F)]) ?_ rfl ⟨g',rfl,C1.o.kept K2 (by omega) (by omega),S1.o.mine K2 (by omega)⟩;rw [gz rfl];go_simp
theorem PI (z a k v:Int) (hC:CAt w lo b g c h) (hg:Pl.Good c.r) (hz:z=1∨z=2) (k0:0<=k) (k3:k<=3) (hv:okv z v=true) :
  Calls prog 254 #[.pointer (some (Zt b 0)),.agg #[.iface 228 (.agg #[iv k]),iv z,iv a],iv v] w fun e w'=>e=.returned (.agg ftZ)∧CAt w' lo b g (c.put z k v) h∧Kept b (b+1) w w':=by
 have t0:=UO;have HGd:=Zr hg;have HV:=Zr hv;obtain ⟨l0,l1,l2,l3,l4⟩:=hC.lt;have K0:=Zr (ag (kept_alloc w (.cells #[.iface 228 (.agg #[iv k]),iv z,iv a] 239)) (.cells ftZ 42));have C0:=Zr ((hC.alloc (.cells #[.iface 228 (.agg #[iv k]),iv z,iv a] 239)).alloc (.cells ftZ 42));have I0:=Zr ((Blk.new w #[.iface 228 (.agg #[iv k]),iv z,iv a] 239).alloc (.cells ftZ 42));have R0:=Blk.new (w.alloc (.cells #[.iface 228 (.agg #[iv k]),iv z,iv a] 239)) ftZ 42;simp only [World.size_alloc] at R0;replace R0:=Zr R0;obtain ⟨X,hX⟩:∃X:World,(w.alloc (.cells #[.iface 228 (.agg #[iv k]),iv z,iv a] 239)).alloc (.cells ftZ 42)=X:=⟨_,rfl⟩
 rw [hX] at K0 C0 I0 R0;have p:=I0.o.all;have r:=R0.o.all;have rf:=R0.o.fz;have sX:w.heap.size+1<X.heap.size:=R0.o.lt;have K1:=Zr (ag K0.o (.cells #[iv k] 228));have C1:=Zr (C0.o.alloc (.cells #[iv k] 228));have R1:=Zr (R0.o.alloc (.cells #[iv k] 228));have I1:=Zr (I0.o.alloc (.cells #[iv k] 228));have N1:=Zr (Blk.new X #[iv k] 228);obtain ⟨W1,hW⟩:∃W:World,X.alloc (.cells #[iv k] 228)=W:=⟨_,rfl⟩
 rw [hW] at K1 C1 R1 I1 N1;have p1:=I1.o.all;have r1:=R1.o.all;have rf1:=R1.o.fz;have n1:=N1.o.all;have nf1:=N1.o.fz;have s1:X.heap.size<W1.heap.size:=N1.o.lt;clear hC hg hv;go_enter func254,ntmps254;go_wp2_with fail;clear hW hX p r rf p1 r1 rf1 n1;have n1:=N1.o.cell (i:=0) rfl;have i1:=I1.o.cell (i:=1) rfl
 go_region_held3 (fun w'=>w'.cell? (Zt X.heap.size 0)=some (iv k)∧w'.cell? (Zt w.heap.size 1)=some (iv z)) (first|with_reducible exact ⟨N2.o.cell (i:=0) rfl,I2.o.cell (i:=1) rfl⟩|exact ⟨(show Blk _ _ _ _ from N1.o).cell (i:=0) rfl,(show Blk _ _ _ _ from I1.o).cell (i:=1) rfl⟩)
  (first|(go_at_call 252;refine (Le _ lo b g c h z k v C1.o.drew HGd.o k0 k3 hz HV.o).mono ?_;rintro e9 W2 ⟨rfl,hc2,kd⟩;have k2:=aK kd;have C2:=Zr hc2;have N2:=Zr (N1.o.kept k2 (by omega));have I2:=Zr (I1.o.kept k2 (by omega));have R2:=Zr (R1.o.kept k2 (by omega));have K2:=Zr (K1.o.any.trans k2);clear hc2 kd k2))
 have r2:=R2.o.all;have rf2:=R2.o.fz;go_wp2_with fail;have K3:=(((((ak W2 (w.heap.size+1) 0 (iv 0)).one 1 (iv 0)).one 2 (iv 0)).one 3 (iv 0)).one 4 (.bool false))
 refine bodyPost_ret (v:=.agg ftZ) ?_ rfl ⟨rfl,C2.o.kept K3 (by omega) (by omega),QH K2.o K3 (by omega)⟩;rw [aj rfl];go_simp
theorem qR (z a v:Int) (T:TypeId) (U:Value) (t0:∀w,(Instr.typeAssert (.iface T U) 196 228 true).run prog w=.ok (.tuple #[.agg #[iv 0],.bool false]) w) (hC:CAt w lo b g c h) (G:GM c) (hf:c.f=aF) (ha:dX 2 z a v=true) :
  Calls prog 254 #[.pointer (some (Zt b 0)),.agg #[.iface T U,iv z,iv a],iv v] w fun e w'=>∃g',e=.returned (.agg (ftC (c.acc 2 z a v).f))∧CAt w' lo b g' (c.acc 2 z a v) h∧Since w b (b+1) g w' g':=by
 have HA:=Zr ha;have HG:=Zr G;obtain ⟨F,hF⟩:∃F,F=Mc.cZ aF 2 z a:=⟨_,rfl⟩
 have HF:=Zr hF;rw [show (c.acc 2 z a v).f=F by show Mc.cZ c.f 2 z a=F;rw [hf,hF]];obtain ⟨l0,l1,l2,l3,l4⟩:=hC.lt;have K0:=Zr (ag (kept_alloc w (.cells #[.iface T U,iv z,iv a] 239)) (.cells ftZ 42));have C0:=Zr ((hC.alloc (.cells #[.iface T U,iv z,iv a] 239)).alloc (.cells ftZ 42));have I0:=Zr ((Blk.new w #[.iface T U,iv z,iv a] 239).alloc (.cells ftZ 42));have R0:=Blk.new (w.alloc (.cells #[.iface T U,iv z,iv a] 239)) ftZ 42;simp only [World.size_alloc] at R0;replace R0:=Zr R0;obtain ⟨X,hX⟩:∃X:World,(w.alloc (.cells #[.iface T U,iv z,iv a] 239)).alloc (.cells ftZ 42)=X:=⟨_,rfl⟩
 rw [hX] at K0 C0 I0 R0;have p:=I0.o.all;have r:=R0.o.all;have rf:=R0.o.fz;have sX:w.heap.size+1<X.heap.size:=R0.o.lt;have K1:=Zr (ag K0.o (.cells #[iv 0] 228));have C1:=Zr (C0.o.alloc (.cells #[iv 0] 228));have R1:=Zr (R0.o.alloc (.cells #[iv 0] 228));have I1:=Zr (I0.o.alloc (.cells #[iv 0] 228));have N1:=Zr (Blk.new X #[iv 0] 228);obtain ⟨W1,hW⟩:∃W:World,X.alloc (.cells #[iv 0] 228)=W:=⟨_,rfl⟩
 rw [hW] at K1 C1 R1 I1 N1;have p1:=I1.o.all;have r1:=R1.o.all;have rf1:=R1.o.fz;have n1:=N1.o.all;have nf1:=N1.o.fz;have s1:X.heap.size<W1.heap.size:=N1.o.lt;have C1b:=Zr (C1.o.other X.heap.size 0 (iv 0) (by omega) (by omega));have K1b:=Zr (aI K1.o (ak W1 X.heap.size 0 (iv 0)) (by omega));have R1b:=Zr (R1.o.other X.heap.size 0 (iv 0) (by omega));clear hC G hF ha;go_enter func254,ntmps254;go_wp2_with (go_at_call 187;refine (jO _ lo b g c h 2 z a v C1b.o HG.o HA.o 0 (Zr rfl) F HF).mono ?_;rintro e9 W2 ⟨g',rfl,hc2,hs2⟩;unfold ftC;have S2:=Zr ((((Since.refl w b (b+1) g).any K1b.o).trans hs2).alloc (.cells (ftA F) 42));have C2:=Zr (hc2.alloc (.cells (ftA F) 42));have R2:=Zr ((hs2.blk R1b.o (by omega) (by omega)).alloc (.cells (ftA F) 42));have n2:=hs2.ne (b:=w.heap.size+1) R1b.o.lt (by omega);have r2:=R2.o.all;have rf2:=R2.o.fz;clear hc2 hs2);have K3:=(((((ak (W2.alloc (.cells (ftA F) 42)) (w.heap.size+1) 0 (iv F.v)).one 1 (iv F.pc)).one 2 (iv F.ad)).one 3 (iv F.wo)).one 4 (.bool F.wr))
 refine bodyPost_ret (v:=.agg (ftA F)) ?_ rfl ⟨g',rfl,C2.o.kept K3 (by omega) (by omega),S2.o.mine K3 (by omega)⟩;rw [aj rfl];go_simp
theorem Ld (z m k e:Int) (hC:CAt w lo b g (c.slot z m k e) h) (G:GM c) (hf:c.f=aF) (hz:z=1∨z=2) (m0:0<=m) (m7:m<=7) (k0:0<=k) (k3:k<=3) (x0:0<=e) (x1:e<=65535) :
  Calls prog 249 #[.pointer (some (Zt b 0)),.agg #[Ae m k e,iv z,iv (c.readA z m k e)]] w fun r w'=>∃g',r=.returned (.tuple #[iv (c.bu z m k e),.agg (ftC (c.read z m k e).f)])∧CAt w' lo b g' (c.read z m k e) h∧Since w b (b+1) g w' g':=by
 have hm:m=0∨m=1∨m=2∨m=3∨m=4∨m=5∨m=6∨m=7:=by omega
 have q:=iW G.g (z:=z) (m:=m) k0 k3 x0 x1;rcases hm with rfl|rfl|rfl|rfl|rfl|rfl|rfl|rfl
 ·refine (TV w lo b g c h z _ k hC hz k0 k3).mono ?_;rintro e9 w9 ⟨rfl,hc,hk⟩;exact ⟨g,by rw [show (c.read z 0 k e).f=aF from hf];rfl,hc,(Since.refl _ _ _ _).any hk⟩
 ·refine (TU w lo b g c h z _ k hC k0 k3).mono ?_;rintro e9 w9 ⟨rfl,hc,hk⟩;exact ⟨g,by rw [show (c.read z 1 k e).f=aF from hf];rfl,hc,(Since.refl _ _ _ _).any hk⟩
 ·exact vG w lo b g (c.plc z 2 k e) h z _ _ _ (UN _) (Xt _) (Xr _) hC (G.plc k0 k3) hf hz q.1 q.2
 ·exact vG w lo b g (c.plc z 3 k e) h z _ _ _ (UM _) (Xq _) (Xp _) hC (G.plc k0 k3) hf hz q.1 q.2
 ·exact vG w lo b g (c.plc z 4 k e) h z _ _ _ (UL _) (Xo _) (Xn _) hC (G.plc k0 k3) hf hz q.1 q.2
 ·exact vG w lo b g (c.plc z 5 k e) h z _ _ _ (UK _) (Xm _) (Xl _) hC (G.plc k0 k3) hf hz q.1 q.2
 ·exact vG w lo b g (c.plc z 6 k e) h z _ _ _ (UJ _) (Xk _) (Xj _) hC (G.plc k0 k3) hf hz q.1 q.2
 ·refine (TT w lo b g c h z _ e hC).mono ?_;rintro e9 w9 ⟨rfl,hc,hk⟩;exact ⟨g,by rw [show (c.read z 7 k e).f=aF from hf];rfl,hc,(Since.refl _ _ _ _).any hk⟩
theorem uj (z m k e a v:Int) (hC:CAt w lo b g c h) (G:GM c) (hf:c.f=aF) (hz:z=1∨z=2) (hm:m=0∨(2<=m∧m<=6)) (k0:0<=k) (k3:k<=3) (a0:0<=a) (a1:a<=65535) (hv:okv z v=true) :
  Calls prog 254 #[.pointer (some (Zt b 0)),.agg #[Ae m k e,iv z,iv a],iv v] w fun r w'=>∃g',r=.returned (.agg (ftC (c.write z m k a v).f))∧CAt w' lo b g' (c.write z m k a v) h∧Since w b (b+1) g w' g':=by
 have ha:dX 2 z a v=true:=by
  have h1:Pl.addr a=true:=by simp [Pl.addr];omega
  unfold dX;rw [hv,h1];rfl
 have hm:m=0∨m=2∨m=3∨m=4∨m=5∨m=6:=by omega
 rcases hm with rfl|rfl|rfl|rfl|rfl|rfl
 ·refine (PI w lo b g c h z a k v hC G.g hz k0 k3 hv).mono ?_;rintro e9 w9 ⟨rfl,hc,hk⟩;exact ⟨g,by rw [show (c.write z 0 k a v).f=aF from hf];rfl,hc,(Since.refl _ _ _ _).ai hk (Nat.le_refl _) (Nat.le_refl _)⟩
 ·exact qR w lo b g c h z a v _ _ (UN _) hC G hf ha
 ·exact qR w lo b g c h z a v _ _ (UM _) hC G hf ha
 ·exact qR w lo b g c h z a v _ _ (UL _) hC G hf ha
 ·exact qR w lo b g c h z a v _ _ (UK _) hC G hf ha
 ·exact qR w lo b g c h z a v _ _ (UJ _) hC G hf ha
theorem Lh (v:Int) (hC:CAt w lo b g c h) (G:GM c) (hf:c.f=aF) (v0:0<=v) (v1:v<=65535) :
  Calls prog 201 #[.pointer (some (Zt b 0)),iv v] w fun e w'=>∃g',e=.returned (.agg (ftC (c.push v).f))∧CAt w' lo b g' (c.push v) h∧Since w b (b+1) g w' g':=by
 have HA:=Zr (qU (c:=c) v0 v1);obtain ⟨F,hF⟩:∃F,F=Mc.cZ aF 2 2 c.spA:=⟨_,rfl⟩
 have HF:=Zr hF;have EF:Hid ((c.acc 2 2 c.spA v).f=F):=Zr (by show Mc.cZ c.f 2 2 c.spA=F;rw [hf,hF]);obtain ⟨A,hA⟩:∃A,A=c.spA:=⟨_,rfl⟩
 rw [<-hA] at HA HF EF;have eA:(el c.r.ys 3-2)%65536=A:=hA.symm;have HPA:Hid (c.spA=A):=Zr hA.symm;clear hA hF;obtain ⟨l0,l1,l2,l3,l4⟩:=hC.lt;obtain ⟨a30,a31⟩:=G.g.aw 3 (by omega);have h4:=Zr G.g.a4;have HG:=Zr G;have C0:=Zr (hC.alloc (.cells ftZ 42));have R0:=Zr (Blk.new w ftZ 42);have K0:=Zr (kept_alloc w (.cells ftZ 42));obtain ⟨X,hX⟩:∃X:World,w.alloc (.cells ftZ 42)=X:=⟨_,rfl⟩
 rw [hX] at C0 R0 K0;have x7:X.cell? (Zt b 7)=some (iv (el c.r.ys 3)):=C0.o.cY (k:=3) (by omega);clear hC G;cases hv:(F.v != 0)
 ·have E:Hid (c.push v=(c.acc 2 2 A v).eG 3 A):=Zr (by
   unfold Mc.push;rw [HPA.o]
   rw [show (c.acc 2 2 A v).fine=true by unfold Mc.fine;rw [EF.o];simpa using hv];rfl)
  go_enter func201,ntmps201;go_wp2_with (first|(go_at_call 178;refine st (gQ _ _) ?_;rw [eA])|(go_at_call 187;refine (jO _ lo b g c h 2 2 A v C0.o HG.o HA.o 0 (Zr rfl) F HF).mono ?_;rintro e w3 ⟨g',rfl,hc3,hs3⟩;unfold ftC;have S3:=Zr (((Since.refl w b (b+1) g).any K0.o).trans hs3);have R3:=Zr ((hs3.blk R0.o (by omega) (by omega)).alloc (.cells (ftA F) 42));have C3:=Zr (hc3.alloc (.cells (ftA F) 42));have L3:=Zr (Blk.new w3 (ftA F) 42);have z3:=hs3.size;have n3:=hs3.ne (b:=w.heap.size) R0.o.lt (by omega);clear hc3 hs3)|(go_at_call 79;refine (bP F _).mono ?_;rintro e w4 ⟨rfl,k4⟩;have S4:=Zr (S3.o.any ((kept_alloc w3 (.cells (ftA F) 42)).trans k4));have R4:=Zr (R3.o.ae k4);have C4:=Zr (C3.o.any k4);have L4:=Zr (L3.o.ae k4);have y7:w4.cell? (Zt b 7)=some (iv (el c.r.ys 3)):=C4.o.cY (k:=3) (by omega);have yf:=C4.o.fz;have q:=L4.o.all;have r:=(show Blk w4 w.heap.size ftZ 42 from R4.o).all;have rf:=R4.o.fz;clear k4;rw [hv]));have K5:=(((((ak w4 w.heap.size 0 (iv F.v)).one 1 (iv F.pc)).one 2 (iv F.ad)).one 3 (iv F.wo)).one 4 (.bool F.wr))
  have C5:=C4.o.uC h4.o (k:=3) (by omega) A;have S5:=S4.o.set b 7 (iv A) (.inl (by omega));have K5:=(((((ak (w4.setCell (Zt b 7) (iv A)) w.heap.size 0 (iv F.v)).one 1 (iv F.pc)).one 2 (iv F.ad)).one 3 (iv F.wo)).one 4 (.bool F.wr))
  refine bodyPost_ret (v:=.agg (ftA F)) ?_ rfl ⟨g',?_,?_,S5.mine K5 (by omega)⟩
  ·rw [aj rfl];go_simp
  ·rw [E.o,show ((c.acc 2 2 A v).eG 3 A).f=F from EF.o];rfl
  ·rw [E.o];exact C5.kept K5 (by omega) (by omega)
 ·have E:Hid (c.push v=c.acc 2 2 A v):=Zr (by
   unfold Mc.push;rw [HPA.o]
   rw [show (c.acc 2 2 A v).fine=false by unfold Mc.fine;rw [EF.o];simpa using hv];rfl)
  go_enter func201,ntmps201;go_wp2_with (first|(go_at_call 178;refine st (gQ _ _) ?_;rw [eA])|(go_at_call 187;refine (jO _ lo b g c h 2 2 A v C0.o HG.o HA.o 0 (Zr rfl) F HF).mono ?_;rintro e w3 ⟨g',rfl,hc3,hs3⟩;unfold ftC;have S3:=Zr (((Since.refl w b (b+1) g).any K0.o).trans hs3);have R3:=Zr ((hs3.blk R0.o (by omega) (by omega)).alloc (.cells (ftA F) 42));have C3:=Zr (hc3.alloc (.cells (ftA F) 42));have L3:=Zr (Blk.new w3 (ftA F) 42);have z3:=hs3.size;have n3:=hs3.ne (b:=w.heap.size) R0.o.lt (by omega);clear hc3 hs3)|(go_at_call 79;refine (bP F _).mono ?_;rintro e w4 ⟨rfl,k4⟩;have S4:=Zr (S3.o.any ((kept_alloc w3 (.cells (ftA F) 42)).trans k4));have R4:=Zr (R3.o.ae k4);have C4:=Zr (C3.o.any k4);have L4:=Zr (L3.o.ae k4);have y7:w4.cell? (Zt b 7)=some (iv (el c.r.ys 3)):=C4.o.cY (k:=3) (by omega);have yf:=C4.o.fz;have q:=L4.o.all;have r:=(show Blk w4 w.heap.size ftZ 42 from R4.o).all;have rf:=R4.o.fz;clear k4;rw [hv]));have K5:=(((((ak w4 w.heap.size 0 (iv F.v)).one 1 (iv F.pc)).one 2 (iv F.ad)).one 3 (iv F.wo)).one 4 (.bool F.wr))
  refine bodyPost_ret (v:=.agg (ftA F)) ?_ rfl ⟨g',?_,?_,S4.o.mine K5 (by omega)⟩
  ·rw [aj rfl];go_simp
  ·rw [E.o,EF.o];rfl
  ·rw [E.o];exact C4.o.kept K5 (by omega) (by omega)
theorem TY (hC:CAt w lo b g c h) (G:GM c) (hf:c.f=aF) :
  Calls prog 285 #[.pointer (some (Zt b 0))] w fun e w'=>∃g',e=.returned (.tuple #[iv c.dE,.agg (ftC c.pop.f)])∧CAt w' lo b g' (c.pop) h∧Since w b (b+1) g w' g':=by
 obtain ⟨l0,l1,l2,l3,l4⟩:=hC.lt;obtain ⟨a30,a31⟩:=G.g.aw 3 (by omega);have h4:=Zr G.g.a4;have HG:=Zr G;have C0:=Zr (hC.alloc (.cells ftZ 42));have R0:=Zr (Blk.new w ftZ 42);have K0:=Zr (kept_alloc w (.cells ftZ 42));obtain ⟨X,hX⟩:∃X:World,w.alloc (.cells ftZ 42)=X:=⟨_,rfl⟩
 rw [hX] at C0 R0 K0;have x7:X.cell? (Zt b 7)=some (iv (el c.r.ys 3)):=C0.o.cY (k:=3) (by omega);clear hC G;have HA:=Zr (dP (k:=1) (.inl rfl) a30 a31);obtain ⟨F,hF⟩:∃F,F=Mc.cZ aF 1 2 (el c.r.ys 3):=⟨_,rfl⟩
 have HF:=Zr hF;have EF:Hid ((c.acc 1 2 (el c.r.ys 3) 0).f=F):=Zr (by show Mc.cZ c.f 1 2 _=F;rw [hf,hF]);obtain ⟨V,hV⟩:∃V,V=c.dE:=⟨_,rfl⟩
 have HV:Hid (V=if (1:Int)=2 then 0 else Pl.lv c.bx 1 2 (el c.r.ys 3) 0):=Zr hV;rw [<-hV];clear hF hV;cases hv:(F.v != 0)
 ·have E:Hid (c.pop=(c.acc 1 2 (el c.r.ys 3) 0).eG 3 ((el c.r.ys 3+2)%65536)):=Zr (by
   unfold Mc.pop
   rw [show (c.acc 1 2 (el c.r.ys 3) 0).fine=true by unfold Mc.fine;rw [EF.o];simpa using hv];rfl)
  go_enter func285,ntmps285;go_wp2_with (first|(go_at_call 187;refine (jO _ lo b g c h 1 2 (el c.r.ys 3) 0 C0.o HG.o HA.o V HV F HF).mono ?_;rintro e w3 ⟨g',rfl,hc3,hs3⟩;unfold ftC;have S3:=Zr (((Since.refl w b (b+1) g).any K0.o).trans hs3);have R3:=Zr ((hs3.blk R0.o (by omega) (by omega)).alloc (.cells (ftA F) 42));have C3:=Zr (hc3.alloc (.cells (ftA F) 42));have L3:=Zr (Blk.new w3 (ftA F) 42);have z3:=hs3.size;have n3:=hs3.ne (b:=w.heap.size) R0.o.lt (by omega);clear hc3 hs3)|(go_at_call 79;refine (bP F _).mono ?_;rintro e w4 ⟨rfl,k4⟩;have S4:=Zr (S3.o.any ((kept_alloc w3 (.cells (ftA F) 42)).trans k4));have R4:=Zr (R3.o.ae k4);have C4:=Zr (C3.o.any k4);have L4:=Zr (L3.o.ae k4);have y7:w4.cell? (Zt b 7)=some (iv (el c.r.ys 3)):=C4.o.cY (k:=3) (by omega);have yf:=C4.o.fz;have q:=L4.o.all;have r:=(show Blk w4 w.heap.size ftZ 42 from R4.o).all;have rf:=R4.o.fz;clear k4;rw [hv]));go_region_with (first|(go_at_call 178;refine st (gQ _ _) ?_));go_wp2_with fail;go_region;go_wp2_with fail;have C5:=C4.o.uC h4.o (k:=3) (by omega) ((el c.r.ys 3+2)%65536);have S5:=S4.o.set b 7 (iv ((el c.r.ys 3+2)%65536)) (.inl (by omega));have K5:=ah (ah ((((((ak (w4.setCell (Zt b 7) (iv ((el c.r.ys 3+2)%65536))) w.heap.size 0 (iv F.v)).one 1 (iv F.pc)).one 2 (iv F.ad)).one 3 (iv F.wo)).one 4 (.bool F.wr))));refine bodyPost_ret (v:=.tuple #[iv V,.agg (ftA F)]) ?_ rfl ⟨g',?_,?_,S5.mine K5 (by omega)⟩
  ·rw [gz rfl];go_simp
  ·rw [E.o,show ((c.acc 1 2 (el c.r.ys 3) 0).eG 3 ((el c.r.ys 3+2)%65536)).f=F from EF.o];rfl
  ·rw [E.o];exact C5.kept K5 (by omega) (by omega)
 ·have E:Hid (c.pop=c.acc 1 2 (el c.r.ys 3) 0):=Zr (by
   unfold Mc.pop
   rw [show (c.acc 1 2 (el c.r.ys 3) 0).fine=false by unfold Mc.fine;rw [EF.o];simpa using hv];rfl)
  go_enter func285,ntmps285;go_wp2_with (first|(go_at_call 187;refine (jO _ lo b g c h 1 2 (el c.r.ys 3) 0 C0.o HG.o HA.o V HV F HF).mono ?_;rintro e w3 ⟨g',rfl,hc3,hs3⟩;unfold ftC;have S3:=Zr (((Since.refl w b (b+1) g).any K0.o).trans hs3);have R3:=Zr ((hs3.blk R0.o (by omega) (by omega)).alloc (.cells (ftA F) 42));have C3:=Zr (hc3.alloc (.cells (ftA F) 42));have L3:=Zr (Blk.new w3 (ftA F) 42);have z3:=hs3.size;have n3:=hs3.ne (b:=w.heap.size) R0.o.lt (by omega);clear hc3 hs3)|(go_at_call 79;refine (bP F _).mono ?_;rintro e w4 ⟨rfl,k4⟩;have S4:=Zr (S3.o.any ((kept_alloc w3 (.cells (ftA F) 42)).trans k4));have R4:=Zr (R3.o.ae k4);have C4:=Zr (C3.o.any k4);have L4:=Zr (L3.o.ae k4);have y7:w4.cell? (Zt b 7)=some (iv (el c.r.ys 3)):=C4.o.cY (k:=3) (by omega);have yf:=C4.o.fz;have q:=L4.o.all;have r:=(show Blk w4 w.heap.size ftZ 42 from R4.o).all;have rf:=R4.o.fz;clear k4;rw [hv]));go_region;go_wp2_with fail;have K5:=ah ((((((ak w4 w.heap.size 0 (iv F.v)).one 1 (iv F.pc)).one 2 (iv F.ad)).one 3 (iv F.wo)).one 4 (.bool F.wr)));refine bodyPost_ret (v:=.tuple #[iv V,.agg (ftA F)]) ?_ rfl ⟨g',?_,?_,S4.o.mine K5 (by omega)⟩
  ·rw [gz rfl];go_simp
  ·rw [E.o,EF.o];rfl
  ·rw [E.o];exact C4.o.kept K5 (by omega) (by omega)
end Go.Proofs.YtgikibaajanjiaaGreatDoor
namespace Go.Proofs.YtgikibaajanjiaaGreatDoor.Pl
set_option linter.unusedVariables false
def uD (a b:In):Bool:=(a.op==b.op)&&((a.z==b.z)&&((a.r==b.r)&&((a.m==b.m)&&((a.k==b.k)&&((a.e==b.e)&&(a.s==b.s))))))
def fits (x:In):Bool:=uD (decode (nH x%65536) x.e) x
def JX (x:In):Bool := !(x.m==7)||(!(x.z==1)||within x.e 0 255)
theorem vk (w v:Int):(decode w v).e=bif jH (w/32%8) then v else 0:=by
 show (if dO w=2 then v else 0)=_
 unfold dO;cases jH (w/32%8)<;>simp
theorem uZ (x:In):fits x=true↔(0<=x.op∧x.op<=31)∧(1<=x.z∧x.z<=2)∧(0<=x.r∧x.r<=3)∧(0<=x.m∧x.m<=7)∧(0<=x.k∧x.k<=3)∧(0<=x.s∧x.s<=7)∧(jH x.m=false->x.e=0):=by
 obtain ⟨op,z,r,m,k,e,s⟩:=x;unfold fits;have hW:nH ⟨op,z,r,m,k,e,s⟩%65536=(op*2048+(z-1)*1024+r*256+m*32+k*8+s)%65536:=rfl;generalize nH ⟨op,z,r,m,k,e,s⟩%65536=W at hW;unfold uD;rw [vk];simp only [decode,Bool.and_eq_true,beq_iff_eq];constructor
 ·rintro ⟨h1,h2,h3,h4,h5,h6,h7⟩;refine ⟨⟨by omega,by omega⟩,⟨by omega,by omega⟩,⟨by omega,by omega⟩,⟨by omega,by omega⟩,⟨by omega,by omega⟩,⟨by omega,by omega⟩,fun q => ?_⟩;rw [h4,q] at h6;simpa using h6.symm
 ·rintro ⟨⟨a1,a2⟩,⟨b1,b2⟩,⟨c1,c2⟩,⟨d1,d2⟩,⟨e1,e2⟩,⟨f1,f2⟩,g⟩;have hm:W/32%8=m:=by omega
  refine ⟨by omega,by omega,by omega,hm,by omega,?_,by omega⟩;rw [hm];cases q:jH m
  ·rw [g q];rfl
  ·rfl
theorem ok_of_fits (x:In):bI x=(fits x&&(iH x.m x.k x.e&&(JX x&&ax x))):=by
 cases hf:fits x
 ·cases hq:bI x
  ·rfl
  ·exfalso
   have h:=QC hq;have:fits x=true:=(uZ x).2 ⟨by omega,by omega,by omega,by omega,by omega,by omega,h.2.2.2.2.2.2.2.2.2.2.2.2.2⟩;rw [hf] at this;cases this
 ·obtain ⟨a,b,c,d,e,f,g⟩:=(uZ x).1 hf;obtain ⟨op,z,r,m,k,e',s⟩:=x;simp only at a b c d e f g;unfold bI inBase JX lh;simp only;have w1:within r 0 3=true:=by simp [within];omega
  have w2:within s 0 7=true:=by simp [within];omega
  have w3:(decide (z=1)||decide (z=2))=true:=by simp;omega
  rw [w1,w2,w3];cases ho:iH m k e'
  ·simp
  ·have:0<=e':=by simp [iH,aJ,within] at ho;omega
   have w4:(!((m==7)&&(z==1)&&decide (255<e')))=(!(m==7)||(!(z==1)||within e' 0 255)):=by
    rw [Bool.eq_iff_iff];simp [within];omega
   rw [w4];simp
end Go.Proofs.YtgikibaajanjiaaGreatDoor.Pl
namespace Go.Proofs.YtgikibaajanjiaaGreatDoor
open Pl
open Go.RowKit Go.Proofs.Tryz
set_option linter.unusedVariables false
def Gp (md:Region.Mode) (ops:Array Oper) (i k:Nat):Bool:=((ops[i]?).map fun o=>o.after.any fun e=>Region.binds md e&&e.on==k).getD false
theorem jB {md:Region.Mode} {ops:Array Oper} {l:Array Bool} {i:Nat} (h:i∈Region.ready md ops l):i<ops.size∧l.getD i true=false:=by
 unfold Region.ready at h;rw [List.mem_filter,Bool.and_eq_true] at h;refine ⟨List.mem_range.1 h.1,?_⟩;have:=h.2.1;revert this;cases l.getD i true<;>simp
theorem Fv {l:Array Bool} {k:Nat} (h:l.getD k false=true):l.getD k true=true:=by
 unfold Array.getD at *;split
 ·rename_i hk;simpa [hk] using h
 ·rfl
theorem az {md:Region.Mode} {ops:Array Oper} {l:Array Bool} {i:Nat} (h:i∈Region.ready md ops l) (k:Nat) (hk:Gp md ops i k=true):l.getD k true=true:=by
 unfold Region.ready at h;rw [List.mem_filter,Bool.and_eq_true] at h;have h2:=h.2.2;unfold Gp at hk;cases ho:ops[i]? with
 | none=>rw [ho] at hk;simp at hk
 | some o=>
  rw [ho] at hk h2;simp only [Option.map_some,Option.getD_some] at hk h2;rw [Array.any_eq_true'] at hk;obtain ⟨e,he,hb⟩:=hk;rw [Array.all_eq_true'] at h2;have h3:=h2 e he;rw [Bool.and_eq_true] at hb;rw [hb.1] at h3;have h4:e.on=k:=by simpa using hb.2
  rw [h4] at h3;exact Fv (by simpa using h3)
theorem filter_lt {xs:List Nat} {p q:Nat->Bool} (hpq:∀x,q x=true->p x=true) {i:Nat} (hi:i∈xs) (hp:p i=true) (hq:q i=false):(xs.filter q).length<(xs.filter p).length:=by
 induction xs with
 | nil=>cases hi
 | cons x t ih=>
  have hle:(t.filter q).length<=(t.filter p).length:=by
   clear ih hi;induction t with
   | nil=>simp
   | cons y t ih=>
    cases h1:q y
    ·cases h2:p y<;>simp [h1,h2]<;>omega
    ·simp [h1,hpq y h1];exact ih
  rcases List.mem_cons.1 hi with rfl|hi
  ·simp [hp,hq];omega
  ·have:=ih hi
   cases h1:q x
   ·cases h2:p x<;>simp [h1,h2]<;>omega
   ·simp [h1,hpq x h1];exact this
theorem getD_set_ne {l:Array Bool} {i j:Nat} (h:j≠i):(l.setIfInBounds i true).getD j true=l.getD j true:=by
 simp only [Array.getD_eq_getD_getElem?];rw [Array.getElem?_setIfInBounds_ne (Ne.symm h)]
theorem gy {l:Array Bool} {i:Nat}:(l.setIfInBounds i true).getD i true=true:=by
 simp only [Array.getD_eq_getD_getElem?,Array.getElem?_setIfInBounds];split
 ·split<;>rfl
 ·rename_i h;exact absurd trivial h
theorem Ea {P:Program} {md:Region.Mode} {ops:Array Oper} {Q:Exit->Act->World->Prop} {I:Array Bool->Act->World->Prop}
  (hfin:∀l a w,l.size=ops.size->I l a w->Region.ready md ops l=[]->Q .normal a w)
  (hstep:∀l a w i,I l a w->i∈Region.ready md ops l->wpOp P ops Q i (I (l.setIfInBounds i true)) a w) :
  ∀(fuel:Nat) (l:Array Bool) (a:Act) (w:World),l.size=ops.size->((List.range ops.size).filter fun i => !l.getD i true).length<=fuel->I l a w->wpAny P md ops Q fuel l a w:=by
 intro fuel;induction fuel with
 | zero=>
  intro l a w hz hn hI
  have h0:Region.ready md ops l=[]:=by
   cases hr:Region.ready md ops l with
   | nil=>rfl
   | cons i t=>
    exfalso
    have hi:i∈Region.ready md ops l:=by rw [hr];simp
    obtain ⟨h1,h2⟩:=jB hi;have:i∈(List.range ops.size).filter fun i => !l.getD i true:=List.mem_filter.2 ⟨List.mem_range.2 h1,by rw [h2];rfl⟩;have:=List.length_pos_of_mem this;omega
  exact ⟨h0,hfin l a w hz hI h0⟩
 | succ n ih=>
  intro l a w hz hn hI;refine ⟨fun h0=>hfin l a w hz hI h0,fun i hi => ?_⟩;refine wpOp_mono (fun a' w' h'=>ih _ a' w' (by simp [hz]) ?_ h') (hstep l a w i hI hi);obtain ⟨h1,h2⟩:=jB hi
  have:=filter_lt (xs:=List.range ops.size) (p:=fun j => !l.getD j true) (q:=fun j => !(l.setIfInBounds i true).getD j true) (i:=i) (by
   intro x hx;by_cases e:x=i
   ·subst e;rw [h2];rfl
   ·rw [getD_set_ne e] at hx;exact hx) (List.mem_range.2 h1) (by rw [h2];rfl) (by rw [gy];rfl)
  omega
def SA (md:Region.Mode) (ops:Array Oper):Bool:=(List.range ops.size).all fun i=>((ops[i]?).map fun o=>o.after.all fun e => !Region.binds md e||decide (e.on<i)).getD true
theorem AC {md:Region.Mode} {ops:Array Oper} {l:Array Bool} (hz:l.size=ops.size) (hB:SA md ops=true) (h0:Region.ready md ops l=[]):∀i,i<ops.size->l.getD i true=true:=by
 intro i;induction i using Nat.strongRecOn with
 | ind i ih=>
  intro hi;cases hl:l.getD i true
  ·exfalso
   have hm:i∈Region.ready md ops l:=by
    unfold Region.ready;rw [List.mem_filter,Bool.and_eq_true];refine ⟨List.mem_range.2 hi,by rw [hl];rfl,?_⟩;have hb:=List.all_eq_true.1 hB i (List.mem_range.2 hi);rw [Array.getElem?_eq_getElem hi] at hb ⊢;simp only [Option.map_some,Option.getD_some] at hb ⊢;rw [Array.all_eq_true'] at hb ⊢;intro e he;have h1:=hb e he;rw [Bool.or_eq_true] at h1 ⊢;rcases h1 with h1|h1
    ·exact .inl h1
    ·have h2:e.on<i:=by simpa using h1
     have h3:=ih e.on h2 (by omega);refine .inr ?_;unfold Array.getD at h3 ⊢;split
     ·rename_i hk;simpa [hk] using h3
     ·rename_i hk;omega
   rw [h0] at hm;cases hm
  ·rfl
theorem vP {P:Program} {ops:Array Oper} {Q:Exit->Act->World->Prop} {id:Nat} {a:Act} {w:World} (I:Array Bool->Act->World->Prop) (hm:P.follows .mixedOrders=true) (hB:SA .any ops=true)
  (hstart:I (Array.replicate ops.size false) a w.drew)
  (hfin:∀l a w,I l a w->(∀i,i<ops.size->l.getD i true=true)->Q .normal a w)
  (hstep:∀l a w i,I l a w->i∈Region.ready .any ops l->wpOp P ops Q i (I (l.setIfInBounds i true)) a w) :
  (Code.region id ops true).wp P Q a w:=by
 refine wp_region_any hm (Ea (I:=I) (fun l a w hz h h0=>hfin l a w h (AC hz hB h0)) hstep _ _ _ _ (by simp) ?_ hstart);exact Nat.le_trans (List.length_filter_le _ _) (by simp)
def Once (l:Array Bool) (i:Nat) (p:Prop):Prop:=l.getD i true=true->p
theorem Once.past {l:Array Bool} {i j:Nat} {p q:Prop} (h:Once l j p) (hn:j≠i) (hp:p->q):Once (l.setIfInBounds i true) j q:=fun e=>hp (h (by rwa [getD_set_ne hn] at e))
theorem Once.now {l:Array Bool} {i j:Nat} {p:Prop} (h:p):Once (l.setIfInBounds i true) j p:=fun _=>h
theorem ay {n i:Nat} {p:Prop} (hi:i<n):Once (Array.replicate n false) i p:=by
 intro e;simp [Array.getD_eq_getD_getElem?,hi] at e
theorem lK {n i:Nat} (hi:i<n):(Array.replicate n false).getD i true=false:=by
 simp [Array.getD_eq_getD_getElem?,hi]
structure FR (SL:List Nat) (A0 A:Act):Prop where
 size:A.tmps.size=A0.tmps.size
 defers:A.defers=A0.defers
 o:∀k,k∉SL->A.tmps[k]? = A0.tmps[k]?
theorem FR.refl (SL:List Nat) (A:Act):FR SL A A:=⟨rfl,rfl,fun _ _=>rfl⟩
theorem AL {A:Act} {j k:Nat} {v:Value} (h:k≠j):(A.put (some j) v).tmps[k]? = A.tmps[k]? := by
 show (A.tmps.setIfInBounds j v)[k]? = _
 rw [Array.getElem?_setIfInBounds_ne (Ne.symm h)]
theorem put_eq {A:Act} {k:Nat} {v:Value} (h:k<A.tmps.size):(A.put (some k) v).tmps[k]? = some v:=by
 show (A.tmps.setIfInBounds k v)[k]? = _
 rw [Array.getElem?_setIfInBounds];simp [h]
theorem FR.put {SL:List Nat} {A0 A:Act} (h:FR SL A0 A) {k:Nat} (hk:k∈SL) (v:Value):FR SL A0 (A.put (some k) v):=by
 refine ⟨?_,h.defers,fun j hj => ?_⟩
 ·show (A.tmps.setIfInBounds k v).size=_
  rw [Array.size_setIfInBounds];exact h.size
 ·rw [AL (fun e=>hj (by rw [e];exact hk))];exact h.o j hj
theorem Ql {A B:Act} (hs:A.tmps.size=B.tmps.size) (hd:A.defers=B.defers) (h:∀k:Nat,A.tmps[k]? = B.tmps[k]?):A=B:=by
 cases A;cases B;simp only at hs hd h;subst hd;congr 1;exact Array.ext_getElem? h
theorem zM {A:Act}:∀(SL:List Nat) (B:Act),A.tmps.size=B.tmps.size->A.defers=B.defers->(∀k,k∉SL->A.tmps[k]? = B.tmps[k]?)->A=SL.foldl (fun a k=>a.put (some k) (A.tmps.getD k undef)) B
 | [],B,hs,hd,h=>Ql hs hd (fun k=>h k (by simp))
 | k :: t,B,hs,hd,h=>by
  refine zM t (B.put (some k) (A.tmps.getD k undef)) ?_ hd (fun j hj => ?_)
  ·show _=(B.tmps.setIfInBounds k _).size
   rw [Array.size_setIfInBounds];exact hs
  ·by_cases e:j=k
   ·subst e;by_cases hb:j<B.tmps.size
    ·rw [put_eq hb];have:j<A.tmps.size:=by omega
     rw [Array.getElem?_eq_getElem this];simp [Array.getD_eq_getD_getElem?,this]
    ·show _=(B.tmps.setIfInBounds j _)[j]?
     rw [Array.getElem?_eq_none (by omega),Array.getElem?_eq_none (by rw [Array.size_setIfInBounds];omega)]
   ·rw [AL e];exact h j (by simp [e,hj])
theorem FR.chain {SL:List Nat} {A0 A:Act} (h:FR SL A0 A):A=SL.foldl (fun a k=>a.put (some k) (A.tmps.getD k undef)) A0:=zM SL A0 h.size h.defers h.o
theorem mP {A:Act} {k:Nat} {v:Value} (h:A.tmps[k]? = some v):A.tmps.getD k undef=v:=by
 rw [Array.getD_eq_getD_getElem?,h];rfl
theorem gY {P:Program} {ops:Array Oper} {Q:Exit->Act->World->Prop} {id:Nat} {a:Act} {w:World} (I:Act->Array Bool->Act->World->Prop) (hm:P.follows .mixedOrders=true) (hB:SA .any ops=true)
  (hstart:I a (Array.replicate ops.size false) a w.drew)
  (hfin:∀l A w,I a l A w->(∀i,i<ops.size->l.getD i true=true)->Q .normal A w)
  (hstep:∀l A w i,I a l A w->i∈Region.ready .any ops l->wpOp P ops Q i (I a (l.setIfInBounds i true)) A w) :
  (Code.region id ops true).wp P Q a w:=vP (I a) hm hB hstart hfin hstep
theorem Once.n {l:Array Bool} {i j:Nat} {p:Prop} (h:Once l j p) (h1:j≠i:=by decide):Once (l.setIfInBounds i true) j p:=h.past h1 id
theorem Once.q {l:Array Bool} {i j k d:Nat} {A:Act} {u:Value} {v:Option Value} (h:Once l j (A.tmps[k]? = v)) (h1:j≠i:=by decide) (h2:k≠d:=by decide):Once (l.setIfInBounds i true) j ((A.put (some d) u).tmps[k]? = v):=h.past h1 (fun e=>(AL h2).trans e)
end Go.Proofs.YtgikibaajanjiaaGreatDoor
