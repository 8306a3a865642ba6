/- Part 22 of what the last text leans on. -/
import Derived.Test.YtkkmnnhaailkcaaGreatDoorJA21
import Derived.Test.YtkkmnnhaailkcaaGreatDoorJA1
import Derived.Deep.RegionHeld3
import Derived.Deep.MidRow
import Derived.Deep.AppendLies
import Derived.Deep.QuietTactic
import Derived.BigQuiet
import Derived.Test.YtkkmnnhaailkcaaGreatDoorJA19
import Derived.Below
import Derived.Laws.Rows
import Derived.Laws.ResultCell
import Derived.Test.YtkkmnnhaailkcaaGreatDoorJA5
import Derived.Test.YtkkmnnhaailkcaaGreatDoorJA17
import Derived.RegionTactic
import Derived.ChangeAlike
import Derived.BigRegion
import Derived.Deep.RegionWith
import Derived.StillTailTactics
set_option maxRecDepth 100000
set_option maxHeartbeats 16000000
namespace Go.Proofs.YtkkmnnhaailkcaaGreatDoor
open Go.RowKit Go.Proofs.Tryz
set_option linter.unusedVariables false
theorem codeOf (k s a v c:Int) (w:World) (hs:s=1∨s=2) (a0:0≤a) (a1:a≤65535) :
  Calls prog 178 #[.agg #[iv k,iv s,iv a,iv v,iv c]] w fun e w'=>e=.returned (iv (Pl.code k s a))∧∃o,w'=w.alloc o:=by
 have G:Hid (Pl.code k s a=if ((s==2)&&decide (a%2=1)) then 2 else if ((Pl.kind a==3)&&(k != 2)) then 0 else Pl.kind a):=hide (by
  rw [Pl.F9 hs]
  simp only [Bool.and_eq_true,beq_iff_eq,decide_eq_true_eq,bne_iff_ne,ne_eq])
 cases h1:(s==2)
 ·cases h3:(Pl.kind a==3)
  ·rw [h1,h3] at G
   go_enter func178,ntmps178
   go_wp2_with (first|(go_at_call 210;refine (zI _ _ a0 a1).mono ?_;rintro e w' ⟨rfl,rfl⟩)|(go_at_call 211;refine (partOf _ _).mono ?_;rintro e w' ⟨rfl,rfl⟩))
   go_ret
   exact ⟨rI (by rw [G.o];simp),_,rfl⟩
  ·cases h4:(k != 2)
   all_goals
    rw [h1,h3,h4] at G
    go_enter func178,ntmps178
    go_wp2_with (first|(go_at_call 210;refine (zI _ _ a0 a1).mono ?_;rintro e w' ⟨rfl,rfl⟩)|(go_at_call 211;refine (partOf _ _).mono ?_;rintro e w' ⟨rfl,rfl⟩))
    go_ret
    exact ⟨rI (by rw [G.o];simp),_,rfl⟩
 ·cases h2:decide (a%2=1)
  ·cases h3:(Pl.kind a==3)
   ·rw [h1,h2,h3] at G
    go_enter func178,ntmps178
    go_wp2_with (first|(go_at_call 210;refine (zI _ _ a0 a1).mono ?_;rintro e w' ⟨rfl,rfl⟩;rw [h2])|(go_at_call 211;refine (partOf _ _).mono ?_;rintro e w' ⟨rfl,rfl⟩))
    go_ret
    exact ⟨rI (by rw [G.o];simp),_,rfl⟩
   ·cases h4:(k != 2)
    all_goals
     rw [h1,h2,h3,h4] at G
     go_enter func178,ntmps178
     go_wp2_with (first|(go_at_call 210;refine (zI _ _ a0 a1).mono ?_;rintro e w' ⟨rfl,rfl⟩;rw [h2])|(go_at_call 211;refine (partOf _ _).mono ?_;rintro e w' ⟨rfl,rfl⟩))
     go_ret
     exact ⟨rI (by rw [G.o];simp),_,rfl⟩
  ·rw [h1,h2] at G
   go_enter func178,ntmps178
   go_wp2_with (first|(go_at_call 210;refine (zI _ _ a0 a1).mono ?_;rintro e w' ⟨rfl,rfl⟩;rw [h2])|(go_at_call 211;refine (partOf _ _).mono ?_;rintro e w' ⟨rfl,rfl⟩))
   go_ret
   exact ⟨rI (by rw [G.o];simp),_,rfl⟩
theorem IL (w:World) (xs:List Int) (s:Int) (n:Nat) (lx:xs.length=512) (hb:Pl.bH xs=true) (hs:s=1∨s=2) (hn:(n:Int)+s≤512) :
  Calls prog 213 #[.agg (cellsOf xs),iv s,iv n] w fun e w'=>e=.returned (iv (Pl.rd xs s n))∧Kept 0 0 w w':=by
 rcases hs with rfl|rfl
 ·exact Dq w xs 1 n lx hb (by decide) (by decide) (by omega)
 ·exact Dq w xs 2 n lx hb (by decide) (by decide) (by omega)
theorem X9 {w:World} {q:Nat} {k s a v c:Int} {ty:TypeId} (h:Blk w q #[iv k,iv s,iv a,iv v,iv c] ty):w.cell? ⟨q,1,none⟩=some (iv s)∧w.cell? ⟨q,2,none⟩=some (iv a)∧w.cell? ⟨q,3,none⟩=some (iv v):=
 ⟨h.cell (i:=1) rfl,h.cell (i:=2) rfl,h.cell (i:=3) rfl⟩
theorem Ws {w:World} {q:Nat} {k s a v c:Int} {ty:TypeId} (h:Blk w q #[iv k,iv s,iv a,iv v,iv c] ty):w.cell? ⟨q,1,none⟩=some (iv s)∧w.cell? ⟨q,2,none⟩=some (iv a):=
 ⟨h.cell (i:=1) rfl,h.cell (i:=2) rfl⟩
namespace Pl
theorem U9 {xs:List Int} {s:Int} {i:Nat} (hb:bH xs=true) (hs:s=1∨s=2) (hi:(i:Int)+s≤xs.length):0≤rd xs s i∧rd xs s i≤(if s=1 then 255 else 65535):=by
 unfold rd
 rcases hs with rfl|rfl
 ·rw [if_pos rfl,if_pos rfl];exact dP hb i (by omega)
 ·rw [if_neg (by decide),if_neg (by decide)]
  have:=dP hb i (by omega)
  have:=dP hb (i+1) (by omega)
  omega
theorem Pi (k s a:Int):0≤code k s a∧code k s a≤3:=by
 unfold code
 repeat' split
 all_goals omega
theorem QC {xs:List Int} {k s a v:Int} (hl:xs.length=512) (hb:bH xs=true) (h:fQ k s a v=true):0≤lv xs k s a v∧lv xs k s a v≤(if s=1 then 255 else 65535):=by
 obtain ⟨_,hs,v0,⟨a0,a1⟩,_⟩:=qO h
 unfold lv
 split
 ·rename_i hc
  have:=rO hc.1 a0
  exact U9 hb (by omega) (by omega)
 ·rcases hs with ⟨rfl,h1⟩|⟨rfl,h1⟩
  ·rw [if_pos rfl];omega
  ·rw [if_neg (by decide)];omega
theorem LZ {xs:List Int} {k s a v:Int} (hl:xs.length=512) (hb:bH xs=true) (h:fQ k s a v=true):fV k s a (lv xs k s a v) (code k s a)=((k != 3)||(code k s a != 0)):=by
 have hv:=QC hl hb h
 have hc:=Pi k s a
 obtain ⟨hk,hs,_,⟨a0,a1⟩,_⟩:=qO h
 have e1:dY k=true:=by simp [dY];omega
 have e2:okv s (lv xs k s a v)=true:=by
  unfold okv top
  rcases hs with ⟨rfl,_⟩|⟨rfl,_⟩
  ·rw [if_pos rfl] at hv;simp;omega
  ·rw [if_neg (by decide)] at hv;simp;omega
 have e3:addr a=true:=by simp [addr];omega
 have e4:(decide (0≤code k s a)&&decide (code k s a≤3))=true:=by simp;omega
 unfold fV
 rw [e1,e2,e3,e4]
 rfl
end Pl
theorem Blk.Ho {w:World} {b:Nat} {r:Pl.Rg} {st ha:Bool} {xs:List Int} {u:Value} {ty:TypeId} (h:Blk w b (cor r xs u st ha) ty) {i:Nat} (hi:i<xs.length) (z:Int):Blk (w.setCell ⟨b,14+i,none⟩ (iv z)) b (cor r (xs.set i z) u st ha) ty:=by
 have:=h.set (14+i) (iv z)
 rwa [KT hi] at this
theorem Blk.UY {w:World} {b:Nat} {r:Pl.Rg} {st ha:Bool} {xs:List Int} {u:Value} {ty:TypeId} (h:Blk w b (cor r xs u st ha) ty) (hl:xs.length=512) (u':Value):Blk (w.setCell ⟨b,526,none⟩ u') b (cor r xs u' st ha) ty:=by
 have:=h.set 526 u'
 rwa [KL hl] at this
theorem F7 {w:World} {b:Nat} {r:Pl.Rg} {st ha:Bool} {xs:List Int} {u:Value} {ty:TypeId} (h:Blk w b (cor r xs u st ha) ty) (lx:xs.length=512):w.rangeAt b 14 (xs.map (Value.int .i64))∧w.cell? ⟨b,526,none⟩=some u:=by
 refine ⟨?_,h.cell (kK lx)⟩
 intro j v hv
 have hj:j<xs.length:=by
  rcases Nat.lt_or_ge j xs.length with h'|h'
  ·exact h'
  ·rw [List.getElem?_eq_none (by simpa using h')] at hv;cases hv
 refine h.cell ?_
 rw [vU hj]
 simpa [el,hj] using hv
theorem Cf (w:World) {R:Pl.Rg} {ST HA:Bool} (b:Nat) (u:Value) (ty:TypeId) (xs:List Int) (n:Nat) (v:Int) (hB:Blk w b (cor R xs u ST HA) ty) (lx:xs.length=512) (hn:n+1≤512) (v0:0≤v) (v1:v≤255) :
  Calls prog 212 #[.pointer (some ⟨b,14,none⟩),iv 1,iv n,iv v] w fun e w'=>e=.returned (.tuple #[])∧Blk w' b (cor R (xs.set n v) u ST HA) ty∧Kept b (b+1) w w':=by
 have HB:=hide hB
 have LX:=hide lx
 have c0:=hB.cell (vU (r:=R) (u:=u) (st:=ST) (ha:=HA) (i:=n) (by omega))
 have f0:=hB.frozen (14+n)
 have e255:=Pl.dK v
 have e0:v%256=v:=by omega
 rw [e0] at e255
 have i0:(0:Int)≤(n:Int):=by omega
 have i1:(n:Int)<512:=by omega
 clear hB lx e0
 go_enter func212,ntmps212
 go_wp2_with fail
 go_loopw [3,8] (fun x i wr=>(i=iv n∧x=iv v∧wr=w)∨(i=iv ((n:Int)-1)∧Blk wr b (cor R (xs.set n v) u ST HA) ty∧Kept b (b+1) w wr)) (fun _ i _=>(intOf i-n+1).toNat)
 case atStart=>exact .inl ⟨by go_num,rfl,rfl⟩
 case round=>
  rcases hrel with ⟨rfl,rfl,rfl⟩|⟨rfl,hb,hk⟩
  ·go_wp2
   go_roundw
   case rel=>exact .inr ⟨rfl,HB.o.Ho (by rw [LX.o];omega) v,ag (Kept.refl _ _ _) _ _ _ (.inl (by omega))⟩
   case measure=>simp [intOf];omega
  ·have HB2:=hide hb
   have HK2:=hide hk
   clear hb hk
   have hd:decide ((n:Int)≤(n:Int)-1)=false:=by simp;omega
   go_wp2
   go_end0
   exact ⟨rfl,HB2.o,HK2.o⟩
theorem Ce (w:World) {R:Pl.Rg} {ST HA:Bool} (b:Nat) (u:Value) (ty:TypeId) (xs:List Int) (n:Nat) (v:Int) (hB:Blk w b (cor R xs u ST HA) ty) (lx:xs.length=512) (hn:n+2≤512) (v0:0≤v) (v1:v≤65535) :
  Calls prog 212 #[.pointer (some ⟨b,14,none⟩),iv 2,iv n,iv v] w fun e w'=>e=.returned (.tuple #[])∧Blk w' b (cor R ((xs.set n (v/256)).set (n+1) (v%256)) u ST HA) ty∧Kept b (b+1) w w':=by
 have HB:=hide hB
 have LX:=hide lx
 have c1:=hB.cell (vU (r:=R) (u:=u) (st:=ST) (ha:=HA) (i:=n+1) (by omega))
 have f1:=hB.frozen (14+(n+1))
 have e255:=Pl.dK v
 have e256:=Pl.dK (v/256)
 have e0:v/256%256=v/256:=by omega
 rw [e0] at e256
 have i0:(0:Int)≤(n:Int):=by omega
 have i1:(n:Int)+1<512:=by omega
 have i2:(0:Int)≤(n:Int)+1:=by omega
 have i3:(n:Int)<512:=by omega
 clear hB lx e0
 go_enter func212,ntmps212
 go_wp2_with fail
 go_loopw [3,8] (fun x i wr=>(i=iv ((n:Int)+1)∧x=iv v∧wr=w)∨(i=iv n∧x=iv (v/256)∧Blk wr b (cor R (xs.set (n+1) (v%256)) u ST HA) ty∧Kept b (b+1) w wr)∨(i=iv ((n:Int)-1)∧Blk wr b (cor R ((xs.set (n+1) (v%256)).set n (v/256)) u ST HA) ty∧Kept b (b+1) w wr)) (fun _ i _=>(intOf i-n+1).toNat)
 case atStart=>exact .inl ⟨by go_num,rfl,rfl⟩
 case round=>
  rcases hrel with ⟨rfl,rfl,rfl⟩|⟨rfl,rfl,hb,hk⟩|⟨rfl,hb,hk⟩
  ·go_wp2
   go_roundw
   case rel=>exact .inr (.inl ⟨by go_num,by go_num,HB.o.Ho (by rw [LX.o];omega) _,ag (Kept.refl _ _ _) _ _ _ (.inl (by omega))⟩)
   case measure=>simp [intOf];omega
  ·have HB2:=hide hb
   have HK2:=hide hk
   have c0:=hb.cell (vU (r:=R) (u:=u) (st:=ST) (ha:=HA) (i:=n) (by rw [List.length_set,LX.o];omega))
   have f0:=hb.frozen (14+n)
   clear hb hk c1 f1
   go_wp2
   go_roundw
   case rel=>exact .inr (.inr ⟨rfl,HB2.o.Ho (by rw [List.length_set,LX.o];omega) _,ag HK2.o _ _ _ (.inl (by omega))⟩)
   case measure=>simp [intOf];omega
  ·have HB2:=hide hb
   have HK2:=hide hk
   clear hb hk
   have hd:decide ((n:Int)≤(n:Int)-1)=false:=by simp;omega
   go_wp2
   go_end0
   refine ⟨rfl,?_,HK2.o⟩
   have h:=HB2.o
   rw [List.set_comm _ _ (by omega)] at h
   exact h
theorem Gl (w:World) {R:Pl.Rg} {ST HA:Bool} (b:Nat) (u:Value) (ty:TypeId) (xs:List Int) (s:Int) (n:Nat) (v:Int) (hB:Blk w b (cor R xs u ST HA) ty) (lx:xs.length=512) (hs:(s=1∧v≤255)∨(s=2∧v≤65535)) (hn:(n:Int)+s≤512) (v0:0≤v) :
  Calls prog 212 #[.pointer (some ⟨b,14,none⟩),iv s,iv n,iv v] w fun e w'=>e=.returned (.tuple #[])∧Blk w' b (cor R (Pl.wr xs s n v) u ST HA) ty∧Kept b (b+1) w w':=by
 rcases hs with ⟨rfl,hv⟩|⟨rfl,hv⟩
 ·exact Cf w b u ty xs n v hB lx (by omega) v0 hv
 ·exact Ce w b u ty xs n v hB lx (by omega) v0 hv
theorem zW (w:World) {R:Pl.Rg} {ST HA:Bool} (b q:Nat) (u:Value) (xs:List Int) (s:Int) (n:Nat) (v c:Int) (hB:Blk w b (cor R xs u ST HA) 93) (hQ:Blk w q #[iv 2,iv s,iv n,iv v,iv c] 119) (lx:xs.length=512) (hs:(s=1∧v≤255)∨(s=2∧v≤65535)) (hn:(n:Int)+s≤512) (v0:0≤v) (hne:q≠b) :
  Calls prog 179 #[.pointer (some ⟨b,14,none⟩),.pointer (some ⟨q,0,none⟩)] w fun e w'=>e=.returned (.tuple #[])∧Blk w' b (cor R (Pl.wr xs s n v) u ST HA) 93∧Kept b (b+1) w w':=by
 have HB:=hide hB
 have HX:=hide lx
 have HS:=hide hs
 have HN:=hide hn
 have HQ:=hide hQ
 have q0:=hQ.all
 clear hB hQ lx hs hn
 go_enter func179,ntmps179
 go_wp2_with fail
 go_region_held3 (fun w'=>w'.cell? ⟨q,1,none⟩=some (iv s)∧w'.cell? ⟨q,2,none⟩=some (iv n)∧w'.cell? ⟨q,3,none⟩=some (iv v)) (first|exact X9 Q3.o|go_keep)
  (first|(go_at_call 212;refine (Gl _ b u 93 xs s n v (HB.o.af (ae (Kept.refl _ _ _))) HX.o HS.o HN.o v0).mono ?_;rintro e w3 ⟨rfl,hb3,kd⟩;have B3:=hide hb3;have K3:=hide (bW kd);have Q3:=hide (HQ.o.kept (bW kd) (by omega));clear hb3 kd))
 go_wp2_with fail
 refine bodyPost_ret (results_none rfl _ _ _) rfl ⟨rfl,B3.o,K3.o⟩
theorem zX (w:World) {R:Pl.Rg} {ST HA:Bool} (b q:Nat) (u:Value) (xs:List Int) (k s:Int) (n:Nat) (v c:Int) (hB:Blk w b (cor R xs u ST HA) 93) (hQ:Blk w q #[iv k,iv s,iv n,iv v,iv c] 119) (lx:xs.length=512) (hby:Pl.bH xs=true) (hk:¬k=2) (hs:s=1∨s=2) (hn:(n:Int)+s≤512) (hne:q≠b) :
  Calls prog 179 #[.pointer (some ⟨b,14,none⟩),.pointer (some ⟨q,0,none⟩)] w fun e w'=>e=.returned (.tuple #[])∧Blk w' q #[iv k,iv s,iv n,iv (Pl.rd xs s n),iv c] 119∧Kept q (q+1) w w':=by
 have HB:=hide hB
 have HX:=hide lx
 have HS:=hide hs
 have HN:=hide hn
 have HQ:=hide hQ
 have HBY:=hide hby
 have hu:=underlying88
 have hcs:(xs.map (Value.int .i64)).length=512:=by rw [List.length_map,lx]
 have hi:(prog.info? 88).map (·.size)=some (xs.map (Value.int .i64)).length:=by rw [hcs];exact Tryz.xN
 have h1:∀v∈xs.map (Value.int .i64),v.oneCell'=true:=iH
 have q0:=hQ.all
 have r1:=(F7 hB lx).1
 have k2:(k==2)=false:=by simpa using hk
 clear hB hQ lx hs hn hk hby
 go_enter func179,ntmps179
 go_wp2_with fail
 go_region_held3 (fun w'=>w'.rangeAt b 14 (xs.map (Value.int .i64))∧w'.cell? ⟨q,1,none⟩=some (iv s)∧w'.cell? ⟨q,2,none⟩=some (iv n)) (first|exact ⟨(F7 B3.o HX.o).1,Ws Q3.o⟩|exact ⟨(F7 (B3.o.other _ _ _ (fun e=>hne e.symm)) HX.o).1,Ws (Q3.o.set 3 _)⟩|go_keep_ranges|go_keep)
  (first|(go_at_call 213;refine (IL _ xs s n HX.o HBY.o HS.o HN.o).mono ?_;rintro e w3 ⟨rfl,kd⟩;have K3:=hide (bW kd);have B3:=hide (HB.o.af (bW kd));have Q3:=hide (HQ.o.af (bW kd));have c3:=Q3.o.cell (i:=3) rfl;have f3:=Q3.o.frozen 3;clear kd))
 go_wp2_with fail
 go_end0
 refine ⟨rfl,Q3.o.set 3 _,?_⟩
 exact ag K3.o.any _ _ _ (.inl (by omega))
theorem Ew {w X w3:World} {b q g:Nat} (k:Kept 0 0 w X) (h:FrP (fun i=>i=b∨i=q) X w3) (hq:w.heap.size≤q):Since w b (b+1) g w3 g:=
 ⟨.inl rfl,⟨h.os.trans k.os,h.tape.trans k.tape,h.output.trans k.output,Nat.le_trans k.size h.size,fun i hi hn=>(h.block i (Nat.lt_of_lt_of_le hi k.size) (by unfold own at hn;omega)).trans (k.block i hi (by omega))⟩⟩
theorem Gj (w:World) {R:Pl.Rg} {ST HA:Bool} (b:Nat) (xs:List Int) (d:Option Addr) (m cu:Nat) (k s a v c:Int) (hB:Blk w b (cor R xs (.slice d m cu) ST HA) 93) (lx:xs.length=512) (bm:m≤400) (lo : -9223372036854775808≤v) (hi:v≤9223372036854775807) (hno:(decide (m<400)&&Pl.fV k s a v c)=false) :
  Calls prog 180 #[.pointer (some ⟨b,14,none⟩),.agg #[iv k,iv s,iv a,iv v,iv c]] w fun e w'=>e=.returned (.tuple #[])∧Kept 0 0 w w':=by
 have HB:=hide hB
 have l0:=hB.cell (kK lx)
 have K0:=hide (kept_alloc w (.cells #[iv k,iv s,iv a,iv v,iv c] 119))
 have l1:=(hB.alloc (.cells #[iv k,iv s,iv a,iv v,iv c] 119)).cell (kK lx)
 clear hB
 cases h1:decide ((m:Int)<400)
 ·go_enter func180,ntmps180
  go_wp2_with (go_at_call 88;fail)
  go_end0
  exact ⟨rfl,K0.o⟩
 ·have h2:Pl.fV k s a v c=false:=by
   rw [show decide (m<400)=true from by simp at h1;simp;omega,Bool.true_and] at hno
   exact hno
  clear hno
  go_enter func180,ntmps180
  go_wp2_with (go_at_call 88;refine (rE _ _ _ _ _ _ lo hi).mono ?_;rintro e w' ⟨rfl,o,p,rfl⟩;rw [h2])
  go_end0
  exact ⟨rfl,ah (ah K0.o _) _⟩
theorem Gi (w:World) {R:Pl.Rg} {ST HA:Bool} (b base g2:Nat) (xs ys:List Int) (m cu:Nat) (k s a v c:Int) (hB:Blk w b (cor R xs (.slice (some ⟨g2,0,none⟩) m cu) ST HA) 93) (lx:xs.length=512) (hO:w.ownsRow base 119 5 (.slice (some ⟨g2,0,none⟩) m cu) m (ys.map (Value.int .i64))) (hb:base≤b) (hbs:base≤w.heap.size) (hne:b≠g2) (bm:m<400) (lo : -9223372036854775808≤v) (hi:v≤9223372036854775807) (hyes:Pl.fV k s a v c=true) :
  Calls prog 180 #[.pointer (some ⟨b,14,none⟩),.agg #[iv k,iv s,iv a,iv v,iv c]] w fun e w'=>∃g3 c3:Nat,e=.returned (.tuple #[])∧Blk w' b (cor R xs (.slice (some ⟨g3,0,none⟩) (m+1) c3) ST HA) 93∧w'.ownsRow base 119 5 (.slice (some ⟨g3,0,none⟩) (m+1) c3) (m+1) ((ys++[k,s,a,v,c]).map (Value.int .i64))∧b≠g3∧Since w b (b+1) g2 w' g3:=by
 obtain ⟨i,hi0,hz0,hz1,hz2⟩:=info_parts Tryz.jY
 have HB:=hide hB
 have HO:=hide hO
 have HX:=hide lx
 have l0:=hB.cell (kK lx)
 have K0:=hide (kept_alloc w (.cells #[iv k,iv s,iv a,iv v,iv c] 119))
 have l1:=(hB.alloc (.cells #[iv k,iv s,iv a,iv v,iv c] 119)).cell (kK lx)
 have h1:decide ((m:Int)<400)=true:=by simp;omega
 clear hB hO
 go_enter func180,ntmps180
 go_wp2_with (go_at_call 88;refine (rE _ _ _ _ _ _ lo hi).mono ?_;rintro e w' ⟨rfl,o,p,rfl⟩;rw [hyes])
 have BW:=hide ((((HB.o.alloc (.cells #[iv k,iv s,iv a,iv v,iv c] 119)).alloc o)).alloc p)
 have AW:=hide (((Blk.new w #[iv k,iv s,iv a,iv v,iv c] 119).alloc o).alloc p)
 have KW:=hide (ah (ah K0.o o) p)
 have OW:=hide (((HO.o.alloc (.cells #[iv k,iv s,iv a,iv v,iv c] 119)).alloc o).alloc p)
 obtain ⟨W,hW⟩:∃W:World,W=((w.alloc (.cells #[iv k,iv s,iv a,iv v,iv c] 119)).alloc o).alloc p:=⟨_,rfl⟩
 rw [←hW] at BW AW KW OW ⊢
 have hsz:w.heap.size<W.heap.size:=AW.o.lt
 clear hW l0 l1
 have z0:=BW.o.cell (kK HX.o)
 have a0:=AW.o.all
 have y0:∀o,(W.alloc o).cell? ⟨b,526,none⟩=some (.slice (some ⟨g2,0,none⟩) m cu):=fun o=>(BW.o.alloc o).cell (kK HX.o)
 have H63:Hid (m+1≤maxLen):=hide (by unfold maxLen;omega)
 have HBY:Hid ((m+1)*40≤140737488355328):=hide (by omega)
 go_region_law ((refine step_append_lies _ (by rfl) _ _ _ (by rfl) base 119 i _ 5 40 underlying32 hi0 hz0 hz1 hz2 rfl (by omega) (.slice (some ⟨g2,0,none⟩) m cu) m (ys.map (Value.int .i64)) (by rfl) ((OW.o.alloc _).drew) ⟨W.heap.size,0,none⟩ 1 1 [iv k,iv s,iv a,iv v,iv c] (by rfl) (by rfl) (World.news_of_block (cs:=#[iv k,iv s,iv a,iv v,iv c]) (t:=119) (fr:=(0,0)) (heap_alloc_new W _)) (by simp [Value.oneCell']) (by omega) H63.o HBY.o (by simp;omega) (W.heap.size+1) (by simp) ?_;intro g3 c3 w1 hown1 hgrow hat hlt;have B1:Hid (Blk w1 b (cor R xs (.slice (some ⟨g2,0,none⟩) m cu) ST HA) 93):=hide ((hgrow.block b (by have:=BW.o.lt;simp;omega) (by simp [Value.ownBlock];omega)).trans (BW.o.alloc _));have e0:=B1.o.cell (kK HX.o);have e1:=B1.o.frozen 526;have G1:=hide hgrow;have O1:=hide hown1;clear hgrow hown1))
 all_goals
  go_end0
  have lb:=HB.o.lt
  have lB:=BW.o.lt
  obtain ⟨l1,l2⟩:=HO.o.lt g2 rfl
  have hat':g2=g3∨g3=W.heap.size+1:=by
   rcases hat with h|h
   ·exact .inl (Option.some.inj h)
   ·exact .inr h
  have hb3:b≠g3:=by omega
  refine ⟨g3,c3,rfl,B1.o.UY HX.o _,?_,hb3,?_⟩
  ·have h:=O1.o.kept (grownBy_set w1 b 526 (.slice (some ⟨g3,0,none⟩) (m+1) c3)) (.inr (fun e=>by have h2:g3=b:=Option.some.inj e;omega))
   rw [List.map_append]
   exact h
  ·have k1:Kept 0 0 w (W.alloc (.cells #[iv k,iv s,iv a,iv v,iv c] 119)).drew:=ae (ah KW.o _)
   exact ⟨by omega,((jZ k1 (by omega)).grown G1.o (fun x hx=>.inr (Option.some.inj hx).symm)).set b 526 _ (.inl (.inl (by omega)))⟩
theorem Gm (w:World) {R:Pl.Rg} {ST HA:Bool} (b q base g2:Nat) (xs ys:List Int) (m cu:Nat) (k s a v c:Int) (hB:Blk w b (cor R xs (.slice (some ⟨g2,0,none⟩) m cu) ST HA) 93) (hQ:Blk w q #[iv k,iv s,iv a,iv v,iv c] 119) (lx:xs.length=512) (hby:Pl.bH xs=true)
  (hO:w.ownsRow base 119 5 (.slice (some ⟨g2,0,none⟩) m cu) m (ys.map (Value.int .i64))) (hb:base≤b) (hq:base≤q) (n1:q≠b) (n2:b≠g2) (n3:q≠g2) (hask:Pl.fQ k s a v=true) (hc:Pl.code k s a=0) :
  Calls prog 179 #[.pointer (some ⟨b,14,none⟩),.pointer (some ⟨q,0,none⟩)] w fun e w'=>e=.returned (.tuple #[])∧Blk w' b (cor R (Pl.nb xs k s a v) (.slice (some ⟨g2,0,none⟩) m cu) ST HA) 93∧Blk w' q #[iv k,iv s,iv a,iv (Pl.lv xs k s a v),iv c] 119∧
   w'.ownsRow base 119 5 (.slice (some ⟨g2,0,none⟩) m cu) m (ys.map (Value.int .i64))∧FrP (fun i=>i=b∨i=q) w w':=by
 obtain ⟨hk,hs,v0,⟨a0,a1⟩,hkv⟩:=Pl.qO hask
 have hlow:=Pl.rO hc a0
 obtain ⟨n,rfl⟩:∃n:Nat,a=(n:Int):=⟨a.toNat,by omega⟩
 by_cases h2:k=2
 ·subst h2
  have e1:Pl.nb xs 2 s n v=Pl.wr xs s n v:=by unfold Pl.nb;rw [if_pos ⟨hc,rfl⟩];rfl
  have e2:Pl.lv xs 2 s n v=v:=by unfold Pl.lv;rw [if_neg (by simp)]
  refine (zW w b q _ xs s n v c hB hQ lx hs (by omega) v0 n1).mono ?_
  rintro e w' ⟨rfl,hb',hk'⟩
  have lb:=hB.lt
  refine ⟨rfl,by rw [e1];exact hb',by rw [e2];exact hQ.kept hk' (by omega),hO.kept (xQ hk') (.inr (fun e=>by have h3:g2=b:=Option.some.inj e;omega)),jZ hk' (by omega)⟩
 ·have e1:Pl.nb xs k s n v=xs:=by unfold Pl.nb;rw [if_neg (fun h=>h2 h.2)]
  have e2:Pl.lv xs k s n v=Pl.rd xs s n:=by unfold Pl.lv;rw [if_pos ⟨hc,h2⟩];rfl
  refine (zX w b q _ xs k s n v c hB hQ lx hby h2 (by omega) (by omega) n1).mono ?_
  rintro e w' ⟨rfl,hq',hk'⟩
  have lq:=hQ.lt
  refine ⟨rfl,by rw [e1];exact hB.kept hk' (by omega),by rw [e2];exact hq',hO.kept (xQ hk') (.inr (fun e=>by have h3:g2=q:=Option.some.inj e;omega)),jZ hk' (by omega)⟩
theorem QL (w:World) {R:Pl.Rg} {ST HA:Bool} (b base g2:Nat) (xs ys:List Int) (m cu:Nat) (k s a v c:Int) (hB:Blk w b (cor R xs (.slice (some ⟨g2,0,none⟩) m cu) ST HA) 93) (lx:xs.length=512) (hO:w.ownsRow base 119 5 (.slice (some ⟨g2,0,none⟩) m cu) m (ys.map (Value.int .i64))) (hb:base≤b) (hne:b≠g2) (bm:m≤400) (lo : -9223372036854775808≤v) (hi:v≤9223372036854775807)
  (m':Nat) (ys':List Int) (hm:m'=if (decide (m<400)&&Pl.fV k s a v c)=true then m+1 else m) (hy:ys'=if (decide (m<400)&&Pl.fV k s a v c)=true then ys++[k,s,a,v,c] else ys) :
  Calls prog 180 #[.pointer (some ⟨b,14,none⟩),.agg #[iv k,iv s,iv a,iv v,iv c]] w fun e w'=>∃g3 c3:Nat,e=.returned (.tuple #[])∧Blk w' b (cor R xs (.slice (some ⟨g3,0,none⟩) m' c3) ST HA) 93∧w'.ownsRow base 119 5 (.slice (some ⟨g3,0,none⟩) m' c3) m' (ys'.map (Value.int .i64))∧b≠g3∧Since w b (b+1) g2 w' g3:=by
 cases h:(decide (m<400)&&Pl.fV k s a v c)
 ·rw [hm,hy,h]
  refine (Gj w b xs _ m cu k s a v c hB lx bm lo hi h).mono ?_
  rintro e w' ⟨rfl,k'⟩
  exact ⟨g2,cu,rfl,hB.af k',hO.kept k'.grown (.inr (fun e=>by cases e)),hne,(Since.refl _ _ _ _).any k'⟩
 ·rw [hm,hy,h]
  simp only [Bool.and_eq_true,decide_eq_true_eq] at h
  have lb:=hB.lt
  show Calls _ _ _ _ _
  exact Gi w b base g2 xs ys m cu k s a v c hB lx hO hb (by omega) hne h.1 lo hi h.2
theorem Tz (w:World) {R:Pl.Rg} {ST HA:Bool} (b base g2:Nat) (xs ys:List Int) (m cu:Nat) (k s a v:Int) (hB:Blk w b (cor R xs (.slice (some ⟨g2,0,none⟩) m cu) ST HA) 93) (lx:xs.length=512) (hby:Pl.bH xs=true)
  (hO:w.ownsRow base 119 5 (.slice (some ⟨g2,0,none⟩) m cu) m (ys.map (Value.int .i64))) (hb:base≤b) (n2:b≠g2) (bm:m≤400) (hask:Pl.fQ k s a v=true) (T:Int) (HT:Hid (T=if k=2 then 0 else Pl.lv xs k s a v)) :
  Calls prog 134 #[.pointer (some ⟨b,14,none⟩),.agg #[iv k,iv s,iv a,iv v,iv 0]] w fun e w'=>∃g3 c3:Nat,e=.returned (.tuple #[iv T,iv (Pl.code k s a)])∧
   Blk w' b (cor R (Pl.nb xs k s a v) (.slice (some ⟨g3,0,none⟩) (Pl.nm m k s a) c3) ST HA) 93∧w'.ownsRow base 119 5 (.slice (some ⟨g3,0,none⟩) (Pl.nm m k s a) c3) (Pl.nm m k s a) ((Pl.nl xs ys m k s a v).map (Value.int .i64))∧b≠g3∧Since w b (b+1) g2 w' g3:=by
 obtain ⟨_,hs,v0,⟨a0,a1⟩,hkv⟩:=Pl.qO hask
 have hs':s=1∨s=2:=by omega
 have hlog:=Pl.LZ lx hby hask
 have hvb:=Pl.QC lx hby hask
 have hv1:Pl.lv xs k s a v≤65535:=by split at hvb<;>omega
 obtain ⟨hg0,hg1⟩:=hO.lt g2 rfl
 have lb:=hB.lt
 have Qj:=hide hlog
 have HV:=hide (And.intro hvb.1 hv1)
 have HX:=hide lx
 have HBY:=hide hby
 have Ql:=hide hask
 have HB0:=hide hB
 have HO0:=hide hO
 clear hB hO lx hby hask hlog hvb hs hkv
 go_enter func134,ntmps134
 go_wp2_with fail
 refine (codeOf k s a v 0 _ hs' a0 a1).mono ?_
 rintro e w1 ⟨rfl,o,rfl⟩
 obtain ⟨C,hC⟩:∃C,C=Pl.code k s a:=⟨_,rfl⟩
 rw [←hC]
 have HC:=hide hC
 clear hC
 have BX:=hide ((HB0.o.alloc (.cells #[iv k,iv s,iv a,iv v,iv C] 119)).alloc o)
 have OX:=hide ((HO0.o.alloc (.cells #[iv k,iv s,iv a,iv v,iv C] 119)).alloc o)
 have QX:=hide ((Blk.new w #[iv k,iv s,iv a,iv v,iv C] 119).alloc o)
 have KX:=hide (ah (kept_alloc w (.cells #[iv k,iv s,iv a,iv v,iv C] 119)) o)
 obtain ⟨X,hX⟩:∃X:World,X=(w.alloc (.cells #[iv k,iv s,iv a,iv v,iv C] 119)).alloc o:=⟨_,rfl⟩
 rw [←hX] at BX OX QX KX
 cases hc:(C==0)
 ·have hc':¬Pl.code k s a=0:=by rw [←HC.o];simpa using hc
  have e1:Pl.nb xs k s a v=xs:=by unfold Pl.nb;rw [if_neg (fun h=>hc' h.1)]
  have e2:Pl.lv xs k s a v=v:=by unfold Pl.lv;rw [if_neg (fun h=>hc' h.1)]
  have E1:=hide e1
  have E2:=hide e2
  have HM:Hid (Pl.nm m k s a=if (decide (m<400)&&Pl.fV k s a v C)=true then m+1 else m):=hide (by
   have h:=Qj.o;rw [e2] at h;rw [HC.o,h];rfl)
  have HY:Hid (Pl.nl xs ys m k s a v=if (decide (m<400)&&Pl.fV k s a v C)=true then ys++[k,s,a,v,C] else ys):=hide (by
   have h:=Qj.o;rw [e2] at h;rw [HC.o,h];unfold Pl.nl;rw [e2];rfl)
  clear hc' e1 e2
  go_wp2_with fail
  rw [←hX]
  clear hX
  refine (QL X b base g2 xs ys m cu k s a v C BX.o HX.o OX.o hb n2 bm (by omega) (by have:=HV.o;rw [E2.o] at this;omega) _ _ HM.o HY.o).mono ?_
  rintro e w4 ⟨g3,c3,rfl,hb4,ho4,hn4,hk4⟩
  have Q4:=hk4.blk QX.o (by omega) (by omega)
  have B4:=hide hb4
  have O4:=hide ho4
  have K4:=hide (((Since.refl w b (b+1) g2).any KX.o).trans hk4)
  have y0:=Q4.all
  clear hb4 ho4 hk4 Q4
  cases hk2:(k==2)
  ·have E3:Hid (v=T):=hide (by rw [HT.o,if_neg (by simpa using hk2),E2.o])
   go_wp2_with fail
   go_quiet (fail)
   go_wp2_with fail
   go_ret2
   exact ⟨g3,c3,rII E3.o HC.o,by rw [E1.o];exact B4.o,O4.o,hn4,K4.o.any (au (Kept.refl 0 0 _) _)⟩
  ·have E3:Hid (0=T):=hide (by rw [HT.o,if_pos (by simpa using hk2)])
   go_wp2_with fail
   go_quiet (fail)
   go_wp2_with fail
   go_ret2
   exact ⟨g3,c3,rII E3.o HC.o,by rw [E1.o];exact B4.o,O4.o,hn4,K4.o.any (au (Kept.refl 0 0 _) _)⟩
 ·have hc':Pl.code k s a=0:=by rw [←HC.o];simpa using hc
  have HC0:=hide hc'
  have HNL:Hid ((Pl.nb xs k s a v).length=512):=hide (by rw [Pl.IG];exact HX.o)
  have HM:Hid (Pl.nm m k s a=if (decide (m<400)&&Pl.fV k s a (Pl.lv xs k s a v) C)=true then m+1 else m):=hide (by
   have h:=Qj.o;rw [HC.o,h];rfl)
  have HY:Hid (Pl.nl xs ys m k s a v=if (decide (m<400)&&Pl.fV k s a (Pl.lv xs k s a v) C)=true then ys++[k,s,a,Pl.lv xs k s a v,C] else ys):=hide (by
   have h:=Qj.o;rw [HC.o,h];unfold Pl.nl;rfl)
  clear hc'
  go_wp2_with fail
  rw [←hX]
  clear hX
  refine (Gm X b w.heap.size base g2 xs ys m cu k s a v C BX.o QX.o HX.o HBY.o OX.o hb (by omega) (by omega) n2 (by omega) Ql.o HC0.o).mono ?_
  rintro e w3 ⟨rfl,hb3,hq3,ho3,hk3⟩
  have B3:=hide hb3
  have O3:=hide ho3
  have K3:=hide (Ew (g:=g2) KX.o hk3 (Nat.le_refl _))
  have Q3:=hide hq3
  have z0:=hq3.all
  clear hb3 ho3 hk3 hq3
  go_wp2_with fail
  clear z0
  refine (QL w3 b base g2 (Pl.nb xs k s a v) ys m cu k s a (Pl.lv xs k s a v) C B3.o HNL.o O3.o hb n2 bm (by have:=HV.o;omega) (by have:=HV.o;omega) _ _ HM.o HY.o).mono ?_
  rintro e w4 ⟨g3,c3,rfl,hb4,ho4,hn4,hk4⟩
  have Q4:=hk4.blk Q3.o (by omega) (by omega)
  have B4:=hide hb4
  have O4:=hide ho4
  have K4:=hide (K3.o.trans hk4)
  have y0:=Q4.all
  clear hb4 ho4 hk4 Q4
  cases hk2:(k==2)
  ·have E3:Hid (Pl.lv xs k s a v=T):=hide (by rw [HT.o,if_neg (by simpa using hk2)])
   go_wp2_with fail
   go_quiet (fail)
   go_wp2_with fail
   go_ret2
   exact ⟨g3,c3,rII E3.o HC.o,B4.o,O4.o,hn4,K4.o.any (au (Kept.refl 0 0 _) _)⟩
  ·have E3:Hid (0=T):=hide (by rw [HT.o,if_pos (by simpa using hk2)])
   go_wp2_with fail
   go_quiet (fail)
   go_wp2_with fail
   go_ret2
   exact ⟨g3,c3,rII E3.o HC.o,B4.o,O4.o,hn4,K4.o.any (au (Kept.refl 0 0 _) _)⟩
theorem Po (w:World) (lo b g:Nat) (c:Pl.Mc) (h:Bool) (k s a v T:Int) (hC:CAt w lo b g c h) (G:Pl.GM c) (hask:Pl.fQ k s a v=true) (HT:Hid (T=if k=2 then 0 else Pl.lv c.bx k s a v)) :
  Calls prog 134 #[.pointer (some ⟨b,14,none⟩),.agg #[iv k,iv s,iv a,iv v,iv 0]] w fun e w'=>∃g',e=.returned (.tuple #[iv T,iv (Pl.code k s a)])∧CAt w' lo b g' (c.acc k s a v) h∧Since w b (b+1) g w' g':=by
 obtain ⟨cu,hB,hO⟩:=hC
 refine (Tz w b lo g c.bx c.bl c.bm cu k s a v hB G.bx G.ok hO.l hO.lo' hO.ne G.bm hask T HT).mono ?_
 rintro e w' ⟨g3,c3,he,hb,ho,hn,hk⟩
 exact ⟨g3,he,⟨c3,hb,⟨ho,hO.lo',hn⟩⟩,hk⟩
theorem gu (f:Pl.Ft) (w:World):Calls prog 45 #[.agg (ftA f)] w fun e w'=>e=.returned (.bool (f.v != 0))∧Kept 0 0 w w':=by
 go_enter func45,ntmps45
 go_wp2
 go_ret
 exact ⟨rfl,kept_alloc _ _⟩
theorem Qi {w:World} {q:Nat} {k s a v c:Int} {ty:TypeId} (h:Blk w q #[iv k,iv s,iv a,iv v,iv c] ty):w.cell? ⟨q,0,none⟩=some (iv k)∧w.cell? ⟨q,1,none⟩=some (iv s)∧w.cell? ⟨q,2,none⟩=some (iv a)∧w.cell? ⟨q,3,none⟩=some (iv v)∧w.cell? ⟨q,4,none⟩=some (iv c):=
 ⟨h.cell (i:=0) rfl,h.cell (i:=1) rfl,h.cell (i:=2) rfl,h.cell (i:=3) rfl,h.cell (i:=4) rfl⟩
theorem lL (w:World) (lo b g:Nat) (c:Pl.Mc) (h:Bool) (k s a v:Int) (hC:CAt w lo b g c h) (G:Pl.GM c) (hask:Pl.fQ k s a v=true) (V:Int) (HV:Hid (V=if k=2 then 0 else Pl.lv c.bx k s a v)) (F:Pl.Ft) (HF:Hid (F=Pl.Mc.fA Pl.aH k s a)) :
  Calls prog 96 #[.pointer (some ⟨b,0,none⟩),.agg #[iv k,iv s,iv a,iv v,iv 0]] w fun e w'=>∃g',e=.returned (.tuple #[iv V,.agg (ftC F)])∧CAt w' lo b g' (c.acc k s a v) h∧Since w b (b+1) g w' g':=by
 obtain ⟨l0,l1,l2,l3,l4⟩:=hC.lt
 have HC:=hide ((hC.alloc (.cells #[iv k,iv s,iv a,iv v,iv 0] 119)).alloc (.cells (ftC Pl.aH) 49))
 have A0:=hide ((Blk.new w #[iv k,iv s,iv a,iv v,iv 0] 119).alloc (.cells (ftC Pl.aH) 49))
 have F0:=Blk.new (w.alloc (.cells #[iv k,iv s,iv a,iv v,iv 0] 119)) (ftC Pl.aH) 49
 simp only [World.size_alloc] at F0
 replace F0:=hide F0
 have K0:=hide (ah (kept_alloc w (.cells #[iv k,iv s,iv a,iv v,iv 0] 119)) (.cells (ftC Pl.aH) 49))
 have HG:=hide G
 have Ql:=hide hask
 clear hC G hask
 obtain ⟨X,hX⟩:∃X:World,(w.alloc (.cells #[iv k,iv s,iv a,iv v,iv 0] 119)).alloc (.cells (ftC Pl.aH) 49)=X:=⟨_,rfl⟩
 rw [hX] at HC A0 F0 K0
 obtain ⟨a0,a1,a2,a3,a4⟩:=Qi A0.o
 have hX':(w.alloc (.cells #[iv k,iv s,iv a,iv v,iv 0] 119)).alloc (.cells ftZ 49)=X:=hX
 clear hX
 go_enter func96,ntmps96
 go_wp2_with fail
 clear hX'
 go_region_held3 (fun w'=>w'.cell? ⟨w.heap.size,0,none⟩=some (iv k)∧w'.cell? ⟨w.heap.size,1,none⟩=some (iv s)∧w'.cell? ⟨w.heap.size,2,none⟩=some (iv a)∧w'.cell? ⟨w.heap.size,3,none⟩=some (iv v)∧w'.cell? ⟨w.heap.size,4,none⟩=some (iv 0)) (first|exact Qi A3.o|exact Qi (show Blk _ _ _ _ from A0.o)|go_keep)
  (first|(go_at_call 134;refine (Po _ lo b g c h k s a v V HC.o.drew HG.o Ql.o HV).mono ?_;rintro e w3 ⟨g',rfl,hc3,hs3⟩;have C3:=hide hc3;have S3:=hide (((Since.refl w b (b+1) g).any (ae K0.o)).trans hs3);have A3:=hide (hs3.blk (show Blk X.drew _ _ _ from A0.o) (by omega) (by omega));have F3:=hide (hs3.blk (show Blk X.drew _ _ _ from F0.o) (by omega) (by omega));have n3:=hs3.ne (b:=w.heap.size+1) F0.o.lt (by omega);clear hc3 hs3))
 clear a0 a1 a2 a3 a4
 obtain ⟨a0,a1,a2,a3,a4⟩:=Qi A3.o
 have p:=(show Blk w3 (w.heap.size+1) ftZ 49 from F3.o).all
 have z:=F3.o.fz
 obtain ⟨C,hCd⟩:∃C,C=Pl.code k s a:=⟨_,rfl⟩
 rw [←hCd]
 unfold Pl.Mc.fA at HF
 rw [←hCd] at HF
 have V0:Hid (¬C=0→V=0):=hide (by
  intro hn
  rw [HV.o]
  split
  ·rfl
  ·rename_i h2
   obtain ⟨_,_,_,_,h5⟩:=Pl.qO Ql.o
   rw [show v=0 by omega]
   unfold Pl.lv
   rw [if_neg (by rw [←hCd];exact fun q=>hn q.1)])
 clear hCd HV
 cases h0:(C==0)
 ·have EV:=hide (V0.o (by simpa using h0))
  have e1:(C != 0)=true:=by simpa using h0
  rw [e1] at HF
  cases h2:(C==2)
  ·rw [h2] at HF
   have q:F=⟨2,0,a,0,k==2⟩:=HF.o
   subst q
   clear HF e1
   go_wp2_with fail
   go_region
   go_wp2_with fail
   have K5:=ae (((((ak w3 (w.heap.size+1) 0 (iv 2)).one 1 (iv 0)).one 2 (iv a)).one 3 (iv 0)).one 4 (.bool (k==2)))
   refine bodyPost_ret (v:=.tuple #[iv 0,.agg #[iv 2,iv 0,iv a,iv 0,.bool (k==2)]]) ?_ rfl ⟨g',by rw [EV.o];rfl,C3.o.kept K5 (by omega) (by omega),S3.o.mine K5 (by omega)⟩
   rw [gV rfl];go_simp
  ·rw [h2] at HF
   have q:F=⟨3,0,a,0,k==2⟩:=HF.o
   subst q
   clear HF e1
   go_wp2_with fail
   go_region
   go_wp2_with fail
   have K5:=ae (((((ak w3 (w.heap.size+1) 0 (iv 3)).one 1 (iv 0)).one 2 (iv a)).one 3 (iv 0)).one 4 (.bool (k==2)))
   refine bodyPost_ret (v:=.tuple #[iv 0,.agg #[iv 3,iv 0,iv a,iv 0,.bool (k==2)]]) ?_ rfl ⟨g',by rw [EV.o];rfl,C3.o.kept K5 (by omega) (by omega),S3.o.mine K5 (by omega)⟩
   rw [gV rfl];go_simp
 ·have e1:(C != 0)=false:=by simpa using h0
  rw [e1] at HF
  have q:F=Pl.aH:=HF.o
  subst q
  clear HF e1
  go_wp2_with fail
  have K5:=((((ak w3 (w.heap.size+1) 0 (iv 0)).one 1 (iv 0)).one 2 (iv 0)).one 3 (iv 0)).one 4 (.bool false)
  refine bodyPost_ret (v:=.tuple #[iv V,.agg ftZ]) ?_ rfl ⟨g',rfl,C3.o.kept K5 (by omega) (by omega),S3.o.mine K5 (by omega)⟩
  rw [gV rfl];go_simp
theorem Au (k e:Int) (w:World):Calls prog 200 #[.agg #[iv 0,iv k,iv e]] w fun r w'=>r=.returned (.iface 202 (.agg #[iv k]))∧Kept 0 0 w w':=by
 go_enter func200,ntmps200
 go_wp2
 go_ret
 exact ⟨rfl,kept_alloc w _⟩
theorem Ar (k e:Int) (w:World):Calls prog 200 #[.agg #[iv 1,iv k,iv e]] w fun r w'=>r=.returned (.iface 203 (.agg #[iv k]))∧Kept 0 0 w w':=by
 go_enter func200,ntmps200
 go_wp2
 go_ret
 exact ⟨rfl,kept_alloc w _⟩
theorem Aq (k e:Int) (w:World):Calls prog 200 #[.agg #[iv 2,iv k,iv e]] w fun r w'=>r=.returned (.iface 212 (.agg #[iv k]))∧Kept 0 0 w w':=by
 go_enter func200,ntmps200
 go_wp2
 go_ret
 exact ⟨rfl,kept_alloc w _⟩
theorem Ap (k e:Int) (w:World):Calls prog 200 #[.agg #[iv 3,iv k,iv e]] w fun r w'=>r=.returned (.iface 213 (.agg #[iv k]))∧Kept 0 0 w w':=by
 go_enter func200,ntmps200
 go_wp2
 go_ret
 exact ⟨rfl,kept_alloc w _⟩
theorem Am (k e:Int) (w:World):Calls prog 200 #[.agg #[iv 4,iv k,iv e]] w fun r w'=>r=.returned (.iface 214 (.agg #[iv k]))∧Kept 0 0 w w':=by
 go_enter func200,ntmps200
 go_wp2
 go_ret
 exact ⟨rfl,kept_alloc w _⟩
theorem Ak (k e:Int) (w:World):Calls prog 200 #[.agg #[iv 5,iv k,iv e]] w fun r w'=>r=.returned (.iface 216 (.agg #[iv k,iv e]))∧Kept 0 0 w w':=by
 go_enter func200,ntmps200
 go_wp2
 go_ret
 exact ⟨rfl,kept_alloc w _⟩
theorem Aj (k e:Int) (w:World):Calls prog 200 #[.agg #[iv 6,iv k,iv e]] w fun r w'=>r=.returned (.iface 217 (.agg #[iv e]))∧Kept 0 0 w w':=by
 go_enter func200,ntmps200
 go_wp2
 go_ret
 exact ⟨rfl,kept_alloc w _⟩
theorem Ai (k e:Int) (w:World):Calls prog 200 #[.agg #[iv 7,iv k,iv e]] w fun r w'=>r=.returned (.iface 205 (.agg #[iv e]))∧Kept 0 0 w w':=by
 go_enter func200,ntmps200
 go_wp2
 go_ret
 exact ⟨rfl,kept_alloc w _⟩
theorem CP (m k e:Int) (w:World) (h:Pl.dB m=false):Calls prog 200 #[.agg #[iv m,iv k,iv e]] w fun r w'=>r=.returned .nilIface∧Kept 0 0 w w':=by
 obtain ⟨n0,n1,n2,n3,n4,n5,n6,n7⟩:¬m=0∧¬m=1∧¬m=2∧¬m=3∧¬m=4∧¬m=5∧¬m=6∧¬m=7:=by
  simp [Pl.dB,Pl.within] at h
  omega
 go_enter func200,ntmps200
 go_wp2
 go_ret
 exact ⟨rfl,kept_alloc w _⟩
theorem Iw (k e:Int) (w:World):Calls prog 283 #[.agg #[iv k]] w fun r w'=>r=.returned (.agg #[iv 0,iv k,iv 0])∧Kept 0 0 w w':=by
 go_enter func283,ntmps283
 go_wp2
 refine bodyPost_ret (v:=.agg #[iv 0,iv k,iv 0]) ?_ rfl ⟨rfl,ah (kept_alloc w _) _⟩
 rw [aj rfl];go_simp
theorem Iu (k e:Int) (w:World):Calls prog 284 #[.agg #[iv k]] w fun r w'=>r=.returned (.agg #[iv 1,iv k,iv 0])∧Kept 0 0 w w':=by
 go_enter func284,ntmps284
 go_wp2
 refine bodyPost_ret (v:=.agg #[iv 1,iv k,iv 0]) ?_ rfl ⟨rfl,ah (kept_alloc w _) _⟩
 rw [aj rfl];go_simp
theorem Ir (k e:Int) (w:World):Calls prog 286 #[.agg #[iv k]] w fun r w'=>r=.returned (.agg #[iv 2,iv k,iv 0])∧Kept 0 0 w w':=by
 go_enter func286,ntmps286
 go_wp2
 refine bodyPost_ret (v:=.agg #[iv 2,iv k,iv 0]) ?_ rfl ⟨rfl,ah (kept_alloc w _) _⟩
 rw [aj rfl];go_simp
theorem Iq (k e:Int) (w:World):Calls prog 287 #[.agg #[iv k]] w fun r w'=>r=.returned (.agg #[iv 3,iv k,iv 0])∧Kept 0 0 w w':=by
 go_enter func287,ntmps287
 go_wp2
 refine bodyPost_ret (v:=.agg #[iv 3,iv k,iv 0]) ?_ rfl ⟨rfl,ah (kept_alloc w _) _⟩
 rw [aj rfl];go_simp
theorem Ip (k e:Int) (w:World):Calls prog 288 #[.agg #[iv k]] w fun r w'=>r=.returned (.agg #[iv 4,iv k,iv 0])∧Kept 0 0 w w':=by
 go_enter func288,ntmps288
 go_wp2
 refine bodyPost_ret (v:=.agg #[iv 4,iv k,iv 0]) ?_ rfl ⟨rfl,ah (kept_alloc w _) _⟩
 rw [aj rfl];go_simp
theorem Io (k e:Int) (w:World):Calls prog 289 #[.agg #[iv k,iv e]] w fun r w'=>r=.returned (.agg #[iv 5,iv k,iv e])∧Kept 0 0 w w':=by
 go_enter func289,ntmps289
 go_wp2
 refine bodyPost_ret (v:=.agg #[iv 5,iv k,iv e]) ?_ rfl ⟨rfl,ah (kept_alloc w _) _⟩
 rw [aj rfl];go_simp
theorem Il (k e:Int) (w:World):Calls prog 290 #[.agg #[iv e]] w fun r w'=>r=.returned (.agg #[iv 6,iv 0,iv e])∧Kept 0 0 w w':=by
 go_enter func290,ntmps290
 go_wp2
 refine bodyPost_ret (v:=.agg #[iv 6,iv 0,iv e]) ?_ rfl ⟨rfl,ah (kept_alloc w _) _⟩
 rw [aj rfl];go_simp
theorem Ik (k e:Int) (w:World):Calls prog 285 #[.agg #[iv e]] w fun r w'=>r=.returned (.agg #[iv 7,iv 0,iv e])∧Kept 0 0 w w':=by
 go_enter func285,ntmps285
 go_wp2
 refine bodyPost_ret (v:=.agg #[iv 7,iv 0,iv e]) ?_ rfl ⟨rfl,ah (kept_alloc w _) _⟩
 rw [aj rfl];go_simp
theorem fn0 (a:Array Value) (w:World):(callFunc 283 a).run prog w=.ok (.enter 283 a) w:=by kernel_rfl
theorem Vu (v:Value) (w:World):(method 358 202 v "loop.example/g00389/impl.operand").run prog w=.ok (283,v) w:=by kernel_rfl
theorem fn1 (a:Array Value) (w:World):(callFunc 284 a).run prog w=.ok (.enter 284 a) w:=by kernel_rfl
theorem Vt (v:Value) (w:World):(method 358 203 v "loop.example/g00389/impl.operand").run prog w=.ok (284,v) w:=by kernel_rfl
theorem fn2 (a:Array Value) (w:World):(callFunc 286 a).run prog w=.ok (.enter 286 a) w:=by kernel_rfl
theorem Vs (v:Value) (w:World):(method 358 212 v "loop.example/g00389/impl.operand").run prog w=.ok (286,v) w:=by kernel_rfl
theorem fn3 (a:Array Value) (w:World):(callFunc 287 a).run prog w=.ok (.enter 287 a) w:=by kernel_rfl
theorem Vr (v:Value) (w:World):(method 358 213 v "loop.example/g00389/impl.operand").run prog w=.ok (287,v) w:=by kernel_rfl
theorem fn4 (a:Array Value) (w:World):(callFunc 288 a).run prog w=.ok (.enter 288 a) w:=by kernel_rfl
theorem Vq (v:Value) (w:World):(method 358 214 v "loop.example/g00389/impl.operand").run prog w=.ok (288,v) w:=by kernel_rfl
theorem fn5 (a:Array Value) (w:World):(callFunc 289 a).run prog w=.ok (.enter 289 a) w:=by kernel_rfl
theorem Vp (v:Value) (w:World):(method 358 216 v "loop.example/g00389/impl.operand").run prog w=.ok (289,v) w:=by kernel_rfl
theorem fn6 (a:Array Value) (w:World):(callFunc 290 a).run prog w=.ok (.enter 290 a) w:=by kernel_rfl
theorem Vo (v:Value) (w:World):(method 358 217 v "loop.example/g00389/impl.operand").run prog w=.ok (290,v) w:=by kernel_rfl
theorem fn7 (a:Array Value) (w:World):(callFunc 285 a).run prog w=.ok (.enter 285 a) w:=by kernel_rfl
theorem Vm (v:Value) (w:World):(method 358 205 v "loop.example/g00389/impl.operand").run prog w=.ok (285,v) w:=by kernel_rfl
theorem XE (v:Value) (w:World):(Instr.typeAssert (.iface 202 v) 174 212 true).run prog w=.ok (.tuple #[.agg #[iv 0],.bool false]) w:=by kernel_rfl
theorem XD (v:Value) (w:World):(Instr.typeAssert (.iface 202 v) 174 213 true).run prog w=.ok (.tuple #[.agg #[iv 0],.bool false]) w:=by kernel_rfl
theorem XC (v:Value) (w:World):(Instr.typeAssert (.iface 202 v) 174 214 true).run prog w=.ok (.tuple #[.agg #[iv 0],.bool false]) w:=by kernel_rfl
theorem UU (v:Value) (w:World):(Instr.typeAssert (.iface 202 v) 174 216 true).run prog w=.ok (.tuple #[.agg #[iv 0,iv 0],.bool false]) w:=by kernel_rfl
theorem UT (v:Value) (w:World):(Instr.typeAssert (.iface 202 v) 174 217 true).run prog w=.ok (.tuple #[.agg #[iv 0],.bool false]) w:=by kernel_rfl
theorem XB (v:Value) (w:World):(Instr.typeAssert (.iface 202 v) 174 205 true).run prog w=.ok (.tuple #[.agg #[iv 0],.bool false]) w:=by kernel_rfl
theorem XA (v:Value) (w:World):(Instr.typeAssert (.iface 203 v) 174 212 true).run prog w=.ok (.tuple #[.agg #[iv 0],.bool false]) w:=by kernel_rfl
theorem Xz (v:Value) (w:World):(Instr.typeAssert (.iface 203 v) 174 213 true).run prog w=.ok (.tuple #[.agg #[iv 0],.bool false]) w:=by kernel_rfl
theorem Xy (v:Value) (w:World):(Instr.typeAssert (.iface 203 v) 174 214 true).run prog w=.ok (.tuple #[.agg #[iv 0],.bool false]) w:=by kernel_rfl
theorem UR (v:Value) (w:World):(Instr.typeAssert (.iface 203 v) 174 216 true).run prog w=.ok (.tuple #[.agg #[iv 0,iv 0],.bool false]) w:=by kernel_rfl
theorem UQ (v:Value) (w:World):(Instr.typeAssert (.iface 203 v) 174 217 true).run prog w=.ok (.tuple #[.agg #[iv 0],.bool false]) w:=by kernel_rfl
theorem Xx (v:Value) (w:World):(Instr.typeAssert (.iface 203 v) 174 205 true).run prog w=.ok (.tuple #[.agg #[iv 0],.bool false]) w:=by kernel_rfl
theorem Xw (v:Value) (w:World):(Instr.typeAssert (.iface 212 v) 174 212 true).run prog w=.ok (.tuple #[v,.bool true]) w:=by kernel_rfl
theorem Xv (v:Value) (w:World):(Instr.typeAssert (.iface 212 v) 174 213 true).run prog w=.ok (.tuple #[.agg #[iv 0],.bool false]) w:=by kernel_rfl
theorem Xu (v:Value) (w:World):(Instr.typeAssert (.iface 212 v) 174 214 true).run prog w=.ok (.tuple #[.agg #[iv 0],.bool false]) w:=by kernel_rfl
theorem UO (v:Value) (w:World):(Instr.typeAssert (.iface 212 v) 174 216 true).run prog w=.ok (.tuple #[.agg #[iv 0,iv 0],.bool false]) w:=by kernel_rfl
theorem UN (v:Value) (w:World):(Instr.typeAssert (.iface 212 v) 174 217 true).run prog w=.ok (.tuple #[.agg #[iv 0],.bool false]) w:=by kernel_rfl
theorem Xt (v:Value) (w:World):(Instr.typeAssert (.iface 212 v) 174 205 true).run prog w=.ok (.tuple #[.agg #[iv 0],.bool false]) w:=by kernel_rfl
theorem Xr (v:Value) (w:World):(Instr.typeAssert (.iface 213 v) 174 212 true).run prog w=.ok (.tuple #[.agg #[iv 0],.bool false]) w:=by kernel_rfl
theorem Xq (v:Value) (w:World):(Instr.typeAssert (.iface 213 v) 174 213 true).run prog w=.ok (.tuple #[v,.bool true]) w:=by kernel_rfl
theorem Xp (v:Value) (w:World):(Instr.typeAssert (.iface 213 v) 174 214 true).run prog w=.ok (.tuple #[.agg #[iv 0],.bool false]) w:=by kernel_rfl
theorem UM (v:Value) (w:World):(Instr.typeAssert (.iface 213 v) 174 216 true).run prog w=.ok (.tuple #[.agg #[iv 0,iv 0],.bool false]) w:=by kernel_rfl
theorem UL (v:Value) (w:World):(Instr.typeAssert (.iface 213 v) 174 217 true).run prog w=.ok (.tuple #[.agg #[iv 0],.bool false]) w:=by kernel_rfl
theorem Xo (v:Value) (w:World):(Instr.typeAssert (.iface 213 v) 174 205 true).run prog w=.ok (.tuple #[.agg #[iv 0],.bool false]) w:=by kernel_rfl
theorem Xn (v:Value) (w:World):(Instr.typeAssert (.iface 214 v) 174 212 true).run prog w=.ok (.tuple #[.agg #[iv 0],.bool false]) w:=by kernel_rfl
theorem Xm (v:Value) (w:World):(Instr.typeAssert (.iface 214 v) 174 213 true).run prog w=.ok (.tuple #[.agg #[iv 0],.bool false]) w:=by kernel_rfl
theorem Xl (v:Value) (w:World):(Instr.typeAssert (.iface 214 v) 174 214 true).run prog w=.ok (.tuple #[v,.bool true]) w:=by kernel_rfl
theorem UK (v:Value) (w:World):(Instr.typeAssert (.iface 214 v) 174 216 true).run prog w=.ok (.tuple #[.agg #[iv 0,iv 0],.bool false]) w:=by kernel_rfl
theorem UJ (v:Value) (w:World):(Instr.typeAssert (.iface 214 v) 174 217 true).run prog w=.ok (.tuple #[.agg #[iv 0],.bool false]) w:=by kernel_rfl
theorem Xk (v:Value) (w:World):(Instr.typeAssert (.iface 214 v) 174 205 true).run prog w=.ok (.tuple #[.agg #[iv 0],.bool false]) w:=by kernel_rfl
theorem Xj (v:Value) (w:World):(Instr.typeAssert (.iface 216 v) 174 212 true).run prog w=.ok (.tuple #[.agg #[iv 0],.bool false]) w:=by kernel_rfl
theorem Xi (v:Value) (w:World):(Instr.typeAssert (.iface 216 v) 174 213 true).run prog w=.ok (.tuple #[.agg #[iv 0],.bool false]) w:=by kernel_rfl
theorem Xh (v:Value) (w:World):(Instr.typeAssert (.iface 216 v) 174 214 true).run prog w=.ok (.tuple #[.agg #[iv 0],.bool false]) w:=by kernel_rfl
theorem UI (v:Value) (w:World):(Instr.typeAssert (.iface 216 v) 174 216 true).run prog w=.ok (.tuple #[v,.bool true]) w:=by kernel_rfl
theorem UH (v:Value) (w:World):(Instr.typeAssert (.iface 216 v) 174 217 true).run prog w=.ok (.tuple #[.agg #[iv 0],.bool false]) w:=by kernel_rfl
theorem Xg (v:Value) (w:World):(Instr.typeAssert (.iface 216 v) 174 205 true).run prog w=.ok (.tuple #[.agg #[iv 0],.bool false]) w:=by kernel_rfl
theorem Xf (v:Value) (w:World):(Instr.typeAssert (.iface 217 v) 174 212 true).run prog w=.ok (.tuple #[.agg #[iv 0],.bool false]) w:=by kernel_rfl
theorem Xe (v:Value) (w:World):(Instr.typeAssert (.iface 217 v) 174 213 true).run prog w=.ok (.tuple #[.agg #[iv 0],.bool false]) w:=by kernel_rfl
theorem Xd (v:Value) (w:World):(Instr.typeAssert (.iface 217 v) 174 214 true).run prog w=.ok (.tuple #[.agg #[iv 0],.bool false]) w:=by kernel_rfl
theorem UG (v:Value) (w:World):(Instr.typeAssert (.iface 217 v) 174 216 true).run prog w=.ok (.tuple #[.agg #[iv 0,iv 0],.bool false]) w:=by kernel_rfl
theorem UF (v:Value) (w:World):(Instr.typeAssert (.iface 217 v) 174 217 true).run prog w=.ok (.tuple #[v,.bool true]) w:=by kernel_rfl
theorem Xc (v:Value) (w:World):(Instr.typeAssert (.iface 217 v) 174 205 true).run prog w=.ok (.tuple #[.agg #[iv 0],.bool false]) w:=by kernel_rfl
theorem Xb (v:Value) (w:World):(Instr.typeAssert (.iface 205 v) 174 212 true).run prog w=.ok (.tuple #[.agg #[iv 0],.bool false]) w:=by kernel_rfl
theorem Xa (v:Value) (w:World):(Instr.typeAssert (.iface 205 v) 174 213 true).run prog w=.ok (.tuple #[.agg #[iv 0],.bool false]) w:=by kernel_rfl
theorem WZ (v:Value) (w:World):(Instr.typeAssert (.iface 205 v) 174 214 true).run prog w=.ok (.tuple #[.agg #[iv 0],.bool false]) w:=by kernel_rfl
theorem UE (v:Value) (w:World):(Instr.typeAssert (.iface 205 v) 174 216 true).run prog w=.ok (.tuple #[.agg #[iv 0,iv 0],.bool false]) w:=by kernel_rfl
theorem UD (v:Value) (w:World):(Instr.typeAssert (.iface 205 v) 174 217 true).run prog w=.ok (.tuple #[.agg #[iv 0],.bool false]) w:=by kernel_rfl
theorem WY (v:Value) (w:World):(Instr.typeAssert (.iface 205 v) 174 205 true).run prog w=.ok (.tuple #[v,.bool true]) w:=by kernel_rfl
theorem OH (v:Value) (w:World):Calls prog 219 #[.iface 202 v] w fun r w'=>r=.returned (.bool false)∧w'=w:=by
 have t5:=UU
 have t6:=UT
 have t7:=XB
 go_enter func219,ntmps219
 go_wp2
 go_ret
 exact ⟨rfl,rfl⟩
theorem OG (v:Value) (w:World):Calls prog 219 #[.iface 203 v] w fun r w'=>r=.returned (.bool false)∧w'=w:=by
 have t5:=UR
 have t6:=UQ
 have t7:=Xx
 go_enter func219,ntmps219
 go_wp2
 go_ret
 exact ⟨rfl,rfl⟩
theorem OE (v:Value) (w:World):Calls prog 219 #[.iface 212 v] w fun r w'=>r=.returned (.bool false)∧w'=w:=by
 have t5:=UO
 have t6:=UN
 have t7:=Xt
 go_enter func219,ntmps219
 go_wp2
 go_ret
 exact ⟨rfl,rfl⟩
theorem OD (v:Value) (w:World):Calls prog 219 #[.iface 213 v] w fun r w'=>r=.returned (.bool false)∧w'=w:=by
 have t5:=UM
 have t6:=UL
 have t7:=Xo
 go_enter func219,ntmps219
 go_wp2
 go_ret
 exact ⟨rfl,rfl⟩
theorem OC (v:Value) (w:World):Calls prog 219 #[.iface 214 v] w fun r w'=>r=.returned (.bool false)∧w'=w:=by
 have t5:=UK
 have t6:=UJ
 have t7:=Xk
 go_enter func219,ntmps219
 go_wp2
 go_ret
 exact ⟨rfl,rfl⟩
theorem OB (v:Value) (w:World):Calls prog 219 #[.iface 216 v] w fun r w'=>r=.returned (.bool true)∧w'=w:=by
 have t5:=UI
 have t6:=UH
 have t7:=Xg
 go_enter func219,ntmps219
 go_wp2
 go_ret
 exact ⟨rfl,rfl⟩
theorem Oz (v:Value) (w:World):Calls prog 219 #[.iface 217 v] w fun r w'=>r=.returned (.bool true)∧w'=w:=by
 have t5:=UG
 have t6:=UF
 have t7:=Xc
 go_enter func219,ntmps219
 go_wp2
 go_ret
 exact ⟨rfl,rfl⟩
theorem Oy (v:Value) (w:World):Calls prog 219 #[.iface 205 v] w fun r w'=>r=.returned (.bool true)∧w'=w:=by
 have t5:=UE
 have t6:=UD
 have t7:=WY
 go_enter func219,ntmps219
 go_wp2
 go_ret
 exact ⟨rfl,rfl⟩
def W64 (n:Int):Prop := -9223372036854775808≤n∧n≤9223372036854775807
set_option linter.unusedSimpArgs false
theorem iF (a:Addr) (fn:Fn) (m:Mode) (w:World):(store a (.func fn #[] #[]) m).run prog w=stored prog w a (.func fn #[] #[]) m:=run_store prog w a _ m rfl
theorem oM {B:Nat} {w wt:World} (h:Below B w.drew wt):Below B w wt:=⟨h.os,h.tape,h.output,h.size,h.block⟩
def Box (w:World) (b:Nat) (v s x f:Int) (t:Bool):Prop:=w.heap[b]? = some (.cells #[iv v,iv s,iv x,iv f,.bool t] 219)
theorem Box.later {w wt:World} {b:Nat} {v s x f:Int} {t:Bool} (h:Box w b v s x f t) (hb:Below w.heap.size w wt):Box wt b v s x f t:=by
 have lt:b<w.heap.size:=by
  unfold Box at h
  rcases Nat.lt_or_ge b w.heap.size with h'|h'
  ·exact h'
  ·rw [Array.getElem?_eq_none h'] at h;cases h
 exact (hb.block b lt).trans h
theorem Box.cells {w:World} {b:Nat} {v s x f:Int} {t:Bool} (h:Box w b v s x f t) :
  w.cell? ⟨b,0,none⟩=some (iv v)∧w.cell? ⟨b,1,none⟩=some (iv s)∧w.cell? ⟨b,2,none⟩=some (iv x)∧w.cell? ⟨b,3,none⟩=some (iv f)∧w.cell? ⟨b,4,none⟩=some (.bool t)∧
  w.frozen? ⟨b,0,none⟩=false∧w.frozen? ⟨b,1,none⟩=false∧w.frozen? ⟨b,2,none⟩=false∧w.frozen? ⟨b,3,none⟩=false∧w.frozen? ⟨b,4,none⟩=false:=by
 unfold Box at h
 refine ⟨?_,?_,?_,?_,?_,?_,?_,?_,?_,?_⟩<;>simp [World.cell?,World.frozen?,h]
theorem gK {fn:Func} {p:Tmp} (h:fn.results=#[.cell p 219]) (tmps:Array Value) {w:World} {b:Nat} {v s x f:Int} {t:Bool} (hp:tmps.getD p undef=.pointer (some ⟨b,0,none⟩)) (hB:Box w b v s x f t) :
  (results fn tmps).run prog w=.ok (.agg #[iv v,iv s,iv x,iv f,.bool t]) w:=
 results_cell_row h tmps w b _ _ _ _ hp hB (underlying219) rfl (by kernel_rfl)
theorem Box.set {w:World} {b:Nat} {v s x f v' s' x' f':Int} {t t':Bool} (h:Box w b v s x f t) :
  Box (((((w.setCell ⟨b,0,none⟩ (iv v')).setCell ⟨b,1,none⟩ (iv s')).setCell ⟨b,2,none⟩ (iv x')).setCell ⟨b,3,none⟩ (iv f')).setCell ⟨b,4,none⟩ (.bool t')) b v' s' x' f' t':=by
 unfold Box at h ⊢
 simp [World.setCell,Array.getElem?_modify,h]
theorem Box.XQ (w:World) (v s x f:Int) (t:Bool):Box (w.alloc (.cells #[iv v,iv s,iv x,iv f,.bool t] 219)) w.heap.size v s x f t:=heap_alloc_new w _
theorem Box.two {w:World} {b:Nat} {v s x f:Int} {t:Bool} (h:Box w b v s x f t) (o1 o2:Obj):Box ((w.alloc o1).alloc o2) b v s x f t:=
 h.later (((Below.refl _ w).alloc (Nat.le_refl _) o1).alloc (by simp) o2)
theorem Box.XH {w:World} {b:Nat} {v s x f:Int} {t t':Bool} (h:Box w b v s x f t):Box (w.setCell ⟨b,4,none⟩ (.bool t')) b v s x f t':=by
 unfold Box at h ⊢
 simp [World.setCell,Array.getElem?_modify,h]
theorem Below.oD {B:Nat} {a w:World} (h:Below B a w) {b:Nat} (hb:B≤b) (v0 v1 v2 v3 v4:Value) :
  Below B a (((((w.setCell ⟨b,0,none⟩ v0).setCell ⟨b,1,none⟩ v1).setCell ⟨b,2,none⟩ v2).setCell ⟨b,3,none⟩ v3).setCell ⟨b,4,none⟩ v4):=
 ((((h.setCell hb _).setCell hb _).setCell hb _).setCell hb _).setCell hb _
theorem Box.zo (w:World) (v s x f:Int) (t:Bool) (o1:Obj) (o2:Obj):Box (((w.alloc (.cells #[iv v,iv s,iv x,iv f,.bool t] 219)).alloc o1).alloc o2) w.heap.size v s x f t:=by
 unfold Box
 rw [Below.heap_alloc _ _ _ (by simp<;>omega),Below.heap_alloc _ _ _ (by simp)]
 exact heap_alloc_new w _
theorem Box.zl (w:World) (v s x f:Int) (t:Bool) (o1:Obj) (o2:Obj):Box (((w.alloc o1).alloc (.cells #[iv v,iv s,iv x,iv f,.bool t] 219)).alloc o2) (w.heap.size+1) v s x f t:=by
 unfold Box
 rw [Below.heap_alloc _ _ _ (by simp)]
 exact heap_alloc2_new w _ _
theorem rA {a b c d a' b' c' d':Int} {t t':Bool} (ha:a=a') (hb:b=b') (hc:c=c') (hd:d=d') (ht:t=t'):Ending.returned (.agg #[iv a,iv b,iv c,iv d,.bool t])=.returned (.agg #[iv a',iv b',iv c',iv d',.bool t']):=by rw [ha,hb,hc,hd,ht]
theorem aU {fn:Func} {p:Tmp} {ty:TypeId} (h:fn.results=#[.cell p ty]) (tmps:Array Value) (P:Program) (w:World) :
  (results fn tmps).run P w=((asAddr (tmps.getD p undef)).run P w).andThen fun a w₁=>(loadVar ty a).run P w₁:=by
 simp only [results,h]
 simp [Sem.run_bind,Result.andThen]
theorem Pl.Di {a q:Int} (h0:0≤a) (h1:a<131072) (h2:a%2=0) (q0:0≤q) (q1:q≤1):bits .or .i64 a q=a+q:=
 bits_join .i64 62 (by decide) ig 1 a q (by omega) (by omega) (by omega) (by omega) (by omega) (by omega)
theorem lowest (v s x f:Int) (t:Bool) (w:World) :
  Calls prog 267 #[.agg #[iv v,iv s,iv x,iv f,.bool t]] w fun e w'=>e=.returned (iv (v%2))∧∃o,w'=w.alloc o:=by
 have hA:=Pl.and1 v
 go_enter func267,ntmps267
 go_wp2
 go_ret
 exact ⟨rfl,_,rfl⟩
theorem bf (v s x f:Int) (t:Bool) (w:World) :
  Calls prog 265 #[.agg #[iv v,iv s,iv x,iv f,.bool t]] w fun e w'=>e=.returned (.agg #[iv v,iv s,iv f,iv f,.bool t])∧∃o1 o2,w'=(w.alloc o1).alloc o2:=by
 go_enter func265,ntmps265
 go_wp2
 refine bodyPost_ret (v:=.agg #[iv v,iv s,iv f,iv f,.bool t]) ?_ rfl ⟨rfl,_,_,rfl⟩
 rw [aU rfl];go_simp
theorem fP (v x f:Int) (t:Bool) (w:World) (h0:0≤v) (h1:v<256) :
  Calls prog 255 #[.agg #[iv v,iv 8,iv x,iv f,.bool t]] w fun e w'=>e=.returned (iv (Pl.hi 1 v))∧∃o,w'=w.alloc o:=by
 have E:Hid (v/128=Pl.hi 1 v):=hide (by simp [Pl.hi,Pl.top];omega)
 go_enter func255,ntmps255
 go_wp2
 go_ret
 exact ⟨rI E.o,_,rfl⟩
theorem qw (v x f i:Int) (t:Bool) (w:World) (h0:0≤v) (h1:v<256) (i0:0≤i) (i1:i≤1) :
  Calls prog 264 #[.agg #[iv v,iv 8,iv x,iv f,.bool t],iv i] w fun e w'=>e=.returned (.agg #[iv (v*2%256+i),iv 8,iv x,iv (Pl.hi 1 v),.bool t])∧∃o1 o2 o3,w'=(((w.alloc o1).alloc o2).alloc o3).drew:=by
 have hO:=Pl.Di (a:=v*2) (q:=i) (by omega) (by omega) (by omega) i0 i1
 have hA:=Pl.dK (v*2+i)
 have hE:(v*2+i)%256=v*2%256+i:=by omega
 go_enter func264,ntmps264
 go_wp2_with fail
 refine (fP v x f t _ h0 h1).mono ?_
 rintro e w' ⟨rfl,o,rfl⟩
 go_wp2_with fail
 go_region
 go_wp2_with fail
 refine bodyPost_ret (v:=.agg #[iv (v*2%256+i),iv 8,iv x,iv (Pl.hi 1 v),.bool t]) ?_ rfl ⟨rfl,_,_,_,rfl⟩
 rw [aU rfl];go_simp
theorem kP (v x f i:Int) (t:Bool) (w:World) (h0:0≤v) (h1:v<256) (i0:0≤i) (i1:i≤1) :
  Calls prog 266 #[.agg #[iv v,iv 8,iv x,iv f,.bool t],iv i] w fun e w'=>e=.returned (.agg #[iv (v/2+i*128),iv 8,iv x,iv (v%2),.bool t])∧∃o1 o2 o3,w'=(((w.alloc o1).alloc o2).alloc o3).drew:=by
 have hO:=Pl.pM (a:=v/2) (q:=i) (by omega) (by omega) i0 i1
 go_enter func266,ntmps266
 go_wp2_with fail
 refine (lowest v 8 x f t _).mono ?_
 rintro e w' ⟨rfl,o,rfl⟩
 go_wp2_with fail
 go_region
 go_wp2_with fail
 refine bodyPost_ret (v:=.agg #[iv (v/2+i*128),iv 8,iv x,iv (v%2),.bool t]) ?_ rfl ⟨rfl,_,_,_,rfl⟩
 rw [aU rfl];go_simp
theorem fO (v x f:Int) (t:Bool) (w:World) (h0:0≤v) (h1:v<65536) :
  Calls prog 255 #[.agg #[iv v,iv 16,iv x,iv f,.bool t]] w fun e w'=>e=.returned (iv (Pl.hi 2 v))∧∃o,w'=w.alloc o:=by
 have E:Hid (v/32768=Pl.hi 2 v):=hide (by simp [Pl.hi,Pl.top];omega)
 go_enter func255,ntmps255
 go_wp2
 go_ret
 exact ⟨rI E.o,_,rfl⟩
theorem qp (v x f i:Int) (t:Bool) (w:World) (h0:0≤v) (h1:v<65536) (i0:0≤i) (i1:i≤1) :
  Calls prog 264 #[.agg #[iv v,iv 16,iv x,iv f,.bool t],iv i] w fun e w'=>e=.returned (.agg #[iv (v*2%65536+i),iv 16,iv x,iv (Pl.hi 2 v),.bool t])∧∃o1 o2 o3,w'=(((w.alloc o1).alloc o2).alloc o3).drew:=by
 have hO:=Pl.Di (a:=v*2) (q:=i) (by omega) (by omega) (by omega) i0 i1
 have hA:=Pl.fU (v*2+i)
 have hE:(v*2+i)%65536=v*2%65536+i:=by omega
 go_enter func264,ntmps264
 go_wp2_with fail
 refine (fO v x f t _ h0 h1).mono ?_
 rintro e w' ⟨rfl,o,rfl⟩
 go_wp2_with fail
 go_region
 go_wp2_with fail
 refine bodyPost_ret (v:=.agg #[iv (v*2%65536+i),iv 16,iv x,iv (Pl.hi 2 v),.bool t]) ?_ rfl ⟨rfl,_,_,_,rfl⟩
 rw [aU rfl];go_simp
theorem kN (v x f i:Int) (t:Bool) (w:World) (h0:0≤v) (h1:v<65536) (i0:0≤i) (i1:i≤1) :
  Calls prog 266 #[.agg #[iv v,iv 16,iv x,iv f,.bool t],iv i] w fun e w'=>e=.returned (.agg #[iv (v/2+i*32768),iv 16,iv x,iv (v%2),.bool t])∧∃o1 o2 o3,w'=(((w.alloc o1).alloc o2).alloc o3).drew:=by
 have hO:=Pl.pK (a:=v/2) (q:=i) (by omega) (by omega) i0 i1
 go_enter func266,ntmps266
 go_wp2_with fail
 refine (lowest v 16 x f t _).mono ?_
 rintro e w' ⟨rfl,o,rfl⟩
 go_wp2_with fail
 go_region
 go_wp2_with fail
 refine bodyPost_ret (v:=.agg #[iv (v/2+i*32768),iv 16,iv x,iv (v%2),.bool t]) ?_ rfl ⟨rfl,_,_,_,rfl⟩
 rw [aU rfl];go_simp
set_option linter.unusedSimpArgs false
theorem zM (b:Bool) (f:Int) (w:World) :
  Calls prog 133 #[.bool b,iv f] w fun e w'=>e=.returned (iv (Pl.fl b f))∧w'=w:=by
 cases b
 all_goals
  go_enter func133,ntmps133
  go_wp2
  go_ret
  exact ⟨rfl,rfl⟩
theorem uq (s:Int) (w:World) (s0:0≤s) (s1:s≤2) :
  Calls prog 226 #[iv s] w fun e w'=>e=.returned (iv (8*s))∧w'=w:=by
 go_enter func226,ntmps226
 go_wp2
 go_ret
 exact ⟨rI (by omega),rfl⟩
theorem uF (k:Int) (w:World) :
  Calls prog 246 #[iv k] w fun e w'=>e=.returned (.bool (Pl.kin k))∧w'=w:=by
 by_cases h0:0≤k
 all_goals
  by_cases h1:k≤7
  all_goals
   go_enter func246,ntmps246
   go_wp2
   go_ret
   exact ⟨rB (by simp [Pl.kin];omega),rfl⟩
theorem rF (f:Int) (w:World) :
  Calls prog 86 #[iv f] w fun e w'=>e=.returned (.bool (Pl.flags f))∧w'=w:=by
 by_cases h0:0≤f
 all_goals
  by_cases h1:f≤31
  all_goals
   go_enter func86,ntmps86
   go_wp2
   go_ret
   exact ⟨rB (by simp [Pl.flags];omega),rfl⟩
theorem Pl.five {x f h:Int} {t z:Bool} (hx:x=0∨x=1) (hf:f=0∨f=1) (hh:h=0∨h=1) :
  bits .or .i64 (bits .or .i64 (bits .or .i64 (bits .or .i64 (Pl.fl (f==1) 1) (Pl.fl t 2)) (Pl.fl z 4)) (Pl.fl (h==1) 8)) (Pl.fl (x==1) 16)=f+Pl.fl t 2+(Pl.fl z 4+Pl.fl (h==1) 8)+16*x:=by
 rcases hx with rfl|rfl<;>rcases hf with rfl|rfl<;>rcases hh with rfl|rfl<;>cases t<;>cases z<;>decide
theorem Pl.JO (s v:Int):(Pl.hi s v==1)=decide (Pl.top s/2≤v):=by
 unfold Pl.hi;split
 ·rename_i h;simp [h]
 ·rename_i h;simp [h]
theorem Tf (v x f:Int) (t:Bool) (w:World) (h0:0≤v) (h1:v<256) (x0:0≤x) (x1:x≤1) (f0:0≤f) (f1:f≤1) :
  Calls prog 230 #[.agg #[iv v,iv 8,iv x,iv f,.bool t]] w fun e w'=>e=.returned (iv (f+Pl.fl t 2+Pl.zn 1 v+16*x))∧∃o1 o2,w'=(w.alloc o1).alloc o2:=by
 go_enter func230,ntmps230
 go_wp2_with (first|(go_at_call 133;refine (zM _ _ _).mono ?_;rintro e w' ⟨rfl,rfl⟩)|(go_at_call 255;refine (fP _ _ _ _ _ h0 h1).mono ?_;rintro e w' ⟨rfl,o,rfl⟩))
 go_ret
 obtain ⟨b0,b1⟩:=Pl.dS 1 v
 refine ⟨rI ?_,_,_,rfl⟩
 show bits .or .i64 _ _=_
 rw [Pl.five (by omega) (by omega) (by omega),Pl.JO];rfl
theorem Td (v x f:Int) (t:Bool) (w:World) (h0:0≤v) (h1:v<65536) (x0:0≤x) (x1:x≤1) (f0:0≤f) (f1:f≤1) :
  Calls prog 230 #[.agg #[iv v,iv 16,iv x,iv f,.bool t]] w fun e w'=>e=.returned (iv (f+Pl.fl t 2+Pl.zn 2 v+16*x))∧∃o1 o2,w'=(w.alloc o1).alloc o2:=by
 go_enter func230,ntmps230
 go_wp2_with (first|(go_at_call 133;refine (zM _ _ _).mono ?_;rintro e w' ⟨rfl,rfl⟩)|(go_at_call 255;refine (fO _ _ _ _ _ h0 h1).mono ?_;rintro e w' ⟨rfl,o,rfl⟩))
 go_ret
 obtain ⟨b0,b1⟩:=Pl.dS 2 v
 refine ⟨rI ?_,_,_,rfl⟩
 show bits .or .i64 _ _=_
 rw [Pl.five (by omega) (by omega) (by omega),Pl.JO];rfl
theorem Tc (s v x f W:Int) (t:Bool) (w:World) (h:Pl.Fit s (v,x)) (hW:W=8*s) (f0:0≤f) (f1:f≤1) :
  Calls prog 230 #[.agg #[iv v,iv W,iv x,iv f,.bool t]] w fun e w'=>e=.returned (iv (f+Pl.fl t 2+Pl.zn s v+16*x))∧∃o1 o2,w'=(w.alloc o1).alloc o2:=by
 obtain ⟨hs,v0,v1,x0,x1⟩:=h
 simp only at v0 v1 x0 x1
 subst hW
 rcases Pl.nV hs with ⟨rfl,e⟩|⟨rfl,e⟩<;>rw [e] at v1
 ·exact Tf v x f t w v0 v1 x0 x1 f0 f1
 ·exact Td v x f t w v0 v1 x0 x1 f0 f1
theorem Ey (k s f v:Int) (w:World) (lo : -9223372036854775808≤v) (hi:v≤9223372036854775807) (h:Pl.pX k s f v=false) :
  Calls prog 228 #[iv k,iv s,iv f,iv v] w fun e w'=>e=.returned (.tuple #[.agg ftZ,.bool false])∧Below w.heap.size w w':=by
 have H:(Pl.okv s v=false)∨(Pl.okv s v=true∧Pl.flags f=false)∨(Pl.okv s v=true∧Pl.flags f=true∧Pl.kin k=false):=by
  unfold Pl.pX at h
  unfold Pl.kin
  revert h
  cases Pl.okv s v<;>cases Pl.flags f<;>simp
 clear h
 rcases H with h1|⟨h1,h2⟩|⟨h1,h2,h3⟩
 all_goals
  go_enter func228,ntmps228
  go_wp2_with (first|(go_at_call 128;refine (dE _ _ _ lo hi).mono ?_;rintro e w' ⟨rfl,rfl⟩)|(go_at_call 86;refine (rF _ _).mono ?_;rintro e w' ⟨rfl,rfl⟩)|(go_at_call 246;refine (uF _ _).mono ?_;rintro e w' ⟨rfl,rfl⟩))
  refine bodyPost_ret (v:=.tuple #[.agg ftZ,.bool false]) ?_ rfl ⟨rfl,?_⟩
  ·rw [results_cell_tmp rfl];go_simp
  ·(repeat' (first|with_reducible exact Below.refl _ _|with_reducible refine Below.drew ?_|with_reducible refine Below.alloc ?_ ?_ _|(simp;done)|(simp;omega)))
def Pl.wI (k f:Int):Int:=if 6≤k then f/16 else 0
theorem rowOf (k s f v:Int) (w:World) (h:Pl.pX k s f v=true) :
  Calls prog 228 #[iv k,iv s,iv f,iv v] w fun e w'=>e=.returned (.tuple #[.agg #[iv v,iv (8*s),iv (f/16),iv (Pl.wI k f),.bool false],.bool true])∧Below w.heap.size w w':=by
 obtain ⟨k0,k1,h1,f0,f1,hs,v0,v1,_,_⟩:=Pl.pW h
 have h2:Pl.flags f=true:=by simp [Pl.flags,f0,f1]
 have h3:Pl.kin k=true:=by simp [Pl.kin,k0,k1]
 have vb:v<65536:=by
  simp only at v1
  rcases Pl.nV hs with ⟨_,e⟩|⟨_,e⟩<;>rw [e] at v1<;>omega
 simp only at v0 v1
 clear h v1
 have s0:0≤s:=by omega
 have s1:s≤2:=by omega
 obtain k6|⟨k6,k7⟩|⟨k6,k7⟩:k=6∨((k==6)=false∧k=7)∨((k==6)=false∧(k==7)=false):=by simp;omega
 ·have E:Hid (f/16=Pl.wI k f):=hide (by simp [Pl.wI];omega)
  have c6:(k==6)=true:=by simp [k6]
  clear k6
  go_enter func228,ntmps228
  go_wp2_with (first|(go_at_call 128;refine (dE _ _ _ (by omega) (by omega)).mono ?_;rintro e w' ⟨rfl,rfl⟩)|(go_at_call 86;refine (rF _ _).mono ?_;rintro e w' ⟨rfl,rfl⟩)|(go_at_call 246;refine (uF _ _).mono ?_;rintro e w' ⟨rfl,rfl⟩)|(go_at_call 226;refine (uq _ _ s0 s1).mono ?_;rintro e w' ⟨rfl,rfl⟩))
  refine bodyPost_ret (v:=.tuple #[.agg #[iv v,iv (8*s),iv (f/16),iv (f/16),.bool false],.bool true]) ?_ rfl ⟨by rw [E.o],?_⟩
  ·rw [results_cell_tmp rfl];go_simp
  ·(repeat' (first|with_reducible exact Below.refl _ _|with_reducible refine Below.drew ?_|with_reducible refine Below.alloc ?_ ?_ _|(simp;done)|(simp;omega)))
 ·have E:Hid (f/16=Pl.wI k f):=hide (by simp [Pl.wI];omega)
  have c7:(k==7)=true:=by simp [k7]
  clear k7
  go_enter func228,ntmps228
  go_wp2_with (first|(go_at_call 128;refine (dE _ _ _ (by omega) (by omega)).mono ?_;rintro e w' ⟨rfl,rfl⟩)|(go_at_call 86;refine (rF _ _).mono ?_;rintro e w' ⟨rfl,rfl⟩)|(go_at_call 246;refine (uF _ _).mono ?_;rintro e w' ⟨rfl,rfl⟩)|(go_at_call 226;refine (uq _ _ s0 s1).mono ?_;rintro e w' ⟨rfl,rfl⟩))
  refine bodyPost_ret (v:=.tuple #[.agg #[iv v,iv (8*s),iv (f/16),iv (f/16),.bool false],.bool true]) ?_ rfl ⟨by rw [E.o],?_⟩
  ·rw [results_cell_tmp rfl];go_simp
  ·(repeat' (first|with_reducible exact Below.refl _ _|with_reducible refine Below.drew ?_|with_reducible refine Below.alloc ?_ ?_ _|(simp;done)|(simp;omega)))
 ·have E:Hid (0=Pl.wI k f):=hide (by
   have:¬6≤k:=by simp at k6 k7;omega
   simp [Pl.wI,this])
  go_enter func228,ntmps228
  go_wp2_with (first|(go_at_call 128;refine (dE _ _ _ (by omega) (by omega)).mono ?_;rintro e w' ⟨rfl,rfl⟩)|(go_at_call 86;refine (rF _ _).mono ?_;rintro e w' ⟨rfl,rfl⟩)|(go_at_call 246;refine (uF _ _).mono ?_;rintro e w' ⟨rfl,rfl⟩)|(go_at_call 226;refine (uq _ _ s0 s1).mono ?_;rintro e w' ⟨rfl,rfl⟩))
  refine bodyPost_ret (v:=.tuple #[.agg #[iv v,iv (8*s),iv (f/16),iv 0,.bool false],.bool true]) ?_ rfl ⟨by rw [←E.o],?_⟩
  ·rw [results_cell_tmp rfl];go_simp
  ·(repeat' (first|with_reducible exact Below.refl _ _|with_reducible refine Below.drew ?_|with_reducible refine Below.alloc ?_ ?_ _|(simp;done)|(simp;omega)))
def Ah (m k e:Int):Value:=if m=0 then .iface 202 (.agg #[iv k]) else if m=1 then .iface 203 (.agg #[iv k]) else if m=2 then .iface 212 (.agg #[iv k]) else if m=3 then .iface 213 (.agg #[iv k]) else if m=4 then .iface 214 (.agg #[iv k]) else if m=5 then .iface 216 (.agg #[iv k,iv e]) else if m=6 then .iface 217 (.agg #[iv e]) else .iface 205 (.agg #[iv e])
theorem UA (v:Value) (w:World):(Instr.typeAssert (.iface 202 v) 174 202 true).run prog w=.ok (.tuple #[v,.bool true]) w:=by kernel_rfl
theorem WX (v:Value) (w:World):(Instr.typeAssert (.iface 203 v) 174 202 true).run prog w=.ok (.tuple #[.agg #[iv 0],.bool false]) w:=by kernel_rfl
theorem WW (v:Value) (w:World):(Instr.typeAssert (.iface 203 v) 174 203 true).run prog w=.ok (.tuple #[v,.bool true]) w:=by kernel_rfl
theorem Uz (v:Value) (w:World):(Instr.typeAssert (.iface 212 v) 174 202 true).run prog w=.ok (.tuple #[.agg #[iv 0],.bool false]) w:=by kernel_rfl
theorem WV (v:Value) (w:World):(Instr.typeAssert (.iface 212 v) 174 203 true).run prog w=.ok (.tuple #[.agg #[iv 0],.bool false]) w:=by kernel_rfl
theorem WU (v:Value) (w:World):(Instr.typeAssert (.iface 212 v) 174 205 true).run prog w=.ok (.tuple #[.agg #[iv 0],.bool false]) w:=by kernel_rfl
theorem Uy (v:Value) (w:World):(Instr.typeAssert (.iface 213 v) 174 202 true).run prog w=.ok (.tuple #[.agg #[iv 0],.bool false]) w:=by kernel_rfl
theorem WT (v:Value) (w:World):(Instr.typeAssert (.iface 213 v) 174 203 true).run prog w=.ok (.tuple #[.agg #[iv 0],.bool false]) w:=by kernel_rfl
theorem WS (v:Value) (w:World):(Instr.typeAssert (.iface 213 v) 174 205 true).run prog w=.ok (.tuple #[.agg #[iv 0],.bool false]) w:=by kernel_rfl
theorem Ux (v:Value) (w:World):(Instr.typeAssert (.iface 214 v) 174 202 true).run prog w=.ok (.tuple #[.agg #[iv 0],.bool false]) w:=by kernel_rfl
theorem WR (v:Value) (w:World):(Instr.typeAssert (.iface 214 v) 174 203 true).run prog w=.ok (.tuple #[.agg #[iv 0],.bool false]) w:=by kernel_rfl
theorem WQ (v:Value) (w:World):(Instr.typeAssert (.iface 214 v) 174 205 true).run prog w=.ok (.tuple #[.agg #[iv 0],.bool false]) w:=by kernel_rfl
theorem Uw (v:Value) (w:World):(Instr.typeAssert (.iface 216 v) 174 202 true).run prog w=.ok (.tuple #[.agg #[iv 0],.bool false]) w:=by kernel_rfl
theorem WP (v:Value) (w:World):(Instr.typeAssert (.iface 216 v) 174 203 true).run prog w=.ok (.tuple #[.agg #[iv 0],.bool false]) w:=by kernel_rfl
theorem WO (v:Value) (w:World):(Instr.typeAssert (.iface 216 v) 174 205 true).run prog w=.ok (.tuple #[.agg #[iv 0],.bool false]) w:=by kernel_rfl
theorem Uu (v:Value) (w:World):(Instr.typeAssert (.iface 217 v) 174 202 true).run prog w=.ok (.tuple #[.agg #[iv 0],.bool false]) w:=by kernel_rfl
theorem WN (v:Value) (w:World):(Instr.typeAssert (.iface 217 v) 174 203 true).run prog w=.ok (.tuple #[.agg #[iv 0],.bool false]) w:=by kernel_rfl
theorem WM (v:Value) (w:World):(Instr.typeAssert (.iface 217 v) 174 205 true).run prog w=.ok (.tuple #[.agg #[iv 0],.bool false]) w:=by kernel_rfl
theorem WL (v:Value) (w:World):(Instr.typeAssert (.iface 205 v) 174 202 true).run prog w=.ok (.tuple #[.agg #[iv 0],.bool false]) w:=by kernel_rfl
theorem WJ (v:Value) (w:World):(Instr.typeAssert (.iface 205 v) 174 203 true).run prog w=.ok (.tuple #[.agg #[iv 0],.bool false]) w:=by kernel_rfl
theorem WI (v:Value) (w:World):(Instr.typeAssert (.iface 205 v) 174 205 true).run prog w=.ok (.tuple #[v,.bool true]) w:=by kernel_rfl
theorem Iz (z:Int) (w:World) (hz:z=1∨z=2):Calls prog 199 #[iv z] w fun e w'=>e=.returned (iv (Pl.top z-1))∧w'=w:=by
 rcases hz with rfl|rfl
 all_goals
  go_enter func199,ntmps199
  go_wp2_with (go_at_call 226;refine (uq _ _ (by decide) (by decide)).mono ?_;rintro e w' ⟨rfl,rfl⟩)
  go_ret
  exact ⟨rfl,rfl⟩
theorem Qc {z x:Int} (hz:z=1∨z=2):bits .and .i64 x (Pl.top z-1)=x%Pl.top z:=by
 rcases hz with rfl|rfl
 ·exact Pl.dK x
 ·exact Pl.fU x
theorem V8 (w:World) (lo b g:Nat) (c:Pl.Mc) (h:Bool) (z k:Int) (hC:CAt w lo b g c h) (hz:z=1∨z=2) (k0:0≤k) (k3:k≤3) :
  Calls prog 194 #[.pointer (some ⟨b,0,none⟩),iv z,iv k] w fun e w'=>e=.returned (iv (c.low z k))∧∃n,w'=w.drewN n:=by
 obtain ⟨n,rfl⟩:∃n:Nat,k=(n:Int):=⟨k.toNat,by omega⟩
 have hn:n<4:=by omega
 have q0:=hC.cX hn
 have ha:=Qc (x:=el c.r.xs n) hz
 clear hC
 go_enter func194,ntmps194
 go_wp2_with fail
 go_quiet (first|(go_at_call 199;exact Calls.quiet_of_same (Iz _ _ hz))|fail)
 go_wp2_with fail
 go_ret
 exact ⟨rfl,_,rfl⟩
theorem tH (w:World) (lo b g:Nat) (c:Pl.Mc) (h:Bool) (z v:Int) (hC:CAt w lo b g c h) (v0:0≤v) (v1:v≤65535) :
  Calls prog 196 #[.pointer (some ⟨b,0,none⟩),iv z,iv v] w fun e w'=>e=.returned (.tuple #[])∧CAt w' lo b g (c.aB (Pl.aQ z c.r.f v)) h∧Kept b (b+1) w w':=by
 have HC:=hide hC
 have q:=hC.cF
 have qf:=hC.fz
 clear hC
 go_enter func196,ntmps196
 go_wp2_with (go_at_call 225;refine (jg _ _ _ _ (by omega) (by omega)).mono ?_;rintro e w' ⟨rfl,hw⟩;have hw2:=hw.symm;clear hw;subst hw2)
 go_end0
 exact ⟨rfl,HC.o.aB _,ak _ _ _ _⟩
theorem QS (m k e:Int) (w:World) (m0:0≤m) (m7:m≤7):Calls prog 200 #[.agg #[iv m,iv k,iv e]] w fun r w'=>r=.returned (Ah m k e)∧Kept 0 0 w w':=by
 have:m=0∨m=1∨m=2∨m=3∨m=4∨m=5∨m=6∨m=7:=by omega
 rcases this with rfl|rfl|rfl|rfl|rfl|rfl|rfl|rfl
 ·exact Au k e w
 ·exact Ar k e w
 ·exact Aq k e w
 ·exact Ap k e w
 ·exact Am k e w
 ·exact Ak k e w
 ·exact Aj k e w
 ·exact Ai k e w
theorem PE (w:World) (lo b g:Nat) (c:Pl.Mc) (h:Bool) (z k e:Int) (hC:CAt w lo b g c h) (hg:Pl.Good c.r) (hz:z=1∨z=2) (k0:0≤k) (k3:k≤3) (x0:0≤e) (x1:e≤65535) :
  Calls prog 201 #[.pointer (some ⟨b,0,none⟩),iv z,.iface 212 (.agg #[iv k])] w fun e' w'=>e'=.returned (.tuple #[iv (Pl.bZ c.r z 2 k e),.bool true])∧CAt w' lo b g (c.plc z 2 k e) h∧Kept b (b+1) w w':=by
 have t2:=Xw
 have t3:=Xv
 have t4:=Xu
 have t5:=UO
 have t6:=UN
 obtain ⟨n,rfl⟩:∃n:Nat,k=(n:Int):=⟨k.toNat,by omega⟩
 have hn:n<4:=by omega
 obtain ⟨y0,y1⟩:=hg.aw n hn
 have h4:=hide hg.a4
 have l9:=hC.lt
 have HC:=hide hC
 have EV:Hid (el c.r.ys n=Pl.bZ c.r z 2 (n:Int) e):=hide (by simp [Pl.bZ])
 have ER:Hid (c.plc z 2 (n:Int) e=c):=hide (by unfold Pl.Mc.plc Pl.cZ;rw [if_neg (by decide),if_neg (by decide)];rfl)
 have HN:=hide (Blk.new w #[iv (n:Int)] 212)
 have C1:=hide (hC.alloc (.cells #[iv (n:Int)] 212))
 have HK:=hide (kept_alloc w (.cells #[iv (n:Int)] 212))
 clear hg hC
 obtain ⟨X,hX⟩:∃X:World,w.alloc (.cells #[iv (n:Int)] 212)=X:=⟨_,rfl⟩
 rw [hX] at HN C1 HK
 have i0:(0:Int)≤(n:Int):=by omega
 have i1:(n:Int)<4:=by omega
 have n0:=HN.o.cell (i:=0) rfl
 go_enter func201,ntmps201
 go_wp2_with fail
 clear hX t2 t3 t4 t5 t6
 have q0:=C1.o.cY hn
 go_region
 go_wp2_with fail
 go_ret2
 exact ⟨rIB EV.o rfl,by rw [ER.o];exact C1.o.drew,ae HK.o.any⟩
theorem Py (w:World) (lo b g:Nat) (c:Pl.Mc) (h:Bool) (z k e:Int) (hC:CAt w lo b g c h) (hg:Pl.Good c.r) (hz:z=1∨z=2) (k0:0≤k) (k3:k≤3) (x0:0≤e) (x1:e≤65535) :
  Calls prog 201 #[.pointer (some ⟨b,0,none⟩),iv z,.iface 216 (.agg #[iv k,iv e])] w fun e' w'=>e'=.returned (.tuple #[iv (Pl.bZ c.r z 5 k e),.bool true])∧CAt w' lo b g (c.plc z 5 k e) h∧Kept b (b+1) w w':=by
 have t2:=Xj
 have t3:=Xi
 have t4:=Xh
 have t5:=UI
 have t6:=UH
 obtain ⟨n,rfl⟩:∃n:Nat,k=(n:Int):=⟨k.toNat,by omega⟩
 have hn:n<4:=by omega
 obtain ⟨y0,y1⟩:=hg.aw n hn
 have h4:=hide hg.a4
 have l9:=hC.lt
 have HC:=hide hC
 have EV:Hid ((el c.r.ys n+e)%65536=Pl.bZ c.r z 5 (n:Int) e):=hide (by simp [Pl.bZ])
 have ER:Hid (c.plc z 5 (n:Int) e=c):=hide (by unfold Pl.Mc.plc Pl.cZ;rw [if_neg (by decide),if_neg (by decide)];rfl)
 have HN:=hide (Blk.new w #[iv (n:Int),iv e] 216)
 have C1:=hide (hC.alloc (.cells #[iv (n:Int),iv e] 216))
 have HK:=hide (kept_alloc w (.cells #[iv (n:Int),iv e] 216))
 clear hg hC
 obtain ⟨X,hX⟩:∃X:World,w.alloc (.cells #[iv (n:Int),iv e] 216)=X:=⟨_,rfl⟩
 rw [hX] at HN C1 HK
 have i0:(0:Int)≤(n:Int):=by omega
 have i1:(n:Int)<4:=by omega
 have n0:=HN.o.cell (i:=0) rfl
 go_enter func201,ntmps201
 go_wp2_with fail
 clear hX t2 t3 t4 t5 t6
 have q0:=C1.o.cY hn
 have n1:=HN.o.cell (i:=1) rfl
 go_quiet (first|(go_at_call 117;exact Calls.quiet_of_same (gY _ _))|fail)
 go_wp2_with fail
 go_ret2
 exact ⟨rIB EV.o rfl,by rw [ER.o];exact C1.o.any (au (Kept.refl _ _ _) _),au HK.o.any _⟩
theorem Px (w:World) (lo b g:Nat) (c:Pl.Mc) (h:Bool) (z k e:Int) (hC:CAt w lo b g c h) (hg:Pl.Good c.r) (hz:z=1∨z=2) (k0:0≤k) (k3:k≤3) (x0:0≤e) (x1:e≤65535) :
  Calls prog 201 #[.pointer (some ⟨b,0,none⟩),iv z,.iface 217 (.agg #[iv e])] w fun e' w'=>e'=.returned (.tuple #[iv (Pl.bZ c.r z 6 k e),.bool true])∧CAt w' lo b g (c.plc z 6 k e) h∧Kept b (b+1) w w':=by
 have t2:=Xf
 have t3:=Xe
 have t4:=Xd
 have t5:=UG
 have t6:=UF
 obtain ⟨n,rfl⟩:∃n:Nat,k=(n:Int):=⟨k.toNat,by omega⟩
 have hn:n<4:=by omega
 obtain ⟨y0,y1⟩:=hg.aw n hn
 have h4:=hide hg.a4
 have l9:=hC.lt
 have HC:=hide hC
 have EV:Hid (e=Pl.bZ c.r z 6 (n:Int) e):=hide (by simp [Pl.bZ])
 have ER:Hid (c.plc z 6 (n:Int) e=c):=hide (by unfold Pl.Mc.plc Pl.cZ;rw [if_neg (by decide),if_neg (by decide)];rfl)
 have HN:=hide (Blk.new w #[iv e] 217)
 have C1:=hide (hC.alloc (.cells #[iv e] 217))
 have HK:=hide (kept_alloc w (.cells #[iv e] 217))
 clear hg hC
 obtain ⟨X,hX⟩:∃X:World,w.alloc (.cells #[iv e] 217)=X:=⟨_,rfl⟩
 rw [hX] at HN C1 HK
 have i0:(0:Int)≤(n:Int):=by omega
 have i1:(n:Int)<4:=by omega
 have n0:=HN.o.cell (i:=0) rfl
 go_enter func201,ntmps201
 go_wp2_with fail
 clear hX t2 t3 t4 t5 t6
 go_ret2
 exact ⟨rIB EV.o rfl,by rw [ER.o];exact C1.o,HK.o.any⟩
theorem PD (w:World) (lo b g:Nat) (c:Pl.Mc) (h:Bool) (z k e:Int) (hC:CAt w lo b g c h) (hg:Pl.Good c.r) (hz:z=1∨z=2) (k0:0≤k) (k3:k≤3) (x0:0≤e) (x1:e≤65535) :
  Calls prog 201 #[.pointer (some ⟨b,0,none⟩),iv z,.iface 213 (.agg #[iv k])] w fun e' w'=>e'=.returned (.tuple #[iv (Pl.bZ c.r z 3 k e),.bool true])∧CAt w' lo b g (c.plc z 3 k e) h∧Kept b (b+1) w w':=by
 have t2:=Xr
 have t3:=Xq
 have t4:=Xp
 have t5:=UM
 have t6:=UL
 obtain ⟨n,rfl⟩:∃n:Nat,k=(n:Int):=⟨k.toNat,by omega⟩
 have hn:n<4:=by omega
 obtain ⟨y0,y1⟩:=hg.aw n hn
 have h4:=hide hg.a4
 have l9:=hC.lt
 have HC:=hide hC
 have EV:Hid (el c.r.ys n=Pl.bZ c.r z 3 (n:Int) e):=hide (by simp [Pl.bZ])
 obtain ⟨nb0,nb1⟩:1≤Pl.byN z (n:Int)∧Pl.byN z (n:Int)≤2:=by unfold Pl.byN;split<;>omega
 have ew:IntKind.i64.wrap (el c.r.ys n+Pl.byN z (n:Int))=el c.r.ys n+Pl.byN z (n:Int):=by rw [IntKind.wrap_i64];omega
 have ER:Hid (c.plc z 3 (n:Int) e=c.fM n ((el c.r.ys n+Pl.byN z (n:Int))%65536)):=hide (by simp [Pl.Mc.plc,Pl.cZ,Pl.Mc.fM,Pl.Mc.dh])
 have HN:=hide (Blk.new w #[iv (n:Int)] 213)
 have C1:=hide (hC.alloc (.cells #[iv (n:Int)] 213))
 have HK:=hide (kept_alloc w (.cells #[iv (n:Int)] 213))
 clear hg hC
 obtain ⟨X,hX⟩:∃X:World,w.alloc (.cells #[iv (n:Int)] 213)=X:=⟨_,rfl⟩
 rw [hX] at HN C1 HK
 have i0:(0:Int)≤(n:Int):=by omega
 have i1:(n:Int)<4:=by omega
 have n0:=HN.o.cell (i:=0) rfl
 go_enter func201,ntmps201
 go_wp2_with fail
 clear hX t2 t3 t4 t5 t6
 have q0:=C1.o.cY hn
 go_region
 go_wp2_with fail
 clear q0 n0
 refine wp_region_still_tail 12 (by kernel_rfl) (by kernel_rfl) ?_
 simp only [List.take_succ_cons,List.take_zero,List.drop_succ_cons,List.drop_zero]
 obtain ⟨Y,hY⟩:∃Y:World,Y={X.drew with drawn:=(X.drew).drawn+1}:=⟨_,rfl⟩
 rw [←hY]
 have CY:Hid (CAt Y lo b g c h):=hide (by rw [hY];exact C1.o.any (ae (ae (Kept.refl _ _ _))))
 have NY:Hid (Blk Y w.heap.size #[iv (n:Int)] 213):=hide (by rw [hY];exact HN.o)
 have KY:Hid (Kept 0 0 w Y):=hide (by rw [hY];exact ae (ae HK.o))
 clear hY
 have q1:=CY.o.cY hn
 have qf:=CY.o.fz (4+n)
 have n1:=NY.o.cell (i:=0) rfl
 iterate 7 still_step
 still_call (yR _ _ _ hz)
 iterate 1 still_step
 still_call (gY _ _)
 iterate 2 still_step
 refine wpStill_nil ?_
 go_wp2_with fail
 go_ret2
 exact ⟨rIB EV.o rfl,by rw [ER.o];exact CY.o.uV h4.o hn _,ag KY.o.any _ _ _ (.inl ⟨by omega,by omega⟩)⟩
theorem Pz (w:World) (lo b g:Nat) (c:Pl.Mc) (h:Bool) (z k e:Int) (hC:CAt w lo b g c h) (hg:Pl.Good c.r) (hz:z=1∨z=2) (k0:0≤k) (k3:k≤3) (x0:0≤e) (x1:e≤65535) :
  Calls prog 201 #[.pointer (some ⟨b,0,none⟩),iv z,.iface 214 (.agg #[iv k])] w fun e' w'=>e'=.returned (.tuple #[iv (Pl.bZ c.r z 4 k e),.bool true])∧CAt w' lo b g (c.plc z 4 k e) h∧Kept b (b+1) w w':=by
 have t2:=Xn
 have t3:=Xm
 have t4:=Xl
 have t5:=UK
 have t6:=UJ
 obtain ⟨n,rfl⟩:∃n:Nat,k=(n:Int):=⟨k.toNat,by omega⟩
 have hn:n<4:=by omega
 obtain ⟨y0,y1⟩:=hg.aw n hn
 have h4:=hide hg.a4
 have l9:=hC.lt
 have HC:=hide hC
 have EV:Hid ((el c.r.ys n-Pl.byN z (n:Int))%65536=Pl.bZ c.r z 4 (n:Int) e):=hide (by simp [Pl.bZ])
 obtain ⟨nb0,nb1⟩:1≤Pl.byN z (n:Int)∧Pl.byN z (n:Int)≤2:=by unfold Pl.byN;split<;>omega
 have ew:IntKind.i64.wrap (el c.r.ys n-Pl.byN z (n:Int))=el c.r.ys n-Pl.byN z (n:Int):=by rw [IntKind.wrap_i64];omega
 have ER:Hid (c.plc z 4 (n:Int) e=c.fM n ((el c.r.ys n-Pl.byN z (n:Int))%65536)):=hide (by simp [Pl.Mc.plc,Pl.cZ,Pl.Mc.fM,Pl.Mc.dh])
 have HN:=hide (Blk.new w #[iv (n:Int)] 214)
 have C1:=hide (hC.alloc (.cells #[iv (n:Int)] 214))
 have HK:=hide (kept_alloc w (.cells #[iv (n:Int)] 214))
 clear hg hC
 obtain ⟨X,hX⟩:∃X:World,w.alloc (.cells #[iv (n:Int)] 214)=X:=⟨_,rfl⟩
 rw [hX] at HN C1 HK
 have i0:(0:Int)≤(n:Int):=by omega
 have i1:(n:Int)<4:=by omega
 have n0:=HN.o.cell (i:=0) rfl
 go_enter func201,ntmps201
 go_wp2_with fail
 clear hX t2 t3 t4 t5 t6
 clear n0
 refine wp_region_still_tail 18 (by kernel_rfl) (by kernel_rfl) ?_
 simp only [List.take_succ_cons,List.take_zero,List.drop_succ_cons,List.drop_zero]
 obtain ⟨Y,hY⟩:∃Y:World,Y={X with drawn:=(X).drawn+1}:=⟨_,rfl⟩
 rw [←hY]
 have CY:Hid (CAt Y lo b g c h):=hide (by rw [hY];exact C1.o.any (ae (Kept.refl _ _ _)))
 have NY:Hid (Blk Y w.heap.size #[iv (n:Int)] 214):=hide (by rw [hY];exact HN.o)
 have KY:Hid (Kept 0 0 w Y):=hide (by rw [hY];exact ae HK.o)
 clear hY
 have q1:=CY.o.cY hn
 have qf:=CY.o.fz (4+n)
 have n1:=NY.o.cell (i:=0) rfl
 iterate 13 still_step
 still_call (yR _ _ _ hz)
 iterate 1 still_step
 still_call (gY _ _)
 iterate 2 still_step
 refine wpStill_nil ?_
 go_wp2_with fail
 go_region
 go_wp2_with fail
 go_ret2
 exact ⟨rIB EV.o rfl,by rw [ER.o];exact (CY.o.uV h4.o hn _).drew,ae (ag KY.o.any _ _ _ (.inl ⟨by omega,by omega⟩))⟩
theorem PH (w:World) (b:Nat) (z:Int) (v:Value) :
  Calls prog 201 #[.pointer (some ⟨b,0,none⟩),iv z,.iface 202 v] w fun e' w'=>e'=.returned (.tuple #[iv 0,.bool false])∧w'=w:=by
 have t2:=XE
 have t3:=XD
 have t4:=XC
 have t5:=UU
 have t6:=UT
 go_enter func201,ntmps201
 go_wp2_with fail
 go_ret2
 exact ⟨rfl,rfl⟩
theorem PG (w:World) (b:Nat) (z:Int) (v:Value) :
  Calls prog 201 #[.pointer (some ⟨b,0,none⟩),iv z,.iface 203 v] w fun e' w'=>e'=.returned (.tuple #[iv 0,.bool false])∧w'=w:=by
 have t2:=XA
 have t3:=Xz
 have t4:=Xy
 have t5:=UR
 have t6:=UQ
 go_enter func201,ntmps201
 go_wp2_with fail
 go_ret2
 exact ⟨rfl,rfl⟩
theorem Pv (w:World) (b:Nat) (z:Int) (v:Value) :
  Calls prog 201 #[.pointer (some ⟨b,0,none⟩),iv z,.iface 205 v] w fun e' w'=>e'=.returned (.tuple #[iv 0,.bool false])∧w'=w:=by
 have t2:=Xb
 have t3:=Xa
 have t4:=WZ
 have t5:=UE
 have t6:=UD
 go_enter func201,ntmps201
 go_wp2_with fail
 go_ret2
 exact ⟨rfl,rfl⟩
def Pl.Mc.slot (c:Pl.Mc) (z m k e:Int):Pl.Mc:=bif Pl.Mc.gI m then c else c.plc z m k e
theorem Pq (w:World) (lo b g:Nat) (c:Pl.Mc) (h:Bool) (z m k e:Int) (hC:CAt w lo b g c h) (hg:Pl.Good c.r) (hz:z=1∨z=2) (m0:0≤m) (m7:m≤7) (k0:0≤k) (k3:k≤3) (x0:0≤e) (x1:e≤65535) :
  Calls prog 201 #[.pointer (some ⟨b,0,none⟩),iv z,Ah m k e] w fun e' w'=>e'=.returned (.tuple #[iv (c.readA z m k e),.bool (!Pl.Mc.gI m)])∧CAt w' lo b g (c.slot z m k e) h∧Kept b (b+1) w w':=by
 have:m=0∨m=1∨m=2∨m=3∨m=4∨m=5∨m=6∨m=7:=by omega
 rcases this with rfl|rfl|rfl|rfl|rfl|rfl|rfl|rfl
 ·refine (PH w b z (.agg #[iv k])).mono ?_;rintro e9 w9 ⟨rfl,rfl⟩;exact ⟨rfl,hC,Kept.refl _ _ _⟩
 ·refine (PG w b z (.agg #[iv k])).mono ?_;rintro e9 w9 ⟨rfl,rfl⟩;exact ⟨rfl,hC,Kept.refl _ _ _⟩
 ·exact PE w lo b g c h z k e hC hg hz k0 k3 x0 x1
 ·exact PD w lo b g c h z k e hC hg hz k0 k3 x0 x1
 ·exact Pz w lo b g c h z k e hC hg hz k0 k3 x0 x1
 ·exact Py w lo b g c h z k e hC hg hz k0 k3 x0 x1
 ·exact Px w lo b g c h z k e hC hg hz k0 k3 x0 x1
 ·refine (Pv w b z (.agg #[iv e])).mono ?_;rintro e9 w9 ⟨rfl,rfl⟩;exact ⟨rfl,hC,Kept.refl _ _ _⟩
end Go.Proofs.YtkkmnnhaailkcaaGreatDoor
