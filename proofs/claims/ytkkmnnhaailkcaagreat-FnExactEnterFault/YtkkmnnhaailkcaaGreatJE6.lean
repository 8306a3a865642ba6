/- Part 6 of what the last text leans on. -/
import Derived.Test.YtkkmnnhaailkcaaGreatJE5
import Derived.Test.YtkkmnnhaailkcaaGreatJE1
import Derived.Deep.RegionHeld3
import Derived.Deep.MidRow
import Derived.Deep.AppendLies
import Derived.Deep.QuietTactic
import Derived.BigQuiet
import Derived.Test.YtkkmnnhaailkcaaGreatJE3
import Derived.Defers
import Derived.Recover
import Derived.WalkLawsBesides
import Derived.Test.YtkkmnnhaailkcaaGreatJE2
import Derived.BigRegion
import Derived.Deep.DeepCutAuto
import Derived.StillTailTactics
set_option maxRecDepth 100000
set_option maxHeartbeats 16000000
namespace Go.Proofs.YtkkmnnhaailkcaaGreat
open Go.RowKit Go.Proofs.Tryz
set_option linter.unusedVariables false
theorem codeOf (k s a v c:Int) (w:World) (hs:s=1∨s=2) (a0:0≤a) (a1:a≤65535) :
  Calls prog 100 #[.agg #[iv k,iv s,iv a,iv v,iv c]] w fun e w'=>e=.returned (iv (Pl.code k s a))∧∃o,w'=w.alloc o:=by
 have G:Hid (Pl.code k s a=if ((s==2)&&decide (a%2=1)) then 2 else if ((Pl.kind a==3)&&(k != 2)) then 0 else Pl.kind a):=hide (by
  rw [Pl.code_part hs]
  simp only [Bool.and_eq_true,beq_iff_eq,decide_eq_true_eq,bne_iff_ne,ne_eq])
 cases h1:(s==2)
 ·cases h3:(Pl.kind a==3)
  ·rw [h1,h3] at G
   go_enter func100,ntmps100
   go_wp2_with (first|(go_at_call 108;refine (isOdd _ _ a0 a1).mono ?_;rintro e w' ⟨rfl,rfl⟩)|(go_at_call 109;refine (partOf _ _).mono ?_;rintro e w' ⟨rfl,rfl⟩))
   go_ret
   exact ⟨rI (by rw [G.out];simp),_,rfl⟩
  ·cases h4:(k != 2)
   all_goals
    rw [h1,h3,h4] at G
    go_enter func100,ntmps100
    go_wp2_with (first|(go_at_call 108;refine (isOdd _ _ a0 a1).mono ?_;rintro e w' ⟨rfl,rfl⟩)|(go_at_call 109;refine (partOf _ _).mono ?_;rintro e w' ⟨rfl,rfl⟩))
    go_ret
    exact ⟨rI (by rw [G.out];simp),_,rfl⟩
 ·cases h2:decide (a%2=1)
  ·cases h3:(Pl.kind a==3)
   ·rw [h1,h2,h3] at G
    go_enter func100,ntmps100
    go_wp2_with (first|(go_at_call 108;refine (isOdd _ _ a0 a1).mono ?_;rintro e w' ⟨rfl,rfl⟩;rw [h2])|(go_at_call 109;refine (partOf _ _).mono ?_;rintro e w' ⟨rfl,rfl⟩))
    go_ret
    exact ⟨rI (by rw [G.out];simp),_,rfl⟩
   ·cases h4:(k != 2)
    all_goals
     rw [h1,h2,h3,h4] at G
     go_enter func100,ntmps100
     go_wp2_with (first|(go_at_call 108;refine (isOdd _ _ a0 a1).mono ?_;rintro e w' ⟨rfl,rfl⟩;rw [h2])|(go_at_call 109;refine (partOf _ _).mono ?_;rintro e w' ⟨rfl,rfl⟩))
     go_ret
     exact ⟨rI (by rw [G.out];simp),_,rfl⟩
  ·rw [h1,h2] at G
   go_enter func100,ntmps100
   go_wp2_with (first|(go_at_call 108;refine (isOdd _ _ a0 a1).mono ?_;rintro e w' ⟨rfl,rfl⟩;rw [h2])|(go_at_call 109;refine (partOf _ _).mono ?_;rintro e w' ⟨rfl,rfl⟩))
   go_ret
   exact ⟨rI (by rw [G.out];simp),_,rfl⟩
theorem memReadI (w:World) (xs:List Int) (s:Int) (n:Nat) (lx:xs.length=512) (hb:Pl.bytesOk xs=true) (hs:s=1∨s=2) (hn:(n:Int)+s≤512) :
  Calls prog 111 #[.agg (cellsOf xs),iv s,iv n] w fun e w'=>e=.returned (iv (Pl.rd xs s n))∧Kept 0 0 w w':=by
 rcases hs with rfl|rfl
 ·exact memRead w xs 1 n lx hb (by decide) (by decide) (by omega)
 ·exact memRead w xs 2 n lx hb (by decide) (by decide) (by omega)
theorem accS {w:World} {q:Nat} {k s a v c:Int} {ty:TypeId} (h:Blk w q #[iv k,iv s,iv a,iv v,iv c] ty):w.cell? ⟨q,1,none⟩=some (iv s)∧w.cell? ⟨q,2,none⟩=some (iv a)∧w.cell? ⟨q,3,none⟩=some (iv v):=
 ⟨h.cell (i:=1) rfl,h.cell (i:=2) rfl,h.cell (i:=3) rfl⟩
theorem accR {w:World} {q:Nat} {k s a v c:Int} {ty:TypeId} (h:Blk w q #[iv k,iv s,iv a,iv v,iv c] ty):w.cell? ⟨q,1,none⟩=some (iv s)∧w.cell? ⟨q,2,none⟩=some (iv a):=
 ⟨h.cell (i:=1) rfl,h.cell (i:=2) rfl⟩
namespace Pl
theorem rd_bd {xs:List Int} {s:Int} {i:Nat} (hb:bytesOk xs=true) (hs:s=1∨s=2) (hi:(i:Int)+s≤xs.length):0≤rd xs s i∧rd xs s i≤(if s=1 then 255 else 65535):=by
 unfold rd
 rcases hs with rfl|rfl
 ·rw [if_pos rfl,if_pos rfl];exact bytesOk_at hb i (by omega)
 ·rw [if_neg (by decide),if_neg (by decide)]
  have:=bytesOk_at hb i (by omega)
  have:=bytesOk_at hb (i+1) (by omega)
  omega
theorem code_bd (k s a:Int):0≤code k s a∧code k s a≤3:=by
 unfold code
 repeat' split
 all_goals omega
theorem lv_bd {xs:List Int} {k s a v:Int} (hl:xs.length=512) (hb:bytesOk xs=true) (h:askOk k s a v=true):0≤lv xs k s a v∧lv xs k s a v≤(if s=1 then 255 else 65535):=by
 obtain ⟨_,hs,v0,⟨a0,a1⟩,_⟩:=ask_ok h
 unfold lv
 split
 ·rename_i hc
  have:=code_low hc.1 a0
  exact rd_bd hb (by omega) (by omega)
 ·rcases hs with ⟨rfl,h1⟩|⟨rfl,h1⟩
  ·rw [if_pos rfl];omega
  ·rw [if_neg (by decide)];omega
theorem acc_logs {xs:List Int} {k s a v:Int} (hl:xs.length=512) (hb:bytesOk xs=true) (h:askOk k s a v=true):accOk k s a (lv xs k s a v) (code k s a)=((k != 3)||(code k s a != 0)):=by
 have hv:=lv_bd hl hb h
 have hc:=code_bd k s a
 obtain ⟨hk,hs,_,⟨a0,a1⟩,_⟩:=ask_ok h
 have e1:accKind k=true:=by simp [accKind];omega
 have e2:okv s (lv xs k s a v)=true:=by
  unfold okv top
  rcases hs with ⟨rfl,_⟩|⟨rfl,_⟩
  ·rw [if_pos rfl] at hv;simp;omega
  ·rw [if_neg (by decide)] at hv;simp;omega
 have e3:addr a=true:=by simp [addr];omega
 have e4:(decide (0≤code k s a)&&decide (code k s a≤3))=true:=by simp;omega
 unfold accOk
 rw [e1,e2,e3,e4]
 rfl
end Pl
theorem Blk.setCB {w:World} {b:Nat} {r:Pl.Rg} {st ha:Bool} {xs:List Int} {u:Value} {ty:TypeId} (h:Blk w b (cor r xs u st ha) ty) {i:Nat} (hi:i<xs.length) (z:Int):Blk (w.setCell ⟨b,14+i,none⟩ (iv z)) b (cor r (xs.set i z) u st ha) ty:=by
 have:=h.set (14+i) (iv z)
 rwa [cor_setB hi] at this
theorem Blk.setCU {w:World} {b:Nat} {r:Pl.Rg} {st ha:Bool} {xs:List Int} {u:Value} {ty:TypeId} (h:Blk w b (cor r xs u st ha) ty) (hl:xs.length=512) (u':Value):Blk (w.setCell ⟨b,526,none⟩ u') b (cor r xs u' st ha) ty:=by
 have:=h.set 526 u'
 rwa [cor_setU hl] at this
theorem corS {w:World} {b:Nat} {r:Pl.Rg} {st ha:Bool} {xs:List Int} {u:Value} {ty:TypeId} (h:Blk w b (cor r xs u st ha) ty) (lx:xs.length=512):w.rangeAt b 14 (xs.map (Value.int .i64))∧w.cell? ⟨b,526,none⟩=some u:=by
 refine ⟨?_,h.cell (cor_log lx)⟩
 intro j v hv
 have hj:j<xs.length:=by
  rcases Nat.lt_or_ge j xs.length with h'|h'
  ·exact h'
  ·rw [List.getElem?_eq_none (by simpa using h')] at hv;cases hv
 refine h.cell ?_
 rw [cor_at hj]
 simpa [el,hj] using hv
theorem cMemWrite1 (w:World) {R:Pl.Rg} {ST HA:Bool} (b:Nat) (u:Value) (ty:TypeId) (xs:List Int) (n:Nat) (v:Int) (hB:Blk w b (cor R xs u ST HA) ty) (lx:xs.length=512) (hn:n+1≤512) (v0:0≤v) (v1:v≤255) :
  Calls prog 110 #[.pointer (some ⟨b,14,none⟩),iv 1,iv n,iv v] w fun e w'=>e=.returned (.tuple #[])∧Blk w' b (cor R (xs.set n v) u ST HA) ty∧Kept b (b+1) w w':=by
 have HB:=hide hB
 have LX:=hide lx
 have c0:=hB.cell (cor_at (r:=R) (u:=u) (st:=ST) (ha:=HA) (i:=n) (by omega))
 have f0:=hB.frozen (14+n)
 have e255:=Pl.and255 v
 have e0:v%256=v:=by omega
 rw [e0] at e255
 have i0:(0:Int)≤(n:Int):=by omega
 have i1:(n:Int)<512:=by omega
 clear hB lx e0
 go_enter func110,ntmps110
 go_wp2_with fail
 go_loopw [3,8] (fun x i wr=>(i=iv n∧x=iv v∧wr=w)∨(i=iv ((n:Int)-1)∧Blk wr b (cor R (xs.set n v) u ST HA) ty∧Kept b (b+1) w wr)) (fun _ i _=>(intOf i-n+1).toNat)
 case atStart=>exact .inl ⟨by go_num,rfl,rfl⟩
 case round=>
  rcases hrel with ⟨rfl,rfl,rfl⟩|⟨rfl,hb,hk⟩
  ·go_wp2
   go_roundw
   case rel=>exact .inr ⟨rfl,HB.out.setCB (by rw [LX.out];omega) v,kept_set (Kept.refl _ _ _) _ _ _ (.inl (by omega))⟩
   case measure=>simp [intOf];omega
  ·have HB2:=hide hb
   have HK2:=hide hk
   clear hb hk
   have hd:decide ((n:Int)≤(n:Int)-1)=false:=by simp;omega
   go_wp2
   go_end0
   exact ⟨rfl,HB2.out,HK2.out⟩
theorem cMemWrite2 (w:World) {R:Pl.Rg} {ST HA:Bool} (b:Nat) (u:Value) (ty:TypeId) (xs:List Int) (n:Nat) (v:Int) (hB:Blk w b (cor R xs u ST HA) ty) (lx:xs.length=512) (hn:n+2≤512) (v0:0≤v) (v1:v≤65535) :
  Calls prog 110 #[.pointer (some ⟨b,14,none⟩),iv 2,iv n,iv v] w fun e w'=>e=.returned (.tuple #[])∧Blk w' b (cor R ((xs.set n (v/256)).set (n+1) (v%256)) u ST HA) ty∧Kept b (b+1) w w':=by
 have HB:=hide hB
 have LX:=hide lx
 have c1:=hB.cell (cor_at (r:=R) (u:=u) (st:=ST) (ha:=HA) (i:=n+1) (by omega))
 have f1:=hB.frozen (14+(n+1))
 have e255:=Pl.and255 v
 have e256:=Pl.and255 (v/256)
 have e0:v/256%256=v/256:=by omega
 rw [e0] at e256
 have i0:(0:Int)≤(n:Int):=by omega
 have i1:(n:Int)+1<512:=by omega
 have i2:(0:Int)≤(n:Int)+1:=by omega
 have i3:(n:Int)<512:=by omega
 clear hB lx e0
 go_enter func110,ntmps110
 go_wp2_with fail
 go_loopw [3,8] (fun x i wr=>(i=iv ((n:Int)+1)∧x=iv v∧wr=w)∨(i=iv n∧x=iv (v/256)∧Blk wr b (cor R (xs.set (n+1) (v%256)) u ST HA) ty∧Kept b (b+1) w wr)∨(i=iv ((n:Int)-1)∧Blk wr b (cor R ((xs.set (n+1) (v%256)).set n (v/256)) u ST HA) ty∧Kept b (b+1) w wr)) (fun _ i _=>(intOf i-n+1).toNat)
 case atStart=>exact .inl ⟨by go_num,rfl,rfl⟩
 case round=>
  rcases hrel with ⟨rfl,rfl,rfl⟩|⟨rfl,rfl,hb,hk⟩|⟨rfl,hb,hk⟩
  ·go_wp2
   go_roundw
   case rel=>exact .inr (.inl ⟨by go_num,by go_num,HB.out.setCB (by rw [LX.out];omega) _,kept_set (Kept.refl _ _ _) _ _ _ (.inl (by omega))⟩)
   case measure=>simp [intOf];omega
  ·have HB2:=hide hb
   have HK2:=hide hk
   have c0:=hb.cell (cor_at (r:=R) (u:=u) (st:=ST) (ha:=HA) (i:=n) (by rw [List.length_set,LX.out];omega))
   have f0:=hb.frozen (14+n)
   clear hb hk c1 f1
   go_wp2
   go_roundw
   case rel=>exact .inr (.inr ⟨rfl,HB2.out.setCB (by rw [List.length_set,LX.out];omega) _,kept_set HK2.out _ _ _ (.inl (by omega))⟩)
   case measure=>simp [intOf];omega
  ·have HB2:=hide hb
   have HK2:=hide hk
   clear hb hk
   have hd:decide ((n:Int)≤(n:Int)-1)=false:=by simp;omega
   go_wp2
   go_end0
   refine ⟨rfl,?_,HK2.out⟩
   have h:=HB2.out
   rw [List.set_comm _ _ (by omega)] at h
   exact h
theorem cMemWrite (w:World) {R:Pl.Rg} {ST HA:Bool} (b:Nat) (u:Value) (ty:TypeId) (xs:List Int) (s:Int) (n:Nat) (v:Int) (hB:Blk w b (cor R xs u ST HA) ty) (lx:xs.length=512) (hs:(s=1∧v≤255)∨(s=2∧v≤65535)) (hn:(n:Int)+s≤512) (v0:0≤v) :
  Calls prog 110 #[.pointer (some ⟨b,14,none⟩),iv s,iv n,iv v] w fun e w'=>e=.returned (.tuple #[])∧Blk w' b (cor R (Pl.wr xs s n v) u ST HA) ty∧Kept b (b+1) w w':=by
 rcases hs with ⟨rfl,hv⟩|⟨rfl,hv⟩
 ·exact cMemWrite1 w b u ty xs n v hB lx (by omega) v0 hv
 ·exact cMemWrite2 w b u ty xs n v hB lx (by omega) v0 hv
theorem cCarryOut_w (w:World) {R:Pl.Rg} {ST HA:Bool} (b q:Nat) (u:Value) (xs:List Int) (s:Int) (n:Nat) (v c:Int) (hB:Blk w b (cor R xs u ST HA) 89) (hQ:Blk w q #[iv 2,iv s,iv n,iv v,iv c] 96) (lx:xs.length=512) (hs:(s=1∧v≤255)∨(s=2∧v≤65535)) (hn:(n:Int)+s≤512) (v0:0≤v) (hne:q≠b) :
  Calls prog 101 #[.pointer (some ⟨b,14,none⟩),.pointer (some ⟨q,0,none⟩)] w fun e w'=>e=.returned (.tuple #[])∧Blk w' b (cor R (Pl.wr xs s n v) u ST HA) 89∧Kept b (b+1) w w':=by
 have HB:=hide hB
 have HX:=hide lx
 have HS:=hide hs
 have HN:=hide hn
 have HQ:=hide hQ
 have q0:=hQ.all
 clear hB hQ lx hs hn
 go_enter func101,ntmps101
 go_wp2_with fail
 go_region_held3 (fun w'=>w'.cell? ⟨q,1,none⟩=some (iv s)∧w'.cell? ⟨q,2,none⟩=some (iv n)∧w'.cell? ⟨q,3,none⟩=some (iv v)) (first|exact accS Q3.out|go_keep)
  (first|(go_at_call 110;refine (cMemWrite _ b u 89 xs s n v (HB.out.kept0 (kept_drew (Kept.refl _ _ _))) HX.out HS.out HN.out v0).mono ?_;rintro e w3 ⟨rfl,hb3,kd⟩;have B3:=hide hb3;have K3:=hide (undrewK kd);have Q3:=hide (HQ.out.kept (undrewK kd) (by omega));clear hb3 kd))
 go_wp2_with fail
 refine bodyPost_ret (results_none rfl _ _ _) rfl ⟨rfl,B3.out,K3.out⟩
theorem cCarryOut_r (w:World) {R:Pl.Rg} {ST HA:Bool} (b q:Nat) (u:Value) (xs:List Int) (k s:Int) (n:Nat) (v c:Int) (hB:Blk w b (cor R xs u ST HA) 89) (hQ:Blk w q #[iv k,iv s,iv n,iv v,iv c] 96) (lx:xs.length=512) (hby:Pl.bytesOk xs=true) (hk:¬k=2) (hs:s=1∨s=2) (hn:(n:Int)+s≤512) (hne:q≠b) :
  Calls prog 101 #[.pointer (some ⟨b,14,none⟩),.pointer (some ⟨q,0,none⟩)] w fun e w'=>e=.returned (.tuple #[])∧Blk w' q #[iv k,iv s,iv n,iv (Pl.rd xs s n),iv c] 96∧Kept q (q+1) w w':=by
 have HB:=hide hB
 have HX:=hide lx
 have HS:=hide hs
 have HN:=hide hn
 have HQ:=hide hQ
 have HBY:=hide hby
 have hu:=underlying84
 have hcs:(xs.map (Value.int .i64)).length=512:=by rw [List.length_map,lx]
 have hi:(prog.info? 84).map (·.size)=some (xs.map (Value.int .i64)).length:=by rw [hcs];exact Tryz.memSize
 have h1:∀v∈xs.map (Value.int .i64),v.oneCell'=true:=news_one
 have q0:=hQ.all
 have r1:=(corS hB lx).1
 have k2:(k==2)=false:=by simpa using hk
 clear hB hQ lx hs hn hk hby
 go_enter func101,ntmps101
 go_wp2_with fail
 go_region_held3 (fun w'=>w'.rangeAt b 14 (xs.map (Value.int .i64))∧w'.cell? ⟨q,1,none⟩=some (iv s)∧w'.cell? ⟨q,2,none⟩=some (iv n)) (first|exact ⟨(corS B3.out HX.out).1,accR Q3.out⟩|exact ⟨(corS (B3.out.other _ _ _ (fun e=>hne e.symm)) HX.out).1,accR (Q3.out.set 3 _)⟩|go_keep_ranges|go_keep)
  (first|(go_at_call 111;refine (memReadI _ xs s n HX.out HBY.out HS.out HN.out).mono ?_;rintro e w3 ⟨rfl,kd⟩;have K3:=hide (undrewK kd);have B3:=hide (HB.out.kept0 (undrewK kd));have Q3:=hide (HQ.out.kept0 (undrewK kd));have c3:=Q3.out.cell (i:=3) rfl;have f3:=Q3.out.frozen 3;clear kd))
 go_wp2_with fail
 go_end0
 refine ⟨rfl,Q3.out.set 3 _,?_⟩
 exact kept_set K3.out.any _ _ _ (.inl (by omega))
theorem since_two {w X w3:World} {b q g:Nat} (k:Kept 0 0 w X) (h:FrP (fun i=>i=b∨i=q) X w3) (hq:w.heap.size≤q):Since w b (b+1) g w3 g:=
 ⟨.inl rfl,⟨h.os.trans k.os,h.tape.trans k.tape,h.output.trans k.output,Nat.le_trans k.size h.size,fun i hi hn=>(h.block i (Nat.lt_of_lt_of_le hi k.size) (by unfold own at hn;omega)).trans (k.block i hi (by omega))⟩⟩
theorem cNote_not (w:World) {R:Pl.Rg} {ST HA:Bool} (b:Nat) (xs:List Int) (d:Option Addr) (m cu:Nat) (k s a v c:Int) (hB:Blk w b (cor R xs (.slice d m cu) ST HA) 89) (lx:xs.length=512) (bm:m≤400) (lo : -9223372036854775808≤v) (hi:v≤9223372036854775807) (hno:(decide (m<400)&&Pl.accOk k s a v c)=false) :
  Calls prog 102 #[.pointer (some ⟨b,14,none⟩),.agg #[iv k,iv s,iv a,iv v,iv c]] w fun e w'=>e=.returned (.tuple #[])∧Kept 0 0 w w':=by
 have HB:=hide hB
 have l0:=hB.cell (cor_log lx)
 have K0:=hide (kept_alloc w (.cells #[iv k,iv s,iv a,iv v,iv c] 96))
 have l1:=(hB.alloc (.cells #[iv k,iv s,iv a,iv v,iv c] 96)).cell (cor_log lx)
 clear hB
 cases h1:decide ((m:Int)<400)
 ·go_enter func102,ntmps102
  go_wp2_with (go_at_call 79;fail)
  go_end0
  exact ⟨rfl,K0.out⟩
 ·have h2:Pl.accOk k s a v c=false:=by
   rw [show decide (m<400)=true from by simp at h1;simp;omega,Bool.true_and] at hno
   exact hno
  clear hno
  go_enter func102,ntmps102
  go_wp2_with (go_at_call 79;refine (isLogged _ _ _ _ _ _ lo hi).mono ?_;rintro e w' ⟨rfl,o,p,rfl⟩;rw [h2])
  go_end0
  exact ⟨rfl,kept_new (kept_new K0.out _) _⟩
theorem cNote_put (w:World) {R:Pl.Rg} {ST HA:Bool} (b base g2:Nat) (xs ys:List Int) (m cu:Nat) (k s a v c:Int) (hB:Blk w b (cor R xs (.slice (some ⟨g2,0,none⟩) m cu) ST HA) 89) (lx:xs.length=512) (hO:w.ownsRow base 96 5 (.slice (some ⟨g2,0,none⟩) m cu) m (ys.map (Value.int .i64))) (hb:base≤b) (hbs:base≤w.heap.size) (hne:b≠g2) (bm:m<400) (lo : -9223372036854775808≤v) (hi:v≤9223372036854775807) (hyes:Pl.accOk k s a v c=true) :
  Calls prog 102 #[.pointer (some ⟨b,14,none⟩),.agg #[iv k,iv s,iv a,iv v,iv c]] w fun e w'=>∃g3 c3:Nat,e=.returned (.tuple #[])∧Blk w' b (cor R xs (.slice (some ⟨g3,0,none⟩) (m+1) c3) ST HA) 89∧w'.ownsRow base 96 5 (.slice (some ⟨g3,0,none⟩) (m+1) c3) (m+1) ((ys++[k,s,a,v,c]).map (Value.int .i64))∧b≠g3∧Since w b (b+1) g2 w' g3:=by
 obtain ⟨i,hi0,hz0,hz1,hz2⟩:=info_parts Tryz.infoAcc
 have HB:=hide hB
 have HO:=hide hO
 have HX:=hide lx
 have l0:=hB.cell (cor_log lx)
 have K0:=hide (kept_alloc w (.cells #[iv k,iv s,iv a,iv v,iv c] 96))
 have l1:=(hB.alloc (.cells #[iv k,iv s,iv a,iv v,iv c] 96)).cell (cor_log lx)
 have h1:decide ((m:Int)<400)=true:=by simp;omega
 clear hB hO
 go_enter func102,ntmps102
 go_wp2_with (go_at_call 79;refine (isLogged _ _ _ _ _ _ lo hi).mono ?_;rintro e w' ⟨rfl,o,p,rfl⟩;rw [hyes])
 have BW:=hide ((((HB.out.alloc (.cells #[iv k,iv s,iv a,iv v,iv c] 96)).alloc o)).alloc p)
 have AW:=hide (((Blk.new w #[iv k,iv s,iv a,iv v,iv c] 96).alloc o).alloc p)
 have KW:=hide (kept_new (kept_new K0.out o) p)
 have OW:=hide (((HO.out.alloc (.cells #[iv k,iv s,iv a,iv v,iv c] 96)).alloc o).alloc p)
 obtain ⟨W,hW⟩:∃W:World,W=((w.alloc (.cells #[iv k,iv s,iv a,iv v,iv c] 96)).alloc o).alloc p:=⟨_,rfl⟩
 rw [←hW] at BW AW KW OW ⊢
 have hsz:w.heap.size<W.heap.size:=AW.out.lt
 clear hW l0 l1
 have z0:=BW.out.cell (cor_log HX.out)
 have a0:=AW.out.all
 have y0:∀o,(W.alloc o).cell? ⟨b,526,none⟩=some (.slice (some ⟨g2,0,none⟩) m cu):=fun o=>(BW.out.alloc o).cell (cor_log HX.out)
 have H63:Hid (m+1≤maxLen):=hide (by unfold maxLen;omega)
 have HBY:Hid ((m+1)*40≤140737488355328):=hide (by omega)
 go_region_law ((refine step_append_lies _ (by rfl) _ _ _ (by rfl) base 96 i _ 5 40 underlying34 hi0 hz0 hz1 hz2 rfl (by omega) (.slice (some ⟨g2,0,none⟩) m cu) m (ys.map (Value.int .i64)) (by rfl) ((OW.out.alloc _).drew) ⟨W.heap.size,0,none⟩ 1 1 [iv k,iv s,iv a,iv v,iv c] (by rfl) (by rfl) (World.news_of_block (cs:=#[iv k,iv s,iv a,iv v,iv c]) (t:=96) (fr:=(0,0)) (heap_alloc_new W _)) (by simp [Value.oneCell']) (by omega) H63.out HBY.out (by simp;omega) (W.heap.size+1) (by simp) ?_;intro g3 c3 w1 hown1 hgrow hat hlt;have B1:Hid (Blk w1 b (cor R xs (.slice (some ⟨g2,0,none⟩) m cu) ST HA) 89):=hide ((hgrow.block b (by have:=BW.out.lt;simp;omega) (by simp [Value.ownBlock];omega)).trans (BW.out.alloc _));have e0:=B1.out.cell (cor_log HX.out);have e1:=B1.out.frozen 526;have G1:=hide hgrow;have O1:=hide hown1;clear hgrow hown1))
 all_goals
  go_end0
  have lb:=HB.out.lt
  have lB:=BW.out.lt
  obtain ⟨l1,l2⟩:=HO.out.lt g2 rfl
  have hat':g2=g3∨g3=W.heap.size+1:=by
   rcases hat with h|h
   ·exact .inl (Option.some.inj h)
   ·exact .inr h
  have hb3:b≠g3:=by omega
  refine ⟨g3,c3,rfl,B1.out.setCU HX.out _,?_,hb3,?_⟩
  ·have h:=O1.out.kept (grownBy_set w1 b 526 (.slice (some ⟨g3,0,none⟩) (m+1) c3)) (.inr (fun e=>by have h2:g3=b:=Option.some.inj e;omega))
   rw [List.map_append]
   exact h
  ·have k1:Kept 0 0 w (W.alloc (.cells #[iv k,iv s,iv a,iv v,iv c] 96)).drew:=kept_drew (kept_new KW.out _)
   exact ⟨by omega,((frp_kept k1 (by omega)).grown G1.out (fun x hx=>.inr (Option.some.inj hx).symm)).set b 526 _ (.inl (.inl (by omega)))⟩
theorem cCarryOut (w:World) {R:Pl.Rg} {ST HA:Bool} (b q base g2:Nat) (xs ys:List Int) (m cu:Nat) (k s a v c:Int) (hB:Blk w b (cor R xs (.slice (some ⟨g2,0,none⟩) m cu) ST HA) 89) (hQ:Blk w q #[iv k,iv s,iv a,iv v,iv c] 96) (lx:xs.length=512) (hby:Pl.bytesOk xs=true)
  (hO:w.ownsRow base 96 5 (.slice (some ⟨g2,0,none⟩) m cu) m (ys.map (Value.int .i64))) (hb:base≤b) (hq:base≤q) (n1:q≠b) (n2:b≠g2) (n3:q≠g2) (hask:Pl.askOk k s a v=true) (hc:Pl.code k s a=0) :
  Calls prog 101 #[.pointer (some ⟨b,14,none⟩),.pointer (some ⟨q,0,none⟩)] w fun e w'=>e=.returned (.tuple #[])∧Blk w' b (cor R (Pl.nb xs k s a v) (.slice (some ⟨g2,0,none⟩) m cu) ST HA) 89∧Blk w' q #[iv k,iv s,iv a,iv (Pl.lv xs k s a v),iv c] 96∧
   w'.ownsRow base 96 5 (.slice (some ⟨g2,0,none⟩) m cu) m (ys.map (Value.int .i64))∧FrP (fun i=>i=b∨i=q) w w':=by
 obtain ⟨hk,hs,v0,⟨a0,a1⟩,hkv⟩:=Pl.ask_ok hask
 have hlow:=Pl.code_low hc a0
 obtain ⟨n,rfl⟩:∃n:Nat,a=(n:Int):=⟨a.toNat,by omega⟩
 by_cases h2:k=2
 ·subst h2
  have e1:Pl.nb xs 2 s n v=Pl.wr xs s n v:=by unfold Pl.nb;rw [if_pos ⟨hc,rfl⟩];rfl
  have e2:Pl.lv xs 2 s n v=v:=by unfold Pl.lv;rw [if_neg (by simp)]
  refine (cCarryOut_w w b q _ xs s n v c hB hQ lx hs (by omega) v0 n1).mono ?_
  rintro e w' ⟨rfl,hb',hk'⟩
  have lb:=hB.lt
  refine ⟨rfl,by rw [e1];exact hb',by rw [e2];exact hQ.kept hk' (by omega),hO.kept (kept_by hk') (.inr (fun e=>by have h3:g2=b:=Option.some.inj e;omega)),frp_kept hk' (by omega)⟩
 ·have e1:Pl.nb xs k s n v=xs:=by unfold Pl.nb;rw [if_neg (fun h=>h2 h.2)]
  have e2:Pl.lv xs k s n v=Pl.rd xs s n:=by unfold Pl.lv;rw [if_pos ⟨hc,h2⟩];rfl
  refine (cCarryOut_r w b q _ xs k s n v c hB hQ lx hby h2 (by omega) (by omega) n1).mono ?_
  rintro e w' ⟨rfl,hq',hk'⟩
  have lq:=hQ.lt
  refine ⟨rfl,by rw [e1];exact hB.kept hk' (by omega),by rw [e2];exact hq',hO.kept (kept_by hk') (.inr (fun e=>by have h3:g2=q:=Option.some.inj e;omega)),frp_kept hk' (by omega)⟩
theorem cNote (w:World) {R:Pl.Rg} {ST HA:Bool} (b base g2:Nat) (xs ys:List Int) (m cu:Nat) (k s a v c:Int) (hB:Blk w b (cor R xs (.slice (some ⟨g2,0,none⟩) m cu) ST HA) 89) (lx:xs.length=512) (hO:w.ownsRow base 96 5 (.slice (some ⟨g2,0,none⟩) m cu) m (ys.map (Value.int .i64))) (hb:base≤b) (hne:b≠g2) (bm:m≤400) (lo : -9223372036854775808≤v) (hi:v≤9223372036854775807)
  (m':Nat) (ys':List Int) (hm:m'=if (decide (m<400)&&Pl.accOk k s a v c)=true then m+1 else m) (hy:ys'=if (decide (m<400)&&Pl.accOk k s a v c)=true then ys++[k,s,a,v,c] else ys) :
  Calls prog 102 #[.pointer (some ⟨b,14,none⟩),.agg #[iv k,iv s,iv a,iv v,iv c]] w fun e w'=>∃g3 c3:Nat,e=.returned (.tuple #[])∧Blk w' b (cor R xs (.slice (some ⟨g3,0,none⟩) m' c3) ST HA) 89∧w'.ownsRow base 96 5 (.slice (some ⟨g3,0,none⟩) m' c3) m' (ys'.map (Value.int .i64))∧b≠g3∧Since w b (b+1) g2 w' g3:=by
 cases h:(decide (m<400)&&Pl.accOk k s a v c)
 ·rw [hm,hy,h]
  refine (cNote_not w b xs _ m cu k s a v c hB lx bm lo hi h).mono ?_
  rintro e w' ⟨rfl,k'⟩
  exact ⟨g2,cu,rfl,hB.kept0 k',hO.kept k'.grown (.inr (fun e=>by cases e)),hne,(Since.refl _ _ _ _).any k'⟩
 ·rw [hm,hy,h]
  simp only [Bool.and_eq_true,decide_eq_true_eq] at h
  have lb:=hB.lt
  show Calls _ _ _ _ _
  exact cNote_put w b base g2 xs ys m cu k s a v c hB lx hO hb (by omega) hne h.1 lo hi h.2
theorem cTouch (w:World) {R:Pl.Rg} {ST HA:Bool} (b base g2:Nat) (xs ys:List Int) (m cu:Nat) (k s a v:Int) (hB:Blk w b (cor R xs (.slice (some ⟨g2,0,none⟩) m cu) ST HA) 89) (lx:xs.length=512) (hby:Pl.bytesOk xs=true)
  (hO:w.ownsRow base 96 5 (.slice (some ⟨g2,0,none⟩) m cu) m (ys.map (Value.int .i64))) (hb:base≤b) (n2:b≠g2) (bm:m≤400) (hask:Pl.askOk k s a v=true) (T:Int) (HT:Hid (T=if k=2 then 0 else Pl.lv xs k s a v)) :
  Calls prog 86 #[.pointer (some ⟨b,14,none⟩),.agg #[iv k,iv s,iv a,iv v,iv 0]] w fun e w'=>∃g3 c3:Nat,e=.returned (.tuple #[iv T,iv (Pl.code k s a)])∧
   Blk w' b (cor R (Pl.nb xs k s a v) (.slice (some ⟨g3,0,none⟩) (Pl.nm m k s a) c3) ST HA) 89∧w'.ownsRow base 96 5 (.slice (some ⟨g3,0,none⟩) (Pl.nm m k s a) c3) (Pl.nm m k s a) ((Pl.nl xs ys m k s a v).map (Value.int .i64))∧b≠g3∧Since w b (b+1) g2 w' g3:=by
 obtain ⟨_,hs,v0,⟨a0,a1⟩,hkv⟩:=Pl.ask_ok hask
 have hs':s=1∨s=2:=by omega
 have hlog:=Pl.acc_logs lx hby hask
 have hvb:=Pl.lv_bd lx hby hask
 have hv1:Pl.lv xs k s a v≤65535:=by split at hvb<;>omega
 obtain ⟨hg0,hg1⟩:=hO.lt g2 rfl
 have lb:=hB.lt
 have HLOG:=hide hlog
 have HV:=hide (And.intro hvb.1 hv1)
 have HX:=hide lx
 have HBY:=hide hby
 have HASK:=hide hask
 have HB0:=hide hB
 have HO0:=hide hO
 clear hB hO lx hby hask hlog hvb hs hkv
 go_enter func86,ntmps86
 go_wp2_with fail
 refine (codeOf k s a v 0 _ hs' a0 a1).mono ?_
 rintro e w1 ⟨rfl,o,rfl⟩
 obtain ⟨C,hC⟩:∃C,C=Pl.code k s a:=⟨_,rfl⟩
 rw [←hC]
 have HC:=hide hC
 clear hC
 have BX:=hide ((HB0.out.alloc (.cells #[iv k,iv s,iv a,iv v,iv C] 96)).alloc o)
 have OX:=hide ((HO0.out.alloc (.cells #[iv k,iv s,iv a,iv v,iv C] 96)).alloc o)
 have QX:=hide ((Blk.new w #[iv k,iv s,iv a,iv v,iv C] 96).alloc o)
 have KX:=hide (kept_new (kept_alloc w (.cells #[iv k,iv s,iv a,iv v,iv C] 96)) o)
 obtain ⟨X,hX⟩:∃X:World,X=(w.alloc (.cells #[iv k,iv s,iv a,iv v,iv C] 96)).alloc o:=⟨_,rfl⟩
 rw [←hX] at BX OX QX KX
 cases hc:(C==0)
 ·have hc':¬Pl.code k s a=0:=by rw [←HC.out];simpa using hc
  have e1:Pl.nb xs k s a v=xs:=by unfold Pl.nb;rw [if_neg (fun h=>hc' h.1)]
  have e2:Pl.lv xs k s a v=v:=by unfold Pl.lv;rw [if_neg (fun h=>hc' h.1)]
  have E1:=hide e1
  have E2:=hide e2
  have HM:Hid (Pl.nm m k s a=if (decide (m<400)&&Pl.accOk k s a v C)=true then m+1 else m):=hide (by
   have h:=HLOG.out;rw [e2] at h;rw [HC.out,h];rfl)
  have HY:Hid (Pl.nl xs ys m k s a v=if (decide (m<400)&&Pl.accOk k s a v C)=true then ys++[k,s,a,v,C] else ys):=hide (by
   have h:=HLOG.out;rw [e2] at h;rw [HC.out,h];unfold Pl.nl;rw [e2];rfl)
  clear hc' e1 e2
  go_wp2_with fail
  rw [←hX]
  clear hX
  refine (cNote X b base g2 xs ys m cu k s a v C BX.out HX.out OX.out hb n2 bm (by omega) (by have:=HV.out;rw [E2.out] at this;omega) _ _ HM.out HY.out).mono ?_
  rintro e w4 ⟨g3,c3,rfl,hb4,ho4,hn4,hk4⟩
  have Q4:=hk4.blk QX.out (by omega) (by omega)
  have B4:=hide hb4
  have O4:=hide ho4
  have K4:=hide (((Since.refl w b (b+1) g2).any KX.out).trans hk4)
  have y0:=Q4.all
  clear hb4 ho4 hk4 Q4
  cases hk2:(k==2)
  ·have E3:Hid (v=T):=hide (by rw [HT.out,if_neg (by simpa using hk2),E2.out])
   go_wp2_with fail
   go_quiet (fail)
   go_wp2_with fail
   go_ret2
   exact ⟨g3,c3,rII E3.out HC.out,by rw [E1.out];exact B4.out,O4.out,hn4,K4.out.any (kept_drewN (Kept.refl 0 0 _) _)⟩
  ·have E3:Hid (0=T):=hide (by rw [HT.out,if_pos (by simpa using hk2)])
   go_wp2_with fail
   go_quiet (fail)
   go_wp2_with fail
   go_ret2
   exact ⟨g3,c3,rII E3.out HC.out,by rw [E1.out];exact B4.out,O4.out,hn4,K4.out.any (kept_drewN (Kept.refl 0 0 _) _)⟩
 ·have hc':Pl.code k s a=0:=by rw [←HC.out];simpa using hc
  have HC0:=hide hc'
  have HNL:Hid ((Pl.nb xs k s a v).length=512):=hide (by rw [Pl.nb_len];exact HX.out)
  have HM:Hid (Pl.nm m k s a=if (decide (m<400)&&Pl.accOk k s a (Pl.lv xs k s a v) C)=true then m+1 else m):=hide (by
   have h:=HLOG.out;rw [HC.out,h];rfl)
  have HY:Hid (Pl.nl xs ys m k s a v=if (decide (m<400)&&Pl.accOk k s a (Pl.lv xs k s a v) C)=true then ys++[k,s,a,Pl.lv xs k s a v,C] else ys):=hide (by
   have h:=HLOG.out;rw [HC.out,h];unfold Pl.nl;rfl)
  clear hc'
  go_wp2_with fail
  rw [←hX]
  clear hX
  refine (cCarryOut X b w.heap.size base g2 xs ys m cu k s a v C BX.out QX.out HX.out HBY.out OX.out hb (by omega) (by omega) n2 (by omega) HASK.out HC0.out).mono ?_
  rintro e w3 ⟨rfl,hb3,hq3,ho3,hk3⟩
  have B3:=hide hb3
  have O3:=hide ho3
  have K3:=hide (since_two (g:=g2) KX.out hk3 (Nat.le_refl _))
  have Q3:=hide hq3
  have z0:=hq3.all
  clear hb3 ho3 hk3 hq3
  go_wp2_with fail
  clear z0
  refine (cNote w3 b base g2 (Pl.nb xs k s a v) ys m cu k s a (Pl.lv xs k s a v) C B3.out HNL.out O3.out hb n2 bm (by have:=HV.out;omega) (by have:=HV.out;omega) _ _ HM.out HY.out).mono ?_
  rintro e w4 ⟨g3,c3,rfl,hb4,ho4,hn4,hk4⟩
  have Q4:=hk4.blk Q3.out (by omega) (by omega)
  have B4:=hide hb4
  have O4:=hide ho4
  have K4:=hide (K3.out.trans hk4)
  have y0:=Q4.all
  clear hb4 ho4 hk4 Q4
  cases hk2:(k==2)
  ·have E3:Hid (Pl.lv xs k s a v=T):=hide (by rw [HT.out,if_neg (by simpa using hk2)])
   go_wp2_with fail
   go_quiet (fail)
   go_wp2_with fail
   go_ret2
   exact ⟨g3,c3,rII E3.out HC.out,B4.out,O4.out,hn4,K4.out.any (kept_drewN (Kept.refl 0 0 _) _)⟩
  ·have E3:Hid (0=T):=hide (by rw [HT.out,if_pos (by simpa using hk2)])
   go_wp2_with fail
   go_quiet (fail)
   go_wp2_with fail
   go_ret2
   exact ⟨g3,c3,rII E3.out HC.out,B4.out,O4.out,hn4,K4.out.any (kept_drewN (Kept.refl 0 0 _) _)⟩
theorem cTouchC (w:World) (lo b g:Nat) (c:Pl.Mc) (h:Bool) (k s a v T:Int) (hC:CAt w lo b g c h) (G:Pl.GM c) (hask:Pl.askOk k s a v=true) (HT:Hid (T=if k=2 then 0 else Pl.lv c.bx k s a v)) :
  Calls prog 86 #[.pointer (some ⟨b,14,none⟩),.agg #[iv k,iv s,iv a,iv v,iv 0]] w fun e w'=>∃g',e=.returned (.tuple #[iv T,iv (Pl.code k s a)])∧CAt w' lo b g' (c.acc k s a v) h∧Since w b (b+1) g w' g':=by
 obtain ⟨cu,hB,hO⟩:=hC
 refine (cTouch w b lo g c.bx c.bl c.bm cu k s a v hB G.bx G.ok hO.l hO.lo' hO.ne G.bm hask T HT).mono ?_
 rintro e w' ⟨g3,c3,he,hb,ho,hn,hk⟩
 exact ⟨g3,he,⟨c3,hb,⟨ho,hO.lo',hn⟩⟩,hk⟩
def ftC (f:Pl.Ft):Array Value:=(ftA f)
theorem results_tc {fn:Func} {p q:Tmp} {tz:TypeId} (h:fn.results=#[.tmp p,.cell q tz]) (tmps:Array Value) (P:Program) (w:World) :
  (results fn tmps).run P w=((asAddr (tmps.getD q undef)).run P w).andThen fun b w₁=>((loadVar tz b).run P w₁).andThen fun u w₂=>.ok (.tuple #[tmps.getD p undef,u]) w₂:=by
 simp only [results,h]
 simp [Sem.run_bind,Result.andThen]
theorem isFault (f:Pl.Ft) (w:World):Calls prog 84 #[.agg (ftA f)] w fun e w'=>e=.returned (.bool (f.v != 0))∧Kept 0 0 w w':=by
 go_enter func84,ntmps84
 go_wp2
 go_ret
 exact ⟨rfl,kept_alloc _ _⟩
theorem acc5 {w:World} {q:Nat} {k s a v c:Int} {ty:TypeId} (h:Blk w q #[iv k,iv s,iv a,iv v,iv c] ty):w.cell? ⟨q,0,none⟩=some (iv k)∧w.cell? ⟨q,1,none⟩=some (iv s)∧w.cell? ⟨q,2,none⟩=some (iv a)∧w.cell? ⟨q,3,none⟩=some (iv v)∧w.cell? ⟨q,4,none⟩=some (iv c):=
 ⟨h.cell (i:=0) rfl,h.cell (i:=1) rfl,h.cell (i:=2) rfl,h.cell (i:=3) rfl,h.cell (i:=4) rfl⟩
theorem cAccess (w:World) (lo b g:Nat) (c:Pl.Mc) (h:Bool) (k s a v:Int) (hC:CAt w lo b g c h) (G:Pl.GM c) (hask:Pl.askOk k s a v=true) (V:Int) (HV:Hid (V=if k=2 then 0 else Pl.lv c.bx k s a v)) (F:Pl.Ft) (HF:Hid (F=Pl.Mc.accF Pl.ftNo k s a)) :
  Calls prog 58 #[.pointer (some ⟨b,0,none⟩),.agg #[iv k,iv s,iv a,iv v,iv 0]] w fun e w'=>∃g',e=.returned (.tuple #[iv V,.agg (ftC F)])∧CAt w' lo b g' (c.acc k s a v) h∧Since w b (b+1) g w' g':=by
 obtain ⟨l0,l1,l2,l3,l4⟩:=hC.lt
 have HC:=hide ((hC.alloc (.cells #[iv k,iv s,iv a,iv v,iv 0] 96)).alloc (.cells (ftC Pl.ftNo) 42))
 have A0:=hide ((Blk.new w #[iv k,iv s,iv a,iv v,iv 0] 96).alloc (.cells (ftC Pl.ftNo) 42))
 have F0:=Blk.new (w.alloc (.cells #[iv k,iv s,iv a,iv v,iv 0] 96)) (ftC Pl.ftNo) 42
 simp only [World.size_alloc] at F0
 replace F0:=hide F0
 have K0:=hide (kept_new (kept_alloc w (.cells #[iv k,iv s,iv a,iv v,iv 0] 96)) (.cells (ftC Pl.ftNo) 42))
 have HG:=hide G
 have HASK:=hide hask
 clear hC G hask
 obtain ⟨X,hX⟩:∃X:World,(w.alloc (.cells #[iv k,iv s,iv a,iv v,iv 0] 96)).alloc (.cells (ftC Pl.ftNo) 42)=X:=⟨_,rfl⟩
 rw [hX] at HC A0 F0 K0
 obtain ⟨a0,a1,a2,a3,a4⟩:=acc5 A0.out
 have hX':(w.alloc (.cells #[iv k,iv s,iv a,iv v,iv 0] 96)).alloc (.cells ftZ 42)=X:=hX
 clear hX
 go_enter func58,ntmps58
 go_wp2_with fail
 clear hX'
 go_region_held3 (fun w'=>w'.cell? ⟨w.heap.size,0,none⟩=some (iv k)∧w'.cell? ⟨w.heap.size,1,none⟩=some (iv s)∧w'.cell? ⟨w.heap.size,2,none⟩=some (iv a)∧w'.cell? ⟨w.heap.size,3,none⟩=some (iv v)∧w'.cell? ⟨w.heap.size,4,none⟩=some (iv 0)) (first|exact acc5 A3.out|exact acc5 (show Blk _ _ _ _ from A0.out)|go_keep)
  (first|(go_at_call 86;refine (cTouchC _ lo b g c h k s a v V HC.out.drew HG.out HASK.out HV).mono ?_;rintro e w3 ⟨g',rfl,hc3,hs3⟩;have C3:=hide hc3;have S3:=hide (((Since.refl w b (b+1) g).any (kept_drew K0.out)).trans hs3);have A3:=hide (hs3.blk (show Blk X.drew _ _ _ from A0.out) (by omega) (by omega));have F3:=hide (hs3.blk (show Blk X.drew _ _ _ from F0.out) (by omega) (by omega));have n3:=hs3.ne (b:=w.heap.size+1) F0.out.lt (by omega);clear hc3 hs3))
 clear a0 a1 a2 a3 a4
 obtain ⟨a0,a1,a2,a3,a4⟩:=acc5 A3.out
 have p:=(show Blk w3 (w.heap.size+1) ftZ 42 from F3.out).all
 have z:=F3.out.fz
 obtain ⟨C,hCd⟩:∃C,C=Pl.code k s a:=⟨_,rfl⟩
 rw [←hCd]
 unfold Pl.Mc.accF at HF
 rw [←hCd] at HF
 have V0:Hid (¬C=0→V=0):=hide (by
  intro hn
  rw [HV.out]
  split
  ·rfl
  ·rename_i h2
   obtain ⟨_,_,_,_,h5⟩:=Pl.ask_ok HASK.out
   rw [show v=0 by omega]
   unfold Pl.lv
   rw [if_neg (by rw [←hCd];exact fun q=>hn q.1)])
 clear hCd HV
 cases h0:(C==0)
 ·have EV:=hide (V0.out (by simpa using h0))
  have e1:(C != 0)=true:=by simpa using h0
  rw [e1] at HF
  cases h2:(C==2)
  ·rw [h2] at HF
   have q:F=⟨2,0,a,0,k==2⟩:=HF.out
   subst q
   clear HF e1
   go_wp2_with fail
   go_region
   go_wp2_with fail
   have K5:=kept_drew (((((kept_one w3 (w.heap.size+1) 0 (iv 2)).one 1 (iv 0)).one 2 (iv a)).one 3 (iv 0)).one 4 (.bool (k==2)))
   refine bodyPost_ret (v:=.tuple #[iv 0,.agg #[iv 2,iv 0,iv a,iv 0,.bool (k==2)]]) ?_ rfl ⟨g',by rw [EV.out];rfl,C3.out.kept K5 (by omega) (by omega),S3.out.mine K5 (by omega)⟩
   rw [results_tc rfl];go_simp
  ·rw [h2] at HF
   have q:F=⟨3,0,a,0,k==2⟩:=HF.out
   subst q
   clear HF e1
   go_wp2_with fail
   go_region
   go_wp2_with fail
   have K5:=kept_drew (((((kept_one w3 (w.heap.size+1) 0 (iv 3)).one 1 (iv 0)).one 2 (iv a)).one 3 (iv 0)).one 4 (.bool (k==2)))
   refine bodyPost_ret (v:=.tuple #[iv 0,.agg #[iv 3,iv 0,iv a,iv 0,.bool (k==2)]]) ?_ rfl ⟨g',by rw [EV.out];rfl,C3.out.kept K5 (by omega) (by omega),S3.out.mine K5 (by omega)⟩
   rw [results_tc rfl];go_simp
 ·have e1:(C != 0)=false:=by simpa using h0
  rw [e1] at HF
  have q:F=Pl.ftNo:=HF.out
  subst q
  clear HF e1
  go_wp2_with fail
  have K5:=((((kept_one w3 (w.heap.size+1) 0 (iv 0)).one 1 (iv 0)).one 2 (iv 0)).one 3 (iv 0)).one 4 (.bool false)
  refine bodyPost_ret (v:=.tuple #[iv V,.agg ftZ]) ?_ rfl ⟨g',rfl,C3.out.kept K5 (by omega) (by omega),S3.out.mine K5 (by omega)⟩
  rw [results_tc rfl];go_simp
theorem cPush (w:World) (lo b g:Nat) (c:Pl.Mc) (h:Bool) (v:Int) (hC:CAt w lo b g c h) (G:Pl.GM c) (hf:c.f=Pl.ftNo) (v0:0≤v) (v1:v≤65535) :
  Calls prog 57 #[.pointer (some ⟨b,0,none⟩),iv v] w fun e w'=>∃g',e=.returned (.agg (ftC (c.push v).f))∧CAt w' lo b g' (c.push v) h∧Since w b (b+1) g w' g':=by
 have HA:=hide (Pl.ask_push (c:=c) v0 v1)
 obtain ⟨F,hF⟩:∃F,F=Pl.Mc.accF Pl.ftNo 2 2 c.spA:=⟨_,rfl⟩
 have HF:=hide hF
 have EF:Hid ((c.acc 2 2 c.spA v).f=F):=hide (by show Pl.Mc.accF c.f 2 2 c.spA=F;rw [hf,hF])
 obtain ⟨A,hA⟩:∃A,A=c.spA:=⟨_,rfl⟩
 rw [←hA] at HA HF EF
 have eA:(el c.r.ys 3-2)%65536=A:=hA.symm
 have HPA:Hid (c.spA=A):=hide hA.symm
 clear hA hF
 obtain ⟨l0,l1,l2,l3,l4⟩:=hC.lt
 obtain ⟨a30,a31⟩:=G.g.aw 3 (by omega)
 have h4:=hide G.g.a4
 have HG:=hide G
 have C0:=hide (hC.alloc (.cells ftZ 42))
 have R0:=hide (Blk.new w ftZ 42)
 have K0:=hide (kept_alloc w (.cells ftZ 42))
 obtain ⟨X,hX⟩:∃X:World,w.alloc (.cells ftZ 42)=X:=⟨_,rfl⟩
 rw [hX] at C0 R0 K0
 have x7:X.cell? ⟨b,7,none⟩=some (iv (el c.r.ys 3)):=C0.out.cY (k:=3) (by omega)
 clear hC G
 cases hv:(F.v != 0)
 ·have E:Hid (c.push v=(c.acc 2 2 A v).setA 3 A):=hide (by
   unfold Pl.Mc.push;rw [HPA.out]
   rw [show (c.acc 2 2 A v).fine=true by unfold Pl.Mc.fine;rw [EF.out];simpa using hv];rfl)
  go_enter func57,ntmps57
  go_wp2_with (first|(go_at_call 85;refine (wrapWord _ _).mono ?_;rintro e w' ⟨rfl,rfl⟩;rw [eA])|(go_at_call 58;refine (cAccess _ lo b g c h 2 2 A v C0.out HG.out HA.out 0 (hide rfl) F HF).mono ?_;rintro e w3 ⟨g',rfl,hc3,hs3⟩;unfold ftC;have S3:=hide (((Since.refl w b (b+1) g).any K0.out).trans hs3);have R3:=hide ((hs3.blk R0.out (by omega) (by omega)).alloc (.cells (ftA F) 42));have C3:=hide (hc3.alloc (.cells (ftA F) 42));have L3:=hide (Blk.new w3 (ftA F) 42);have z3:=hs3.size;have n3:=hs3.ne (b:=w.heap.size) R0.out.lt (by omega);clear hc3 hs3)|(go_at_call 84;refine (isFault F _).mono ?_;rintro e w4 ⟨rfl,k4⟩;have S4:=hide (S3.out.any ((kept_alloc w3 (.cells (ftA F) 42)).trans k4));have R4:=hide (R3.out.kept0 k4);have C4:=hide (C3.out.any k4);have L4:=hide (L3.out.kept0 k4);have y7:w4.cell? ⟨b,7,none⟩=some (iv (el c.r.ys 3)):=C4.out.cY (k:=3) (by omega);have yf:=C4.out.fz;have q:=L4.out.all;have r:=(show Blk w4 w.heap.size ftZ 42 from R4.out).all;have rf:=R4.out.fz;clear k4;rw [hv]))
  have K5:=(((((kept_one w4 w.heap.size 0 (iv F.v)).one 1 (iv F.pc)).one 2 (iv F.ad)).one 3 (iv F.wo)).one 4 (.bool F.wr))
  have C5:=C4.out.setY h4.out (k:=3) (by omega) A
  have S5:=S4.out.set b 7 (iv A) (.inl (by omega))
  have K5:=(((((kept_one (w4.setCell ⟨b,7,none⟩ (iv A)) w.heap.size 0 (iv F.v)).one 1 (iv F.pc)).one 2 (iv F.ad)).one 3 (iv F.wo)).one 4 (.bool F.wr))
  refine bodyPost_ret (v:=.agg (ftA F)) ?_ rfl ⟨g',?_,?_,S5.mine K5 (by omega)⟩
  ·rw [results_one rfl];go_simp
  ·rw [E.out,show ((c.acc 2 2 A v).setA 3 A).f=F from EF.out];rfl
  ·rw [E.out];exact C5.kept K5 (by omega) (by omega)
 ·have E:Hid (c.push v=c.acc 2 2 A v):=hide (by
   unfold Pl.Mc.push;rw [HPA.out]
   rw [show (c.acc 2 2 A v).fine=false by unfold Pl.Mc.fine;rw [EF.out];simpa using hv];rfl)
  go_enter func57,ntmps57
  go_wp2_with (first|(go_at_call 85;refine (wrapWord _ _).mono ?_;rintro e w' ⟨rfl,rfl⟩;rw [eA])|(go_at_call 58;refine (cAccess _ lo b g c h 2 2 A v C0.out HG.out HA.out 0 (hide rfl) F HF).mono ?_;rintro e w3 ⟨g',rfl,hc3,hs3⟩;unfold ftC;have S3:=hide (((Since.refl w b (b+1) g).any K0.out).trans hs3);have R3:=hide ((hs3.blk R0.out (by omega) (by omega)).alloc (.cells (ftA F) 42));have C3:=hide (hc3.alloc (.cells (ftA F) 42));have L3:=hide (Blk.new w3 (ftA F) 42);have z3:=hs3.size;have n3:=hs3.ne (b:=w.heap.size) R0.out.lt (by omega);clear hc3 hs3)|(go_at_call 84;refine (isFault F _).mono ?_;rintro e w4 ⟨rfl,k4⟩;have S4:=hide (S3.out.any ((kept_alloc w3 (.cells (ftA F) 42)).trans k4));have R4:=hide (R3.out.kept0 k4);have C4:=hide (C3.out.any k4);have L4:=hide (L3.out.kept0 k4);have y7:w4.cell? ⟨b,7,none⟩=some (iv (el c.r.ys 3)):=C4.out.cY (k:=3) (by omega);have yf:=C4.out.fz;have q:=L4.out.all;have r:=(show Blk w4 w.heap.size ftZ 42 from R4.out).all;have rf:=R4.out.fz;clear k4;rw [hv]))
  have K5:=(((((kept_one w4 w.heap.size 0 (iv F.v)).one 1 (iv F.pc)).one 2 (iv F.ad)).one 3 (iv F.wo)).one 4 (.bool F.wr))
  refine bodyPost_ret (v:=.agg (ftA F)) ?_ rfl ⟨g',?_,?_,S4.out.mine K5 (by omega)⟩
  ·rw [results_one rfl];go_simp
  ·rw [E.out,EF.out];rfl
  ·rw [E.out];exact C4.out.kept K5 (by omega) (by omega)
def ftPanic (F:Pl.Ft) (r:Bool):PanicEntry:={v:=.iface 42 (.agg (ftA F)),recovered:=r}
theorem giveUp0 (F:Pl.Ft) (w:World) (h:(F.v != 0)=false):Calls prog 56 #[.agg (ftA F)] w fun e w'=>e=.returned (.tuple #[])∧Kept 0 0 w w':=by
 have K0:=hide (kept_alloc w (.cells (ftA F) 42))
 go_enter func56,ntmps56
 go_wp2_with (go_at_call 84;refine (isFault F _).mono ?_;rintro e w2 ⟨rfl,k2⟩;rw [h])
 go_end0
 exact ⟨rfl,K0.out.trans k2⟩
theorem giveUp1 (F:Pl.Ft) (w:World) (h:(F.v != 0)=true):Calls prog 56 #[.agg (ftA F)] w fun e w'=>e=.panicked [ftPanic F false]∧Kept 0 0 w w':=by
 have K0:=hide (kept_alloc w (.cells (ftA F) 42))
 have B0:=hide (Blk.new w (ftA F) 42)
 go_enter func56,ntmps56
 go_wp2_with (go_at_call 84;refine (isFault F _).mono ?_;rintro e w2 ⟨rfl,k2⟩;rw [h];have q:=(B0.out.kept0 k2).all)
 exact ⟨rfl,rfl,K0.out.trans k2⟩
theorem taF (v:Value) (w:World):(Instr.typeAssert (.iface 42 v) 20 42 true).run prog w=.ok (.tuple #[v,.bool true]) w:=by kernel_rfl
theorem ent_caught (q b:Nat) (F:Pl.Ft) (w:World) (hq:(w.alloc (.cells (ftA F) 42)).cell? ⟨q,0,none⟩=some (.pointer (some ⟨b,0,none⟩))) (x:Bool) (hc:(w.alloc (.cells (ftA F) 42)).cell? ⟨b,528,none⟩=some (.bool x)) (hz:(w.alloc (.cells (ftA F) 42)).frozen? ⟨b,528,none⟩=false) :
  CallsD prog 52 #[.pointer (some ⟨q,0,none⟩)] (.panicking [ftPanic F false]) w fun e u' w'=>e=.returned (.tuple #[])∧u'=.panicking [ftPanic F true]∧w'=(w.alloc (.cells (ftA F) 42)).setCell ⟨b,528,none⟩ (.bool true):=by
 refine callsD_of_wpS func52 rfl fun c₀ cs hu => ?_
 unfold ftPanic at hu
 apply wpS_seq
 apply wpS_region
 simp [wpOpsS,go_sem,recoverD,hu,ntmps52,Exit.thenS]
 have ta:=taF
 refine wpS_of_wp ?_
 go_wp2
 exact ⟨rfl,.panicking [ftPanic F true],rfl,.tuple #[],results_none rfl _ _ _,rfl,rfl,rfl⟩
theorem ent_idle (q:Nat) (w:World) :
  CallsD prog 52 #[.pointer (some ⟨q,0,none⟩)] .returning w fun e u' w'=>e=.returned (.tuple #[])∧u'=.returning∧w'=w:=by
 refine callsD_of_wpS func52 rfl fun c₀ cs hu => ?_
 apply wpS_seq
 apply wpS_region
 simp [wpOpsS,go_sem,recoverD,hu,ntmps52,Exit.thenS]
 refine wpS_of_wp ?_
 go_wp2
 cases c₀
 simp_all [bodyPostS,results,f52]
theorem hasLong (f:Pl.Ft) (w:World):Calls prog 49 #[.agg (ftA f)] w fun e w'=>e=.returned (.bool (Pl.ftLong f.v))∧Kept 0 0 w w':=by
 have H:f.v=2∨¬f.v=2∧(f.v=3∨¬f.v=3):=by omega
 rcases H with h2|⟨h2,h3|h3⟩
 all_goals
  obtain ⟨v,pc,ad,wo,wr⟩:=f
  simp only at h2
  try simp only at h3
  try subst h2
  try subst h3
  go_enter func49,ntmps49
  go_wp2
  go_ret
  exact ⟨rB (by simp [Pl.ftLong, *]),kept_alloc _ _⟩
theorem implGoodFault (f:Pl.Ft) (w:World) (wf:Pl.WfF f):Calls prog 20 #[.agg (ftA f)] w fun e w'=>e=.returned (.bool (Pl.ftOk f))∧Kept 0 0 w w':=by
 have K0:=hide (kept_alloc w (.cells (ftA f) 42))
 have B0:=hide (Blk.new w (ftA f) 42)
 obtain ⟨p0,p1,a0,a1,w0,w1⟩:=wf
 have H:=Pl.ft_ways f
 rcases H with h1|⟨h1,h2⟩|⟨⟨h1,h2⟩,h3|⟨h3,h4|⟨h4,h5|⟨h5,h6|⟨h6,h7|h7⟩⟩⟩⟩⟩
 all_goals
  go_enter func20,ntmps20
  go_wp2_with (first|(go_at_call 48;have z:=Z2;refine (isWord f.wo _ w0 w1).mono ?_;rintro e w' ⟨rfl,rfl⟩;rw [h5])|(go_at_call 48;have z:=Z1;refine (isWord f.ad _ a0 a1).mono ?_;rintro e w' ⟨rfl,rfl⟩;rw [h4];have Z2:True:=trivial)|(go_at_call 48;refine (isWord f.pc _ p0 p1).mono ?_;rintro e w' ⟨rfl,rfl⟩;rw [h3];have Z1:True:=trivial)|(go_at_call 49;refine (hasLong f _).mono ?_;rintro e w2 ⟨rfl,k2⟩;rw [h6];have q:=(B0.out.kept0 k2).all))
  go_ret
  refine ⟨rB ?_,?_⟩
  ·try clear q
   try clear k2
   clear K0 B0
   unfold Pl.ftOk Pl.within;simp_all;try omega
  ·first|exact K0.out|exact K0.out.trans k2
theorem listOf (x0 x1 x2 x3:Int) (w:World) :
  Calls prog 87 #[.agg #[iv x0,iv x1,iv x2,iv x3]] w fun e w'=>∃g:Nat,e=.returned (.slice (some ⟨g,0,none⟩) 4 4)∧w.heap.size≤g∧Blk w' g (cellsOf [x0,x1,x2,x3]) 3∧Kept 0 0 w w':=
 (listOf4 x0 x1 x2 x3 w).mono (fun e w' h=>⟨_,h.1,by omega,h.2⟩)
theorem bkS {w:World} {b:Nat} {r:Pl.Rg} {t:TypeId} (h:Blk w b (bkR r) t):w.cell? ⟨b,0,none⟩=some (iv (el r.xs 0))∧w.cell? ⟨b,1,none⟩=some (iv (el r.xs 1))∧w.cell? ⟨b,2,none⟩=some (iv (el r.xs 2))∧w.cell? ⟨b,3,none⟩=some (iv (el r.xs 3))∧w.cell? ⟨b,4,none⟩=some (iv (el r.ys 0))∧w.cell? ⟨b,5,none⟩=some (iv (el r.ys 1))∧w.cell? ⟨b,6,none⟩=some (iv (el r.ys 2))∧w.cell? ⟨b,7,none⟩=some (iv (el r.ys 3))∧w.cell? ⟨b,8,none⟩=some (iv r.o)∧w.cell? ⟨b,9,none⟩=some (iv r.p)∧w.cell? ⟨b,10,none⟩=some (iv r.f)∧w.cell? ⟨b,11,none⟩=some (iv r.m)∧w.cell? ⟨b,12,none⟩=some (.bool r.s)∧w.cell? ⟨b,13,none⟩=some (.bool r.t):=
 ⟨h.cell (i:=0) rfl,h.cell (i:=1) rfl,h.cell (i:=2) rfl,h.cell (i:=3) rfl,h.cell (i:=4) rfl,h.cell (i:=5) rfl,h.cell (i:=6) rfl,h.cell (i:=7) rfl,h.cell (i:=8) rfl,h.cell (i:=9) rfl,h.cell (i:=10) rfl,h.cell (i:=11) rfl,h.cell (i:=12) rfl,h.cell (i:=13) rfl⟩
theorem bankStatus (r:Pl.Rg) (w:World) (f0:0≤r.f) (f1:r.f≤31) (m0:0≤r.m) (m1:r.m≤7) :
  Calls prog 55 #[.agg (bkR r)] w fun e w'=>e=.returned (iv (Pl.status r))∧Kept 0 0 w w':=by
 obtain ⟨s0,s1⟩:0≤Pl.fl1 r.s 256∧Pl.fl1 r.s 256≤256:=by cases r.s<;>simp [Pl.fl1]
 obtain ⟨t0,t1⟩:0≤Pl.fl1 r.t 512∧Pl.fl1 r.t 512≤512:=by cases r.t<;>simp [Pl.fl1]
 have w64:∀ {n:Int},-9223372036854775808≤n→n≤9223372036854775807→IntKind.i64.wrap n=n:=fun h0 h1=>by rw [IntKind.wrap_i64];omega
 have e1:IntKind.i64.wrap (r.m*32)=r.m*32:=w64 (by omega) (by omega)
 have e2:IntKind.i64.wrap (r.f+r.m*32)=r.f+r.m*32:=w64 (by omega) (by omega)
 have e3:IntKind.i64.wrap (r.f+r.m*32+Pl.fl1 r.s 256)=r.f+r.m*32+Pl.fl1 r.s 256:=w64 (by omega) (by omega)
 have e4:IntKind.i64.wrap (r.f+r.m*32+Pl.fl1 r.s 256+Pl.fl1 r.t 512)=r.f+r.m*32+Pl.fl1 r.s 256+Pl.fl1 r.t 512:=w64 (by omega) (by omega)
 clear w64
 have HK:=hide (kept_alloc w (.cells (bkR r) 81))
 have E:Hid (r.f+r.m*32+Pl.fl1 r.s 256+Pl.fl1 r.t 512=Pl.status r):=hide (by unfold Pl.status;omega)
 unfold bkR
 go_enter func55,ntmps55
 go_wp2_with fail
 go_quiet (first|(go_at_call 83;exact Calls.quiet_of_same (flagsIf6 _ _ _))|fail)
 go_wp2_with fail
 go_ret
 exact ⟨rI E.out,kept_drewN HK.out _⟩
theorem Bd {w:World} {b:Nat} {cs:Array Value} {t:TypeId} (h:Blk w b cs t):Blk w.drew b cs t:=h
theorem bankRegs (r:Pl.Rg) (w:World) (lx:r.xs.length=4) (ly:r.ys.length=4) :
  Calls prog 59 #[.agg (bkR r)] w fun e w'=>∃(a' b':Option Addr) (ca' cb':Nat),e=.returned (.agg #[.slice a' r.xs.length ca',.slice b' r.ys.length cb',iv r.o,iv r.p,iv r.f,iv r.m,.bool r.s,.bool r.t])∧RegIn w' w.heap.size r a' b'∧Kept 0 0 w w':=by
 have LX:=hide lx
 have LY:=hide ly
 clear lx ly
 have B0:=hide ((Blk.new w (bkR r) 81).alloc (.cells #[.slice none 0 0,.slice none 0 0,iv 0,iv 0,iv 0,iv 0,.bool false,.bool false] 33))
 have R0:=Blk.new (w.alloc (.cells (bkR r) 81)) #[.slice none 0 0,.slice none 0 0,iv 0,iv 0,iv 0,iv 0,.bool false,.bool false] 33
 simp only [World.size_alloc] at R0
 replace R0:=hide R0
 have K0:=hide (kept_new (kept_alloc w (.cells (bkR r) 81)) (.cells #[.slice none 0 0,.slice none 0 0,iv 0,iv 0,iv 0,iv 0,.bool false,.bool false] 33))
 unfold bkR
 go_enter func59,ntmps59
 go_wp2_with fail
 obtain ⟨W,hW⟩:∃W:World,W=(w.alloc (.cells (bkR r) 81)).alloc (.cells #[.slice none 0 0,.slice none 0 0,iv 0,iv 0,iv 0,iv 0,.bool false,.bool false] 33):=⟨_,rfl⟩
 have hW2:(w.alloc (.cells #[iv (el r.xs 0),iv (el r.xs 1),iv (el r.xs 2),iv (el r.xs 3),iv (el r.ys 0),iv (el r.ys 1),iv (el r.ys 2),iv (el r.ys 3),iv r.o,iv r.p,iv r.f,iv r.m,.bool r.s,.bool r.t] 81)).alloc (.cells #[.slice none 0 0,.slice none 0 0,iv 0,iv 0,iv 0,iv 0,.bool false,.bool false] 33)=W:=hW.symm
 rw [←hW] at B0 R0 K0
 rw [hW2]
 clear hW hW2
 obtain ⟨c0,c1,c2,c3,c4,c5,c6,c7,c8,c9,c10,c11,c12,c13⟩:=bkS B0.out
 go_region_held3 (fun w'=>w'.cell? ⟨w.heap.size,0,none⟩=some (iv (el r.xs 0))∧w'.cell? ⟨w.heap.size,1,none⟩=some (iv (el r.xs 1))∧w'.cell? ⟨w.heap.size,2,none⟩=some (iv (el r.xs 2))∧w'.cell? ⟨w.heap.size,3,none⟩=some (iv (el r.xs 3))∧w'.cell? ⟨w.heap.size,4,none⟩=some (iv (el r.ys 0))∧w'.cell? ⟨w.heap.size,5,none⟩=some (iv (el r.ys 1))∧w'.cell? ⟨w.heap.size,6,none⟩=some (iv (el r.ys 2))∧w'.cell? ⟨w.heap.size,7,none⟩=some (iv (el r.ys 3))∧w'.cell? ⟨w.heap.size,8,none⟩=some (iv r.o)∧w'.cell? ⟨w.heap.size,9,none⟩=some (iv r.p)∧w'.cell? ⟨w.heap.size,10,none⟩=some (iv r.f)∧w'.cell? ⟨w.heap.size,11,none⟩=some (iv r.m)∧w'.cell? ⟨w.heap.size,12,none⟩=some (.bool r.s)∧w'.cell? ⟨w.heap.size,13,none⟩=some (.bool r.t)) (first|with_reducible exact bkS B4.out|with_reducible exact bkS B3.out|with_reducible exact bkS (Bd B0.out)|exact bkS ((((((((B4.out.other _ _ _ (by omega)).other _ _ _ (by omega)).other _ _ _ (by omega)).other _ _ _ (by omega)).other _ _ _ (by omega)).other _ _ _ (by omega)).other _ _ _ (by omega)).other _ _ _ (by omega)))
  (first|(go_at_call 87;have B4:=B3;clear B4;refine (listOf _ _ _ _ _).mono ?_;rintro e w4 ⟨g',rfl,hg4,hb4,kd⟩;have B4:=hide (B3.out.kept0 kd);have R4:=hide (R3.out.kept0 kd);have q0:=R4.out.cell (i:=0) rfl;have fq0:=R4.out.frozen 0;have q1:=R4.out.cell (i:=1) rfl;have fq1:=R4.out.frozen 1;have q2:=R4.out.cell (i:=2) rfl;have fq2:=R4.out.frozen 2;have q3:=R4.out.cell (i:=3) rfl;have fq3:=R4.out.frozen 3;have q4:=R4.out.cell (i:=4) rfl;have fq4:=R4.out.frozen 4;have q5:=R4.out.cell (i:=5) rfl;have fq5:=R4.out.frozen 5;have q6:=R4.out.cell (i:=6) rfl;have fq6:=R4.out.frozen 6;have q7:=R4.out.cell (i:=7) rfl;have fq7:=R4.out.frozen 7;have G4:=hide (G3.out.kept0 kd);have H4:=hide hb4;have L4:=hide hg4;have K4:=hide (K3.out.trans kd);clear hg4 hb4 kd)|(go_at_call 87;refine (listOf _ _ _ _ _).mono ?_;rintro e w3 ⟨g,rfl,hg3,hb3,kd⟩;have k3:=undrewK kd;have B3:=hide (B0.out.kept0 k3);have R3:=hide (R0.out.kept0 k3);have G3:=hide hb3;have L3:Hid (W.heap.size≤g):=hide hg3;have K3:=hide (K0.out.trans k3);clear hg3 hb3 kd k3))
 go_wp2_with fail
 have l0:=R0.out.lt
 have l3:=L3.out
 have l4:=L4.out
 have l5:=G3.out.lt
 have l6:=H4.out.lt
 have l7:=G4.out.lt
 have k0:=K0.out.size
 refine bodyPost_ret (v:=.agg #[.slice (some ⟨g,0,none⟩) 4 4,.slice (some ⟨g',0,none⟩) 4 4,iv r.o,iv r.p,iv r.f,iv r.m,.bool r.s,.bool r.t]) ?_ rfl ⟨some ⟨g,0,none⟩,some ⟨g',0,none⟩,4,4,?_,⟨.inr ⟨g,rfl,by omega,?_,?_⟩,.inr ⟨g',rfl,by omega,?_,?_⟩,?_⟩,?_⟩
 ·rw [results_one rfl];go_simp
 ·rw [LX.out,LY.out]
 ·simpa using l7
 ·rw [list4 LX.out];exact own_of_blk ((((((((G4.out.other _ _ _ (by omega)).other _ _ _ (by omega)).other _ _ _ (by omega)).other _ _ _ (by omega)).other _ _ _ (by omega)).other _ _ _ (by omega)).other _ _ _ (by omega)).other _ _ _ (by omega))
 ·simpa using l6
 ·rw [list4 LY.out];exact own_of_blk ((((((((H4.out.other _ _ _ (by omega)).other _ _ _ (by omega)).other _ _ _ (by omega)).other _ _ _ (by omega)).other _ _ _ (by omega)).other _ _ _ (by omega)).other _ _ _ (by omega)).other _ _ _ (by omega))
 ·intro g2 h2 h3
  simp [blk] at h2 h3
  omega
 ·exact (kept_set (kept_set (kept_set (kept_set (kept_set (kept_set (kept_set (kept_set K4.out _ _ _ (.inr (by omega))) _ _ _ (.inr (by omega))) _ _ _ (.inr (by omega))) _ _ _ (.inr (by omega))) _ _ _ (.inr (by omega))) _ _ _ (.inr (by omega))) _ _ _ (.inr (by omega))) _ _ _ (.inr (by omega)))
theorem bankInfo (r:Pl.Rg) (f:Pl.Ft) (w:World):Calls prog 82 #[.agg (bkR r),.agg (ftA f)] w fun e w'=>e=.returned (iv (Pl.ftInfo r.s f))∧Kept 0 0 w w':=by
 have K0:=hide (kept_new (kept_alloc w (.cells (bkR r) 81)) (.cells (ftA f) 42))
 have e1:IntKind.i64.wrap (Pl.fl1 f.wr 1+Pl.fl1 r.s 2)=Pl.fl1 f.wr 1+Pl.fl1 r.s 2:=by cases f.wr<;>cases r.s<;>decide
 unfold bkR at K0 ⊢
 go_enter func82,ntmps82
 go_wp2_with fail
 go_quiet (first|(go_at_call 83;exact Calls.quiet_of_same (flagsIf6 _ _ _))|fail)
 go_wp2_with fail
 go_ret
 exact ⟨rI rfl,kept_drewN K0.out _⟩
theorem bankFrame (w:World) (r:Pl.Rg) (f:Pl.Ft) (hg:Pl.Good r) :
  Calls prog 53 #[.agg (bkR r),.agg (ftA f)] w fun e w'=>∃(g c:Nat),e=.returned (.slice (some ⟨g,0,none⟩) (Pl.ftRow r f).length c)∧w.heap.size≤g∧g<w'.heap.size∧Own w' g (Pl.ftRow r f)∧Kept 0 0 w w':=by
 have HG:=hide hg
 clear hg
 have K0:=hide (kept_new (kept_alloc w (.cells (bkR r) 81)) (.cells (ftA f) 42))
 have BC0:=hide ((Blk.new w (bkR r) 81).alloc (.cells (ftA f) 42))
 have BF0:=Blk.new (w.alloc (.cells (bkR r) 81)) (ftA f) 42
 simp only [World.size_alloc] at BF0
 replace BF0:=hide BF0
 obtain ⟨X,hX⟩:∃X:World,(w.alloc (.cells (bkR r) 81)).alloc (.cells (ftA f) 42)=X:=⟨_,rfl⟩
 rw [hX] at K0 BC0 BF0
 have nX:X.heap.size=w.heap.size+2:=by simp [←hX]
 obtain ⟨i,hi0,hz0,hz1,hz2⟩:=info_parts Tryz.info3
 have H63:Hid (2+3≤maxLen):=hide (by unfold maxLen;omega)
 go_enter func53,ntmps53
 go_wp2_with fail
 go_region_held3 (fun w'=>(∀i,w'.cell? ⟨w.heap.size,i,none⟩=((#[iv (el r.xs 0),iv (el r.xs 1),iv (el r.xs 2),iv (el r.xs 3),iv (el r.ys 0),iv (el r.ys 1),iv (el r.ys 2),iv (el r.ys 3),iv r.o,iv r.p,iv r.f,iv r.m,.bool r.s,.bool r.t]:Array Value))[i]?)∧(∀i,w'.cell? ⟨w.heap.size+1,i,none⟩=(ftA f)[i]?)) (first|exact ⟨BC3.out.all,BF3.out.all⟩|exact ⟨(BC3.out.alloc _).all,(BF3.out.alloc _).all⟩|exact ⟨(show Blk _ _ _ _ from BC0.out).all,(show Blk _ _ _ _ from BF0.out).all⟩) (first|(go_at_call 55;refine (bankStatus r _ HG.out.f0 HG.out.f1 HG.out.m0 HG.out.m1).mono ?_;rintro e9 w3 ⟨rfl,k3⟩;have K3:=hide (K0.out.trans (undrewK k3));have BC3:=hide (BC0.out.kept0 (undrewK k3));have BF3:=hide (BF0.out.kept0 (undrewK k3));clear k3))
 have BC4:=hide (BC3.out.alloc (.cells #[iv f.pc,iv (Pl.status r)] 3))
 have BF4:=hide (BF3.out.alloc (.cells #[iv f.pc,iv (Pl.status r)] 3))
 have BR4:=hide (Blk.new w3 #[iv f.pc,iv (Pl.status r)] 3)
 have K4:=hide (kept_new K3.out (.cells #[iv f.pc,iv (Pl.status r)] 3))
 have n3:=BF3.out.lt
 have hs3:w.heap.size≤w3.heap.size:=by omega
 obtain ⟨X4,hX4⟩:∃X:World,w3.alloc (.cells #[iv f.pc,iv (Pl.status r)] 3)=X:=⟨_,rfl⟩
 rw [hX4] at BC4 BF4 BR4 K4
 have p:=BF4.out.all
 have p2:=BC4.out.all
 cases h:Pl.ftLong f.v
 ·have E:Hid (Pl.ftRow r f=[f.pc,Pl.status r]):=hide (by simp [Pl.ftRow,h])
  go_wp2_with (first|(go_at_call 49;refine (hasLong f _).mono ?_;rintro e9 w4 ⟨rfl,k4⟩;rw [h];have BC5:=hide (BC4.out.kept0 k4);have BF5:=hide (BF4.out.kept0 k4);have BR5:=hide (BR4.out.kept0 k4);have K5:=hide (K4.out.trans k4);clear k4))
  go_ret
  exact ⟨_,_,by rw [E.out];rfl,hs3,BR5.out.lt,by rw [E.out];exact own_of_blk (xs:=[f.pc,Pl.status r]) BR5.out,K5.out⟩
 ·have E:Hid (Pl.ftRow r f=[f.pc,Pl.status r,f.wo,f.ad,Pl.ftInfo r.s f]):=hide (by simp [Pl.ftRow,h])
  go_wp2_with (first|(go_at_call 49;refine (hasLong f _).mono ?_;rintro e9 w4 ⟨rfl,k4⟩;rw [h];have BC5:=hide (BC4.out.kept0 k4);have BF5:=hide (BF4.out.kept0 k4);have BR5:=hide (BR4.out.kept0 k4);have K5:=hide (K4.out.trans k4);clear k4))
  clear p p2
  go_region_held3 (fun w'=>(∀i,w'.cell? ⟨w.heap.size,i,none⟩=((#[iv (el r.xs 0),iv (el r.xs 1),iv (el r.xs 2),iv (el r.xs 3),iv (el r.ys 0),iv (el r.ys 1),iv (el r.ys 2),iv (el r.ys 3),iv r.o,iv r.p,iv r.f,iv r.m,.bool r.s,.bool r.t]:Array Value))[i]?)∧(∀i,w'.cell? ⟨w.heap.size+1,i,none⟩=(ftA f)[i]?)) (first|exact ⟨BC7.out.all,BF7.out.all⟩|exact ⟨BC6.out.all,BF6.out.all⟩|exact ⟨(BC6.out.alloc _).all,(BF6.out.alloc _).all⟩|exact ⟨(show Blk _ _ _ _ from BC5.out).all,(show Blk _ _ _ _ from BF5.out).all⟩) (first|(go_at_call 82;refine (bankInfo r f _).mono ?_;rintro e9 w5 ⟨rfl,k5⟩;have K6:=hide (K5.out.trans (undrewK k5));have BC6:=hide (BC5.out.kept0 (undrewK k5));have BF6:=hide (BF5.out.kept0 (undrewK k5));have BR6:=hide (BR5.out.kept0 (undrewK k5));clear k5)|(refine step_append_lies _ (by rfl) _ _ _ (by rfl) w3.heap.size 3 i (iv 0) 1 8 underlying22 hi0 hz0 hz1 hz2 rfl (by decide) (.slice (some ⟨w3.heap.size,0,none⟩) 2 2) 2 [iv f.pc,iv (Pl.status r)] (by rfl) (own2 (BR6.out.alloc _)) ⟨w5.heap.size,0,none⟩ 3 3 [iv f.wo,iv f.ad,iv (Pl.ftInfo r.s f)] (by rfl) (by rfl) (World.news_of_block (cs:=#[iv f.wo,iv f.ad,iv (Pl.ftInfo r.s f)]) (t:=3) (fr:=(0,0)) (heap_alloc_new w5 _)) (by simp [Value.oneCell']) (by decide) H63.out (by decide) (by have:=BR6.out.lt;simp;omega) (w5.heap.size+1) (by simp) ?_;intro g3 c3 w7 hown hgrow hat hlt;have O7:=hide hown;have G7:=hide hgrow;have hl6:=BR6.out.lt;have BC7:Hid (Blk w7 w.heap.size (bkR r) 81):=hide ((hgrow.block w.heap.size (by have:=BC6.out.lt;simp;omega) (by simp [Value.ownBlock];omega)).trans (BC6.out.alloc _));have BF7:Hid (Blk w7 (w.heap.size+1) (ftA f) 42):=hide ((hgrow.block (w.heap.size+1) (by have:=BF6.out.lt;simp;omega) (by simp [Value.ownBlock];omega)).trans (BF6.out.alloc _));clear hown hgrow))
  go_wp2_with fail
  go_ret
  have kk:=kept_row G7.out (lo:=w3.heap.size) (hi:=w3.heap.size+1) (by intro j hj;have h5:w3.heap.size=j:=Option.some.inj hj;omega)
  obtain ⟨p3,p4⟩:=O7.out.lt g3 rfl
  exact ⟨g3,c3,by rw [E.out];rfl,by omega,p4,by rw [E.out];exact own_of_row (xs:=[f.pc,Pl.status r,f.wo,f.ad,Pl.ftInfo r.s f]) O7.out,kept_over (kept_new K6.out (.cells #[iv f.wo,iv f.ad,iv (Pl.ftInfo r.s f)] 3)) kk (by omega)⟩
theorem cStat (w:World) (lo b g:Nat) (c:Pl.Mc) (h:Bool) (n:Int) (hC:CAt w lo b g c h) (hg:Pl.Good c.r) (h0:0≤n) (h1:n≤1023) :
  Calls prog 54 #[.pointer (some ⟨b,0,none⟩),iv n] w fun e w'=>e=.returned (.tuple #[])∧CAt w' lo b g (c.setR (Pl.withR c.r n)) h∧Kept b (b+1) w w':=by
 have e1:=st256 h0 h1
 have e2:=st512 h0 h1
 have e3:=st31 h0 h1
 have e4:=st7 h0 h1
 have HC:=hide hC
 have h4:=hide hg.a4
 have c7:w.cell? ⟨b,7,none⟩=some (iv (el c.r.ys 3)):=hC.cY (k:=3) (by omega)
 have c8:=hC.cO
 have c10:=hC.cF
 have c11:=hC.cM
 have c12:=hC.cS
 have c13:=hC.cT
 have fz:=hC.fz
 clear hC hg
 by_cases hs:Pl.stSuper n=c.r.s
 ·have q1:(Pl.stSuper n==c.r.s)=true:=by simp [hs]
  have E:Hid (Pl.withR c.r n={c.r with s:=Pl.stSuper n,t:=Pl.stTrace n,m:=n/32%8,f:=n%32}):=hide (by unfold Pl.withR;rw [if_pos hs])
  clear hs c7 c8
  go_enter func54,ntmps54
  go_wp2_with fail
  go_end0
  refine ⟨rfl,?_,(((kept_one _ _ _ _).one _ _).one _ _).one _ _⟩
  rw [E.out]
  exact (((HC.out.reg (r':={c.r with s:=Pl.stSuper n}) (i:=12) (v:=.bool (Pl.stSuper n)) (by omega) rfl).reg (r':={c.r with s:=Pl.stSuper n,t:=Pl.stTrace n}) (i:=13) (v:=.bool (Pl.stTrace n)) (by omega) rfl).reg (r':={c.r with s:=Pl.stSuper n,t:=Pl.stTrace n,m:=n/32%8}) (i:=11) (v:=iv (n/32%8)) (by omega) rfl).setF (n%32)
 ·have q1:(Pl.stSuper n==c.r.s)=false:=by simpa using hs
  have E:Hid (Pl.withR c.r n={c.r with ys:=c.r.ys.set 3 c.r.o,o:=el c.r.ys 3,s:=Pl.stSuper n,t:=Pl.stTrace n,m:=n/32%8,f:=n%32}):=hide (by unfold Pl.withR;rw [if_neg hs])
  clear hs
  go_enter func54,ntmps54
  go_wp2_with fail
  go_region
  go_wp2_with fail
  go_end0
  refine ⟨rfl,?_,kept_drew ((((((kept_one _ _ _ _).one _ _).one _ _).one _ _).one _ _).one _ _)⟩
  obtain ⟨Y,hY⟩:∃Y,Y=c.r.ys.set 3 c.r.o:=⟨_,rfl⟩
  have a1:CAt (w.setCell ⟨b,7,none⟩ (iv c.r.o)) lo b g (c.setR {c.r with ys:=Y}) h:=by rw [hY];exact HC.out.setY h4.out (k:=3) (by omega) c.r.o
  rw [E.out,←hY]
  clear hY
  have a2:=a1.reg (r':={c.r with ys:=Y,o:=el c.r.ys 3}) (i:=8) (v:=iv (el c.r.ys 3)) (by omega) rfl
  have a3:=a2.reg (r':={c.r with ys:=Y,o:=el c.r.ys 3,s:=Pl.stSuper n}) (i:=12) (v:=.bool (Pl.stSuper n)) (by omega) rfl
  have a4:=a3.reg (r':={c.r with ys:=Y,o:=el c.r.ys 3,s:=Pl.stSuper n,t:=Pl.stTrace n}) (i:=13) (v:=.bool (Pl.stTrace n)) (by omega) rfl
  have a5:=a4.reg (r':={c.r with ys:=Y,o:=el c.r.ys 3,s:=Pl.stSuper n,t:=Pl.stTrace n,m:=n/32%8}) (i:=11) (v:=iv (n/32%8)) (by omega) rfl
  have a6:=a5.reg (r':={c.r with ys:=Y,o:=el c.r.ys 3,s:=Pl.stSuper n,t:=Pl.stTrace n,m:=n/32%8,f:=n%32}) (i:=10) (v:=iv (n%32)) (by omega) rfl
  exact a6.drew
theorem entBits {n:Int} (h0:0≤n) (h1:n≤1023):bits .or .i64 (bits .andNot .i64 n 512) 256=n%256+256:=fin1024 (p:=fun n=>bits .or .i64 (bits .andNot .i64 n 512) 256=n%256+256) (by decide +kernel) h0 h1
theorem Pl.entN_status {r:Pl.Rg} (h:Pl.Good r):Pl.status r%256+256=Pl.entN r:=by
 have:=h.f0;have:=h.f1;have:=h.m0;have:=h.m1
 unfold Pl.status Pl.entN Pl.fl1
 split<;>split<;>omega
theorem CAt.a14 {w:World} {lo b g:Nat} {c:Pl.Mc} {h:Bool} (a:CAt w lo b g c h):w.cell? ⟨b,0,none⟩=some (iv (el c.r.xs 0))∧w.cell? ⟨b,1,none⟩=some (iv (el c.r.xs 1))∧w.cell? ⟨b,2,none⟩=some (iv (el c.r.xs 2))∧w.cell? ⟨b,3,none⟩=some (iv (el c.r.xs 3))∧w.cell? ⟨b,4,none⟩=some (iv (el c.r.ys 0))∧w.cell? ⟨b,5,none⟩=some (iv (el c.r.ys 1))∧w.cell? ⟨b,6,none⟩=some (iv (el c.r.ys 2))∧w.cell? ⟨b,7,none⟩=some (iv (el c.r.ys 3))∧w.cell? ⟨b,8,none⟩=some (iv c.r.o)∧w.cell? ⟨b,9,none⟩=some (iv c.r.p)∧w.cell? ⟨b,10,none⟩=some (iv c.r.f)∧w.cell? ⟨b,11,none⟩=some (iv c.r.m)∧w.cell? ⟨b,12,none⟩=some (.bool c.r.s)∧w.cell? ⟨b,13,none⟩=some (.bool c.r.t):=
 ⟨a.cX (by omega),a.cX (by omega),a.cX (by omega),a.cX (by omega),a.cY (k:=0) (by omega),a.cY (k:=1) (by omega),a.cY (k:=2) (by omega),a.cY (k:=3) (by omega),a.cO,a.cP,a.cF,a.cM,a.cS,a.cT⟩
theorem Bd2 {w:World} {b:Nat} {cs:Array Value} {t:TypeId} (h:Blk w b cs t):Blk w.drew b cs t:=h
theorem cor_setH {r:Pl.Rg} {xs:List Int} {u:Value} {st ha:Bool} (hl:xs.length=512) (s':Bool):(cor r xs u st ha).setIfInBounds 528 (.bool s')=cor r xs u st s':=by
 show (bkR r++_).setIfInBounds ((bkR r).size+514) _=_
 have e:=set_right (A:=cellsOf xs) (B:=#[u,.bool st,.bool ha]) 2 (.bool s')
 rw [cellsOf_size,hl] at e
 rw [set_right,show (514:Nat)=512+2 from rfl,e]
 rfl
theorem CAt.setH {w:World} {lo b g:Nat} {c:Pl.Mc} {h:Bool} (a:CAt w lo b g c h) (l:c.bx.length=512) (v:Bool):CAt (w.setCell ⟨b,528,none⟩ (.bool v)) lo b g c v:=by
 obtain ⟨cu,hB,hO⟩:=a
 refine ⟨cu,?_,hO.own (kept_one w b 528 (.bool v))⟩
 have:=Blk.set hB 528 (.bool v)
 rw [cor_setH l] at this
 exact this
theorem Since.ownRow {w w':World} {lo hi g g':Nat} (h:Since w lo hi g w' g') {q:Nat} {xs:List Int} (ho:Own w q xs) (hq:q<w.heap.size) (hn:¬own lo hi g q):Own w' q xs:=by
 have e:=h.2.block q hq hn
 intro i hi
 have:=ho i hi
 simp only [World.cell?,World.frozen?,e] at this ⊢
 exact this
section
variable {R:Ending→World→Prop} {tmps:Array Value} {q:Nat} {w:World}
theorem ent_back (hR:R (.returned (.tuple #[])) w):Leaves prog f22 tmps R [{target:=.fn (.func 52) #[.pointer (some ⟨q,0,none⟩)],args:=#[]}] .returning w:=by
 refine leaves_cons (f:=52) (args:=#[.pointer (some ⟨q,0,none⟩)]) (by simp) (by simp [go_sem]) ?_
 refine (ent_idle q w).mono ?_
 rintro e u' w'' ⟨rfl,rfl,rfl⟩
 exact ⟨.tuple #[],results_none rfl _ _ _,hR⟩
theorem ent_fell {lo b g:Nat} {c:Pl.Mc} {F:Pl.Ft} (hC:CAt w lo b g c false) (l:c.bx.length=512) (hq:Blk w q #[.pointer (some ⟨b,0,none⟩)] 54) (hR:∀w',CAt w' lo b g c true→Kept b (b+1) w w'→R (.returned (.tuple #[])) w'):Leaves prog f22 tmps R [{target:=.fn (.func 52) #[.pointer (some ⟨q,0,none⟩)],args:=#[]}] (.panicking [ftPanic F false]) w:=by
 refine leaves_cons (f:=52) (args:=#[.pointer (some ⟨q,0,none⟩)]) (by simp) (by simp [go_sem]) ?_
 have C2:=hC.alloc (.cells (ftA F) 42)
 refine (ent_caught q b F w ((hq.alloc _).cell (i:=0) rfl) false (C2.cH l) (C2.fz _)).mono ?_
 rintro e u' w'' ⟨rfl,rfl,rfl⟩
 exact ⟨.tuple #[],results_none rfl _ _ _,hR _ (C2.setH l true) ((kept_alloc w _).any.trans (kept_one _ b 528 _))⟩
end
theorem Pl.ent_bad {c:Pl.Mc} {n v:Int} {xs:List Int} {k:Nat} (hk:k<xs.length) (h0:((c.ent0 n).pushes (xs.take k)).fine=true) (h1:(((c.ent0 n).pushes (xs.take k)).push (el xs k)).fine=false):c.ent n xs v=((c.ent0 n).pushes (xs.take k)).push (el xs k):=by
 have e:(c.ent0 n).pushes (xs.take (k+1))=((c.ent0 n).pushes (xs.take k)).push (el xs k):=by rw [Pl.pushes_take _ _ hk];unfold Pl.Mc.ps;rw [h0];rfl
 have e2:(c.ent0 n).pushes xs=((c.ent0 n).pushes (xs.take k)).push (el xs k):=(Pl.pushes_bad (k:=k+1) (by rw [e];exact h1)).trans e
 unfold Pl.Mc.ent Pl.Mc.ent';rw [e2,h1];rfl
theorem Pl.pushes_next {d:Pl.Mc} {xs:List Int} {k:Nat} (hk:k<xs.length) (h0:(d.pushes (xs.take k)).fine=true):d.pushes (xs.take (k+1))=(d.pushes (xs.take k)).push (el xs k):=by
 rw [Pl.pushes_take _ _ hk];unfold Pl.Mc.ps;rw [h0];rfl
theorem Pl.fine_v {d:Pl.Mc}:d.fine = !(d.f.v != 0):=by unfold Pl.Mc.fine;simp [bne]
theorem cEnter (w:World) (lo b g:Nat) (c:Pl.Mc) (f:Pl.Ft) (hC:CAt w lo b g c false) (G:Pl.GM c) (hf:c.f=Pl.ftNo) (hok:Pl.ftOk f=true) :
  Calls prog 22 #[.pointer (some ⟨b,0,none⟩),.agg (ftA f)] w fun e w'=>∃g',e=.returned (.tuple #[])∧CAt w' lo b g' (c.ent (Pl.entN c.r) (Pl.ftRow c.r f) f.v) (!(c.ent (Pl.entN c.r) (Pl.ftRow c.r f) f.v).fine)∧Since w b (b+1) g w' g':=by
 have hmf:∀(fn:Fn) (first cap:Array Value) (w:World),(Instr.makeFunc fn first cap).run prog w=.ok (.func fn first cap) w:=fun _ _ _ _=>rfl
 obtain ⟨l0,l1,l2,l3,l4⟩:=hC.lt
 have HG:=hide G
 have HW:=hide (Pl.ftRow_ok G.g hok)
 have hvv:=(Pl.ft_ok hok).1
 obtain ⟨xs,hxs⟩:∃xs,xs=Pl.ftRow c.r f:=⟨_,rfl⟩
 rw [←hxs] at HW ⊢
 have HXS:=hide hxs
 obtain ⟨D,hD⟩:∃D,D=c.ent0 (Pl.entN c.r):=⟨_,rfl⟩
 have HD:=hide hD
 have GD:Hid (Pl.GM D):=hide (by rw [hD];exact G.ent0 _)
 have FD:Hid (D.f=Pl.ftNo):=hide (by rw [hD];exact hf)
 have hlen:xs.length≤5:=by rw [hxs];unfold Pl.ftRow;split<;>simp
 have HN:Hid (0≤Pl.entN c.r∧Pl.entN c.r≤1023):=hide (by have:=G.g.f0;have:=G.g.f1;have:=G.g.m0;have:=G.g.m1;unfold Pl.entN;omega)
 have e1:bits .or .i64 (bits .andNot .i64 (Pl.status c.r) 512) 256=Pl.entN c.r:=by
  obtain ⟨s0,s1⟩:=Pl.status_in G.g
  rw [entBits s0 s1,Pl.entN_status G.g]
 have K0:=hide (kept_new (kept_alloc w (.cells #[.pointer (some ⟨b,0,none⟩)] 54)) (.cells (ftA f) 42))
 have BP0:=hide ((Blk.new w #[.pointer (some ⟨b,0,none⟩)] 54).alloc (.cells (ftA f) 42))
 have BF0:=Blk.new (w.alloc (.cells #[.pointer (some ⟨b,0,none⟩)] 54)) (ftA f) 42
 simp only [World.size_alloc] at BF0
 replace BF0:=hide BF0
 have C0:=hide ((hC.alloc (.cells #[.pointer (some ⟨b,0,none⟩)] 54)).alloc (.cells (ftA f) 42))
 obtain ⟨X,hX⟩:∃X:World,(w.alloc (.cells #[.pointer (some ⟨b,0,none⟩)] 54)).alloc (.cells (ftA f) 42)=X:=⟨_,rfl⟩
 rw [hX] at K0 BP0 BF0 C0
 have sX:w.heap.size+1<X.heap.size:=BF0.out.lt
 clear hC G hok hxs hD
 go_enter_defers func22,ntmps22
 go_wp2_with fail
 clear hX
 go_region_held3 (fun w'=>w'.cell? ⟨w.heap.size,0,none⟩=some (.pointer (some ⟨b,0,none⟩))∧(w'.cell? ⟨b,0,none⟩=some (iv (el c.r.xs 0))∧w'.cell? ⟨b,1,none⟩=some (iv (el c.r.xs 1))∧w'.cell? ⟨b,2,none⟩=some (iv (el c.r.xs 2))∧w'.cell? ⟨b,3,none⟩=some (iv (el c.r.xs 3))∧w'.cell? ⟨b,4,none⟩=some (iv (el c.r.ys 0))∧w'.cell? ⟨b,5,none⟩=some (iv (el c.r.ys 1))∧w'.cell? ⟨b,6,none⟩=some (iv (el c.r.ys 2))∧w'.cell? ⟨b,7,none⟩=some (iv (el c.r.ys 3))∧w'.cell? ⟨b,8,none⟩=some (iv c.r.o)∧w'.cell? ⟨b,9,none⟩=some (iv c.r.p)∧w'.cell? ⟨b,10,none⟩=some (iv c.r.f)∧w'.cell? ⟨b,11,none⟩=some (iv c.r.m)∧w'.cell? ⟨b,12,none⟩=some (.bool c.r.s)∧w'.cell? ⟨b,13,none⟩=some (.bool c.r.t))∧(∀i,w'.cell? ⟨w.heap.size+1,i,none⟩=(ftA f)[i]?)) (first|exact ⟨BP2.out.cell (i:=0) rfl,C2.out.a14,BF2.out.all⟩|exact ⟨(Bd2 BP0.out).cell (i:=0) rfl,C0.out.drew.a14,(Bd2 BF0.out).all⟩) (first|(go_at_call 53;refine (bankFrame _ c.r f HG.out.g).mono ?_;rw [←HXS.out];rintro e9 W2 ⟨gf,cf,rfl,gf0,gf1,ho,kd⟩;have k2:=undrewK kd;have gf2:X.heap.size≤gf:=gf0;have OF:=hide ho;have K2:=hide (K0.out.trans k2);have BP2:=hide (BP0.out.kept0 k2);have BF2:=hide (BF0.out.kept0 k2);have C2:=hide (C0.out.any k2);clear kd k2 ho gf0))
 rename_i hHeld
 clear hHeld
 have q0:=BP2.out.cell (i:=0) rfl
 have q1:=C2.out.cSt HG.out.bx
 have q2:=C2.out.fz 527
 go_wp2_with fail
 clear q0 q1 q2
 have k3:=kept_one W2 b 527 (.bool false)
 have C3:=hide (C2.out.setS HG.out.bx false)
 have BP3:=hide (BP2.out.kept k3 (by omega))
 have BF3:=hide (BF2.out.kept k3 (by omega))
 have OF3:=hide (OF.out.keptS k3 (by omega))
 have S3:=hide (((Since.refl w b (b+1) g).any K2.out).set b 527 (.bool false) (.inl (by omega)))
 have z3:W2.heap.size≤(W2.setCell ⟨b,527,none⟩ (.bool false)).heap.size:=k3.size
 obtain ⟨W3,hW3⟩:∃W3:World,W2.setCell ⟨b,527,none⟩ (.bool false)=W3:=⟨_,rfl⟩
 rw [hW3] at C3 BP3 BF3 OF3 S3 z3 ⊢
 clear k3 hW3 C2 BP2 BF2 OF K2
 have q0:=BP3.out.cell (i:=0) rfl
 obtain ⟨a0,a1,a2,a3,a4,a5,a6,a7,a8,a9,a10,a11,a12,a13⟩:=C3.out.a14
 go_cut [19,20,21,22,23,24,25,26,27,28,29] from 19 to 29 (fun _ _ _ _ _ _ _ _ _ _ _ wx=>CAt wx lo b g D false∧Blk wx w.heap.size #[.pointer (some ⟨b,0,none⟩)] 54∧Blk wx (w.heap.size+1) (ftA f) 42∧Own wx gf xs∧gf<wx.heap.size∧Since w b (b+1) g wx g)
 case first=>
  refine wp_region_noPanic ?_
  go_region_with (first|(go_at_call 55;refine (bankStatus c.r _ HG.out.g.f0 HG.out.g.f1 HG.out.g.m0 HG.out.g.m1).mono ?_;rintro e9 W5 ⟨rfl,kd⟩;have k5:=undrewK kd;have C5:=hide (C3.out.any k5);have BP5:=hide (BP3.out.kept0 k5);have BF5:=hide (BF3.out.kept0 k5);have OF5:=hide (OF3.out.keptS k5 (by omega));have S5:=hide (S3.out.any k5);have z5:=k5.size;have q5:=BP5.out.cell (i:=0) rfl;clear kd k5)|(go_at_call 54;refine (cStat _ lo b g {c with st:=false} false (Pl.entN c.r) C5.out HG.out.g HN.out.1 HN.out.2).mono ?_;rintro e9 W6 ⟨rfl,hc6,k6⟩;have C6:Hid (CAt W6 lo b g D false):=hide (by rw [HD.out];exact hc6);have BP6:=hide (BP5.out.kept k6 (by omega));have BF6:=hide (BF5.out.kept k6 (by omega));have OF6:=hide (OF5.out.keptS k6 (by omega));have S6:=hide (S5.out.keptS k6 (Nat.le_refl _) (Nat.le_refl _));have z6:=k6.size;clear k6 hc6))
  all_goals
   refine NoPanic.normal ?_
   go_wp2_with fail
   go_meet
   case rel=>exact ⟨C6.out,BP6.out,BF6.out,OF6.out,by omega,S6.out⟩
 case rest=>
 rename_i wx
 obtain ⟨hc6,hbp6,hbf6,ho6,hz6,hs6⟩:=hcut
 have C6:=hide hc6
 have BP6:=hide hbp6
 have BF6:=hide hbf6
 have OF6:=hide ho6
 have S6:=hide hs6
 clear hc6 hbp6 hbf6 ho6 hs6 q0 a0 a1 a2 a3 a4 a5 a6 a7 a8 a9 a10 a11 a12 a13 C3 BP3 BF3 OF3 S3 e1 C0 BP0 BF0 K0
 go_wp2_with fail
 go_loopw [32] (fun j wr=>∃(k g':Nat),k≤xs.length∧j=iv (k:Int)∧(D.pushes (xs.take k)).fine=true∧CAt wr lo b g' (D.pushes (xs.take k)) false∧Blk wr w.heap.size #[.pointer (some ⟨b,0,none⟩)] 54∧Blk wr (w.heap.size+1) (ftA f) 42∧Own wr gf xs∧gf≠g'∧w.heap.size≠g'∧w.heap.size+1≠g'∧gf<wr.heap.size∧Since w b (b+1) g wr g') (fun j _=>xs.length-(intOf j).toNat)
 case atStart=>exact ⟨0,g,Nat.zero_le _,rfl,by show D.fine=true;unfold Pl.Mc.fine;rw [FD.out];rfl,C6.out,BP6.out,BF6.out,OF6.out,by omega,by omega,by omega,by omega,S6.out⟩
 case round=>
  obtain ⟨k,g',hk,rfl,hfin,hc,hbp,hbf,ho,hgne,hgn0,hgn1,hglt,hs⟩:=hrel
  have CC:=hide hc
  have BP:=hide hbp
  have BF:=hide hbf
  have OO:=hide ho
  have SS:=hide hs
  have HF:=hide hfin
  obtain ⟨x0,x1,x2,x3,x4⟩:=hc.lt
  have ssz:=hs.size
  have hng:g'=g∨w.heap.size≤g':=hs.1
  clear hc hbp hbf ho hs hfin C6 BP6 BF6 OF6 S6
  obtain ⟨E,hE⟩:∃E,E=D.pushes (xs.take k):=⟨_,rfl⟩
  rw [←hE] at CC HF
  have HE:=hide hE
  have GE:Hid (Pl.GM E):=hide (by rw [hE];exact GD.out.pushes HW.out k hk)
  have FE:Hid (E.f=Pl.ftNo):=hide (by rw [hE];exact Pl.pushes_f FD.out hk (by rw [←hE];exact HF.out))
  clear hE
  have q0:=BP.out.cell (i:=0) rfl
  by_cases hlt:k<xs.length
  ·have dk:(k:Int)<(xs.length:Int):=by omega
   obtain ⟨v0,v1⟩:=HW.out k hlt
   have qk:World.cell? _ ⟨gf,k,none⟩=some (iv (el xs k)):=(OO.out k hlt).1
   obtain ⟨V,hV⟩:∃V,V=el xs k:=⟨_,rfl⟩
   rw [←hV] at qk v0 v1
   have HV:=hide hV
   clear hV
   obtain ⟨M,hM⟩:∃M,M=E.push V:=⟨_,rfl⟩
   obtain ⟨F,hF⟩:∃F,F=M.f:=⟨_,rfl⟩
   have HM:=hide hM
   have HFF:=hide hF
   clear hM hF
   have GMM:Hid (Pl.GM M):=hide (by rw [HM.out];exact GE.out.psh v0 v1)
   cases hv:(F.v != 0)
   ·have E1:Hid (D.pushes (xs.take (k+1))=M):=hide (by rw [Pl.pushes_next hlt (by rw [←HE.out];exact HF.out),←HE.out,HM.out,HV.out])
    have FM:Hid (M.fine=true):=hide (by rw [Pl.fine_v,←HFF.out,hv];rfl)
    go_wp2_with (first|(go_at_call 57;refine (cPush _ lo b g' E false V CC.out GE.out FE.out v0 v1).mono ?_;rw [←HM.out,←HFF.out];unfold ftC;rintro e9 W7 ⟨g7,rfl,hc7,hs7⟩;have C7:=hide hc7;have n7:=hs7.ne (b:=gf) hglt hgne;have m7:=hs7.ne (b:=w.heap.size) BP.out.lt hgn0;have o7:=hs7.ne (b:=w.heap.size+1) BF.out.lt hgn1;have BP7:=hide (hs7.2.blk BP.out (by unfold own;omega));have BF7:=hide (hs7.2.blk BF.out (by unfold own;omega));have OF7:=hide (hs7.ownRow OO.out hglt (by unfold own;omega));have S7:=hide (SS.out.trans hs7);have z7:=hs7.size;clear hc7 hs7)|(go_at_call 56;refine (giveUp0 F _ hv).mono ?_;rintro e9 W8 ⟨rfl,k8⟩;have C8:=hide (C7.out.any k8);have BP8:=hide (BP7.out.kept0 k8);have BF8:=hide (BF7.out.kept0 k8);have OF8:=hide (OF7.out.keptS k8 (by omega));have S8:=hide (S7.out.any k8);have z8:=k8.size;clear k8))
    go_roundw
    case rel=>exact ⟨k+1,g7,by omega,by go_num,by rw [E1.out];exact FM.out,by rw [E1.out];exact C8.out,BP8.out,BF8.out,OF8.out,n7,m7,o7,by omega,S8.out⟩
    case measure=>simp [intOf];omega
   ·have FM:Hid (M.fine=false):=hide (by rw [Pl.fine_v,←HFF.out,hv];rfl)
    have E1:Hid (c.ent (Pl.entN c.r) xs f.v=M):=hide (by
     rw [Pl.ent_bad (c:=c) (n:=Pl.entN c.r) (v:=f.v) hlt (by rw [←HD.out,←HE.out];exact HF.out) (by rw [←HD.out,←HE.out,←HV.out,←HM.out];exact FM.out),←HD.out,←HE.out,←HV.out,←HM.out])
    go_wp2_with (first|(go_at_call 57;refine (cPush _ lo b g' E false V CC.out GE.out FE.out v0 v1).mono ?_;rw [←HM.out,←HFF.out];unfold ftC;rintro e9 W7 ⟨g7,rfl,hc7,hs7⟩;have C7:=hide hc7;have n7:=hs7.ne (b:=gf) hglt hgne;have m7:=hs7.ne (b:=w.heap.size) BP.out.lt hgn0;have o7:=hs7.ne (b:=w.heap.size+1) BF.out.lt hgn1;have BP7:=hide (hs7.2.blk BP.out (by unfold own;omega));have BF7:=hide (hs7.2.blk BF.out (by unfold own;omega));have OF7:=hide (hs7.ownRow OO.out hglt (by unfold own;omega));have S7:=hide (SS.out.trans hs7);have z7:=hs7.size;clear hc7 hs7)|(go_at_call 56;refine (giveUp1 F _ hv).mono ?_;rintro e9 W8 ⟨rfl,k8⟩;have C8:=hide (C7.out.any k8);have BP8:=hide (BP7.out.kept0 k8);have S8:=hide (S7.out.any k8);clear k8))
    refine ent_fell (c:=M) C8.out GMM.out.bx BP8.out ?_
    intro w' hc' hk'
    exact ⟨g7,rfl,by rw [E1.out,FM.out];exact hc',S8.out.keptS hk' (Nat.le_refl _) (Nat.le_refl _)⟩
  ·have dk:¬((k:Int)<(xs.length:Int)):=by omega
   have hkx:k=xs.length:=by omega
   have EX:Hid (D.pushes xs=E):=hide (by rw [HE.out,hkx,List.take_length])
   have e2:IntKind.i64.wrap (f.v*2)=2*f.v:=by rw [IntKind.wrap_i64];omega
   have HASK:=hide (Pl.ask_read (k:=1) (a:=2*f.v) (.inl rfl) (by omega) (by omega))
   have p2:=BF.out.all
   obtain ⟨V,hV⟩:∃V,V=E.accV 1 2 (2*f.v) 0:=⟨_,rfl⟩
   have HV:Hid (V=if (1:Int)=2 then 0 else Pl.lv E.bx 1 2 (2*f.v) 0):=hide hV
   obtain ⟨F,hF⟩:∃F,F=Pl.Mc.accF Pl.ftNo 1 2 (2*f.v):=⟨_,rfl⟩
   have HFA:=hide hF
   obtain ⟨M,hM⟩:∃M,M=E.acc 1 2 (2*f.v) 0:=⟨_,rfl⟩
   have HM:=hide hM
   have MF:Hid (M.f=F):=hide (by rw [hM,hF];show Pl.Mc.accF E.f 1 2 _=_;rw [FE.out])
   have GMM:Hid (Pl.GM M):=hide (by rw [hM];exact GE.out.acc HASK.out)
   have E0:Hid (c.ent (Pl.entN c.r) xs f.v=bif M.fine then M.setP V else M):=hide (by unfold Pl.Mc.ent Pl.Mc.ent';rw [←HD.out,EX.out,HF.out,←hM,←hV];rfl)
   clear hV hF hM hkx
   cases hv:(F.v != 0)
   ·have FM:Hid (M.fine=true):=hide (by rw [Pl.fine_v,MF.out,hv];rfl)
    have E1:Hid (c.ent (Pl.entN c.r) xs f.v=M.setP V):=hide (by rw [E0.out,FM.out];rfl)
    go_wp2_with (first|(go_at_call 58;refine (cAccess _ lo b g' E false 1 2 (2*f.v) 0 CC.out GE.out HASK.out V HV F HFA).mono ?_;rw [←HM.out];unfold ftC;rintro e9 W6 ⟨g7,rfl,hc7,hs7⟩;have C7:=hide (hc7.alloc (.cells (ftA F) 42));have m7:=hs7.ne (b:=w.heap.size) BP.out.lt hgn0;have BP7:=hide ((hs7.2.blk BP.out (by unfold own;omega)).alloc (.cells (ftA F) 42));have S7:=hide ((SS.out.trans hs7).alloc (.cells (ftA F) 42));have BT7:=hide (Blk.new W6 (ftA F) 42);have z7:=hs7.size;have lb7:=hc7.lt;have t7:=BT7.out.all;clear hc7 hs7)|(go_at_call 56;refine (giveUp0 F _ hv).mono ?_;rintro e9 W8 ⟨rfl,k8⟩;have C8:=hide (C7.out.any k8);have BP8:=hide (BP7.out.kept0 k8);have S8:=hide (S7.out.any k8);have z8:=k8.size;clear k8;have y0:=BP8.out.cell (i:=0) rfl;have y1:=C8.out.cP;have y2:=C8.out.fz 9))
    go_wp2_with fail
    refine ent_back ?_
    exact ⟨g7,rfl,by rw [E1.out,show (M.setP V).fine=true from FM.out];exact C8.out.setP V,S8.out.set b 9 (iv V) (.inl (by omega))⟩
   ·have FM:Hid (M.fine=false):=hide (by rw [Pl.fine_v,MF.out,hv];rfl)
    have E1:Hid (c.ent (Pl.entN c.r) xs f.v=M):=hide (by rw [E0.out,FM.out];rfl)
    go_wp2_with (first|(go_at_call 58;refine (cAccess _ lo b g' E false 1 2 (2*f.v) 0 CC.out GE.out HASK.out V HV F HFA).mono ?_;rw [←HM.out];unfold ftC;rintro e9 W6 ⟨g7,rfl,hc7,hs7⟩;have C7:=hide (hc7.alloc (.cells (ftA F) 42));have m7:=hs7.ne (b:=w.heap.size) BP.out.lt hgn0;have BP7:=hide ((hs7.2.blk BP.out (by unfold own;omega)).alloc (.cells (ftA F) 42));have S7:=hide ((SS.out.trans hs7).alloc (.cells (ftA F) 42));have BT7:=hide (Blk.new W6 (ftA F) 42);have z7:=hs7.size;have lb7:=hc7.lt;have t7:=BT7.out.all;clear hc7 hs7)|(go_at_call 56;refine (giveUp1 F _ hv).mono ?_;rintro e9 W8 ⟨rfl,k8⟩;have C8:=hide (C7.out.any k8);have BP8:=hide (BP7.out.kept0 k8);have S8:=hide (S7.out.any k8);clear k8))
    refine ent_fell (c:=M) C8.out GMM.out.bx BP8.out ?_
    intro w' hc' hk'
    exact ⟨g7,rfl,by rw [E1.out,FM.out];exact hc',S8.out.keptS hk' (Nat.le_refl _) (Nat.le_refl _)⟩
def brd (xs:List Int) (u:Value):Array Value:=(cellsOf xs).push u
theorem brd_at {xs:List Int} {u:Value} {i:Nat} (hi:i<xs.length):(brd xs u)[i]? = some (iv (el xs i)):=by
 simp [brd,cellsOf,el,hi]
 rw [List.getElem?_append_left (by simpa using hi)]
 simp [hi]
theorem brd_log {xs:List Int} {u:Value} (hl:xs.length=512):(brd xs u)[512]? = some u:=by
 simp [brd,cellsOf,hl]
theorem fold_set (off:Nat):∀(l:List Value) (k:Nat) (A:Array Value) (i:Nat),off+k+l.length≤A.size→
  ((l.zipIdx k).foldl (fun a (x:Value × Nat)=>a.setIfInBounds (off+x.2) x.1) A)[i]? = if off+k≤i∧i<off+k+l.length then l[i-(off+k)]? else A[i]?
 | [],k,A,i,h=>by
  simp only [List.zipIdx_nil,List.foldl_nil,List.length_nil]
  rw [if_neg (by omega)]
 | v :: r,k,A,i,h=>by
  simp only [List.length_cons] at h
  simp only [List.zipIdx_cons,List.foldl_cons,List.length_cons]
  rw [fold_set off r (k+1) _ i (by simp;omega)]
  by_cases h1:off+(k+1)≤i∧i<off+(k+1)+r.length
  ·rw [if_pos h1,if_pos (by omega),show i-(off+k)=(i-(off+(k+1)))+1 by omega,List.getElem?_cons_succ]
  ·rw [if_neg h1,Array.getElem?_setIfInBounds]
   by_cases h2:off+k=i
   ·rw [if_pos h2,if_pos (by omega),if_pos (by omega),show i-(off+k)=0 by omega];rfl
   ·rw [if_neg h2,if_neg (by omega)]
theorem Tryz.infoBoard:(prog.info? 86).map (fun i=>(i.zero,i.size))=some (some (.agg (brd zeros (.slice none 0 0))),513):=by kernel_rfl
theorem Tryz.boardZero:∀w,(zeroValue 86).run prog w=.ok (.agg (brd zeros (.slice none 0 0))) w:=(zero_of_info Tryz.infoBoard).1
theorem Tryz.boardSize:(prog.info? 86).map (·.size)=some 513:=(zero_of_info Tryz.infoBoard).2
theorem brd_size (xs:List Int) (u:Value):(brd xs u).size=xs.length+1:=by simp [brd,cellsOf]
theorem fold_size (off:Nat):∀(l:List (Value × Nat)) (A:Array Value),(l.foldl (fun a (x:Value × Nat)=>a.setIfInBounds (off+x.2) x.1) A).size=A.size
 | [],A=>rfl
 | v :: r,A=>by rw [List.foldl_cons,fold_size off r];simp
def laid (off:Nat) (cs A:Array Value):Array Value:=cs.zipIdx.foldl (fun a (x:Value × Nat)=>a.setIfInBounds (off+x.2) x.1) A
theorem laid_size (off:Nat) (cs A:Array Value):(laid off cs A).size=A.size:=by
 unfold laid
 rw [←Array.foldl_toList]
 exact fold_size off _ A
theorem laid_at (off:Nat) (cs A:Array Value) (h:off+cs.size≤A.size) (i:Nat):(laid off cs A)[i]? = if off≤i∧i<off+cs.size then cs[i-off]? else A[i]? := by
 unfold laid
 rw [←Array.foldl_toList,Array.toList_zipIdx]
 have:=fold_set off cs.toList 0 A i (by simpa using h)
 simpa using this
theorem fill_two (cs A:Array Value) (u:Value) (hu:u.cells=#[u]) (hc:cs.size=512) (hA:A.size=513) :
  Instr.fill (#[(0,512),(512,1)][·]?) A [(0,.agg cs),(1,u)]=some (laid 512 #[u] (laid 0 cs A)):=by
 have h1:((laid 0 cs A)).size=513:=by rw [laid_size,hA]
 have e1:cs.zipIdx.foldl (fun a (x:Value × Nat)=>a.setIfInBounds (0+x.2) x.1) A=laid 0 cs A:=rfl
 unfold Instr.fill
 simp only [Value.cells,List.getElem?_toArray,List.getElem?_cons_zero]
 rw [if_neg (by simp [hc,hA])]
 rw [e1]
 unfold Instr.fill
 simp only [hu,List.getElem?_cons_succ,List.getElem?_cons_zero]
 rw [if_neg (by simp [h1])]
 unfold Instr.fill
 rfl
theorem brd_one (xs:List Int) (u:Value) (h:u.oneCell'=true):(brd xs u).all (·.oneCell')=true:=by
 rw [Array.all_eq_true_iff_forall_mem]
 intro v hv
 simp only [brd,Array.mem_push] at hv
 rcases hv with hv|rfl
 ·exact Array.all_eq_true_iff_forall_mem.1 (cellsOf_one xs) v hv
 ·exact h
theorem build_two {P:Program} {ops:Array Oper} {rest:List Oper} {o:Oper} {a:Act} {w:World} {Q:Exit→Act→World→Prop} (hg:o.guard=none) (t:TypeId) (x y:Operand) (ho:o.op=.build t #[(0,x),(1,y)])
  (v u:Value) (hx:a.eval x=v) (hy:a.eval y=u) (cells:Array Value) (hf:P.built t [(0,v),(1,u)]=some cells)
  (h:wpList P ops Q rest (a.put o.dst (.agg cells)) w):wpList P ops Q (o :: rest) a w:=by
 have e:P.built t (#[(0,x),(1,y)].map fun (p:Nat × Operand)=>(p.1,a.eval p.2)).toList=some cells:=by
  simp [hx,hy,hf]
 refine wpList_build hg t #[(0,x),(1,y)] ho (by rw [e];rfl) ?_
 rw [e]
 exact h
theorem boardBuilt (xs:List Int) (b:Option Addr) (n c:Nat) (lx:xs.length=512) :
  prog.built 86 [(0,.agg (cellsOf xs)),(1,.slice b n c)]=some (brd xs (.slice b n c)):=by
 have hp:(match prog.underlying 86 with|some (.struct fields)=>fields.toList.mapM (fun f=>(prog.info? f.type).map fun i=>(f.offset,i.size))|_=>none)=some [(0,512),(512,1)]:=by kernel_rfl
 have e:prog.built 86 [(0,.agg (cellsOf xs)),(1,.slice b n c)]=Instr.fill (#[(0,512),(512,1)][·]?) (brd zeros (.slice none 0 0)) [(0,.agg (cellsOf xs)),(1,.slice b n c)]:=by
  have hi:=Tryz.infoBoard
  unfold Program.built
  cases h1:prog.info? 86 with
  | none=>rw [h1] at hi;cases hi
  | some it=>
   rw [h1] at hi
   have hz:it.zero=some (.agg (brd zeros (.slice none 0 0))):=congrArg (fun o=>(o.map Prod.fst).getD none) hi
   cases h2:prog.underlying 86 with
   | none=>rw [h2] at hp;cases hp
   | some d=>
    rw [h2] at hp
    cases d
    case struct fields=>
     have hp':fields.toList.mapM (fun f=>(prog.info? f.type).map fun i=>(f.offset,i.size))=some [(0,512),(512,1)]:=hp
     simp only [hz,hp']
     rfl
    all_goals cases hp
 rw [e,fill_two (cellsOf xs) (brd zeros (.slice none 0 0)) (.slice b n c) rfl (by rw [cellsOf_size,lx]) (by rw [brd_size,zeros_len])]
 refine congrArg some ?_
 apply Array.ext_getElem?
 intro i
 rw [laid_at 512 #[.slice b n c] _ (by rw [laid_size,brd_size,zeros_len];simp),laid_at 0 _ _ (by rw [brd_size,zeros_len,cellsOf_size,lx];decide),cellsOf_size,lx]
 simp only [brd,Array.getElem?_push,cellsOf_size,lx]
 by_cases h:i<512
 ·rw [if_neg (by simp;omega),if_pos (by omega),if_neg (by omega)]
  rfl
 ·by_cases h2:i=512
  ·subst h2
   rfl
  ·have h3:¬i<513:=by omega
   rw [if_neg (by simp;omega),if_neg (by omega)]
   simp only [zeros_len]
   rw [if_neg h2,if_neg h2]
   rw [Array.getElem?_eq_none (by rw [cellsOf_size,zeros_len];omega),Array.getElem?_eq_none (by rw [cellsOf_size,lx];omega)]
theorem copy5_at (W:World) (g m sCap:Nat) (sp:Option Addr) (ys:List Int) (cur:List Value) (t:TypeId) (hB:Blk W g cur.toArray t) (hr:IRow W sp ys) (hl:ys.length=5*m) (hc:cur.length=5*m) :
  ∃W',(Builtin.copy_ #[34,34] 3 #[.slice (some ⟨g,0,none⟩) m m,.slice sp m sCap]).run prog W=.ok (iv m) W'∧Blk W' g (cellsOf ys) t∧Kept g (g+1) W W':=by
 obtain ⟨i,hi,hz0,hz1,hz2⟩:=info_parts Tryz.infoAcc
 have hmin:Nat.min m m=m:=Nat.min_self m
 by_cases h0:m=0
 ·subst h0
  obtain rfl:ys=[]:=List.eq_nil_of_length_eq_zero (by omega)
  obtain rfl:cur=[]:=List.eq_nil_of_length_eq_zero (by omega)
  refine ⟨W,?_,hB,Kept.refl _ _ _⟩
  have hl0:∀(x:Addr),(loadCells x 0).run prog W=.ok #[] W:=fun x=>by simpa using run_loadCells_list (P:=prog) W x [] (by simp)
  cases sp<;>simp [Builtin.copy_,run_underlying underlying34,Builtin.lenOf,Builtin.firstCells,sizeOf,typeInfo,hi,storeCells,hl0]<;>rfl
 ·obtain ⟨ga,oa,rfl,_⟩:=hr 0 (by omega)
  have hld:=run_loadCells_list (P:=prog) W ⟨ga,oa,none⟩ (ys.map (Value.int .i64)) (news_of hr)
  have hst:=run_storeCells_at prog g 0 t (ys.map (Value.int .i64)) 0 cur.toArray W hB (by simp [hl,hc]) news_one
  have e5:(ys.map (Value.int .i64)).length=m*5:=by rw [List.length_map,hl];omega
  rw [e5] at hld
  have e:(List.take (0+0) cur.toArray.toList++ys.map (Value.int .i64)++List.drop (0+0+(ys.map (Value.int .i64)).length) cur.toArray.toList)=ys.map (Value.int .i64):=by
   rw [List.drop_eq_nil_of_le (by simp [hl,hc])];simp
  rw [e] at hst
  refine ⟨W.setRow g (cellsOf ys),?_,hB.setRow,⟨rfl,rfl,rfl,by simp,fun k hk hn=>setRow_other W g k _ (by omega)⟩⟩
  simp [Builtin.copy_,run_underlying underlying34,Builtin.lenOf,Builtin.firstCells,sizeOf,typeInfo,hi,hz1,hmin,hld]
  have hst':(storeCells ⟨g,0,none⟩ (ys.map (Value.int .i64))).run prog W=.ok () (W.setRow g (cellsOf ys)):=hst
  rw [hst']
  rfl
theorem own5_of_blk {w:World} {base g m:Nat} {ys:List Int} (h:Blk w g (cellsOf ys) 96) (hl:ys.length=5*m) (hb:base≤g) (bm:m≤2000000):w.ownsRow base 96 5 (.slice (some ⟨g,0,none⟩) m m) m (ys.map (Value.int .i64)):=by
 refine ⟨by simp [hl];omega,.inr ⟨g,m,cellsOf ys,rfl,hb,h,Nat.le_refl _,by unfold maxLen;omega,by rw [cellsOf_size,hl];omega,?_⟩⟩
 rw [List.take_of_length_le (by simp [cellsOf,hl];omega)]
 simp [cellsOf]
theorem boardOf (w:World) (a b:Option Addr) (ca cb m:Nat) (xs ys:List Int) (ha:IRow w a xs) (hb:IRow w b ys) (lx:xs.length=512) (ly:ys.length=5*m) (bm:m≤400) :
  Calls prog 51 #[.agg #[.slice a xs.length ca,.slice b m cb]] w fun e w'=>∃g:Nat,e=.returned (.agg (brd xs (.slice (some ⟨g,0,none⟩) m m)))∧Blk w' g (cellsOf ys) 96∧w.heap.size≤g∧Kept 0 0 w w':=by
 obtain ⟨i,hi,hz0,hz1,hz2⟩:=info_parts Tryz.infoAcc
 have HA:=hide ha
 have HB:=hide hb
 have HX:=hide lx
 have HY:=hide ly
 have bz:=Tryz.boardZero
 have hbuilt:=hide (boardBuilt xs (some ⟨w.heap.size+1+1,0,none⟩) m m lx)
 have K0:=hide (kept_new (kept_alloc w (.cells #[.slice a xs.length ca,.slice b m cb] 36)) (.cells (brd zeros (.slice none 0 0)) 86))
 have B0:=hide ((Blk.new w #[.slice a xs.length ca,.slice b m cb] 36).alloc (.cells (brd zeros (.slice none 0 0)) 86))
 have B1:=Blk.new (w.alloc (.cells #[.slice a xs.length ca,.slice b m cb] 36)) (brd zeros (.slice none 0 0)) 86
 simp only [World.size_alloc] at B1
 replace B1:=hide B1
 clear ha hb lx ly
 go_enter func51,ntmps51
 go_wp2_with (at_make;refine wpList_make_full _ rfl _ _ 34 rfl w.heap.size 96 i (.agg #[iv 0,iv 0,iv 0,iv 0,iv 0]) 5 underlying34 hi hz0 hz1 _ _ _ _ m rfl rfl rfl rfl ?c1 ?c2 ?c3 ?_)
 case c1=>rw [hz2];omega
 case c2=>unfold maxLen;omega
 case c3=>simp;omega
 intro w1 hown hg
 have k1:=kept_grown hg
 have C0:=B0.out.kept0 k1
 have C1:=B1.out.kept0 k1
 have K1:=K0.out.trans k1
 obtain ⟨W2,hcopy,E2,k2⟩:=copy5_at w1 (w.heap.size+1+1) m cb b ys _ _ (blk_of_row hown) (HB.out.keptS K1) HY.out (by rw [hown.1];omega)
 have D0:=hide (C0.kept k2 (by omega))
 have D1:=hide (C1.kept k2 (by omega))
 have K2:=hide (kept_over K1 k2 (by omega))
 have H2:=hide E2
 have HZ:∀u,Hid ((prog.info? 86).map (·.size)=some (brd xs u).size):=fun u=>hide (by rw [brd_size,HX.out];exact Tryz.boardSize)
 have HZ2:∀u,Hid ((brd zeros (.slice none 0 0)).size=(brd xs u).size):=fun u=>hide (by rw [brd_size,brd_size,HX.out,zeros_len])
 have p1:=C0.cell (i:=1) rfl
 have d0:=D0.out.cell (i:=0) rfl
 have d1:=D0.out.cell (i:=1) rfl
 clear hown hg k1 C0 C1 K1 E2 k2
 go_wp2_with (first
  | (go_at_call 81;refine (memoryOf _ a b ca cb m xs (HA.out.keptS K2.out) HX.out).mono ?_;rintro e w3 ⟨rfl,k3⟩;have D3:=hide (D1.out.kept0 k3);have H3:=hide (H2.out.kept0 k3);have K3:=hide (K2.out.trans k3);clear k3)
  | (refine build_two rfl 86 (.tmp 13) (.tmp 14) rfl (.agg (cellsOf xs)) (.slice (some ⟨w.heap.size+1+1,0,none⟩) m m) rfl rfl (brd xs (.slice (some ⟨w.heap.size+1+1,0,none⟩) m m)) hbuilt.out ?_)
  | (refine wpList_store_row rfl 86 (.tmp 2) (.tmp 15) rfl (w.heap.size+1) (brd xs (.slice (some ⟨w.heap.size+1+1,0,none⟩) m m)) rfl rfl 86 (brd zeros (.slice none 0 0)) D3.out (HZ _).out (HZ2 _).out (brd_one _ _ rfl) ?_))
 refine bodyPost_ret (v:=.agg (brd xs (.slice (some ⟨w.heap.size+1+1,0,none⟩) m m))) ?_ rfl ⟨w.heap.size+1+1,rfl,H3.out.setRowOther (by omega),by omega,kept_setRow K3.out _ _ (by omega)⟩
 exact results_cell_row rfl _ _ _ _ _ (0,0) _ rfl D3.out.setRow underlying86 rfl (HZ _).out
end Go.Proofs.YtkkmnnhaailkcaaGreat
