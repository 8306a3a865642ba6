/- Part 15 of what the last text leans on. -/
import Derived.Test.YtgikibaajanjiaaGreatDoorJC13
import Derived.Test.YtgikibaajanjiaaGreatDoorJC14
import Derived.Carry
import Derived.MapKept
import Derived.ScopeJumps
import Derived.WalkMore
import Derived.Test.YtgikibaajanjiaaGreatDoorJC1
import Derived.RangeFuncNested
import Derived.RangeFuncBound
import Derived.RangeFuncCalls
import Derived.RangeFuncLeaves
import Derived.Shelf.Abstract
import Derived.Shelf.RegionOpen
import Derived.WalkKit
import Derived.OwnWalkIn
import Derived.TacticsInMore
import Derived.LoopNIn
import Derived.LoopIn
import Derived.Test.YtgikibaajanjiaaGreatDoorJC2
import Derived.Deep.AppendLies
import Derived.Test.YtgikibaajanjiaaGreatDoorJC12
set_option maxRecDepth 100000
set_option maxHeartbeats 16000000
namespace Go.Proofs.YtgikibaajanjiaaGreatDoor
open Pl
open Go.RowKit Go.Proofs.Tryz
set_option linter.unusedVariables false
def kv (p:Int × Int):Value:=.agg #[iv p.1,iv p.2]
def qh:List (Int × Int)->Nat->List MapEntry
 | [],_=>[]
 | p :: t,n=>⟨kv p,.agg #[],n⟩ :: qh t (n+1)
theorem Gh (ks:List (Int × Int)) (p:Int × Int):∀n,qh (ks++[p]) n=qh ks n++[⟨kv p,.agg #[],n+ks.length⟩]:=by
 induction ks with
 | nil=>intro n;rfl
 | cons q t ih=>intro n;simp only [List.cons_append,qh,ih,List.length_cons];rw [show n+1+t.length=n+(t.length+1) by omega]
theorem eqK (p q:Int × Int) (w:World):(Op.equal 249 (kv p) (kv q)).run prog w=.ok ((p.1==q.1)&&(p.2==q.2)) w:=by
 obtain ⟨a,b⟩:=p;obtain ⟨c,d⟩:=q;unfold kv;rw [show Op.equal 249 (.agg #[iv a,iv b]) (.agg #[iv c,iv d])=Op.equalIn 10000 249 (.agg #[iv a,iv b]) (.agg #[iv c,iv d]) from rfl];go_simp;by_cases h1:a=c<;>by_cases h2:b=d<;>simp [h1,h2]
theorem UB (b:Bool) (p:Int × Int) (w:World):(Instr.checkKey b 10000 249 (kv p)).run prog w=.ok () w:=by
 obtain ⟨a,c⟩:=p;unfold kv;kernel_rfl
theorem Xd (p:Int × Int) (w:World):∀(ks:List (Int × Int)) (n i:Nat),∃j,(Instr.findAsking 249 (kv p) (qh ks n) i).run prog w=.ok (if p∈ks then some (j,.agg #[]) else none) w:=by
 intro ks;induction ks with
 | nil=>intro n i;exact ⟨0,rfl⟩
 | cons q t ih=>
  intro n i;by_cases h:p=q
  ·subst h;refine ⟨i,?_⟩;simp [qh,Instr.findAsking,eqK,Result.andThen]
  ·obtain ⟨j,hj⟩:=ih (n+1) (i+1);refine ⟨j,?_⟩
   have hq:((p.1==q.1)&&(p.2==q.2))=false:=by
    obtain ⟨a,b⟩:=p;obtain ⟨c,d⟩:=q;simp at h ⊢;exact h
   have hm:(p∈q :: t)=(p∈t):=by simp [h]
   simp only [hm];simp [qh,Instr.findAsking,eqK,hq,Result.andThen,hj]
theorem Uu (p:Int × Int) (d:TypeDesc) (hd:prog.underlying 249=some d) (ks:List (Int × Int)) (n:Nat):Instr.findNow d (kv p) (qh ks n) 0=some none∧ks=[]∨Instr.findNow d (kv p) (qh ks n) 0=none:=by
 cases ks with
 | nil=>exact .inl ⟨rfl,rfl⟩
 | cons q t=>
  refine .inr ?_;unfold qh kv Instr.findNow;cases d<;>simp [Instr.sameNow]
theorem RG (p:Int × Int) (w:World) (ks:List (Int × Int)) (n:Nat):∃j,(Instr.findKey 249 (kv p) (qh ks n)).run prog w=.ok (if p∈ks then some (j,.agg #[]) else none) w:=by
 obtain ⟨d,hd⟩:∃d,prog.underlying 249=some d:=⟨_,underlying249⟩
 rcases Uu p d hd ks n with ⟨h,rfl⟩|h
 ·exact ⟨0,by simp [Instr.findKey,run_underlying hd,h,Result.andThen]⟩
 ·obtain ⟨j,hj⟩:=Xd p w ks n 0;exact ⟨j,by simp [Instr.findKey,run_underlying hd,h,Result.andThen,hj]⟩
theorem Td (p:Int × Int) (w:World) (g:Nat) (ks:List (Int × Int)) (hb:w.heap[g]? = some (.map (qh ks 0).toArray ks.length)) (hp:p∉ks) :
  (Instr.mapUpdate 251 (.map (some g)) (kv p) (.agg #[])).run prog w=.ok () {w with heap:=w.heap.setIfInBounds g (.map (qh (ks++[p]) 0).toArray (ks++[p]).length)}:=by
 obtain ⟨j,hj⟩:=RG p w ks 0;rw [if_neg hp] at hj;rw [Gh];simp [Instr.mapUpdate,run_underlying underlying251,MapKept.run_getObj_map hb,UB,hj,MapKept.run_setObj_map _ hb,Result.andThen]
theorem WL (p:Int × Int) (w:World) (g c:Nat) (ks:List (Int × Int)) (hb:w.heap[g]? = some (.map (qh ks 0).toArray c)) (hz:(zeroValue 250).run prog w=.ok (.agg #[]) w) :
  (Instr.lookup 251 (.map (some g)) (kv p) true).run prog w=.ok (.tuple #[.agg #[],.bool (decide (p∈ks))]) w:=by
 obtain ⟨j,hj⟩:=RG p w ks 0;by_cases hp:p∈ks
 ·rw [if_pos hp] at hj;simp [Instr.lookup,run_underlying underlying251,MapKept.run_getObj_map hb,UB,hj,Result.andThen,hp]
 ·rw [if_neg hp] at hj;simp [Instr.lookup,run_underlying underlying251,MapKept.run_getObj_map hb,UB,hj,Result.andThen,hp,hz]
theorem vM {lo hi g:Nat} {w W:World} (h:Kept lo hi w W) (hg:w.heap.size<=g) (ob:Obj):Kept lo hi w {W with heap:=W.heap.setIfInBounds g ob}:=
 ⟨h.os,h.tape,h.output,by simpa using h.size,fun k hk hn=>by
  show (W.heap.setIfInBounds g ob)[k]? = _
  rw [Array.getElem?_setIfInBounds_ne (by omega)]
  exact h.block k hk hn⟩
def jy (l:Array Bool) (W:World) (g:Nat):Prop:=
 (l.getD 0 true=false->W.heap.size=g∧l.getD 3 true=false∧l.getD 6 true=false∧l.getD 9 true=false)∧
 (l.getD 0 true=true->∃ks:List (Int × Int),W.heap[g]? = some (.map (qh ks 0).toArray ks.length)∧∀p,p∈ks↔(l.getD 3 true=true∧p=(15,1))∨(l.getD 6 true=true∧p=(15,3))∨(l.getD 9 true=true∧p=(19,0)))
theorem jy.past {l:Array Bool} {W:World} {g i:Nat} (h:jy l W g) (h0:0≠i) (h3:3≠i) (h6:6≠i) (h9:9≠i):jy (l.setIfInBounds i true) W g:=by
 unfold jy at h ⊢;rw [getD_set_ne h0,getD_set_ne h3,getD_set_ne h6,getD_set_ne h9];exact h
theorem jy.made {l:Array Bool} {W:World} {g:Nat} (h:jy l W g) (h0:l.getD 0 true=false):W.heap.size=g∧jy (l.setIfInBounds 0 true) (W.alloc (.map #[] 0)) g:=by
 obtain ⟨hs,a3,a6,a9⟩:=h.1 h0;refine ⟨hs,fun q => ?_,fun _=>⟨[],?_,fun p => ?_⟩⟩
 ·rw [gI] at q;cases q
 ·rw [<-hs];exact heap_alloc_new W _
 ·rw [getD_set_ne (by decide),getD_set_ne (by decide),getD_set_ne (by decide),a3,a6,a9];simp
theorem jy.map {l:Array Bool} {W:World} {g:Nat} (h:jy l W g) (h0:l.getD 0 true=true):∃ks:List (Int × Int),W.heap[g]? = some (.map (qh ks 0).toArray ks.length)∧∀p,p∈ks↔(l.getD 3 true=true∧p=(15,1))∨(l.getD 6 true=true∧p=(15,3))∨(l.getD 9 true=true∧p=(19,0)):=h.2 h0
theorem CS {W:World} {g:Nat} {ob ob':Obj} (h:W.heap[g]? = some ob):({W with heap:=W.heap.setIfInBounds g ob'}:World).heap[g]? = some ob':=by
 show (W.heap.setIfInBounds g ob')[g]? = _
 have:g<W.heap.size:=by
  rcases Nat.lt_or_ge g W.heap.size with q|q
  ·exact q
  ·rw [Array.getElem?_eq_none q] at h;cases h
 rw [Array.getElem?_setIfInBounds];simp [this]
theorem jy.YT {l:Array Bool} {W:World} {g:Nat} (h:jy l W g) (h0:l.getD 0 true=true) (hi:l.getD 3 true=false):∃W2:World,(Instr.mapUpdate 251 (.map (some g)) (kv (15,1)) (.agg #[])).run prog W=.ok () W2∧jy (l.setIfInBounds 3 true) W2 g∧(∀w:World,w.heap.size<=g->Kept 0 0 w W->Kept 0 0 w W2):=by
 obtain ⟨ks,hb,hk⟩:=h.map h0;refine ⟨_,Td (15,1) W g ks hb (by rw [hk,hi];simp),⟨fun q => ?_,fun _=>⟨ks++[(15,1)],CS hb,fun p => ?_⟩⟩,fun w hw k=>vM k hw _⟩
 ·rw [getD_set_ne (by decide),h0] at q;cases q
 ·rw [gI,getD_set_ne (by decide),getD_set_ne (by decide),List.mem_append,hk,hi];simp;grind
theorem jy.YS {l:Array Bool} {W:World} {g:Nat} (h:jy l W g) (h0:l.getD 0 true=true) (hi:l.getD 6 true=false):∃W2:World,(Instr.mapUpdate 251 (.map (some g)) (kv (15,3)) (.agg #[])).run prog W=.ok () W2∧jy (l.setIfInBounds 6 true) W2 g∧(∀w:World,w.heap.size<=g->Kept 0 0 w W->Kept 0 0 w W2):=by
 obtain ⟨ks,hb,hk⟩:=h.map h0;refine ⟨_,Td (15,3) W g ks hb (by rw [hk,hi];simp),⟨fun q => ?_,fun _=>⟨ks++[(15,3)],CS hb,fun p => ?_⟩⟩,fun w hw k=>vM k hw _⟩
 ·rw [getD_set_ne (by decide),h0] at q;cases q
 ·rw [gI,getD_set_ne (by decide),getD_set_ne (by decide),List.mem_append,hk,hi];simp;grind
theorem jy.YR {l:Array Bool} {W:World} {g:Nat} (h:jy l W g) (h0:l.getD 0 true=true) (hi:l.getD 9 true=false):∃W2:World,(Instr.mapUpdate 251 (.map (some g)) (kv (19,0)) (.agg #[])).run prog W=.ok () W2∧jy (l.setIfInBounds 9 true) W2 g∧(∀w:World,w.heap.size<=g->Kept 0 0 w W->Kept 0 0 w W2):=by
 obtain ⟨ks,hb,hk⟩:=h.map h0;refine ⟨_,Td (19,0) W g ks hb (by rw [hk,hi];simp),⟨fun q => ?_,fun _=>⟨ks++[(19,0)],CS hb,fun p => ?_⟩⟩,fun w hw k=>vM k hw _⟩
 ·rw [getD_set_ne (by decide),h0] at q;cases q
 ·rw [gI,getD_set_ne (by decide),getD_set_ne (by decide),List.mem_append,hk,hi];simp;grind
theorem iV (w:World) (op z r m k e s:Int):Calls prog 223 #[.agg (inA op z r m k e s)] w fun r' w'=>r'=.returned (.bool (jh ⟨op,z,r,m,k,e,s⟩))∧Kept 0 0 w w':=by
 have K0:=aab (kept_alloc w (.cells (inA op z r m k e s) 48));have B0:=aab (Blk.new w (inA op z r m k e s) 48);go_enter func223,ntmps223;go_wp2_with fail;refine iq (fun A0 l A W=>FR [6,7,8,9,10,11,12,13,3] A0 A∧Once l 0 (A.tmps[6]? = some (.map (some (w.heap.size+1))))∧Once l 1 (A.tmps[7]? = some (kv (15,1)))∧Once l 2 (A.tmps[8]? = some (.agg #[]))∧Once l 3 (True)∧Once l 4 (A.tmps[9]? = some (kv (15,3)))∧Once l 5 (A.tmps[10]? = some (.agg #[]))∧Once l 6 (True)∧Once l 7 (A.tmps[11]? = some (kv (19,0)))∧Once l 8 (A.tmps[12]? = some (.agg #[]))∧Once l 9 (True)∧Once l 10 (A.tmps[13]? = some (.map (some (w.heap.size+1))))∧Once l 11 (A.tmps[3]? = some (.map (some (w.heap.size+1))))∧jy l W (w.heap.size+1)∧Kept 0 0 (w.alloc (.cells (inA op z r m k e s) 48)) W) (by kernel_rfl) (by kernel_rfl) ?start ?fin ?step
 case start=>exact ⟨FR.refl _ _,ay (by decide),ay (by decide),ay (by decide),ay (by decide),ay (by decide),ay (by decide),ay (by decide),ay (by decide),ay (by decide),ay (by decide),ay (by decide),ay (by decide),⟨fun _=>⟨by simp,lS (by decide),lS (by decide),lS (by decide)⟩,fun q=>by rw [lS (by decide)] at q;cases q⟩,ah (Kept.refl _ _ _)⟩
 case fin=>
  intro l A W h hl;obtain ⟨hFR,o0,o1,o2,o3,o4,o5,o6,o7,o8,o9,o10,o11,hM,hK⟩:=h;have g11:=o11 (hl 11 (by decide));obtain ⟨ks,hb,hks⟩:=hM.map (hl 0 (by decide));rw [hl 3 (by decide),hl 6 (by decide),hl 9 (by decide)] at hks;have hlk:=fun hz=>WL (op,s) W (w.heap.size+1) _ ks hb hz;have hlk2:=hlk (by kernel_rfl);rw [show decide ((op,s)∈ks)=jh ⟨op,z,r,m,k,e,s⟩ from by rw [<-Bool.coe_iff_coe];simp [hks,jh];grind] at hlk2;have BX:=aab (B0.o.ae hK);obtain ⟨x0,x1,x2,x3,x4,x5,x6⟩:=BX.o.c7;have KQ:=aab (K0.o.trans hK);unfold kv at hlk2;have HL:=aab hlk2;have hc9:=hFR.chain;simp only [List.foldl] at hc9;rw [mY g11] at hc9;clear hl hK hFR hM hb hks hlk hlk2 g11 o0 o1 o2 o3 o4 o5 o6 o7 o8 o9 o10 o11;generalize A.tmps.getD 6 undef=s6 at hc9;generalize A.tmps.getD 7 undef=s7 at hc9;generalize A.tmps.getD 8 undef=s8 at hc9;generalize A.tmps.getD 9 undef=s9 at hc9;generalize A.tmps.getD 10 undef=s10 at hc9;generalize A.tmps.getD 11 undef=s11 at hc9;generalize A.tmps.getD 12 undef=s12 at hc9;generalize A.tmps.getD 13 undef=s13 at hc9;subst hc9;have hlk3:=HL.o;go_simp;go_wp2_with fail;go_ret;exact ⟨rfl,ag KQ.o _⟩
 case step=>
  intro l A W i hI hm;obtain ⟨hFR,o0,o1,o2,o3,o4,o5,o6,o7,o8,o9,o10,o11,hM,hK⟩:=hI;obtain ⟨hi1,hi2⟩:=jG hm;have hsz:Hid (13<A.tmps.size):=aab (by rw [hFR.size];simp);rcases i with _|_|_|_|_|_|_|_|_|_|_|_|i
  ·obtain ⟨hs,hM2⟩:=hM.made hi2;have hmm:=run_makeMap (P:=prog) 251 W;rw [hs] at hmm;refine wpOp_step rfl (fun KK hK2 => ?_);go_simp;exact hK2 (A.put (some 6) (.map (some (w.heap.size+1)))) _ ⟨hFR.put (by decide) _,.now (put_eq (by have hz:=hsz.o;omega)),o1.q,o2.q,o3.n,o4.q,o5.q,o6.n,o7.q,o8.q,o9.n,o10.q,o11.q,hM2,ag hK _⟩
  ·refine wpOp_step rfl (fun KK hK2 => ?_);go_simp;exact hK2 (A.put (some 7) (.agg #[iv 15,iv 1])) _ ⟨hFR.put (by decide) _,o0.q,.now (by unfold kv;exact put_eq (by have hz:=hsz.o;omega)),o2.q,o3.n,o4.q,o5.q,o6.n,o7.q,o8.q,o9.n,o10.q,o11.q,hM.past (by decide) (by decide) (by decide) (by decide),hK⟩
  ·refine wpOp_step rfl (fun KK hK2 => ?_);go_simp;exact hK2 (A.put (some 8) (.agg #[])) _ ⟨hFR.put (by decide) _,o0.q,o1.q,.now (put_eq (by have hz:=hsz.o;omega)),o3.n,o4.q,o5.q,o6.n,o7.q,o8.q,o9.n,o10.q,o11.q,hM.past (by decide) (by decide) (by decide) (by decide),hK⟩
  ·have e0:=o0 (az hm 0 (by kernel_rfl));have e1:=o1 (az hm 1 (by kernel_rfl));have e2:=o2 (az hm 2 (by kernel_rfl));obtain ⟨W2,hu,hM2,hKK⟩:=hM.YT (az hm 0 (by kernel_rfl)) hi2;replace hKK:=hKK _ (by simp) hK;unfold kv at e1 hu;refine wpOp_step rfl (fun KK hK2 => ?_);go_simp;exact hK2 A _ ⟨hFR,o0.n,o1.n,o2.n,.now trivial,o4.n,o5.n,o6.n,o7.n,o8.n,o9.n,o10.n,o11.n,hM2,hKK⟩
  ·refine wpOp_step rfl (fun KK hK2 => ?_);go_simp;exact hK2 (A.put (some 9) (.agg #[iv 15,iv 3])) _ ⟨hFR.put (by decide) _,o0.q,o1.q,o2.q,o3.n,.now (by unfold kv;exact put_eq (by have hz:=hsz.o;omega)),o5.q,o6.n,o7.q,o8.q,o9.n,o10.q,o11.q,hM.past (by decide) (by decide) (by decide) (by decide),hK⟩
  ·refine wpOp_step rfl (fun KK hK2 => ?_);go_simp;exact hK2 (A.put (some 10) (.agg #[])) _ ⟨hFR.put (by decide) _,o0.q,o1.q,o2.q,o3.n,o4.q,.now (put_eq (by have hz:=hsz.o;omega)),o6.n,o7.q,o8.q,o9.n,o10.q,o11.q,hM.past (by decide) (by decide) (by decide) (by decide),hK⟩
  ·have e0:=o0 (az hm 0 (by kernel_rfl));have e4:=o4 (az hm 4 (by kernel_rfl));have e5:=o5 (az hm 5 (by kernel_rfl));obtain ⟨W2,hu,hM2,hKK⟩:=hM.YS (az hm 0 (by kernel_rfl)) hi2;replace hKK:=hKK _ (by simp) hK;unfold kv at e4 hu;refine wpOp_step rfl (fun KK hK2 => ?_);go_simp;exact hK2 A _ ⟨hFR,o0.n,o1.n,o2.n,o3.n,o4.n,o5.n,.now trivial,o7.n,o8.n,o9.n,o10.n,o11.n,hM2,hKK⟩
  ·refine wpOp_step rfl (fun KK hK2 => ?_);go_simp;exact hK2 (A.put (some 11) (.agg #[iv 19,iv 0])) _ ⟨hFR.put (by decide) _,o0.q,o1.q,o2.q,o3.n,o4.q,o5.q,o6.n,.now (by unfold kv;exact put_eq (by have hz:=hsz.o;omega)),o8.q,o9.n,o10.q,o11.q,hM.past (by decide) (by decide) (by decide) (by decide),hK⟩
  ·refine wpOp_step rfl (fun KK hK2 => ?_);go_simp;exact hK2 (A.put (some 12) (.agg #[])) _ ⟨hFR.put (by decide) _,o0.q,o1.q,o2.q,o3.n,o4.q,o5.q,o6.n,o7.q,.now (put_eq (by have hz:=hsz.o;omega)),o9.n,o10.q,o11.q,hM.past (by decide) (by decide) (by decide) (by decide),hK⟩
  ·have e0:=o0 (az hm 0 (by kernel_rfl));have e7:=o7 (az hm 7 (by kernel_rfl));have e8:=o8 (az hm 8 (by kernel_rfl));obtain ⟨W2,hu,hM2,hKK⟩:=hM.YR (az hm 0 (by kernel_rfl)) hi2;replace hKK:=hKK _ (by simp) hK;unfold kv at e7 hu;refine wpOp_step rfl (fun KK hK2 => ?_);go_simp;exact hK2 A _ ⟨hFR,o0.n,o1.n,o2.n,o3.n,o4.n,o5.n,o6.n,o7.n,o8.n,.now trivial,o10.n,o11.n,hM2,hKK⟩
  ·have e0:=o0 (az hm 0 (by kernel_rfl));refine wpOp_step rfl (fun KK hK2 => ?_);go_simp;exact hK2 (A.put (some 13) (.map (some (w.heap.size+1)))) _ ⟨hFR.put (by decide) _,o0.q,o1.q,o2.q,o3.n,o4.q,o5.q,o6.n,o7.q,o8.q,o9.n,.now (put_eq (by have hz:=hsz.o;omega)),o11.q,hM.past (by decide) (by decide) (by decide) (by decide),hK⟩
  ·have e10:=o10 (az hm 10 (by kernel_rfl));refine wpOp_step rfl (fun KK hK2 => ?_);go_simp;exact hK2 (A.put (some 3) (.map (some (w.heap.size+1)))) _ ⟨hFR.put (by decide) _,o0.q,o1.q,o2.q,o3.n,o4.q,o5.q,o6.n,o7.q,o8.q,o9.n,o10.q,.now (put_eq (by have hz:=hsz.o;omega)),hM.past (by decide) (by decide) (by decide) (by decide),hK⟩
  ·simp at hi1
   omega
theorem Xi {n v:Int} (h:aJ n=true):0<=n∧n<=65535∧(Lit.int .i64 (Pl.decode n v).m).wf=true∧(if lng (Pl.decode n v).m=true then (2:Int) else 1)=dW n:=by
 simp [aJ,within] at h;refine ⟨h.1,h.2,qK ?_ ?_,?_⟩
 ·show -1<=n/32%8;omega
 ·show n/32%8<=65536;omega
 ·show (if lng (n/32%8)=true then (2:Int) else 1)=_
  unfold lng dW;rw [show bI (n/32%8)=true from by simp [bI,within];omega];rfl
theorem tY (w:World) (n:Int) (wfn:(Lit.int .i64 n).wf=true):Calls prog 188 #[iv n] w fun e' w'=>e'=.returned (.tuple #[iv (if aJ n=true then dW n else 0),.bool (aJ n)])∧Kept 0 0 w w':=by
 obtain ⟨lo,hi⟩:=wfB wfn;cases h:aJ n
 ·go_enter func188,ntmps188;go_wp2_with (go_at_call 64;refine st (isWord _ _ lo hi) ?_;rw [h]);go_ret2;exact ⟨rfl,Kept.refl _ _ _⟩
 ·obtain ⟨n0,n1,wm,hl⟩:=Xi (v:=0) h;obtain ⟨x,hx⟩:∃x,Pl.decode n 0=x:=⟨_,rfl⟩
  rw [hx] at wm hl;have HX:=aab hx;have HL:=aab hl;clear hx hl;go_enter func188,ntmps188;go_wp2_with (first|(go_at_call 64;refine st (isWord _ _ lo hi) ?_;rw [h])|(go_at_call 166;refine (insOf _ n 0 n0 n1).mono ?_;rw [HX.o];rintro e9 w2 ⟨rfl,k2⟩)|(go_at_call 80;refine (lengthOf _ _ _ _ _ _ _ _ wm).mono ?_;rw [HL.o];rintro e9 w3 ⟨rfl,k3⟩));go_ret2;exact ⟨rfl,k2.trans k3⟩
def Pl.iT (w v:Int):Bool:=aJ w&&bJ (Pl.decode w v)
def Pl.qx (w v:Int):Pl.In:=if iT w v=true then Pl.decode w v else vP
def Pl.qO (w v:Int):Int:=if iT w v=true then dW w else 0
theorem Xh {n v:Int} (h:aJ n=true) (wfv:(Lit.int .i64 v).wf=true):(Lit.int .i64 (Pl.decode n v).op).wf=true∧(Lit.int .i64 (Pl.decode n v).z).wf=true∧(Lit.int .i64 (Pl.decode n v).r).wf=true∧(Lit.int .i64 (Pl.decode n v).m).wf=true∧(Lit.int .i64 (Pl.decode n v).k).wf=true∧(Lit.int .i64 (Pl.decode n v).e).wf=true∧(Lit.int .i64 (Pl.decode n v).s).wf=true:=by
 simp [aJ,within] at h;rw [vX];simp only [Pl.decode];refine ⟨qK (by omega) (by omega),qK (by omega) (by omega),qK (by omega) (by omega),qK (by omega) (by omega),qK (by omega) (by omega),?_,qK (by omega) (by omega)⟩;cases jL (n/32%8)
 ·exact qK (n:=0) (by decide) (by decide)
 ·exact wfv
theorem vw (w:World) (n v:Int) (wfn:(Lit.int .i64 n).wf=true) (wfv:(Lit.int .i64 v).wf=true):Calls prog 189 #[iv n,iv v] w fun e' w'=>e'=.returned (.tuple #[.agg #[iv (qx n v).op,iv (qx n v).z,iv (qx n v).r,iv (qx n v).m,iv (qx n v).k,iv (qx n v).e,iv (qx n v).s],iv (qO n v),.bool (iT n v)])∧Kept 0 0 w w':=by
 obtain ⟨lo,hi⟩:=wfB wfn;have K0:=aab (kept_alloc w (.cells (inA 0 0 0 0 0 0 0) 48));have R0:=aab (Blk.new w (inA 0 0 0 0 0 0 0) 48);cases h:aJ n
 ·have G:Hid (iT n v=false):=aab (by simp only [iT,h];rfl);go_enter func189,ntmps189;go_wp2_with (go_at_call 64;refine st (isWord _ _ lo hi) ?_;rw [h]);refine bodyPost_ret (v:=.tuple #[.agg (inA 0 0 0 0 0 0 0),iv 0,.bool false]) ?_ rfl ⟨by simp [qx,qO,G.o,vP],?_⟩
  ·rw [oG rfl];go_simp
  ·exact K0.o
 ·obtain ⟨n0,n1,wm,hl⟩:=Xi (v:=v) h;have wx:=Xh h wfv;obtain ⟨x,hx⟩:∃x,Pl.decode n v=x:=⟨_,rfl⟩
  rw [hx] at wm hl wx;have HX:=aab hx;have HL:=aab hl;clear hx hl;cases hg:bJ x
  ·have G:Hid (iT n v=false):=aab (by simp only [iT,h,HX.o,hg];rfl);go_enter func189,ntmps189;go_wp2_with (first|(go_at_call 64;refine st (isWord _ _ lo hi) ?_;rw [h])|(go_at_call 166;refine (insOf _ n v n0 n1).mono ?_;rw [HX.o];rintro e9 w2 ⟨rfl,k2⟩;have R2:=aab (R0.o.ae k2);have K2:=aab (K0.o.trans k2);have s2:=R2.o.lt;obtain ⟨y0,y1,y2,y3,y4,y5,y6⟩:=R2.o.c7;have fy0:=R2.o.frozen 0;have fy1:=R2.o.frozen 1;have fy2:=R2.o.frozen 2;have fy3:=R2.o.frozen 3;have fy4:=R2.o.frozen 4;have fy5:=R2.o.frozen 5;have fy6:=R2.o.frozen 6;clear k2)|(go_at_call 63;refine (tZ _ x.op x.z x.r x.m x.k x.e x.s wx.1 wx.2.1 wx.2.2.1 wx.2.2.2.1 wx.2.2.2.2.1 wx.2.2.2.2.2.1 wx.2.2.2.2.2.2).mono ?_;rw [show bJ ⟨x.op,x.z,x.r,x.m,x.k,x.e,x.s⟩=bJ x from rfl,hg];rintro e9 w3 ⟨rfl,k3⟩;have R3:=aab ((R2.o.alloc _).ae k3);have X3:=aab ((Blk.new w2 (inX x) 48).ae k3);have K3:=aab ((ag K2.o _).trans k3);have s3:=R3.o.lt;obtain ⟨q0,q1,q2,q3,q4,q5,q6⟩:=R3.o.c7;have fq0:=R3.o.frozen 0;have fq1:=R3.o.frozen 1;have fq2:=R3.o.frozen 2;have fq3:=R3.o.frozen 3;have fq4:=R3.o.frozen 4;have fq5:=R3.o.frozen 5;have fq6:=R3.o.frozen 6;clear k3));have s0:=R0.o.lt;refine bodyPost_ret (v:=.tuple #[.agg (inA 0 0 0 0 0 0 0),iv 0,.bool false]) ?_ rfl ⟨by simp [qx,qO,G.o,vP],?_⟩
   ·rw [oG rfl];go_simp
   ·exact (af (af (af (af (af (af (af K3.o _ _ _ (.inr (by omega))) _ _ _ (.inr (by omega))) _ _ _ (.inr (by omega))) _ _ _ (.inr (by omega))) _ _ _ (.inr (by omega))) _ _ _ (.inr (by omega))) _ _ _ (.inr (by omega)))
  ·have G:Hid (iT n v=true):=aab (by simp only [iT,h,HX.o,hg];rfl);have EX:Hid (qx n v=x):=aab (by simp [qx,G.o,HX.o]);have EN:Hid (qO n v=dW n):=aab (by simp [qO,G.o]);rw [EX.o,EN.o,G.o];obtain ⟨L,hL⟩:∃L,dW n=L:=⟨_,rfl⟩
   rw [hL] at HL ⊢;clear hL;go_enter func189,ntmps189;go_wp2_with (first|(go_at_call 64;refine st (isWord _ _ lo hi) ?_;rw [h])|(go_at_call 166;refine (insOf _ n v n0 n1).mono ?_;rw [HX.o];rintro e9 w2 ⟨rfl,k2⟩;have R2:=aab (R0.o.ae k2);have K2:=aab (K0.o.trans k2);have s2:=R2.o.lt;obtain ⟨y0,y1,y2,y3,y4,y5,y6⟩:=R2.o.c7;have fy0:=R2.o.frozen 0;have fy1:=R2.o.frozen 1;have fy2:=R2.o.frozen 2;have fy3:=R2.o.frozen 3;have fy4:=R2.o.frozen 4;have fy5:=R2.o.frozen 5;have fy6:=R2.o.frozen 6;clear k2)|(go_at_call 63;refine (tZ _ x.op x.z x.r x.m x.k x.e x.s wx.1 wx.2.1 wx.2.2.1 wx.2.2.2.1 wx.2.2.2.2.1 wx.2.2.2.2.2.1 wx.2.2.2.2.2.2).mono ?_;rw [show bJ ⟨x.op,x.z,x.r,x.m,x.k,x.e,x.s⟩=bJ x from rfl,hg];rintro e9 w3 ⟨rfl,k3⟩;have R3:=aab ((R2.o.alloc _).ae k3);have X3:=aab ((Blk.new w2 (inX x) 48).ae k3);have K3:=aab ((ag K2.o _).trans k3);have s3:=R3.o.lt;clear k3));have hne:Hid (w.heap.size<w2.heap.size):=aab R2.o.lt;refine iq (fun A0 l A W=>FR [19,20,21,5,6] A0 A∧Once l 0 (A.tmps[19]? = some (.agg (inX x)))∧Once l 1 (A.tmps[20]? = some (.agg (inX x)))∧Once l 2 (A.tmps[21]? = some (iv L))∧Once l 3 (True)∧Once l 4 (A.tmps[5]? = some (iv L))∧Once l 5 (A.tmps[6]? = some (.bool true))∧Blk W w.heap.size (bif l.getD 3 true then (inX x) else (inA 0 0 0 0 0 0 0)) 48∧Blk W w2.heap.size (inX x) 48∧Kept 0 0 w W) (by kernel_rfl) (by kernel_rfl) ?start ?fin ?step
   case start=>exact ⟨FR.refl _ _,ay (by decide),ay (by decide),ay (by decide),ay (by decide),ay (by decide),ay (by decide),(by rw [lS (by decide)];exact R3.o),X3.o,ah K3.o⟩
   case fin=>
    intro l A W h hl;obtain ⟨hFR,o0,o1,o2,o3,o4,o5,oR,oX,hK⟩:=h;have g4:=o4 (hl 4 (by decide));have QR:Hid (Blk W w.heap.size (inX x) 48):=aab (by rw [hl 3 (by decide)] at oR;exact oR);obtain ⟨q0,q1,q2,q3,q4,q5,q6⟩:=QR.o.c7;have g5:=o5 (hl 5 (by decide));have QQ:=aab hK;have hc9:=hFR.chain;simp only [List.foldl] at hc9;rw [mY g4,mY g5] at hc9;clear oR oX hl hK hFR g4 g5 o0 o1 o2 o3 o4 o5;generalize A.tmps.getD 19 undef=s19 at hc9;generalize A.tmps.getD 20 undef=s20 at hc9;generalize A.tmps.getD 21 undef=s21 at hc9;subst hc9;go_simp;go_wp2_with fail;refine bodyPost_ret (v:=.tuple #[.agg (inX x),iv L,.bool true]) ?_ rfl ⟨rfl,QQ.o⟩;rw [oG rfl];go_simp
   case step=>
    intro l A W i hI hm;obtain ⟨hFR,o0,o1,o2,o3,o4,o5,oR,oX,hK⟩:=hI;obtain ⟨hi1,hi2⟩:=jG hm;have hsz:Hid (21<A.tmps.size):=aab (by rw [hFR.size];simp);have m4:A.tmps[4]? = some (.pointer (some (aac w.heap.size 0))):=(hFR.o 4 (by decide)).trans rfl;have m7:A.tmps[7]? = some (.pointer (some (aac w2.heap.size 0))):=(hFR.o 7 (by decide)).trans rfl;rcases i with _|_|_|_|_|_|i
    ·have OX:=aab oX;obtain ⟨x0,x1,x2,x3,x4,x5,x6⟩:=OX.o.c7;refine wpOp_step rfl (fun KK hK2 => ?_);go_simp;exact hK2 (A.put (some 19) (.agg (inX x))) _ ⟨hFR.put (by decide) _,.now (put_eq (by have hz:=hsz.o;omega)),o1.q,o2.q,o3.n,o4.q,o5.q,by rw [getD_set_ne (by decide)];exact oR,oX,hK⟩
    ·have OX:=aab oX;obtain ⟨x0,x1,x2,x3,x4,x5,x6⟩:=OX.o.c7;refine wpOp_step rfl (fun KK hK2 => ?_);go_simp;exact hK2 (A.put (some 20) (.agg (inX x))) _ ⟨hFR.put (by decide) _,o0.q,.now (put_eq (by have hz:=hsz.o;omega)),o2.q,o3.n,o4.q,o5.q,by rw [getD_set_ne (by decide)];exact oR,oX,hK⟩
    ·have e1:=o1 (az hm 1 (by kernel_rfl));refine wpOp_step rfl (fun KK hK2 => ?_);go_simp;refine (lengthOf W x.op x.z x.r x.m x.k x.e x.s wm).mono ?_;rw [HL.o];rintro r9 y ⟨rfl,kd⟩;go_simp;exact hK2 (A.put (some 21) (iv L)) _ ⟨hFR.put (by decide) _,o0.q,o1.q,.now (put_eq (by have hz:=hsz.o;omega)),o3.n,o4.q,o5.q,by rw [getD_set_ne (by decide)];exact oR.ae kd,oX.ae kd,(hK.trans kd)⟩
    ·have e0:=o0 (az hm 0 (by kernel_rfl));have oR2:Blk W w.heap.size (inA 0 0 0 0 0 0 0) 48:=by rw [hi2] at oR;exact oR
     have OR:=aab oR2;obtain ⟨q0,q1,q2,q3,q4,q5,q6⟩:=OR.o.c7;have fq0:=OR.o.frozen 0;have fq1:=OR.o.frozen 1;have fq2:=OR.o.frozen 2;have fq3:=OR.o.frozen 3;have fq4:=OR.o.frozen 4;have fq5:=OR.o.frozen 5;have fq6:=OR.o.frozen 6;have nh:w2.heap.size≠w.heap.size:=by have:=hne.o;omega
     refine wpOp_step rfl (fun KK hK2 => ?_);go_simp;exact hK2 A _ ⟨hFR,o0.n,o1.n,o2.n,.now trivial,o4.n,o5.n,by rw [gI];exact (((((((oR2.set 0 (iv x.op)).set 1 (iv x.z)).set 2 (iv x.r)).set 3 (iv x.m)).set 4 (iv x.k)).set 5 (iv x.e)).set 6 (iv x.s)),(((((((oX.other w.heap.size 0 (iv x.op) nh).other w.heap.size 1 (iv x.z) nh).other w.heap.size 2 (iv x.r) nh).other w.heap.size 3 (iv x.m) nh).other w.heap.size 4 (iv x.k) nh).other w.heap.size 5 (iv x.e) nh).other w.heap.size 6 (iv x.s) nh),(af (af (af (af (af (af (af hK _ _ _ (.inr (by omega))) _ _ _ (.inr (by omega))) _ _ _ (.inr (by omega))) _ _ _ (.inr (by omega))) _ _ _ (.inr (by omega))) _ _ _ (.inr (by omega))) _ _ _ (.inr (by omega)))⟩
    ·have e2:=o2 (az hm 2 (by kernel_rfl));refine wpOp_step rfl (fun KK hK2 => ?_);go_simp;exact hK2 (A.put (some 5) (iv L)) _ ⟨hFR.put (by decide) _,o0.q,o1.q,o2.q,o3.n,.now (put_eq (by have hz:=hsz.o;omega)),o5.q,by rw [getD_set_ne (by decide)];exact oR,oX,hK⟩
    ·refine wpOp_step rfl (fun KK hK2 => ?_);go_simp;exact hK2 (A.put (some 6) (.bool true)) _ ⟨hFR.put (by decide) _,o0.q,o1.q,o2.q,o3.n,o4.q,.now (put_eq (by have hz:=hsz.o;omega)),by rw [getD_set_ne (by decide)];exact oR,oX,hK⟩
    ·simp at hi1
     omega
theorem wH {P:Program} {a:Act} {w:World} {Q:Exit->Act->World->Prop} {c rest:Code} (l:Nat) (hf:findLabel c l=some rest)
  (first:c.wp P (Exit.jump l (fun a' w'=>rest.wp P (Exit.noGoto Q) a' w') Q) a w):(Code.scope c).wp P Q a w:=by
 refine wp_scope_jumps l (fun a' w'=>rest.wp P (Exit.noGoto Q) a' w') (fun _ _=>0) hf first (fun a' w' h => ?_)
 refine Code.wp_mono (fun e a'' w'' hq => ?_) h;cases e<;>first|exact hq|exact (hq:False).elim
theorem ja {fn:Func} {p u q:Tmp} {ty tz:TypeId} (h:fn.results=#[.cell p ty,.tmp u,.cell q tz]) (tmps:Array Value) (P:Program) (w:World) :
  (results fn tmps).run P w=((asAddr (tmps.getD p undef)).run P w).andThen fun a w₁=>((loadVar ty a).run P w₁).andThen fun v w₂=>((asAddr (tmps.getD q undef)).run P w₂).andThen fun b w₃=>((loadVar tz b).run P w₃).andThen fun x w₄=>.ok (.tuple #[v,tmps.getD u undef,x]) w₄:=by
 simp only [results,h];simp [Sem.run_bind,Result.andThen]
namespace Pl
def Mc.kV (c:Mc):Ft:=bif c.fetch.fine then aG else c.fetch.f
theorem pY (p q:Int) (k s a:Int):Mc.dm {aG with pc:=p,wo:=q} k s a={Mc.dm aG k s a with pc:=p,wo:=q}:=by
 unfold Mc.dm;show (bif (code k s a != 0)&&true then _ else _)=_;cases code k s a != 0<;>rfl
theorem ni {k s a:Int} (h:((Mc.dm aG k s a).v != 0)=false):code k s a=0∧Mc.dm aG k s a=aG:=by
 unfold Mc.dm at *;cases hc:code k s a != 0
 ·exact ⟨by simpa using hc,rfl⟩
 ·rw [hc] at h;cases h2:code k s a==2<;>rw [h2] at h<;>cases h
theorem Nc {k s a:Int} (h:((Mc.dm aG k s a).v != 0)=true):¬code k s a=0:=by
 intro hc;unfold Mc.dm at h;rw [hc] at h;cases h
theorem OY {xs:List Int} {k s a:Int} (h:¬code k s a=0):lv xs k s a 0=0:=by
 unfold lv;rw [if_neg (fun q=>h q.1)]
theorem Ee {c:Mc} (h1:c.fe1.fine=false):c.fetch=c.fe1∧c.aA=vP∧c.cZ=0∧c.kV=c.fe1.f:=by
 have e:c.fetch=c.fe1:=by unfold Mc.fetch;rw [h1];rfl
 refine ⟨e,?_,?_,?_⟩
 ·unfold Mc.aA;rw [h1];rfl
 ·unfold Mc.cZ;rw [h1];rfl
 ·unfold Mc.kV;rw [e,h1];rfl
theorem Ed {c:Mc} (h1:c.fe1.fine=true) (h3:c.fe3.fine=false):c.fetch=c.fe3∧c.aA=vP∧c.cZ=0∧c.kV=c.fe3.f:=by
 have e:c.fetch=c.fe3:=by unfold Mc.fetch;rw [h1,h3];rfl
 refine ⟨e,?_,?_,?_⟩
 ·unfold Mc.aA;rw [h1,h3];rfl
 ·unfold Mc.cZ;rw [h1,h3];rfl
 ·unfold Mc.kV;rw [e,h3];rfl
theorem yx {c:Mc} (h1:c.fe1.fine=true) (h3:c.fe3.fine=true) (hx:bJ c.feX=false):c.fetch=c.fe4∧c.aA=vP∧c.cZ=0∧c.kV=c.fe4.f:=by
 have e:c.fetch=c.fe4:=by unfold Mc.fetch;rw [h1,h3,hx];rfl
 refine ⟨e,?_,?_,?_⟩
 ·unfold Mc.aA;rw [h1,h3,hx];rfl
 ·unfold Mc.cZ;rw [h1,h3,hx];rfl
 ·unfold Mc.kV;rw [e];rfl
theorem yw {c:Mc} (h1:c.fe1.fine=true) (h3:c.fe3.fine=true) (hx:bJ c.feX=true):c.fetch=c.fe3∧c.aA=c.feX∧c.cZ=dW c.feW∧c.kV=aG:=by
 have e:c.fetch=c.fe3:=by unfold Mc.fetch;rw [h1,h3,hx];rfl
 refine ⟨e,?_,?_,?_⟩
 ·unfold Mc.aA;rw [h1,h3,hx];rfl
 ·unfold Mc.cZ;rw [h1,h3,hx];rfl
 ·unfold Mc.kV;rw [e,h3];rfl
theorem JD (n:Int):dW n=1∨dW n=2:=by unfold dW;split<;>simp
end Pl
theorem CAt.fx {w:World} {lo b g:Nat} {c d:Mc} {h:Hl} (a:CAt w lo b g c h) (hr:d.r=c.r) (hx:d.bx=c.bx) (hl:d.bl=c.bl) (hm:d.bm=c.bm) (hs:d.st=c.st):CAt w lo b g d h:=by
 unfold CAt CBk at *;rw [hr,hx,hl,hm,hs];exact a
theorem U1 (w:World) (lo b g:Nat) (c:Mc) (h:Hl) (hC:CAt w lo b g c h) (G:GM c) (hf:c.f=aG) :
  Calls prog 136 #[.pointer (some (aac b 0))] w fun e w'=>∃g',e=.returned (.tuple #[.agg (mW c.aA),iv c.cZ,.agg (ftC c.kV)])∧CAt w' lo b g' (c.fetch) h∧Since w b (b+1) g w' g':=by
 obtain ⟨l0,l1,l2,l3,l4⟩:=hC.lt;have p0:=G.p0;have p1:=G.p1;have HG:=aab G;have K0:=aab (ag (ag (kept_alloc w (.cells (inA 0 0 0 0 0 0 0) 48)) (.cells ftZ 42)) (.cells #[iv 0,iv 0] 211));have C0:=aab (((hC.alloc (.cells (inA 0 0 0 0 0 0 0) 48)).alloc (.cells ftZ 42)).alloc (.cells #[iv 0,iv 0] 211));have I0:=aab (((Blk.new w (inA 0 0 0 0 0 0 0) 48).alloc (.cells ftZ 42)).alloc (.cells #[iv 0,iv 0] 211));have R0:=(Blk.new (w.alloc (.cells (inA 0 0 0 0 0 0 0) 48)) ftZ 42).alloc (.cells #[iv 0,iv 0] 211);have D0:=Blk.new ((w.alloc (.cells (inA 0 0 0 0 0 0 0) 48)).alloc (.cells ftZ 42)) #[iv 0,iv 0] 211;simp only [World.size_alloc] at R0 D0;replace R0:=aab R0;replace D0:=aab D0;obtain ⟨X,hX⟩:∃X:World,((w.alloc (.cells (inA 0 0 0 0 0 0 0) 48)).alloc (.cells ftZ 42)).alloc (.cells #[iv 0,iv 0] 211)=X:=⟨_,rfl⟩
 rw [hX] at K0 C0 I0 R0 D0;have x9:=C0.o.cP;have HA1:=aab (dX (k:=3) (.inr rfl) p0 p1);obtain ⟨V1,hV1⟩:∃V,V=c.feW:=⟨_,rfl⟩
 have HV1:Hid (V1=if (3:Int)=2 then 0 else Pl.lv c.bx 3 2 c.r.p 0):=aab hV1;obtain ⟨F1,hF1⟩:∃F,F=Mc.dm aG 3 2 c.r.p:=⟨_,rfl⟩
 have HF1:=aab hF1
 have E1:Hid (c.fe1.f={F1 with pc:=c.r.p,wo:=0}):=aab (by
  show Mc.dm {c.f with pc:=c.r.p} 3 2 c.r.p=_
  rw [hf,hF1];exact pY c.r.p 0 3 2 c.r.p)
 have epp:c.r.p%65536=c.r.p:=by omega
 have HW1:=aab hV1;clear hC G hF1 hV1;go_enter func136,ntmps136;go_wp2_with fail;refine wH 0 rfl ?_;go_wp2_with fail;go_step3;go_wp2_with (first|(go_at_call 178;refine st (gX _ _) ?_)|(go_at_call 187;refine (jS _ lo b g c h 3 2 c.r.p 0 C0.o HG.o HA1.o V1 HV1 F1 HF1).mono ?_;rintro e W3 ⟨g3,rfl,hc3,hs3⟩;unfold ftC;have S3:=aab ((((Since.refl w b (b+1) g).any K0.o).trans hs3).alloc (.cells (ftA F1) 42));have C3:=aab (hc3.alloc (.cells (ftA F1) 42));have I3:=aab ((hs3.blk I0.o (by omega) (by omega)).alloc (.cells (ftA F1) 42));have R3:=aab ((hs3.blk R0.o (by omega) (by omega)).alloc (.cells (ftA F1) 42));have D3:=aab ((hs3.blk D0.o (by omega) (by omega)).alloc (.cells (ftA F1) 42));have L3:=aab (Blk.new W3 (ftA F1) 42);have sX:=D0.o.lt;have s3:=hs3.size;obtain ⟨y0,y1,y2,y3,y4⟩:=hc3.lt;have n0:=hs3.ne (b:=w.heap.size) I0.o.lt (by omega);have n1:=hs3.ne (b:=w.heap.size+1) R0.o.lt (by omega);have n2:=hs3.ne (b:=w.heap.size+1+1) D0.o.lt (by omega);have d3:=D3.o.all;have df3:=D3.o.fz;have l3c:=fun v=>(L3.o.other (w.heap.size+1+1) 0 v (by omega)).all;clear hc3 hs3));refine (bQ F1 _).mono ?_;rintro e W4 ⟨rfl,k4⟩;have C4:=aab ((C3.o.other (w.heap.size+1+1) 0 (iv V1) (by omega) (by omega)).any k4);have I4:=aab ((I3.o.other (w.heap.size+1+1) 0 (iv V1) (by omega)).ae k4);have R4:=aab ((R3.o.other (w.heap.size+1+1) 0 (iv V1) (by omega)).ae k4);have L4:=aab ((L3.o.other (w.heap.size+1+1) 0 (iv V1) (by omega)).ae k4);have D4:Hid (Blk W4 (w.heap.size+1+1) #[iv V1,iv 0] 211):=aab ((D3.o.set 0 (iv V1)).ae k4);have S4:=aab ((S3.o.mine (ak (W3.alloc (.cells (ftA F1) 42)) (w.heap.size+1+1) 0 (iv V1)) (by omega)).any k4);have s4:=L4.o.lt;clear k4 C3 I3 R3 L3 D3 S3 d3 df3 l3c x9;have d4:=D4.o.all;have e4:=L4.o.all;have ef4:=L4.o.fz;have i4:=I4.o.all;have if4:=I4.o.fz;have r4:=R4.o.all;have rf4:=R4.o.fz;cases hv:(F1.v != 0)
 ·obtain ⟨hc0,hFn⟩:=ni (by rw [<-HF1.o];exact hv);have EF1:Hid (F1=aG):=aab (by rw [HF1.o];exact hFn);have h1:c.fe1.fine=true:=by unfold Mc.fine;rw [E1.o];simpa using hv
  have hw:okv 2 V1=true:=by rw [HW1.o];exact GM.gz (c:=c.fe0) (HG.o.ft _) HA1.o
  have hw2:=aQ hw;obtain ⟨v0,v1⟩:0<=V1∧V1<=65535:=by omega
  have okW:aJ V1=true:=by simp [aJ,within];omega
  have wfV1:(Lit.int .i64 V1).wf=true:=qK (by omega) (by omega)
  have E2:Hid (c.fe2.f=⟨0,c.r.p,0,V1,false⟩):=aab (by
   show ({c.fe1.f with wo:=c.feW}:Ft)=_
   rw [E1.o,EF1.o,HW1.o];rfl)
  clear hw hw2 hc0 hFn;go_wp2_with fail;refine (tY _ V1 wfV1).mono ?_;rintro e W5 ⟨rfl,k5⟩;rw [if_pos okW,okW];have C5:=aab (C4.o.any k5);have I5:=aab (I4.o.ae k5);have R5:=aab (R4.o.ae k5);have D5:=aab (D4.o.ae k5);have S5:=aab (S4.o.any k5);have s5:=k5.size;have d5:=D5.o.all;clear k5;clear d4 e4 ef4 i4 if4 r4 rf4;rcases JD V1 with hl|hl
  ·have hl2:(dW c.feW==2)=false:=by rw [<-HW1.o,hl];rfl
   have E3:Hid (c.fe3.f=⟨0,c.r.p,0,V1,false⟩):=aab (by unfold Mc.fe3;rw [hl2];exact E2.o);have EQ3:Hid (c.fe3=c.fe2):=aab (by unfold Mc.fe3;rw [hl2];rfl);have h3:c.fe3.fine=true:=by unfold Mc.fine;rw [E3.o];rfl
   have EX:Hid (c.feX=Pl.decode V1 0):=aab (by unfold Mc.feX Mc.feN;rw [hl2,<-HW1.o];rfl);rw [hl];clear hl2;go_wp2_with fail;refine (vw _ V1 0 wfV1 (by decide)).mono ?_;rintro e W9 ⟨rfl,k9⟩;obtain ⟨x,hx⟩:∃x,x=qx V1 0:=⟨_,rfl⟩
   obtain ⟨N,hN⟩:∃N,N=qO V1 0:=⟨_,rfl⟩
   rw [<-hx,<-hN];have C9:=aab ((C5.o.any k9).alloc (.cells (inX x) 48));have I9:=aab ((I5.o.ae k9).alloc (.cells (inX x) 48));have R9:=aab ((R5.o.ae k9).alloc (.cells (inX x) 48));have D9:=aab ((D5.o.ae k9).alloc (.cells (inX x) 48));have S9:=aab ((S5.o.any k9).alloc (.cells (inX x) 48));have s9:=k9.size;have i9:=I9.o.all;have if9:=I9.o.fz;have r9:=R9.o.all;have rf9:=R9.o.fz;have d9:=D9.o.all;clear k9;have HX:=aab hx;have HN:=aab hN;clear hx hN;cases hk:iT V1 0
   ·have hb:bJ c.feX=false:=by
     have:=hk;unfold iT at this;rw [okW,Bool.true_and] at this
     rw [show c.feX=Pl.decode V1 0 from EX.o];exact this
    obtain ⟨ES,EI,EN,EF⟩:=yx h1 h3 hb;replace ES:=aab (ES.trans (show c.fe4={c.fe3 with f:={c.fe3.f with v:=4}} from rfl));replace EI:=aab EI;replace EN:=aab EN;have EF:Hid (c.kV=⟨4,c.r.p,0,V1,false⟩):=aab (by rw [EF];show ({c.fe3.f with v:=4}:Ft)=_;rw [E3.o]);clear hb;go_wp2_with fail;go_region;go_wp2_with fail;have K7:=(((((((ak (W9.alloc (.cells (inX x) 48)) w.heap.size 0 (iv 0)).one 1 (iv 0)).one 2 (iv 0)).one 3 (iv 0)).one 4 (iv 0)).one 5 (iv 0)).one 6 (iv 0))
    have K8:=(ah ((((((ak ((((((((W9.alloc (.cells (inX x) 48)).setCell (aac w.heap.size 0) (iv 0)).setCell (aac w.heap.size 1) (iv 0)).setCell (aac w.heap.size 2) (iv 0)).setCell (aac w.heap.size 3) (iv 0)).setCell (aac w.heap.size 4) (iv 0)).setCell (aac w.heap.size 5) (iv 0)).setCell (aac w.heap.size 6) (iv 0)) (w.heap.size+1) 0 (iv 4)).one 1 (iv c.r.p)).one 2 (iv 0)).one 3 (iv V1)).one 4 (.bool false))))
    first|simp only [Exit.jump]|rw [Exit.noGoto_ret]
    refine bodyPost_ret (v:=.tuple #[.agg (inA 0 0 0 0 0 0 0),iv 0,.agg #[iv 4,iv c.r.p,iv 0,iv V1,.bool false]]) ?_ rfl ⟨g3,?_,?_,((S9.o).mine K7 (by omega)).mine K8 (by omega)⟩
    ·rw [ja rfl];go_simp
    ·rw [EI.o,EN.o,EF.o];rfl
    ·rw [ES.o,EQ3.o];exact (((C9.o).kept K7 (by omega) (by omega)).kept K8 (by omega) (by omega)).fx rfl rfl rfl rfl rfl
   ·have hb:bJ c.feX=true:=by
     have:=hk;unfold iT at this;rw [okW,Bool.true_and] at this
     rw [show c.feX=Pl.decode V1 0 from EX.o];exact this
    obtain ⟨ES,EI,EN,EF⟩:=yw h1 h3 hb;replace ES:=aab ES;have EI:Hid (c.aA=x):=aab (by rw [EI,HX.o];unfold qx;rw [if_pos hk];exact EX.o);have EN:Hid (c.cZ=N):=aab (by rw [EN,HN.o];unfold qO;rw [if_pos hk,HW1.o]);replace EF:=aab EF;clear hb;go_wp2_with fail;have K7:=(((((((ak (W9.alloc (.cells (inX x) 48)) w.heap.size 0 (iv x.op)).one 1 (iv x.z)).one 2 (iv x.r)).one 3 (iv x.m)).one 4 (iv x.k)).one 5 (iv x.e)).one 6 (iv x.s))
    have K8:=((((((ak ((((((((W9.alloc (.cells (inX x) 48)).setCell (aac w.heap.size 0) (iv x.op)).setCell (aac w.heap.size 1) (iv x.z)).setCell (aac w.heap.size 2) (iv x.r)).setCell (aac w.heap.size 3) (iv x.m)).setCell (aac w.heap.size 4) (iv x.k)).setCell (aac w.heap.size 5) (iv x.e)).setCell (aac w.heap.size 6) (iv x.s)) (w.heap.size+1) 0 (iv 0)).one 1 (iv 0)).one 2 (iv 0)).one 3 (iv 0)).one 4 (.bool false)))
    first|simp only [Exit.jump]|rw [Exit.noGoto_ret]
    refine bodyPost_ret (v:=.tuple #[.agg (inX x),iv N,.agg ftZ]) ?_ rfl ⟨g3,?_,?_,((S9.o).mine K7 (by omega)).mine K8 (by omega)⟩
    ·rw [ja rfl];go_simp
    ·rw [EI.o,EN.o,EF.o];rfl
    ·rw [ES.o,EQ3.o];exact (((C9.o).kept K7 (by omega) (by omega)).kept K8 (by omega) (by omega)).fx rfl rfl rfl rfl rfl
  ·have hl2:(dW c.feW==2)=true:=by rw [<-HW1.o,hl];rfl
   obtain ⟨A,hA⟩:∃A,A=c.feA:=⟨_,rfl⟩
   have eA:(c.r.p+2)%65536=A:=hA.symm;have a0:0<=A:=by omega
   have a1:A<=65535:=by omega
   have HA2:=aab (dX (k:=3) (.inr rfl) a0 a1);have HG1:=aab (HG.o.acc HA1.o);obtain ⟨V2,hV2⟩:∃V,V=c.fe2.gz 3 2 A 0:=⟨_,rfl⟩
   have HV2:Hid (V2=if (3:Int)=2 then 0 else Pl.lv (c.acc 3 2 c.r.p 0).bx 3 2 A 0):=aab hV2;obtain ⟨F2,hF2⟩:∃F,F=Mc.dm aG 3 2 A:=⟨_,rfl⟩
   have HF2:=aab hF2;have EQ3:Hid (c.fe3=c.fe2.acc 3 2 A 0):=aab (by unfold Mc.fe3;rw [hl2,hA];rfl)
   have E3:Hid (c.fe3.f={F2 with pc:=c.r.p,wo:=V1}):=aab (by
    rw [EQ3.o];show Mc.dm c.fe2.f 3 2 A=_
    rw [E2.o,hF2];exact pY c.r.p V1 3 2 A)
   have EX:Hid (c.feX=Pl.decode V1 V2):=aab (by unfold Mc.feX Mc.feN;rw [hl2,<-HW1.o,hV2,hA];rfl);have hw:okv 2 V2=true:=by rw [hV2];exact GM.gz (c:=c.acc 3 2 c.r.p 0) HG1.o HA2.o
   have hw2:=aQ hw;have wfV2:(Lit.int .i64 V2).wf=true:=qK (by omega) (by omega);rw [hl];clear hl2 hA hV2 hF2 hw hw2;go_wp2_with fail;go_step3;refine ⟨rfl,?_⟩;go_wp2_with (first|(go_at_call 178;refine st (gX _ _) ?_;rw [eA])|(go_at_call 187;refine (jS _ lo b g3 (c.acc 3 2 c.r.p 0) h 3 2 A 0 C5.o HG1.o HA2.o V2 HV2 F2 HF2).mono ?_;rintro e W6 ⟨g6,rfl,hc6,hs6⟩;unfold ftC;have S6:=aab ((S5.o.trans hs6).alloc (.cells (ftA F2) 42));have C6:=aab (hc6.alloc (.cells (ftA F2) 42));have I6:=aab ((hs6.blk I5.o (by omega) (by omega)).alloc (.cells (ftA F2) 42));have R6:=aab ((hs6.blk R5.o (by omega) (by omega)).alloc (.cells (ftA F2) 42));have D6:=aab ((hs6.blk D5.o (by omega) (by omega)).alloc (.cells (ftA F2) 42));have L6:=aab (Blk.new W6 (ftA F2) 42);have s6:=hs6.size;obtain ⟨z0,z1,z2,z3,z4⟩:=hc6.lt;have m0:=hs6.ne (b:=w.heap.size) I5.o.lt (by omega);have m1:=hs6.ne (b:=w.heap.size+1) R5.o.lt (by omega);have m2:=hs6.ne (b:=w.heap.size+1+1) D5.o.lt (by omega);have d6:=D6.o.all;have df6:=D6.o.fz;have l6c:=fun v=>(L6.o.other (w.heap.size+1+1) 1 v (by omega)).all;clear hc6 hs6));refine (bQ F2 _).mono ?_;rintro e W7 ⟨rfl,k7⟩;have C7:=aab ((C6.o.other (w.heap.size+1+1) 1 (iv V2) (by omega) (by omega)).any k7);have I7:=aab ((I6.o.other (w.heap.size+1+1) 1 (iv V2) (by omega)).ae k7);have R7:=aab ((R6.o.other (w.heap.size+1+1) 1 (iv V2) (by omega)).ae k7);have L7:=aab ((L6.o.other (w.heap.size+1+1) 1 (iv V2) (by omega)).ae k7);have D7:Hid (Blk W7 (w.heap.size+1+1) #[iv V1,iv V2] 211):=aab ((D6.o.set 1 (iv V2)).ae k7);have S7:=aab ((S6.o.mine (ak (W6.alloc (.cells (ftA F2) 42)) (w.heap.size+1+1) 1 (iv V2)) (by omega)).any k7);have s7:=L7.o.lt;clear k7 C6 I6 R6 L6 D6 S6 d6 df6 l6c d5;have d7:=D7.o.all;have e7:=L7.o.all;have ef7:=L7.o.fz;have i7:=I7.o.all;have if7:=I7.o.fz;have r7:=R7.o.all;have rf7:=R7.o.fz;cases hv2:(F2.v != 0)
   ·obtain ⟨hc0,hFn⟩:=ni (by rw [<-HF2.o];exact hv2);have EF2:Hid (F2=aG):=aab (by rw [HF2.o];exact hFn);have h3:c.fe3.fine=true:=by unfold Mc.fine;rw [E3.o];simpa using hv2
    replace E3:Hid (c.fe3.f=⟨0,c.r.p,0,V1,false⟩):=aab (by rw [E3.o,EF2.o];rfl);clear hc0 hFn;go_wp2_with fail;refine (tY _ V1 wfV1).mono ?_;rintro e W8 ⟨rfl,k8⟩;rw [if_pos okW,okW,hl];have C8:=aab (C7.o.any k8);have I8:=aab (I7.o.ae k8);have R8:=aab (R7.o.ae k8);have D8:=aab (D7.o.ae k8);have S8:=aab (S7.o.any k8);have s8:=k8.size;have d8:=D8.o.all;clear k8;clear d7 e7 ef7 i7 if7 r7 rf7;go_wp2_with fail;refine (vw _ V1 V2 wfV1 wfV2).mono ?_;rintro e W9 ⟨rfl,k9⟩;obtain ⟨x,hx⟩:∃x,x=qx V1 V2:=⟨_,rfl⟩
    obtain ⟨N,hN⟩:∃N,N=qO V1 V2:=⟨_,rfl⟩
    rw [<-hx,<-hN];have C9:=aab ((C8.o.any k9).alloc (.cells (inX x) 48));have I9:=aab ((I8.o.ae k9).alloc (.cells (inX x) 48));have R9:=aab ((R8.o.ae k9).alloc (.cells (inX x) 48));have D9:=aab ((D8.o.ae k9).alloc (.cells (inX x) 48));have S9:=aab ((S8.o.any k9).alloc (.cells (inX x) 48));have s9:=k9.size;have i9:=I9.o.all;have if9:=I9.o.fz;have r9:=R9.o.all;have rf9:=R9.o.fz;have d9:=D9.o.all;clear k9;have HX:=aab hx;have HN:=aab hN;clear hx hN;cases hk:iT V1 V2
    ·have hb:bJ c.feX=false:=by
      have:=hk;unfold iT at this;rw [okW,Bool.true_and] at this
      rw [show c.feX=Pl.decode V1 V2 from EX.o];exact this
     obtain ⟨ES,EI,EN,EF⟩:=yx h1 h3 hb;replace ES:=aab (ES.trans (show c.fe4={c.fe3 with f:={c.fe3.f with v:=4}} from rfl));replace EI:=aab EI;replace EN:=aab EN;have EF:Hid (c.kV=⟨4,c.r.p,0,V1,false⟩):=aab (by rw [EF];show ({c.fe3.f with v:=4}:Ft)=_;rw [E3.o]);clear hb;go_wp2_with fail;go_region;go_wp2_with fail;have K7:=(((((((ak (W9.alloc (.cells (inX x) 48)) w.heap.size 0 (iv 0)).one 1 (iv 0)).one 2 (iv 0)).one 3 (iv 0)).one 4 (iv 0)).one 5 (iv 0)).one 6 (iv 0))
     have K8:=(ah ((((((ak ((((((((W9.alloc (.cells (inX x) 48)).setCell (aac w.heap.size 0) (iv 0)).setCell (aac w.heap.size 1) (iv 0)).setCell (aac w.heap.size 2) (iv 0)).setCell (aac w.heap.size 3) (iv 0)).setCell (aac w.heap.size 4) (iv 0)).setCell (aac w.heap.size 5) (iv 0)).setCell (aac w.heap.size 6) (iv 0)) (w.heap.size+1) 0 (iv 4)).one 1 (iv c.r.p)).one 2 (iv 0)).one 3 (iv V1)).one 4 (.bool false))))
     first|simp only [Exit.jump]|rw [Exit.noGoto_ret]
     refine bodyPost_ret (v:=.tuple #[.agg (inA 0 0 0 0 0 0 0),iv 0,.agg #[iv 4,iv c.r.p,iv 0,iv V1,.bool false]]) ?_ rfl ⟨g6,?_,?_,((S9.o).mine K7 (by omega)).mine K8 (by omega)⟩
     ·rw [ja rfl];go_simp
     ·rw [EI.o,EN.o,EF.o];rfl
     ·rw [ES.o,EQ3.o];exact (((C9.o).kept K7 (by omega) (by omega)).kept K8 (by omega) (by omega)).fx rfl rfl rfl rfl rfl
    ·have hb:bJ c.feX=true:=by
      have:=hk;unfold iT at this;rw [okW,Bool.true_and] at this
      rw [show c.feX=Pl.decode V1 V2 from EX.o];exact this
     obtain ⟨ES,EI,EN,EF⟩:=yw h1 h3 hb;replace ES:=aab ES;have EI:Hid (c.aA=x):=aab (by rw [EI,HX.o];unfold qx;rw [if_pos hk];exact EX.o);have EN:Hid (c.cZ=N):=aab (by rw [EN,HN.o];unfold qO;rw [if_pos hk,HW1.o]);replace EF:=aab EF;clear hb;go_wp2_with fail;have K7:=(((((((ak (W9.alloc (.cells (inX x) 48)) w.heap.size 0 (iv x.op)).one 1 (iv x.z)).one 2 (iv x.r)).one 3 (iv x.m)).one 4 (iv x.k)).one 5 (iv x.e)).one 6 (iv x.s))
     have K8:=((((((ak ((((((((W9.alloc (.cells (inX x) 48)).setCell (aac w.heap.size 0) (iv x.op)).setCell (aac w.heap.size 1) (iv x.z)).setCell (aac w.heap.size 2) (iv x.r)).setCell (aac w.heap.size 3) (iv x.m)).setCell (aac w.heap.size 4) (iv x.k)).setCell (aac w.heap.size 5) (iv x.e)).setCell (aac w.heap.size 6) (iv x.s)) (w.heap.size+1) 0 (iv 0)).one 1 (iv 0)).one 2 (iv 0)).one 3 (iv 0)).one 4 (.bool false)))
     first|simp only [Exit.jump]|rw [Exit.noGoto_ret]
     refine bodyPost_ret (v:=.tuple #[.agg (inX x),iv N,.agg ftZ]) ?_ rfl ⟨g6,?_,?_,((S9.o).mine K7 (by omega)).mine K8 (by omega)⟩
     ·rw [ja rfl];go_simp
     ·rw [EI.o,EN.o,EF.o];rfl
     ·rw [ES.o,EQ3.o];exact (((C9.o).kept K7 (by omega) (by omega)).kept K8 (by omega) (by omega)).fx rfl rfl rfl rfl rfl
   ·have h3:c.fe3.fine=false:=by unfold Mc.fine;rw [E3.o];simpa using hv2
    obtain ⟨ES,EI,EN,EF⟩:=Ed h1 h3;replace ES:=aab ES;replace EI:=aab EI;replace EN:=aab EN;replace EF:=aab (EF.trans E3.o);go_wp2_with fail;go_region;go_wp2_with fail;go_region;go_wp2_with fail;have K6:=((ak W7 W6.heap.size 1 (iv c.r.p)).one 3 (iv V1))
    have K7:=(((((((ak ((W7.setCell (aac W6.heap.size 1) (iv c.r.p)).setCell (aac W6.heap.size 3) (iv V1)) w.heap.size 0 (iv 0)).one 1 (iv 0)).one 2 (iv 0)).one 3 (iv 0)).one 4 (iv 0)).one 5 (iv 0)).one 6 (iv 0))
    have K8:=(ah (ah ((((((ak (((((((((W7.setCell (aac W6.heap.size 1) (iv c.r.p)).setCell (aac W6.heap.size 3) (iv V1)).setCell (aac w.heap.size 0) (iv 0)).setCell (aac w.heap.size 1) (iv 0)).setCell (aac w.heap.size 2) (iv 0)).setCell (aac w.heap.size 3) (iv 0)).setCell (aac w.heap.size 4) (iv 0)).setCell (aac w.heap.size 5) (iv 0)).setCell (aac w.heap.size 6) (iv 0)) (w.heap.size+1) 0 (iv F2.v)).one 1 (iv c.r.p)).one 2 (iv F2.ad)).one 3 (iv V1)).one 4 (.bool F2.wr)))))
    first|simp only [Exit.jump]|rw [Exit.noGoto_ret]
    refine bodyPost_ret (v:=.tuple #[.agg (inA 0 0 0 0 0 0 0),iv 0,.agg #[iv F2.v,iv c.r.p,iv F2.ad,iv V1,.bool F2.wr]]) ?_ rfl ⟨g6,?_,?_,((S7.o.mine K6 (by omega)).mine K7 (by omega)).mine K8 (by omega)⟩
    ·rw [ja rfl];go_simp
    ·rw [EI.o,EN.o,EF.o];rfl
    ·rw [ES.o,EQ3.o];exact (((C7.o.kept K6 (by omega) (by omega)).kept K7 (by omega) (by omega)).kept K8 (by omega) (by omega)).fx rfl rfl rfl rfl rfl
 ·have h1:c.fe1.fine=false:=by unfold Mc.fine;rw [E1.o];simpa using hv
  have hV0:V1=0:=by
   rw [HW1.o];exact OY (Nc (by rw [<-HF1.o];exact hv))
  obtain ⟨ES,EI,EN,EF⟩:=Ee h1;replace ES:=aab ES;replace EI:=aab EI;replace EN:=aab EN;have EF:Hid (c.kV={F1 with pc:=c.r.p,wo:=V1}):=aab (by rw [EF,E1.o,hV0]);clear hV0;go_wp2_with fail;go_region;go_wp2_with fail;go_region;go_wp2_with fail;have K6:=((ak W4 W3.heap.size 1 (iv c.r.p)).one 3 (iv V1))
  have K7:=(((((((ak ((W4.setCell (aac W3.heap.size 1) (iv c.r.p)).setCell (aac W3.heap.size 3) (iv V1)) w.heap.size 0 (iv 0)).one 1 (iv 0)).one 2 (iv 0)).one 3 (iv 0)).one 4 (iv 0)).one 5 (iv 0)).one 6 (iv 0))
  have K8:=(ah (ah ((((((ak (((((((((W4.setCell (aac W3.heap.size 1) (iv c.r.p)).setCell (aac W3.heap.size 3) (iv V1)).setCell (aac w.heap.size 0) (iv 0)).setCell (aac w.heap.size 1) (iv 0)).setCell (aac w.heap.size 2) (iv 0)).setCell (aac w.heap.size 3) (iv 0)).setCell (aac w.heap.size 4) (iv 0)).setCell (aac w.heap.size 5) (iv 0)).setCell (aac w.heap.size 6) (iv 0)) (w.heap.size+1) 0 (iv F1.v)).one 1 (iv c.r.p)).one 2 (iv F1.ad)).one 3 (iv V1)).one 4 (.bool F1.wr)))))
  first|simp only [Exit.jump]|rw [Exit.noGoto_ret]
  refine bodyPost_ret (v:=.tuple #[.agg (inA 0 0 0 0 0 0 0),iv 0,.agg #[iv F1.v,iv c.r.p,iv F1.ad,iv V1,.bool F1.wr]]) ?_ rfl ⟨g3,?_,?_,((S4.o.mine K6 (by omega)).mine K7 (by omega)).mine K8 (by omega)⟩
  ·rw [ja rfl];go_simp
  ·rw [EI.o,EN.o,EF.o];rfl
  ·rw [ES.o];exact (((C4.o.kept K6 (by omega) (by omega)).kept K7 (by omega) (by omega)).kept K8 (by omega) (by omega)).fx rfl rfl rfl rfl rfl
open Go.RowKit Go.Shelf Go.Proofs.Tryz
set_option linter.unusedSimpArgs false
structure Keep (B c:Nat) (W W':World):Prop where
 size:W.heap.size<=W'.heap.size
 block:∀k,k<W.heap.size->(B<=k∨k=c)->W'.heap[k]? = W.heap[k]?
theorem Keep.refl (B c:Nat) (W:World):Keep B c W W:=⟨Nat.le_refl _,fun _ _ _=>rfl⟩
theorem Keep.trans {B c:Nat} {X Y Z:World} (h:Keep B c X Y) (k:Keep B c Y Z):Keep B c X Z:=
 ⟨Nat.le_trans h.size k.size,fun i hi q=>(k.block i (Nat.lt_of_lt_of_le hi h.size) q).trans (h.block i hi q)⟩
theorem Keep.mono {B B' c:Nat} {X Y:World} (h:Keep B c X Y) (hB:B<=B'):Keep B' c X Y:=⟨h.size,fun k hk q=>h.block k hk (by omega)⟩
theorem Keep.drew {B c:Nat} {X Y:World} (h:Keep B c X Y):Keep B c X Y.drew:=⟨h.size,h.block⟩
theorem Keep.setCell {B c:Nat} {X Y:World} (h:Keep B c X Y) {p:Addr} (h1:p.block<B) (h2:p.block≠c) (u:Value):Keep B c X (Y.setCell p u):=
 h.trans ⟨by simp [World.setCell],fun k hk q=>Below.heap_setCell _ _ _ _ (by omega)⟩
theorem Keep.at {B c k:Nat} {X Y:World} {o:Obj} (h:Keep B c X Y) (hk:X.heap[k]? = some o) (q:B<=k∨k=c):Y.heap[k]? = some o:=
 (h.block k (Array.getElem?_eq_some_iff.1 hk).1 q).trans hk
theorem mg {B l:Nat} {W:World} (h:B<=l) (o:Obj):Below B W (W.putObj l o):=
 ⟨rfl,rfl,rfl,by simp,fun k hk=>World.putObj_heap_other (by omega)⟩
theorem zK {B c l:Nat} {W:World} (h1:l<B) (h2:l≠c) (o:Obj):Keep B c W (W.putObj l o):=
 ⟨by simp,fun k hk q=>World.putObj_heap_other (by omega)⟩
theorem room_wide (n:Nat):Fence.wide.room n:=fun d h=>by simp [Fence.wide] at h
theorem Fe {m m':Nat} {P:Program} {l:Nat} {f:FuncId} {tmps:Array Value} {assign body:Code} {w:World} {R:Ending->World->Prop}
  (h:RoundIn Fence.wide m P l f tmps assign body w R):RoundIn Fence.wide m' P l f tmps assign body w R:=⟨h.1,fun c cs _=>h.2 c cs (room_wide _)⟩
theorem wQ {m:Nat} (m':Nat) {P:Program} {l:Nat} {args:Array Value} {W:World} {R:Ending->World->Prop} (h:YieldAt Fence.wide m P l args W R):YieldAt Fence.wide m' P l args W R:=by
 obtain ⟨fn,tmps,assign,body,hy,hR⟩:=h;exact ⟨fn,tmps,assign,body,hy,Fe hR⟩
def Gives (P:Program) (g:Nat) (lb:Array Value) (c:Nat) (o:Obj) (enc:Nat->Array Value) (N:Nat):Prop:=
 ∀(l:Nat) (J:Nat->World->Prop) (W:World),W.heap[c]? = some o->(∀k W1 W2,J k W1->Below W.heap.size W1 W2->J k W2)->
  (∀k W1,k<N->J k W1->W.heap.size<=W1.heap.size->YieldAt Fence.wide 3 P l (enc k) W1 fun e W'=>e=.returned (.bool true)∧J (k+1) W'∧Keep W.heap.size c W1 W')->
  J 0 W->Calls P g (#[.func (.yield l) #[] #[]]++lb) W fun e W'=>(∃v,e=.returned v)∧J N W'
def Ol (B c:Nat) (J:World->Prop) (W:World):Exit->Act->World->Prop
 | .normal,_,W'=>J W'∧Keep B c W W'
 | .ret,_,_=>False
 | .exit _,_,_=>False
 | .goto _,_,_=>False
 | .panic _,_,_=>False
 | .outgrown,_,_=>False
theorem yK {P:Program} {g:Operand} {ps:Array Tmp} {assign body:Code} {Q:Exit->Act->World->Prop} {a:Act} {w:World} {n:Nat} {gf:Nat} {lb:Array Value} {c:Nat} {o:Obj} {enc:Nat->Array Value} {N:Nat}
  (hseq:Gives P gf lb c o enc N) (hg:a.eval g=.func (.func gf) #[] lb) (eg:∀args w,(callFunc gf args).run P w=.ok (.enter gf args) w) (hc:w.heap[c]? = some o) (hps:∀k,(enc k).size=ps.size)
  (I:Nat->World->Prop) (hI:∀k W1 W2,I k W1->Below w.heap.size W1 W2->I k W2) (h0:I 0 w) (a₁:Nat->Act)
  (hassign:∀(l k:Nat) (W:World) (K:Act->World->Prop),K (a₁ k) W->
   assign.wpIn (Fence.wide.inRound l) 3 P (Exit.then K (fun _ _ _=>False)) {tmps:=(ps.zip (enc k)).foldl (fun t (p,v)=>t.setIfInBounds p v) a.tmps,defers:=[]} W)
  (hbody:∀(l k:Nat) (W:World),k<N->I k W->w.heap.size<=W.heap.size->body.wpIn (Fence.wide.inRound l) 3 P (Ol w.heap.size c (I (k+1)) W) (a₁ k) W)
  (hdone:∀W:World,I N W->W.heap[w.heap.size]? = some (.deferred (some []))->Q .normal {a with defers:={target:=.collected w.heap.size,args:=#[]} :: a.defers} W) :
  (Code.rangeFunc g ps assign body).wpIn Fence.wide n P Q a w:=by
 refine wpIn_rangeFunc ?_;intro fn hfn;have hclt:c<w.heap.size:=(Array.getElem?_eq_some_iff.1 hc).1;obtain ⟨rec,hrec⟩:∃rec:LoopState->Option Code->Loop,rec=fun st pe=>{state:=st,pending:=pe,fn,tmps:=a.tmps,params:=ps,assign,body,defers:=w.heap.size}:=⟨_,rfl⟩
 obtain ⟨W1,hW1⟩:∃W1,(w.alloc (.deferred (some []))).alloc (.loop (rec .ready none))=W1:=⟨_,rfl⟩
 have hs1:W1.heap.size=w.heap.size+2:=by rw [<-hW1];simp
 have hL1:W1.heap[w.heap.size+1]? = some (.loop (rec .ready none)):=by
  rw [<-hW1];have:=World.alloc_heap_new (w.alloc (.deferred (some []))) (.loop (rec .ready none));rwa [World.size_alloc] at this
 have hK1:W1.heap[w.heap.size]? = some (.deferred (some [])):=by
  rw [<-hW1];exact (Below.heap_alloc _ _ _ (by simp)).trans (World.alloc_heap_new w _)
 have hb1:Below w.heap.size w W1:=by
  rw [<-hW1];exact ((Below.refl _ w).alloc (Nat.le_refl _) _).alloc (by simp) _
 have hI1:I 0 W1:=hI 0 w W1 h0 hb1
 refine ⟨w.heap.size+1,[{target:=.collected w.heap.size,args:=#[]}],W1,{target:=.fn (.func gf) lb,args:=#[.func (.yield (w.heap.size+1)) #[] #[]]},W1,gf,
  #[.func (.yield (w.heap.size+1)) #[] #[]]++lb,W1,?_,?_,?_,?_,fun h=>by simp [Fence.wide] at h,?_⟩
 ·rw [<-hW1,hrec];exact run_enterLoop_outer _ _ _ _ _
 ·simp only [resolve,hg];simp [go_sem]
 ·intro f' hf';trivial
 ·simp [invoke,go_sem,eg]
 ·refine callsIn_wide.2 ((hseq (w.heap.size+1)
   (fun k W=>I k W∧W.heap[w.heap.size+1]? = some (.loop (rec .ready none))∧W.heap[w.heap.size]? = some (.deferred (some [])))
   W1 ((hb1.block c hclt).trans hc)
   (fun k X Y hs hb=>⟨hI k X Y hs.1 (hb.mono (by omega)),(hb.block _ (by omega)).trans hs.2.1,(hb.block _ (by omega)).trans hs.2.2⟩) ?_ ⟨hI1,hL1,hK1⟩).mono ?_)
  ·rintro k W hk ⟨hi,hl,hd⟩ hsz;have hlt:w.heap.size+1<W.heap.size:=(Array.getElem?_eq_some_iff.1 hl).1;have hy:=run_yield (P:=P) (args:=enc k) hl (by rw [hrec];exact hps k);rw [hrec] at hy;refine ⟨fn,_,assign,body,hy,roundIn_of_wpIn hfn (hassign _ k W _ ⟨_,run_beginRound hl (by rw [hrec]),?_⟩)⟩;have hl2:(W.putObj (w.heap.size+1) (.loop {rec .ready none with state:=.busy})).heap[w.heap.size+1]? = some (.loop {rec .ready none with state:=.busy}):=World.putObj_heap_same hlt;have hd2:(W.putObj (w.heap.size+1) (.loop {rec .ready none with state:=.busy})).heap[w.heap.size]? = some (.deferred (some [])):=(World.putObj_heap_other (by omega)).trans hd;have hi2:=hI k _ _ hi (mg (l:=w.heap.size+1) (W:=W) (by omega) (.loop {rec .ready none with state:=.busy}));have hk2:=zK (B:=w.heap.size+2) (c:=c) (l:=w.heap.size+1) (W:=W) (by omega) (by omega) (.loop {rec .ready none with state:=.busy});refine wpIn_mono (hbody _ k _ hk hi2 (by simp;omega)) ?_;rintro e a3 W3 hp;cases e with
   | normal=>
    obtain ⟨hi3,hk3⟩:=hp;have hl3:=hk3.at hl2 (.inl (by omega));have hd3:=hk3.at hd2 (.inl (by omega));have hr:=run_endRound (P:=P) none hl3;rw [hrec] at hr hl3;refine ⟨_,_,hr,rfl,⟨hI _ _ _ hi3 (mg (by omega) _),?_,(World.putObj_heap_other (by omega)).trans hd3⟩,?_⟩
    ·rw [hrec];exact World.putObj_heap_same (Array.getElem?_eq_some_iff.1 hl3).1
    ·rw [hs1];exact (hk2.trans (hk3.mono (by omega))).trans (zK (by omega) (by omega) _)
   | ret=>exact hp.elim
   | exit id=>exact hp.elim
   | goto t=>exact hp.elim
   | panic ch=>exact hp.elim
   | outgrown=>exact hp.elim
  ·rintro e W2 ⟨⟨v,rfl⟩,hi,hl,hd⟩;refine ⟨none,_,by have:=run_endLoop (P:=P) hl (by rw [hrec];simp);rw [hrec] at this;exact this,hdone _ (hI _ _ _ hi (mg (by omega) _)) ((World.putObj_heap_other (by omega)).trans hd)⟩
theorem jf {W W':World} {B b:Nat} {t:TypeId} {v:Value} (h:Boxed W b t v) (k:Below B W W') (hb:b<B):Boxed W' b t v:=(k.block b hb).trans h
end Go.Proofs.YtgikibaajanjiaaGreatDoor
namespace Go.Proofs.YtgikibaajanjiaaGreatDoor.Pl
set_option linter.unusedVariables false
set_option linter.unusedSimpArgs false
def wOk (v:Int):Bool:=decide (0<=v)&&decide (v<=65535)
theorem nP {v:Int} (h:wOk v=true):0<=v∧v<=65535:=by simpa [wOk] using h
def p2 (k:Nat):Int:=(2:Int)^k
theorem uB:p2 0=1:=rfl
theorem qP (k:Nat):p2 (k+1)=p2 k*2:=by unfold p2;rw [Int.pow_succ]
theorem xK (k:Nat):0<p2 k:=by
 induction k with
 | zero=>decide
 | succ k ih=>rw [qP];omega
theorem IV:p2 16=65536:=by decide
theorem IU {k:Nat} (h:k<=16):p2 k<=65536:=by
 have:∀j:Nat,j<=16->p2 j<=65536:=by decide +kernel
 exact this k h
def iK (v:Int) (k:Nat):Int:=v/p2 k%2
theorem uu (v:Int) (k:Nat):iK v k=0∨iK v k=1:=by unfold iK;omega
theorem Jn (v:Int) (k:Nat):v%p2 (k+1)=v%p2 k+iK v k*p2 k:=by
 have hp:=xK k;rw [qP];unfold iK;have h1:=Int.mul_ediv_add_emod v (p2 k);have h2:=Int.mul_ediv_add_emod (v/p2 k) 2;have h3:=Int.emod_nonneg v (show p2 k≠0 by omega);have h4:=Int.emod_lt_of_pos v hp;have h5:0<=v/p2 k%2∧v/p2 k%2<2:=by omega
 obtain ⟨q,hq⟩:∃q,v/p2 k/2=q:=⟨_,rfl⟩
 obtain ⟨b,hb⟩:∃b,v/p2 k%2=b:=⟨_,rfl⟩
 obtain ⟨r,hr⟩:∃r,v%p2 k=r:=⟨_,rfl⟩
 rw [hq,hb] at h2;rw [<-h2,hr] at h1;rw [hr] at h3 h4;rw [hb] at h5;have e:v=(r+b*p2 k)+(p2 k*2)*q:=by rw [<-h1,Int.mul_add,Int.mul_comm b (p2 k),Int.mul_assoc];omega
 have hb2:b*p2 k<=p2 k:=by
  rcases (show b=0∨b=1 by omega) with rfl|rfl<;>omega
 have hb3:0<=b*p2 k:=by
  rcases (show b=0∨b=1 by omega) with rfl|rfl<;>omega
 have e2:v%(p2 k*2)=r+b*p2 k:=by
  rw [e,Int.add_mul_emod_self_left];exact Int.emod_eq_of_lt (by omega) (by omega)
 rw [e2,hr,hb]
def hiW (p:Int):Int:=p/65536%65536
def loW (p:Int):Int:=p%65536
def dR (h l b:Int):Nat->Int
 | 0=>h
 | m+1=>if b<=2*dR h l b m+iK l (15-m) then 2*dR h l b m+iK l (15-m)-b else 2*dR h l b m+iK l (15-m)
def dQ (h l b:Int):Nat->Int
 | 0=>0
 | m+1=>2*dQ h l b m+(if b<=2*dR h l b m+iK l (15-m) then 1 else 0)
def dN (h l b:Int):Nat->Int
 | 0=>0
 | m+1=>dN h l b m+(if b<=2*dR h l b m+iK l (15-m) then 1 else 0)
theorem Lh (l:Int) (m:Nat) (hm:m<16):l/p2 (16-(m+1))=2*(l/p2 (16-m))+iK l (15-m):=by
 have e:16-m=(15-m)+1:=by omega
 have e1:16-(m+1)=15-m:=by omega
 rw [e1,e,qP];have hp:=xK (15-m);rw [<-Int.ediv_ediv_of_nonneg (by omega)];unfold iK;omega
theorem yA {h l b:Int} (h0:0<=h) (h1:h<b) (l0:0<=l):∀m:Nat,m<=16->(0<=dR h l b m∧dR h l b m<b)∧dQ h l b m*b+dR h l b m=h*p2 m+(l/p2 (16-m)-l/p2 16*p2 m)∧0<=dQ h l b m∧dQ h l b m<p2 m:=by
 intro m;induction m with
 | zero=>
  intro _;refine ⟨⟨h0,h1⟩,?_,Int.le_refl _,(by show (0:Int)<p2 0;decide)⟩;show (0:Int)*b+h=h*p2 0+(l/p2 16-l/p2 16*p2 0);rw [uB];omega
 | succ m ih=>
  intro hm;obtain ⟨⟨r0,r1⟩,e,q0,q1⟩:=ih (by omega);have hb:=uu l (15-m);have hn:=Lh l m (by omega);have hq:0<=dQ h l b m*b:=Int.mul_nonneg q0 (by omega);rw [hn,qP];have e2:h*(p2 m*2)=2*(h*p2 m):=by rw [<-Int.mul_assoc];omega
  have e3:l/p2 16*(p2 m*2)=2*(l/p2 16*p2 m):=by rw [<-Int.mul_assoc];omega
  rw [e2,e3];simp only [dR,dQ];by_cases hc:b<=2*dR h l b m+iK l (15-m)
  ·rw [if_pos hc,if_pos hc];have e4:(2*dQ h l b m+1)*b=2*(dQ h l b m*b)+b:=by rw [Int.add_mul,Int.one_mul,Int.mul_assoc]
   rw [e4];omega
  ·rw [if_neg hc,if_neg hc];have e4:(2*dQ h l b m+0)*b=2*(dQ h l b m*b):=by rw [Int.add_zero,Int.mul_assoc]
   rw [e4];omega
theorem Uz {h l b:Int} (h0:0<=h) (h1:h<b) (l0:0<=l) (l1:l<=65535):dQ h l b 16*b+dR h l b 16=h*65536+l∧0<=dR h l b 16∧dR h l b 16<b∧0<=dQ h l b 16∧dQ h l b 16<=65535:=by
 obtain ⟨⟨r0,r1⟩,e,q0,q1⟩:=yA h0 h1 l0 16 (by omega);rw [IV,show 16-16=0 from rfl,uB,Int.ediv_one] at e;rw [IV] at q1;have:l/65536=0:=by omega
 rw [this] at e;omega
def sL (l b:Int):Nat->Int
 | 0=>0
 | m+1=>if 0<=sL l b m then 2*sL l b m+iK l (15-m)-b else 2*sL l b m+iK l (15-m)+b
theorem VT {l b:Int} (hb:1<=b) (l0:0<=l):∀m:Nat,m<=16->(0<=sL l b m∧sL l b m=dR 0 l b m)∨(sL l b m<0∧sL l b m=dR 0 l b m-b):=by
 intro m;induction m with
 | zero=>intro _;exact .inl ⟨Int.le_refl _,rfl⟩
 | succ m ih=>
  intro hm;have hw:=uu l (15-m);obtain ⟨⟨r0,r1⟩,_⟩:=yA (h:=0) (l:=l) (b:=b) (Int.le_refl _) (by omega) l0 m (by omega);simp only [sL,dR];rcases ih (by omega) with ⟨i0,i1⟩|⟨i0,i1⟩
  ·rw [if_pos i0,i1];split<;>omega
  ·rw [if_neg (by omega),i1];split<;>omega
def IB (l b:Int):Int:=if sL l b 16<0 then sL l b 16+b else sL l b 16
theorem yQ {l b:Int} (hb:1<=b) (l0:0<=l) (l1:l<=65535):dQ 0 l b 16=l/b∧IB l b=l%b:=by
 obtain ⟨e,r0,r1,q0,_⟩:=Uz (h:=0) (l:=l) (b:=b) (Int.le_refl _) (by omega) l0 l1;have h:=VT hb l0 16 (Nat.le_refl _);have hr:IB l b=dR 0 l b 16:=by unfold IB;split<;>omega
 rw [hr];have e2:dR 0 l b 16+b*dQ 0 l b 16=l:=by rw [Int.mul_comm b];omega
 have key:=Int.ediv_emod_unique (a:=l) (b:=b) (r:=dR 0 l b 16) (q:=dQ 0 l b 16) (by omega);have:=key.2 ⟨e2,r0,r1⟩;exact ⟨this.1.symm,this.2.symm⟩
end Go.Proofs.YtgikibaajanjiaaGreatDoor.Pl
namespace Go.Proofs.YtgikibaajanjiaaGreatDoor
open Pl
open Go.RowKit Go.Proofs.Tryz
set_option linter.unusedVariables false
def Pl.ok2 (a b:Int):Bool:=wOk a&&wOk b
def Pl.Fq (a b:Int):Int:=if Pl.ok2 a b=true then a*b/65536 else 0
def Pl.xP (a b:Int):Int:=if Pl.ok2 a b=true then a*b%65536 else 0
theorem Tu {a b:Int} (a0:0<=a) (a1:a<=65535) (b0:0<=b) (b1:b<=65535):0<=a*b∧a*b<=4294836225:=by
 refine ⟨Int.mul_nonneg a0 b0,?_⟩;have:=Int.mul_le_mul a1 b1 b0 (by omega:(0:Int)<=65535);omega
theorem MN (v:Int) (k:Nat):bits .and .i64 (v/2^k) 1=iK v k:=by rw [and1];rfl
open Go.RowKit Go.Shelf Go.Proofs.Tryz
attribute [local go_sem] Oper.semAt_some
set_option linter.unusedSimpArgs false
abbrev Uy (d:Nat->Int) (k:Nat):Array Value:=#[iv (k:Int),iv (d k)]
theorem zi (v:Int) (w:World):Calls prog 299 #[iv v] w fun e w'=>e=.returned (.func (.func 318) #[] #[.pointer (some (aac w.heap.size 0))])∧w'=w.alloc (.cells #[iv v] 3):=by
 go_enter func299,ntmps299;go_wp2;go_ret;exact ⟨rfl,rfl⟩
theorem MK (v:Int) (w:World):Calls prog 300 #[iv v] w fun e w'=>e=.returned (.func (.func 319) #[] #[.pointer (some (aac w.heap.size 0))])∧w'=w.alloc (.cells #[iv v] 3):=by
 go_enter func300,ntmps300;go_wp2;go_ret;exact ⟨rfl,rfl⟩
theorem BC {v:Int} (h:wOk v=true) (b:Nat):Gives prog 318 #[.pointer (some (aac b 0))] b (.cells #[iv v] 3 (0,0)) (Uy (iK v)) 16:=fun l J W hb hJ hY h0=>by
 have hv:=nP h;refine (callsIn_wide (n:=9)).1 (callsIn_of_wp func318 rfl trivial ?_ rfl);simp only [ntmps318,List.size_toArray,List.length_cons,List.length_nil,Nat.reduceAdd,Nat.reduceSub,Array.replicate_succ,Array.replicate_zero,List.push_toArray,List.append_toArray,List.nil_append,List.cons_append];gi_wp2;gi_loopw [4] (fun p wr=>∃k:Nat,p=iv (k:Int)∧k<=16∧J k wr∧W.heap.size<=wr.heap.size∧Boxed wr b 3 (iv v)) (fun p wr=>16-(intOf p).toNat)
 case atStart=>exact ⟨0,rfl,by omega,h0,Nat.le_refl _,hb⟩
 case round=>
  obtain ⟨k,rfl,hk,hj,hs,hB⟩:=hrel;have hcell:=hB.cell;by_cases hlt:k<16
  ·have ht:((k:Int)<16):=by omega
   obtain ⟨fn,tmps,assign,body,hy,hR⟩:=wQ 8 (hY k wr hlt hj hs);dsimp only [Uy] at hy;rw [<-MN] at hy;gi_wp2;refine hR.mono ?_;rintro e W3 ⟨rfl,hj3,hk3⟩;have hB3:=hk3.at hB (.inr rfl);have hs3:=hk3.size;gi_wp2;go_roundw
   case rel=>exact ⟨k+1,by simp,by omega,hj3,by omega,hB3⟩
   case measure=>simp [intOf];omega
  ·have ht:¬((k:Int)<16):=by omega
   have e:k=16:=by omega
   subst e;gi_wp2;go_end0;exact ⟨⟨_,rfl⟩,hj⟩
abbrev Xg (v:Int) (k:Nat):Array Value:=#[iv (iK v (15-k))]
theorem Gi {v:Int} (h:wOk v=true) (b:Nat):Gives prog 319 #[.pointer (some (aac b 0))] b (.cells #[iv v] 3 (0,0)) (Xg v) 16:=fun l J W hb hJ hY h0=>by
 have hv:=nP h;refine (callsIn_wide (n:=9)).1 (callsIn_of_wp func319 rfl trivial ?_ rfl);simp only [ntmps319,List.size_toArray,List.length_cons,List.length_nil,Nat.reduceAdd,Nat.reduceSub,Array.replicate_succ,Array.replicate_zero,List.push_toArray,List.append_toArray,List.nil_append,List.cons_append];gi_wp2;gi_loopw [3] (fun p wr=>∃k:Nat,p=iv (15-(k:Int))∧k<=16∧J k wr∧W.heap.size<=wr.heap.size∧Boxed wr b 3 (iv v)) (fun p wr=>(intOf p+1).toNat)
 case atStart=>exact ⟨0,rfl,by omega,h0,Nat.le_refl _,hb⟩
 case round=>
  obtain ⟨k,rfl,hk,hj,hs,hB⟩:=hrel;have hcell:=hB.cell;by_cases hlt:k<16
  ·obtain ⟨fn,tmps,assign,body,hy,hR⟩:=wQ 8 (hY k wr hlt hj hs);dsimp only [Xg] at hy;obtain ⟨q,hq⟩:∃q:Nat,15-k=q:=⟨_,rfl⟩
   have hq2:15-(k:Int)=(q:Int):=by omega
   have HQ:Hid (15-k=q∧q<=15):=⟨hq,by omega⟩
   rw [hq] at hy;rw [hq2];clear hq;rw [<-MN] at hy;have ht:0<=(q:Int):=by omega
   have hq3:(q:Int)<=15:=by omega
   clear hq2;gi_wp2;refine hR.mono ?_;rintro e W3 ⟨rfl,hj3,hk3⟩;have hB3:=hk3.at hB (.inr rfl);have hs3:=hk3.size;gi_wp2;go_roundw
   case rel=>exact ⟨k+1,by have:=HQ.o;congr 1;omega,by omega,hj3,by omega,hB3⟩
   case measure=>have:=HQ.o;simp [intOf]
  ·have e:k=16:=by omega
   subst e;gi_wp2;go_end0;exact ⟨⟨_,rfl⟩,hj⟩
attribute [local go_sem] Oper.semAt_some
set_option linter.unusedSimpArgs false
def Pl.dsm (d:Nat->Int):Nat->Int
 | 0=>0
 | k+1=>dsm d k+d k*Pl.p2 k
theorem Pl.Le {d:Nat->Int} (hd:∀k,-1<=d k∧d k<=1):∀k,-(Pl.p2 k)<=dsm d k∧dsm d k<=Pl.p2 k
 | 0=>by rw [uB];show -1<=(0:Int)∧(0:Int)<=1;omega
 | k+1=>by
  have ih:=Le hd k;have hp:=xK k;rw [qP];show _<=dsm d k+d k*Pl.p2 k∧dsm d k+d k*Pl.p2 k<=_;rcases (show d k = -1∨d k=0∨d k=1 by have:=hd k;omega) with e|e|e<;>rw [e]<;>omega
theorem Pl.Dz {a x:Int} (ha : -65536<=a∧a<=65536) (hx : -65536<=x∧x<=65536) : -4294967296<=a*x∧a*x<=4294967296:=by
 have h:=Int.natAbs_mul a x;have h2:a.natAbs*x.natAbs<=65536*65536:=Nat.mul_le_mul (by omega) (by omega);omega
theorem qI (x:Int) (h1 : -9223372036854775808<=x) (h2:x<=9223372036854775807):IntKind.i64.wrap x=x:=by
 rw [IntKind.wrap_i64];omega
theorem yN {a:Int} (ha : -65536<=a∧a<=65536) {gf:Nat} {lb:Array Value} {c:Nat} {o:Obj} {d:Nat->Int} (hd:∀k,-1<=d k∧d k<=1) (w:World)
  (hG:Gives prog gf lb c o (Uy d) 16) (eg:∀args w,(callFunc gf args).run prog w=.ok (.enter gf args) w) (hc:w.heap[c]? = some o) :
  Calls prog 298 #[iv a,.func (.func gf) #[] lb] w fun e w'=>e=.returned (iv (a*dsm d 16))∧Kept 0 0 w w':=by
 have hclt:c<w.heap.size:=(Array.getElem?_eq_some_iff.1 hc).1;refine (callsIn_wide (n:=9)).1 (callsIn_of_wp_marks func298 rfl trivial ?_ rfl);simp only [ntmps298,List.size_toArray,List.length_cons,List.length_nil,Nat.reduceAdd,Nat.reduceSub,Array.replicate_succ,Array.replicate_zero,List.push_toArray,List.append_toArray,List.nil_append,List.cons_append];gi_wp2;have hA:Boxed ((w.alloc (.cells #[iv a] 3)).alloc (.cells #[iv 0] 3)) w.heap.size 3 (iv a):=(Boxed.new w _ _).alloc _
 have hS:Boxed ((w.alloc (.cells #[iv a] 3)).alloc (.cells #[iv 0] 3)) (w.heap.size+1) 3 (iv (a*dsm d 0)):=by
  have:=Boxed.new (w.alloc (.cells #[iv a] 3)) 3 (iv 0)
  rw [World.size_alloc] at this;have e:a*dsm d 0=0:=by show a*0=0;omega
  rw [e];exact this
 have hBW:Below w.heap.size w ((w.alloc (.cells #[iv a] 3)).alloc (.cells #[iv 0] 3)):=((Below.refl _ w).alloc (Nat.le_refl _) _).alloc (by simp) _;have hSz:((w.alloc (.cells #[iv a] 3)).alloc (.cells #[iv 0] 3)).heap.size=w.heap.size+2:=by simp
 revert hA hS hBW hSz
 generalize (w.alloc (.cells #[iv a] 3)).alloc (.cells #[iv 0] 3)=w0;intro hA hS hBW hSz
 refine yK hG rfl eg ((hBW.block c hclt).trans hc) (fun _=>rfl)
  (fun k X=>Below w.heap.size w X∧Boxed X w.heap.size 3 (iv a)∧Boxed X (w.heap.size+1) 3 (iv (a*dsm d k)))
  (fun k X Y hs hb=>⟨hs.1.trans (hb.mono (by omega)),jf hs.2.1 hb (by omega),jf hs.2.2 hb (by omega)⟩)
  ⟨hBW,hA,hS⟩
  (fun k=>{tmps:=#[iv a,.func (.func gf) #[] lb,.pointer (some (aac w.heap.size 0)),undef,iv 0,.pointer (some (aac (w.heap.size+1) 0)),iv (k:Int),iv (d k),.func (.func gf) #[] lb,iv (k:Int),iv (d k),undef,undef,undef,undef,undef,undef,undef,undef,undef,undef,undef,undef,undef,undef,undef,undef],defers:=[]}) ?assign ?body ?done
 case assign=>
  intro l' k X K hK;gi_wp2;exact hK
 case body=>
  rintro l' k X hk ⟨hB,hA,hS⟩ hs;have hcA:=hA.cell;have hcS:=hS.cell;have hfS:=hS.frozen;have hd1:=hd k;have hb1:=Dz ha (show -65536<=dsm d k∧dsm d k<=65536 by have:=Le hd k;have:=IU (show k<=16 by omega);omega);have hb2:=Dz ha (show -65536<=Pl.p2 k∧Pl.p2 k<=65536 by have:=xK k;have:=IU (show k<=16 by omega);omega)
  have hstep:Hid (a*dsm d (k+1)=a*dsm d k+d k*(a*Pl.p2 k)):=by
   show a*(dsm d k+d k*Pl.p2 k)=_
   rw [Int.mul_add,<-Int.mul_assoc,<-Int.mul_assoc,Int.mul_comm a (d k)]
  obtain ⟨s,es⟩:∃s,a*dsm d k=s:=⟨_,rfl⟩
  obtain ⟨s2,es2⟩:∃s2,a*dsm d (k+1)=s2:=⟨_,rfl⟩
  rw [es] at hcS hS hb1 hstep;rw [es2] at hstep ⊢;rcases (show d k = -1∨d k=0∨d k=1 by omega) with e|e|e
  ·rw [e] at hstep ⊢;clear hd1 e;gi_wp2;gi_region
   all_goals gi_wp2
   all_goals
    refine ⟨⟨(hB.setCell (p:=(aac (w.heap.size+1) 0)) (by simp) _).drew,Boxed.other hA (by omega) _,?_⟩,((Keep.refl _ _ _).setCell (p:=(aac (w.heap.size+1) 0)) (by simp;omega) (by simp;omega) _).drew⟩;have e2:=hstep.o;have hp:a*Pl.p2 k=a*2^k:=rfl;rw [hp] at e2 hb2
    have hv:IntKind.i64.wrap (s-IntKind.i64.wrap (a*2^k))=s2:=by
     rw [qI (a*2^k) (by omega) (by omega),qI _ (by omega) (by omega)];omega
    rw [<-hv];exact hS.set _
  ·rw [e] at hstep ⊢;clear hd1 e;gi_wp2;exact ⟨⟨hB,hA,by have:=hstep.o;rw [show s2=s by omega];exact hS⟩,Keep.refl _ _ _⟩
  ·rw [e] at hstep ⊢;clear hd1 e;gi_wp2;gi_region
   all_goals gi_wp2
   all_goals
    refine ⟨⟨(hB.setCell (p:=(aac (w.heap.size+1) 0)) (by simp) _).drew,Boxed.other hA (by omega) _,?_⟩,((Keep.refl _ _ _).setCell (p:=(aac (w.heap.size+1) 0)) (by simp;omega) (by simp;omega) _).drew⟩;have e2:=hstep.o;have hp:a*Pl.p2 k=a*2^k:=rfl;rw [hp] at e2 hb2
    have hv:IntKind.i64.wrap (s+IntKind.i64.wrap (a*2^k))=s2:=by
     rw [qI (a*2^k) (by omega) (by omega),qI _ (by omega) (by omega)];omega
    rw [<-hv];exact hS.set _
 case done=>
  rintro X ⟨hB,hA,hS⟩ hK;have hcS:=hS.cell;gi_wp2;refine ⟨by simp,.inl ⟨_,_,rfl,run_takeDeferred hK,?_⟩⟩;exact ⟨_,results_tmp rfl _ _ _,rfl,mV (hB.trans (mg (by omega) _))⟩
def Pl.dOk (h l b:Int):Bool:=(wOk h&&wOk l)&&((decide (1<=b)&&decide (b<=65535))&&decide (h<b))
def Pl.dvQ (h l b:Int):Int:=if dOk h l b=true then dQ h l b 16 else 0
def Pl.dvR (h l b:Int):Int:=if dOk h l b=true then dR h l b 16 else 0
def Pl.dvN (h l b:Int):Int:=if dOk h l b=true then dN h l b 16 else 0
theorem Xj (h l b:Int) (m:Nat):0<=dN h l b m∧dN h l b m<=m:=by
 induction m with
 | zero=>exact ⟨Int.le_refl _,Int.le_refl _⟩
 | succ m ih=>
  simp only [dN];split<;>omega
set_option linter.unusedSimpArgs false
theorem Wh (v:Int):okv 2 v=wOk v:=by
 unfold okv wOk Pl.top;rw [Bool.eq_iff_iff];simp;omega
theorem jQ (v:Int) (w:World) (hw:(Lit.int .i64 v).wf=true) :
  Calls prog 64 #[iv v] w fun e w'=>e=.returned (.bool (wOk v))∧w'=w:=by
 have hb:=bounds_i64 hw;go_enter func64,ntmps64;go_wp2_with (go_at_call 120;refine st (bU _ _ _ hb.1 hb.2) ?_;rw [Wh]);go_ret;exact ⟨rfl,rfl⟩
theorem G6 (n:Int) (w:World) (h1 : -9223372036854775808<=n) (h2:n<=9223372036854775807):Calls prog 297 #[iv n] w fun e w'=>e=.returned (.tuple #[iv (hiW n),iv (loW n)])∧w'=w:=by
 go_enter func297,ntmps297;go_wp2_with (go_at_call 178;refine st (gX _ _) ?_);go_ret2;exact ⟨rfl,rfl⟩
theorem xh (v:Int):∀k,dsm (iK v) k=v%Pl.p2 k
 | 0=>by rw [uB];show 0=v%1;omega
 | k+1=>by rw [Jn];show dsm (iK v) k+_=_;rw [xh v k]
theorem Ld {v:Int} (h:wOk v=true):dsm (iK v) 16=v:=by
 have:=nP h
 rw [xh,IV];omega
theorem Nz (v:Int) (k:Nat) : -1<=iK v k∧iK v k<=1:=by have:=uu v k;omega
theorem yh (w:World) (a b:Int) (wfa:(Lit.int .i64 a).wf=true) (wfb:(Lit.int .i64 b).wf=true):Calls prog 275 #[iv a,iv b] w fun e w'=>e=.returned (.tuple #[iv (Fq a b),iv (xP a b),.bool (Pl.ok2 a b)])∧Kept 0 0 w w':=by
 unfold Fq xP Pl.ok2;cases ha:wOk a
 ·go_enter func275,ntmps275;go_wp2_with (go_at_call 64;refine st (jQ _ _ wfa) ?_;rw [ha]);go_ret3;exact ⟨rfl,Kept.refl _ _ _⟩
 ·cases hb:wOk b
  ·go_enter func275,ntmps275;go_wp2_with (first|(go_at_call 64;have z9:=Z1;refine st (jQ b _ wfb) ?_;rw [hb])|(go_at_call 64;refine st (jQ a _ wfa) ?_;rw [ha];have Z1:True:=trivial));go_ret3;exact ⟨rfl,Kept.refl _ _ _⟩
  ·obtain ⟨a0,a1⟩:=nP ha;obtain ⟨b0,b1⟩:=nP hb;obtain ⟨m0,m1⟩:=Tu a0 a1 b0 b1;have EH:Hid (hiW (a*b)=a*b/65536):=aab (by unfold hiW;omega);go_enter func275,ntmps275;go_wp2_with (first|(go_at_call 64;have z9:=Z1;refine st (jQ b _ wfb) ?_;rw [hb])|(go_at_call 64;refine st (jQ a _ wfa) ?_;rw [ha];have Z1:True:=trivial)|(go_at_call 299;refine(zi b _).mono ?_;rintro e9 w9⟨rfl,hw⟩;have hw2:=hw.symm;clear hw;subst hw2)|(go_at_call 298;refine (yN (show -65536<=a∧a<=65536 by omega) (Nz b) _ (BC hb w.heap.size) (enters_of func318 (by kernel_rfl) rfl) (World.alloc_heap_new w _)).mono ?_;rintro e9 w2 ⟨rfl,k2⟩;rw [Ld hb])|(go_at_call 297;refine st (G6 _ _ (by omega) (by omega)) ?_;rw [EH.o]));go_ret3;exact ⟨rfl,(kept_alloc w _).trans k2⟩
attribute [local go_sem] Oper.semAt_some
set_option linter.unusedSimpArgs false
structure tu (w X:World) (b q r n:Int):Prop where
 bl:Below w.heap.size w X
 y:Boxed X w.heap.size 3 (iv b)
 q:Boxed X (w.heap.size+1) 3 (iv q)
 r:Boxed X (w.heap.size+2) 3 (iv r)
 n:Boxed X (w.heap.size+3) 3 (iv n)
theorem tu.SB {w X:World} {b q r n:Int} (h:tu w X b q r n) (z:Int):tu w (X.setCell (aac (w.heap.size+1) 0) (iv z)) b z r n:=
 ⟨h.bl.setCell (p:=(aac (w.heap.size+1) 0)) (Nat.le_add_right _ _) _,h.y.other (by omega) _,h.q.set _,h.r.other (by omega) _,h.n.other (by omega) _⟩
theorem tu.bi {w X:World} {b q r n:Int} (h:tu w X b q r n) (z:Int):tu w (X.setCell (aac (w.heap.size+2) 0) (iv z)) b q z n:=
 ⟨h.bl.setCell (p:=(aac (w.heap.size+2) 0)) (Nat.le_add_right _ _) _,h.y.other (by omega) _,h.q.other (by omega) _,h.r.set _,h.n.other (by omega) _⟩
theorem tu.YO {w X:World} {b q r n:Int} (h:tu w X b q r n) (z:Int):tu w (X.setCell (aac (w.heap.size+3) 0) (iv z)) b q r z:=
 ⟨h.bl.setCell (p:=(aac (w.heap.size+3) 0)) (Nat.le_add_right _ _) _,h.y.other (by omega) _,h.q.other (by omega) _,h.r.other (by omega) _,h.n.set _⟩
theorem tu.below {w X Y:World} {b q r n:Int} {B:Nat} (h:tu w X b q r n) (k:Below B X Y) (hB:w.heap.size+4<=B):tu w Y b q r n:=
 ⟨h.bl.trans (k.mono (by omega)),jf h.y k (by omega),jf h.q k (by omega),jf h.r k (by omega),jf h.n k (by omega)⟩
theorem kQ {B c i:Nat} {X Y:World} (h:Keep B c X Y) (h1:i<B) (h2:i≠c) (u:Value):Keep B c X (Y.setCell (aac i 0) u):=h.setCell (p:=(aac i 0)) h1 h2 u
theorem yj (w : World) (h l b : Int) (wfh : (Lit.int .i64 h).wf = true) (wfl : (Lit.int .i64 l).wf = true) (wfb : (Lit.int .i64 b).wf = true) : Calls prog 276 #[iv h, iv l, iv b] w fun e w' => e = .returned (.tuple #[iv (dvQ h l b), iv (dvR h l b), iv (dvN h l b), .bool (dOk h l b)]) ∧ Kept 0 0 w w' := by
  have no : dOk h l b = false -> Hid (dvQ h l b = 0 ∧ dvR h l b = 0 ∧ dvN h l b = 0 ∧ dOk h l b = false) := fun q => by
    refine aab ⟨?_, ?_, ?_, q⟩ <;> simp [dvQ, dvR, dvN, q]
  cases hh : wOk h
  · have E := no (by simp [dOk, hh])
    clear no;go_enter func276, ntmps276;go_wp2_with (go_at_call 64; refine (jQ _ _ (by assumption)).mono ?_; rintro e9 w9 ⟨rfl, hw⟩; have hw2 := hw.symm; clear hw; subst hw2; rw [hh]);exact bodyPost_ret (v := .tuple #[iv 0, iv 0, iv 0, .bool false]) (by simp [results, Tryz.results276, go_sem]) rfl ⟨by rw [E.o.1, E.o.2.1, E.o.2.2.1, E.o.2.2.2], kept_alloc _ _⟩
  · cases hl : wOk l
    · have E := no (by simp [dOk, hl])
      clear no;go_enter func276, ntmps276;go_wp2_with (go_at_call 64; refine (jQ _ _ (by assumption)).mono ?_; rintro e9 w9 ⟨rfl, hw⟩; have hw2 := hw.symm; clear hw; subst hw2; first | rw [hh] | rw [hl]);exact bodyPost_ret (v := .tuple #[iv 0, iv 0, iv 0, .bool false]) (by simp [results, Tryz.results276, go_sem]) rfl ⟨by rw [E.o.1, E.o.2.1, E.o.2.2.1, E.o.2.2.2], kept_alloc _ _⟩
    · cases hb : wOk b
      · have E := no (by have : ¬ (1 <= b ∧ b <= 65535) := by intro q; simp [wOk] at hb; omega
                         simp [dOk]; omega)
        clear no;go_enter func276, ntmps276;go_wp2_with (go_at_call 64; refine (jQ _ _ (by assumption)).mono ?_; rintro e9 w9 ⟨rfl, hw⟩; have hw2 := hw.symm; clear hw; subst hw2; first | rw [hh] | rw [hl] | rw [hb]);exact bodyPost_ret (v := .tuple #[iv 0, iv 0, iv 0, .bool false]) (by simp [results, Tryz.results276, go_sem]) rfl ⟨by rw [E.o.1, E.o.2.1, E.o.2.2.1, E.o.2.2.2], kept_alloc _ _⟩
      · obtain ⟨h0, h1⟩ := nP hh
        obtain ⟨l0, l1⟩ := nP hl;obtain ⟨b0, b1⟩ := nP hb;by_cases hc : b <= h
        · have E := no (by simp [dOk]; omega)
          clear no;go_enter func276, ntmps276;go_wp2_with (go_at_call 64; refine (jQ _ _ (by assumption)).mono ?_; rintro e9 w9 ⟨rfl, hw⟩; have hw2 := hw.symm; clear hw; subst hw2; first | rw [hh] | rw [hl] | rw [hb]);exact bodyPost_ret (v := .tuple #[iv 0, iv 0, iv 0, .bool false]) (by simp [results, Tryz.results276, go_sem]) rfl ⟨by rw [E.o.1, E.o.2.1, E.o.2.2.1, E.o.2.2.2], kept_alloc _ _⟩
        · clear no
          have ok : dOk h l b = true := by simp [dOk, hh, hl]; omega
          have E : Hid (dvQ h l b = dQ h l b 16 ∧ dvR h l b = dR h l b 16 ∧ dvN h l b = dN h l b 16 ∧ dOk h l b = true) := by
            refine aab ⟨?_, ?_, ?_, ok⟩ <;> simp [dvQ, dvR, dvN, ok]
          clear ok;refine (callsIn_wide (n := 9)).1 (callsIn_of_wp_marks func276 rfl trivial ?_ rfl);simp only [ntmps276, List.size_toArray, List.length_cons, List.length_nil, Nat.reduceAdd, Nat.reduceSub, Array.replicate_succ, Array.replicate_zero, List.push_toArray, List.append_toArray, List.nil_append, List.cons_append];gi_wp2_with (first | (refine ⟨trivial, ?_⟩; gi_at_call 64; refine (callsIn_wide.2 (jQ _ _ (by assumption))).mono ?_; rintro e9 w9 ⟨rfl, hw⟩; have hw2 := hw.symm; clear hw; subst hw2; first | rw [hh] | rw [hl] | rw [hb]) | (refine ⟨trivial, ?_⟩; gi_at_call 300; refine (callsIn_wide.2 (MK l _)).mono ?_; rintro e9 w9 ⟨rfl, hw⟩; have hw2 := hw.symm; clear hw; subst hw2))
          have hY : Boxed (((((w.alloc (.cells #[iv b] 3)).alloc (.cells #[iv 0] 3)).alloc (.cells #[iv h] 3)).alloc (.cells #[iv 0] 3)).alloc (.cells #[iv l] 3)) (w.heap.size + 0) 3 (iv b) := by
            have := (((((Boxed.new w 3 (iv b)).alloc (.cells #[iv 0] 3)).alloc (.cells #[iv h] 3)).alloc (.cells #[iv 0] 3)).alloc (.cells #[iv l] 3))
            simpa using this
          have hQ : Boxed (((((w.alloc (.cells #[iv b] 3)).alloc (.cells #[iv 0] 3)).alloc (.cells #[iv h] 3)).alloc (.cells #[iv 0] 3)).alloc (.cells #[iv l] 3)) (w.heap.size + 1) 3 (iv 0) := by
            have := ((((Boxed.new (w.alloc (.cells #[iv b] 3)) 3 (iv 0)).alloc (.cells #[iv h] 3)).alloc (.cells #[iv 0] 3)).alloc (.cells #[iv l] 3))
            simpa using this
          have hR : Boxed (((((w.alloc (.cells #[iv b] 3)).alloc (.cells #[iv 0] 3)).alloc (.cells #[iv h] 3)).alloc (.cells #[iv 0] 3)).alloc (.cells #[iv l] 3)) (w.heap.size + 2) 3 (iv h) := by
            have := (((Boxed.new ((w.alloc (.cells #[iv b] 3)).alloc (.cells #[iv 0] 3)) 3 (iv h)).alloc (.cells #[iv 0] 3)).alloc (.cells #[iv l] 3))
            simpa using this
          have hN : Boxed (((((w.alloc (.cells #[iv b] 3)).alloc (.cells #[iv 0] 3)).alloc (.cells #[iv h] 3)).alloc (.cells #[iv 0] 3)).alloc (.cells #[iv l] 3)) (w.heap.size + 3) 3 (iv 0) := by
            have := ((Boxed.new (((w.alloc (.cells #[iv b] 3)).alloc (.cells #[iv 0] 3)).alloc (.cells #[iv h] 3)) 3 (iv 0)).alloc (.cells #[iv l] 3))
            simpa using this
          have hC : Boxed (((((w.alloc (.cells #[iv b] 3)).alloc (.cells #[iv 0] 3)).alloc (.cells #[iv h] 3)).alloc (.cells #[iv 0] 3)).alloc (.cells #[iv l] 3)) (w.heap.size + 4) 3 (iv l) := by
            have := (Boxed.new ((((w.alloc (.cells #[iv b] 3)).alloc (.cells #[iv 0] 3)).alloc (.cells #[iv h] 3)).alloc (.cells #[iv 0] 3)) 3 (iv l))
            simpa using this
          have hBW : Below w.heap.size w (((((w.alloc (.cells #[iv b] 3)).alloc (.cells #[iv 0] 3)).alloc (.cells #[iv h] 3)).alloc (.cells #[iv 0] 3)).alloc (.cells #[iv l] 3)) := (((((Below.refl _ w).alloc (Nat.le_refl _) _).alloc (by simp) _).alloc (by simp; omega) _).alloc (by simp; omega) _).alloc (by simp; omega) _;have hSz : (((((w.alloc (.cells #[iv b] 3)).alloc (.cells #[iv 0] 3)).alloc (.cells #[iv h] 3)).alloc (.cells #[iv 0] 3)).alloc (.cells #[iv l] 3)).heap.size = w.heap.size + 5 := by simp
          revert hY hQ hR hN hC hBW hSz
          generalize (((((w.alloc (.cells #[iv b] 3)).alloc (.cells #[iv 0] 3)).alloc (.cells #[iv h] 3)).alloc (.cells #[iv 0] 3)).alloc (.cells #[iv l] 3)) = w0;intro hY hQ hR hN hC hBW hSz;have HI := aab (fun m hm => yA h0 (show h < b by omega) l0 m hm)
          refine yK (Gi hl (w.heap.size + 4)) rfl (enters_of func319 (by kernel_rfl) rfl) hC (fun _ => rfl)
            (fun k X => tu w X b (dQ h l b k) (dR h l b k) (dN h l b k))
            (fun k X Y hs hb => hs.below hb (by omega))
            ⟨hBW, hY, hQ, hR, hN⟩
            (fun k => { tmps := #[iv h, iv l, iv b, undef, undef, .pointer (some ⟨w.heap.size, 0, none⟩), iv 0, iv 0, iv 0, .bool false, .pointer (some ⟨w.heap.size + 1, 0, none⟩), .pointer (some ⟨w.heap.size + 2, 0, none⟩), .pointer (some ⟨w.heap.size + 3, 0, none⟩), iv (iK l (15 - k)), iv h, .bool true, .bool false, .bool false, iv l, .bool true, .bool false, .bool false, .bool false, iv b, .bool true, .bool false, .bool false, .bool false, iv h, iv b, .bool (decide (b <= h)), .bool (decide (b <= h)), iv h, iv l, .func (.func 319) #[] #[.pointer (some ⟨w.heap.size + 4, 0, none⟩)], iv (iK l (15 - k)), undef, undef, undef, undef, undef, undef, undef, undef, undef, undef, undef, undef, undef, undef, undef, undef, undef, undef, undef], defers := [] }) ?assign ?body ?done
          case assign =>
            intro l' k X K hK;gi_wp2;exact hK
          case body =>
            intro l' k X hk hD hs;rw [hSz] at hs ⊢;have hcY := hD.y.cell;have hcQ := hD.q.cell;have hcR := hD.r.cell;have hcN := hD.n.cell;have hfQ := hD.q.frozen;have hfR := hD.r.frozen;have hfN := hD.n.frozen;obtain ⟨⟨r0, r1⟩, _, q0, q1⟩ := HI.o k (by omega);have q2 := IU (show k <= 16 by omega);replace q1 : dQ h l b k <= 65536 := by omega
            clear q2;obtain ⟨n0, n1⟩ := Xj h l b k;replace n1 : dN h l b k <= 16 := by omega
            have t1 : 0 <= iK l (15 - k) ∧ iK l (15 - k) <= 1 := by have := uu l (15 - k); omega
            have EQ : Hid (dQ h l b (k + 1) = 2 * dQ h l b k + (if b <= 2 * dR h l b k + iK l (15 - k) then 1 else 0)) := aab rfl;have ER : Hid (dR h l b (k + 1) = if b <= 2 * dR h l b k + iK l (15 - k) then 2 * dR h l b k + iK l (15 - k) - b else 2 * dR h l b k + iK l (15 - k)) := aab rfl;have EN : Hid (dN h l b (k + 1) = dN h l b k + (if b <= 2 * dR h l b k + iK l (15 - k) then 1 else 0)) := aab rfl;revert EQ ER EN;generalize dQ h l b (k + 1) = q';generalize dR h l b (k + 1) = r';generalize dN h l b (k + 1) = n';revert hD hcQ hcR hcN r0 r1 q0 q1 n0 n1 t1;generalize dQ h l b k = q;generalize dR h l b k = r;generalize dN h l b k = n;generalize iK l (15 - k) = t;intro hD hcQ hcR hcN r0 r1 q0 q1 n0 n1 t1 EQ ER EN;clear HI E;by_cases hcmp : b <= r * 2 + t
            · have e1 : q' = q * 2 + 1 := by have := EQ.o; rw [if_pos (by omega)] at this; omega
              have e2 : r' = r * 2 + t - b := by have := ER.o; rw [if_pos (by omega)] at this; omega
              have e3 : n' = n + 1 := by have := EN.o; rw [if_pos (by omega)] at this; omega
              subst e1 e2 e3;clear EQ ER EN;gi_wp2;exact ⟨((((hD.SB _).bi _).bi _).SB _).YO _, kQ (kQ (kQ (kQ (kQ (Keep.refl _ _ _) (by omega) (by omega) _) (by omega) (by omega) _) (by omega) (by omega) _) (by omega) (by omega) _) (by omega) (by omega) _⟩
            · have e1 : q' = q * 2 := by have := EQ.o; rw [if_neg (by omega)] at this; omega
              have e2 : r' = r * 2 + t := by have := ER.o; rw [if_neg (by omega)] at this; omega
              have e3 : n' = n := by have := EN.o; rw [if_neg (by omega)] at this; omega
              subst e1 e2 e3;clear EQ ER EN;gi_wp2;exact ⟨(hD.SB _).bi _, kQ (kQ (Keep.refl _ _ _) (by omega) (by omega) _) (by omega) (by omega) _⟩
          case done =>
            rintro X ⟨hB, hY, hQ, hR, hN⟩ hK;have hcQ := hQ.cell;have hcR := hR.cell;have hcN := hN.cell;gi_wp2;gi_region
            all_goals gi_wp2
            all_goals
              refine ⟨by simp, .inl ⟨_, _, rfl, run_takeDeferred hK, ?_⟩⟩;refine ⟨.tuple #[iv (dQ h l b 16), iv (dR h l b 16), iv (dN h l b 16), .bool true], by simp [results, Tryz.results276, go_sem], by rw [E.o.1, E.o.2.1, E.o.2.2.1, E.o.2.2.2], mV (hB.drew.trans (mg (by omega) _))⟩
namespace Pl
def cbM (op q v:Int):Int:=bif op==5 then bits .and .i64 q v else bif op==6 then bits .or .i64 q v else bif op==7 then bits .xor .i64 q v else bif op==16 then xP q v else bif op==17 then dvQ 0 q v else v
def cbU (op q v:Int):Int:=bif op==16 then Fq q v else 0
def cbV (op z q v:Int):Int:=bif op==3 then sU z 0 q v else bif op==4 then lH z 0 q v else bif op==8 then q else cbM op q v
def cbF (op z f q v:Int):Int:=bif op==3 then rH z 0 q v else bif op==4 then kC z 0 q v else bif op==8 then nK z f q v else bits .or .i64 (dA z f (cbM op q v)) (fl (cbU op q v != 0) 2)
end Pl
theorem Qe (w:World) (op z r m k e s f q v:Int) (hop:op=1∨op=3∨op=4∨op=5∨op=6∨op=7∨op=8∨op=16∨op=17) (q0:0<=q) (q1:q<=65535) (v0:0<=v) (v1:v<=65535) (M0:0<=cbM op q v) (M1:cbM op q v<=65535) :
  Calls prog 250 #[.agg (inA op z r m k e s),iv f,iv q,iv v] w fun e' w'=>e'=.returned (.tuple #[iv (cbV op z q v),iv (cbF op z f q v)])∧Kept 0 0 w w':=by
 have wq:(Lit.int .i64 q).wf=true:=qK (by omega) (by omega);have wv:(Lit.int .i64 v).wf=true:=qK (by omega) (by omega);have b0:=aab M0;have b1:=aab M1;clear M0 M1;rcases hop with rfl|rfl|rfl|rfl|rfl|rfl|rfl|rfl|rfl
 ·have K0:=aab (kept_alloc w (.cells (inA 1 z r m k e s) 48));have A0:=aab (Blk.new w (inA 1 z r m k e s) 48);obtain ⟨X,hX⟩:∃X:World,w.alloc (.cells (inA 1 z r m k e s) 48)=X:=⟨_,rfl⟩
  rw [hX] at K0 A0;have p:=A0.o.all;go_enter func250,ntmps250;go_wp2_with (first|(go_at_call 242;refine st (gq _ _ _) ?_)|(go_at_call 277;refine st (iW _ _ _ _ (by have:=b0.o;first|omega|(simp only [cbM] at this;exact Int.le_trans (by decide) this)) (by have:=b1.o;first|omega|(simp only [cbM] at this;exact Int.le_trans this (by decide)))) ?_));go_ret2;exact ⟨rfl,K0.o⟩
 ·have K0:=aab (kept_alloc w (.cells (inA 3 z r m k e s) 48));have A0:=aab (Blk.new w (inA 3 z r m k e s) 48);obtain ⟨X,hX⟩:∃X:World,w.alloc (.cells (inA 3 z r m k e s) 48)=X:=⟨_,rfl⟩
  rw [hX] at K0 A0;have p:=A0.o.all;go_enter func250,ntmps250;go_wp2_with (first|(go_at_call 272;refine st (Na _ _ _ _ _ (by omega) (by omega) (by omega) (by omega)) ?_));go_ret2;exact ⟨rfl,K0.o⟩
 ·have K0:=aab (kept_alloc w (.cells (inA 4 z r m k e s) 48));have A0:=aab (Blk.new w (inA 4 z r m k e s) 48);obtain ⟨X,hX⟩:∃X:World,w.alloc (.cells (inA 4 z r m k e s) 48)=X:=⟨_,rfl⟩
  rw [hX] at K0 A0;have p:=A0.o.all;go_enter func250,ntmps250;go_wp2_with (first|(go_at_call 273;refine st (nY _ _ _ _ _ (by omega) (by omega) (by omega) (by omega)) ?_));go_ret2;exact ⟨rfl,K0.o⟩
 ·have K0:=aab (kept_alloc w (.cells (inA 5 z r m k e s) 48));have A0:=aab (Blk.new w (inA 5 z r m k e s) 48);obtain ⟨X,hX⟩:∃X:World,w.alloc (.cells (inA 5 z r m k e s) 48)=X:=⟨_,rfl⟩
  rw [hX] at K0 A0;have p:=A0.o.all;go_enter func250,ntmps250;go_wp2_with (first|(go_at_call 242;refine st (gq _ _ _) ?_)|(go_at_call 277;refine st (iW _ _ _ _ (by have:=b0.o;first|omega|(simp only [cbM] at this;exact Int.le_trans (by decide) this)) (by have:=b1.o;first|omega|(simp only [cbM] at this;exact Int.le_trans this (by decide)))) ?_));go_ret2;exact ⟨rfl,K0.o⟩
 ·have K0:=aab (kept_alloc w (.cells (inA 6 z r m k e s) 48));have A0:=aab (Blk.new w (inA 6 z r m k e s) 48);obtain ⟨X,hX⟩:∃X:World,w.alloc (.cells (inA 6 z r m k e s) 48)=X:=⟨_,rfl⟩
  rw [hX] at K0 A0;have p:=A0.o.all;go_enter func250,ntmps250;go_wp2_with (first|(go_at_call 242;refine st (gq _ _ _) ?_)|(go_at_call 277;refine st (iW _ _ _ _ (by have:=b0.o;first|omega|(simp only [cbM] at this;exact Int.le_trans (by decide) this)) (by have:=b1.o;first|omega|(simp only [cbM] at this;exact Int.le_trans this (by decide)))) ?_));go_ret2;exact ⟨rfl,K0.o⟩
 ·have K0:=aab (kept_alloc w (.cells (inA 7 z r m k e s) 48));have A0:=aab (Blk.new w (inA 7 z r m k e s) 48);obtain ⟨X,hX⟩:∃X:World,w.alloc (.cells (inA 7 z r m k e s) 48)=X:=⟨_,rfl⟩
  rw [hX] at K0 A0;have p:=A0.o.all;go_enter func250,ntmps250;go_wp2_with (first|(go_at_call 242;refine st (gq _ _ _) ?_)|(go_at_call 277;refine st (iW _ _ _ _ (by have:=b0.o;first|omega|(simp only [cbM] at this;exact Int.le_trans (by decide) this)) (by have:=b1.o;first|omega|(simp only [cbM] at this;exact Int.le_trans this (by decide)))) ?_));go_ret2;exact ⟨rfl,K0.o⟩
 ·have K0:=aab (kept_alloc w (.cells (inA 8 z r m k e s) 48));have A0:=aab (Blk.new w (inA 8 z r m k e s) 48);obtain ⟨X,hX⟩:∃X:World,w.alloc (.cells (inA 8 z r m k e s) 48)=X:=⟨_,rfl⟩
  rw [hX] at K0 A0;have p:=A0.o.all;go_enter func250,ntmps250;go_wp2_with (first|(go_at_call 274;refine st (LQ _ _ _ _ _ (by omega) (by omega) (by omega) (by omega)) ?_));go_ret2;exact ⟨rfl,K0.o⟩
 ·have K0:=aab (kept_alloc w (.cells (inA 16 z r m k e s) 48));have A0:=aab (Blk.new w (inA 16 z r m k e s) 48);obtain ⟨X,hX⟩:∃X:World,w.alloc (.cells (inA 16 z r m k e s) 48)=X:=⟨_,rfl⟩
  rw [hX] at K0 A0;have p:=A0.o.all;go_enter func250,ntmps250;go_wp2_with (first|(go_at_call 242;refine st (gq _ _ _) ?_)|(go_at_call 277;refine st (iW _ _ _ _ (by have:=b0.o;first|omega|(simp only [cbM] at this;exact Int.le_trans (by decide) this)) (by have:=b1.o;first|omega|(simp only [cbM] at this;exact Int.le_trans this (by decide)))) ?_)|(go_at_call 275;refine (yh _ q v wq wv).mono ?_;rintro e9 W1 ⟨rfl,k1⟩;have K1:=aab (K0.o.trans k1);have p1:=(A0.o.ae k1).all;clear k1));go_ret2;exact ⟨rfl,K1.o⟩
 ·have K0:=aab (kept_alloc w (.cells (inA 17 z r m k e s) 48));have A0:=aab (Blk.new w (inA 17 z r m k e s) 48);obtain ⟨X,hX⟩:∃X:World,w.alloc (.cells (inA 17 z r m k e s) 48)=X:=⟨_,rfl⟩
  rw [hX] at K0 A0;have p:=A0.o.all;go_enter func250,ntmps250;go_wp2_with (first|(go_at_call 242;refine st (gq _ _ _) ?_)|(go_at_call 277;refine st (iW _ _ _ _ (by have:=b0.o;first|omega|(simp only [cbM] at this;exact Int.le_trans (by decide) this)) (by have:=b1.o;first|omega|(simp only [cbM] at this;exact Int.le_trans this (by decide)))) ?_)|(go_at_call 276;refine (yj _ 0 q v (by decide) wq wv).mono ?_;rintro e9 W1 ⟨rfl,k1⟩;have K1:=aab (K0.o.trans k1);have p1:=(A0.o.ae k1).all;clear k1));go_ret2;exact ⟨rfl,K1.o⟩
end Go.Proofs.YtgikibaajanjiaaGreatDoor
