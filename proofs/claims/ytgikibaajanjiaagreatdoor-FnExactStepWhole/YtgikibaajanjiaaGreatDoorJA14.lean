/- Part 14 of what the last text leans on. -/
import Derived.Test.YtgikibaajanjiaaGreatDoorJA13
import Derived.RegionTactic
import Derived.BigQuiet
import Derived.Deep.QuietTactic
import Derived.Test.YtgikibaajanjiaaGreatDoorJA12
import Derived.Test.YtgikibaajanjiaaGreatDoorJA4
set_option maxRecDepth 100000
set_option maxHeartbeats 16000000
namespace Go.Proofs.YtgikibaajanjiaaGreatDoor
open Pl
open Go.RowKit Go.Proofs.Tryz
set_option linter.unusedVariables false
theorem bfe (b:Bool):b=false∨b=true:=by cases b<;>simp
theorem jI {P:Program} {ops:Array Oper} {Q:Exit->Act->World->Prop} {i:Nat} {o:Oper} {K:Act->World->Prop} {a:Act} {w:World} (ho:ops[i]? = some o) {j s:Nat} {b:Bool} (hg:o.guard=some (j,b)) (hd:(ops[j]?).bind (·.dst)=some s) (hv:a.tmps[s]? = some (.bool b))
  (h:∀K':Act->World->Prop,(∀a w,K a w->K' a w)->Oper.wp P o a w K' Q):wpOp P ops Q i K a w:=by
 refine wpOp_step ho (fun K' hK => ?_);rw [if_pos]
 ·exact h K' hK
 ·unfold Region.wanted yielded;rw [hg];simp only [hd,Option.bind_some,hv];simp
theorem lJ {P:Program} {ops:Array Oper} {Q:Exit->Act->World->Prop} {i:Nat} {o:Oper} {K:Act->World->Prop} {a:Act} {w:World} (ho:ops[i]? = some o) {j s:Nat} {b c:Bool} (hg:o.guard=some (j,b)) (hd:(ops[j]?).bind (·.dst)=some s) (hv:a.tmps[s]? = some (.bool c)) (hn:c≠b)
  (h:K (a.put o.dst undef) w):wpOp P ops Q i K a w:=by
 refine wpOp_step ho (fun K' hK => ?_);rw [if_neg]
 ·exact hK _ _ h
 ·unfold Region.wanted yielded;rw [hg];simp only [hd,Option.bind_some,hv];simpa using hn
theorem oJ (m k e:Int) (w:World) (T N:Nat) (v:Value) (R:Array Value) (E:Bool) (lo : -9223372036854775808<=e) (hi:e<=9223372036854775807)
  (hw:∀w:World,Calls prog 168 #[.agg #[iv m,iv k,iv e]] w fun r w'=>r=.returned (.iface T v)∧Kept 0 0 w w')
  (hme:∀w:World,(method 412 T v "loop.example/g00389/impl.operand").run prog w=.ok (N,v) w)
  (hc:∀w:World,Calls prog N #[v] w fun r w'=>r=.returned (.agg R)∧Kept 0 0 w w')
  (hfn:∀(a:Array Value) (w:World),(callFunc N a).run prog w=.ok (.enter N a) w)
  (he:∀w:World,(binOp .eql 46 (.agg R) (.agg #[iv m,iv k,iv e])).run prog w=.ok (.bool E) w) :
  Calls prog 117 #[.agg #[iv m,iv k,iv e]] w fun r w'=>r=.returned (.bool (E&&(within k 0 3&&aJ e)))∧Kept 0 0 w w':=by
 have B0:=Zr (Blk.new w #[iv m,iv k,iv e] 46);have K0:=Zr (kept_alloc w (.cells #[iv m,iv k,iv e] 46));obtain ⟨B,hBB⟩:∃B,within k 0 3=B:=⟨_,rfl⟩
 obtain ⟨C,hCC⟩:∃C,aJ e=C:=⟨_,rfl⟩
 go_enter func117,ntmps117;go_wp2_with fail;refine (hw _).mono ?_;rintro r w1 ⟨rfl,k1⟩;have B1:=Zr (B0.o.ae k1);have K1:=Zr (K0.o.trans k1);clear k1 hw;go_wp2_with fail;refine gY (fun A0 l A W=>FR [6,7,8,9,10,11,12,13,14,15,16,17,18,19,20,21,22,23,2] A0 A∧Once l 0 (A.tmps[6]? = some (.iface T v))∧Once l 1 (A.tmps[7]? = some (.bool true))∧Once l 2 (A.tmps[8]? = some (.bool true))∧Once l 3 (A.tmps[9]? = some (.iface T v))∧Once l 4 (A.tmps[10]? = some (.agg R))∧Once l 5 (A.tmps[11]? = some (.agg #[iv m,iv k,iv e]))∧Once l 6 (A.tmps[12]? = some (.bool E))∧Once l 7 (A.tmps[13]? = some (.bool E))∧Once l 8 (A.tmps[14]? = some (.bool E))∧Once l 9 (A.tmps[15]? = some (bif E then .pointer (some (Zt w.heap.size 1)) else undef))∧Once l 10 (A.tmps[16]? = some (bif E then iv k else undef))∧Once l 11 (A.tmps[17]? = some (bif E then .bool B else undef))∧Once l 12 (A.tmps[18]? = some (.bool (E&&B)))∧Once l 13 (A.tmps[19]? = some (.bool (E&&B)))∧Once l 14 (A.tmps[20]? = some (bif (E&&B) then .pointer (some (Zt w.heap.size 2)) else undef))∧Once l 15 (A.tmps[21]? = some (bif (E&&B) then iv e else undef))∧Once l 16 (A.tmps[22]? = some (bif (E&&B) then .bool C else undef))∧Once l 17 (A.tmps[23]? = some (.bool ((E&&B)&&C)))∧Once l 18 (A.tmps[2]? = some (.bool ((E&&B)&&C)))∧Kept 0 0 w1 W) (by kernel_rfl) (by kernel_rfl) ?start ?fin ?step
 case start=>exact ⟨FR.refl _ _,ay (by decide),ay (by decide),ay (by decide),ay (by decide),ay (by decide),ay (by decide),ay (by decide),ay (by decide),ay (by decide),ay (by decide),ay (by decide),ay (by decide),ay (by decide),ay (by decide),ay (by decide),ay (by decide),ay (by decide),ay (by decide),ay (by decide),ah (Kept.refl _ _ _)⟩
 case fin=>
  intro l A W h hl;obtain ⟨hFR,o0,o1,o2,o3,o4,o5,o6,o7,o8,o9,o10,o11,o12,o13,o14,o15,o16,o17,o18,hK⟩:=h;have g:=o18 (hl 18 (by decide));have QQ:=Zr (K1.o.trans hK);have hc9:=hFR.chain;simp only [List.foldl] at hc9;rw [mP g] at hc9;clear hl hK hFR g o0 o1 o2 o3 o4 o5 o6 o7 o8 o9 o10 o11 o12 o13 o14 o15 o16 o17 o18;generalize A.tmps.getD 6 undef=s6 at hc9;generalize A.tmps.getD 7 undef=s7 at hc9;generalize A.tmps.getD 8 undef=s8 at hc9;generalize A.tmps.getD 9 undef=s9 at hc9;generalize A.tmps.getD 10 undef=s10 at hc9;generalize A.tmps.getD 11 undef=s11 at hc9;generalize A.tmps.getD 12 undef=s12 at hc9;generalize A.tmps.getD 13 undef=s13 at hc9;generalize A.tmps.getD 14 undef=s14 at hc9;generalize A.tmps.getD 15 undef=s15 at hc9;generalize A.tmps.getD 16 undef=s16 at hc9;generalize A.tmps.getD 17 undef=s17 at hc9;generalize A.tmps.getD 18 undef=s18 at hc9;generalize A.tmps.getD 19 undef=s19 at hc9;generalize A.tmps.getD 20 undef=s20 at hc9;generalize A.tmps.getD 21 undef=s21 at hc9;generalize A.tmps.getD 22 undef=s22 at hc9;generalize A.tmps.getD 23 undef=s23 at hc9;subst hc9;go_simp;go_wp2_with fail;go_ret;exact ⟨rB (by rw [<-hBB,<-hCC,Bool.and_assoc]),QQ.o⟩
 case step=>
  intro l A W i hI hm;obtain ⟨hFR,o0,o1,o2,o3,o4,o5,o6,o7,o8,o9,o10,o11,o12,o13,o14,o15,o16,o17,o18,hK⟩:=hI;obtain ⟨hi1,hi2⟩:=jB hm;have hsz:Hid (23<A.tmps.size):=Zr (by rw [hFR.size];simp);have m1:A.tmps[1]? = some (.pointer (some (Zt w.heap.size 0))):=(hFR.o 1 (by decide)).trans rfl;have m3:A.tmps[3]? = some (.iface T v):=(hFR.o 3 (by decide)).trans rfl;rcases i with _|_|_|_|_|_|_|_|_|_|_|_|_|_|_|_|_|_|_|i
  ·refine wpOp_step rfl (fun KK hK2 => ?_);go_simp;exact hK2 (A.put (some 6) (.iface T v)) _ ⟨hFR.put (by decide) _,.now (put_eq (by have hz:=hsz.o;omega)),o1.q,o2.q,o3.q,o4.q,o5.q,o6.q,o7.q,o8.q,o9.q,o10.q,o11.q,o12.q,o13.q,o14.q,o15.q,o16.q,o17.q,o18.q,hK⟩
  ·have e1:=o0 (az hm 0 (by kernel_rfl));refine wpOp_step rfl (fun KK hK2 => ?_);go_simp;exact hK2 (A.put (some 7) (.bool true)) _ ⟨hFR.put (by decide) _,o0.q,.now (put_eq (by have hz:=hsz.o;omega)),o2.q,o3.q,o4.q,o5.q,o6.q,o7.q,o8.q,o9.q,o10.q,o11.q,o12.q,o13.q,o14.q,o15.q,o16.q,o17.q,o18.q,hK⟩
  ·have e1:=o1 (az hm 1 (by kernel_rfl));refine wpOp_step rfl (fun KK hK2 => ?_);go_simp;exact hK2 (A.put (some 8) (.bool true)) _ ⟨hFR.put (by decide) _,o0.q,o1.q,.now (put_eq (by have hz:=hsz.o;omega)),o3.q,o4.q,o5.q,o6.q,o7.q,o8.q,o9.q,o10.q,o11.q,o12.q,o13.q,o14.q,o15.q,o16.q,o17.q,o18.q,hK⟩
  ·have g:=o2 (az hm 2 (by kernel_rfl));refine jI (b:=true) rfl rfl rfl g (fun KK hK2 => ?_);go_simp;exact hK2 (A.put (some 9) (.iface T v)) _ ⟨hFR.put (by decide) _,o0.q,o1.q,o2.q,.now (put_eq (by have hz:=hsz.o;omega)),o4.q,o5.q,o6.q,o7.q,o8.q,o9.q,o10.q,o11.q,o12.q,o13.q,o14.q,o15.q,o16.q,o17.q,o18.q,hK⟩
  ·have g:=o2 (az hm 2 (by kernel_rfl));have e1:=o3 (az hm 3 (by kernel_rfl));refine jI (b:=true) rfl rfl rfl g (fun KK hK2 => ?_);go_simp;refine (hc W).mono ?_;rintro r y ⟨rfl,kd⟩;go_simp;exact hK2 (A.put (some 10) (.agg R)) _ ⟨hFR.put (by decide) _,o0.q,o1.q,o2.q,o3.q,.now (put_eq (by have hz:=hsz.o;omega)),o5.q,o6.q,o7.q,o8.q,o9.q,o10.q,o11.q,o12.q,o13.q,o14.q,o15.q,o16.q,o17.q,o18.q,(hK.trans kd)⟩
  ·have g:=o2 (az hm 2 (by kernel_rfl));have BL:=B1.o.ae hK;have x0:=BL.all;clear BL;refine jI (b:=true) rfl rfl rfl g (fun KK hK2 => ?_);go_simp;exact hK2 (A.put (some 11) (.agg #[iv m,iv k,iv e])) _ ⟨hFR.put (by decide) _,o0.q,o1.q,o2.q,o3.q,o4.q,.now (put_eq (by have hz:=hsz.o;omega)),o6.q,o7.q,o8.q,o9.q,o10.q,o11.q,o12.q,o13.q,o14.q,o15.q,o16.q,o17.q,o18.q,hK⟩
  ·have g:=o2 (az hm 2 (by kernel_rfl));have e1:=o4 (az hm 4 (by kernel_rfl));have e2:=o5 (az hm 5 (by kernel_rfl));refine jI (b:=true) rfl rfl rfl g (fun KK hK2 => ?_);go_simp;exact hK2 (A.put (some 12) (.bool E)) _ ⟨hFR.put (by decide) _,o0.q,o1.q,o2.q,o3.q,o4.q,o5.q,.now (put_eq (by have hz:=hsz.o;omega)),o7.q,o8.q,o9.q,o10.q,o11.q,o12.q,o13.q,o14.q,o15.q,o16.q,o17.q,o18.q,hK⟩
  ·have e1:=o2 (az hm 2 (by kernel_rfl));have e2:=o6 (az hm 6 (by kernel_rfl));refine wpOp_step rfl (fun KK hK2 => ?_);go_simp;exact hK2 (A.put (some 13) (.bool E)) _ ⟨hFR.put (by decide) _,o0.q,o1.q,o2.q,o3.q,o4.q,o5.q,o6.q,.now (put_eq (by have hz:=hsz.o;omega)),o8.q,o9.q,o10.q,o11.q,o12.q,o13.q,o14.q,o15.q,o16.q,o17.q,o18.q,hK⟩
  ·have e1:=o7 (az hm 7 (by kernel_rfl));refine wpOp_step rfl (fun KK hK2 => ?_);go_simp;exact hK2 (A.put (some 14) (.bool E)) _ ⟨hFR.put (by decide) _,o0.q,o1.q,o2.q,o3.q,o4.q,o5.q,o6.q,o7.q,.now (put_eq (by have hz:=hsz.o;omega)),o9.q,o10.q,o11.q,o12.q,o13.q,o14.q,o15.q,o16.q,o17.q,o18.q,hK⟩
  ·have g:=o8 (az hm 8 (by kernel_rfl));rcases bfe E with hE|hE
   ·rw [hE] at g;refine lJ (b:=true) (c:=false) rfl rfl rfl g (by decide) ?_;exact ⟨hFR.put (by decide) _,o0.q,o1.q,o2.q,o3.q,o4.q,o5.q,o6.q,o7.q,o8.q,.now (by rw [hE];exact put_eq (by have hz:=hsz.o;omega)),o10.q,o11.q,o12.q,o13.q,o14.q,o15.q,o16.q,o17.q,o18.q,hK⟩
   ·rw [hE] at g;refine jI (b:=true) rfl rfl rfl g (fun KK hK2 => ?_);go_simp;exact hK2 (A.put (some 15) (.pointer (some (Zt w.heap.size 1)))) _ ⟨hFR.put (by decide) _,o0.q,o1.q,o2.q,o3.q,o4.q,o5.q,o6.q,o7.q,o8.q,.now (by rw [hE];exact put_eq (by have hz:=hsz.o;omega)),o10.q,o11.q,o12.q,o13.q,o14.q,o15.q,o16.q,o17.q,o18.q,hK⟩
  ·have g:=o8 (az hm 8 (by kernel_rfl));have e1:=o9 (az hm 9 (by kernel_rfl));rcases bfe E with hE|hE
   ·rw [hE] at g;refine lJ (b:=true) (c:=false) rfl rfl rfl g (by decide) ?_;exact ⟨hFR.put (by decide) _,o0.q,o1.q,o2.q,o3.q,o4.q,o5.q,o6.q,o7.q,o8.q,o9.q,.now (by rw [hE];exact put_eq (by have hz:=hsz.o;omega)),o11.q,o12.q,o13.q,o14.q,o15.q,o16.q,o17.q,o18.q,hK⟩
   ·rw [hE] at g e1;simp only [cond_true] at e1;have BL:=B1.o.ae hK;have x0:=BL.all;clear BL;refine jI (b:=true) rfl rfl rfl g (fun KK hK2 => ?_);go_simp;exact hK2 (A.put (some 16) (iv k)) _ ⟨hFR.put (by decide) _,o0.q,o1.q,o2.q,o3.q,o4.q,o5.q,o6.q,o7.q,o8.q,o9.q,.now (by rw [hE];exact put_eq (by have hz:=hsz.o;omega)),o11.q,o12.q,o13.q,o14.q,o15.q,o16.q,o17.q,o18.q,hK⟩
  ·have g:=o8 (az hm 8 (by kernel_rfl));have e1:=o10 (az hm 10 (by kernel_rfl));rcases bfe E with hE|hE
   ·rw [hE] at g;refine lJ (b:=true) (c:=false) rfl rfl rfl g (by decide) ?_;exact ⟨hFR.put (by decide) _,o0.q,o1.q,o2.q,o3.q,o4.q,o5.q,o6.q,o7.q,o8.q,o9.q,o10.q,.now (by rw [hE];exact put_eq (by have hz:=hsz.o;omega)),o12.q,o13.q,o14.q,o15.q,o16.q,o17.q,o18.q,hK⟩
   ·rw [hE] at g e1;simp only [cond_true] at e1;refine jI (b:=true) rfl rfl rfl g (fun KK hK2 => ?_);go_simp;refine st (V7 k _) ?_;rw [hBB];go_simp;exact hK2 (A.put (some 17) (.bool B)) _ ⟨hFR.put (by decide) _,o0.q,o1.q,o2.q,o3.q,o4.q,o5.q,o6.q,o7.q,o8.q,o9.q,o10.q,.now (by rw [hE];exact put_eq (by have hz:=hsz.o;omega)),o12.q,o13.q,o14.q,o15.q,o16.q,o17.q,o18.q,hK⟩
  ·have e1:=o8 (az hm 8 (by kernel_rfl));have e2:=o11 (az hm 11 (by kernel_rfl));rcases bfe E with hE|hE
   ·rw [hE] at e1 e2;simp only [cond_false] at e2;refine wpOp_step rfl (fun KK hK2 => ?_);go_simp;exact hK2 (A.put (some 18) (.bool false)) _ ⟨hFR.put (by decide) _,o0.q,o1.q,o2.q,o3.q,o4.q,o5.q,o6.q,o7.q,o8.q,o9.q,o10.q,o11.q,.now (by rw [hE];exact put_eq (by have hz:=hsz.o;omega)),o13.q,o14.q,o15.q,o16.q,o17.q,o18.q,hK⟩
   ·rw [hE] at e1 e2;simp only [cond_true] at e2;refine wpOp_step rfl (fun KK hK2 => ?_);go_simp;exact hK2 (A.put (some 18) (.bool B)) _ ⟨hFR.put (by decide) _,o0.q,o1.q,o2.q,o3.q,o4.q,o5.q,o6.q,o7.q,o8.q,o9.q,o10.q,o11.q,.now (by rw [hE];exact put_eq (by have hz:=hsz.o;omega)),o13.q,o14.q,o15.q,o16.q,o17.q,o18.q,hK⟩
  ·have e1:=o12 (az hm 12 (by kernel_rfl));refine wpOp_step rfl (fun KK hK2 => ?_);go_simp;exact hK2 (A.put (some 19) (.bool (E&&B))) _ ⟨hFR.put (by decide) _,o0.q,o1.q,o2.q,o3.q,o4.q,o5.q,o6.q,o7.q,o8.q,o9.q,o10.q,o11.q,o12.q,.now (put_eq (by have hz:=hsz.o;omega)),o14.q,o15.q,o16.q,o17.q,o18.q,hK⟩
  ·have g:=o13 (az hm 13 (by kernel_rfl));rcases bfe (E&&B) with hE|hE
   ·rw [hE] at g;refine lJ (b:=true) (c:=false) rfl rfl rfl g (by decide) ?_;exact ⟨hFR.put (by decide) _,o0.q,o1.q,o2.q,o3.q,o4.q,o5.q,o6.q,o7.q,o8.q,o9.q,o10.q,o11.q,o12.q,o13.q,.now (by rw [hE];exact put_eq (by have hz:=hsz.o;omega)),o15.q,o16.q,o17.q,o18.q,hK⟩
   ·rw [hE] at g;refine jI (b:=true) rfl rfl rfl g (fun KK hK2 => ?_);go_simp;exact hK2 (A.put (some 20) (.pointer (some (Zt w.heap.size 2)))) _ ⟨hFR.put (by decide) _,o0.q,o1.q,o2.q,o3.q,o4.q,o5.q,o6.q,o7.q,o8.q,o9.q,o10.q,o11.q,o12.q,o13.q,.now (by rw [hE];exact put_eq (by have hz:=hsz.o;omega)),o15.q,o16.q,o17.q,o18.q,hK⟩
  ·have g:=o13 (az hm 13 (by kernel_rfl));have e1:=o14 (az hm 14 (by kernel_rfl));rcases bfe (E&&B) with hE|hE
   ·rw [hE] at g;refine lJ (b:=true) (c:=false) rfl rfl rfl g (by decide) ?_;exact ⟨hFR.put (by decide) _,o0.q,o1.q,o2.q,o3.q,o4.q,o5.q,o6.q,o7.q,o8.q,o9.q,o10.q,o11.q,o12.q,o13.q,o14.q,.now (by rw [hE];exact put_eq (by have hz:=hsz.o;omega)),o16.q,o17.q,o18.q,hK⟩
   ·rw [hE] at g e1;simp only [cond_true] at e1;have BL:=B1.o.ae hK;have x0:=BL.all;clear BL;refine jI (b:=true) rfl rfl rfl g (fun KK hK2 => ?_);go_simp;exact hK2 (A.put (some 21) (iv e)) _ ⟨hFR.put (by decide) _,o0.q,o1.q,o2.q,o3.q,o4.q,o5.q,o6.q,o7.q,o8.q,o9.q,o10.q,o11.q,o12.q,o13.q,o14.q,.now (by rw [hE];exact put_eq (by have hz:=hsz.o;omega)),o16.q,o17.q,o18.q,hK⟩
  ·have g:=o13 (az hm 13 (by kernel_rfl));have e1:=o15 (az hm 15 (by kernel_rfl));rcases bfe (E&&B) with hE|hE
   ·rw [hE] at g;refine lJ (b:=true) (c:=false) rfl rfl rfl g (by decide) ?_;exact ⟨hFR.put (by decide) _,o0.q,o1.q,o2.q,o3.q,o4.q,o5.q,o6.q,o7.q,o8.q,o9.q,o10.q,o11.q,o12.q,o13.q,o14.q,o15.q,.now (by rw [hE];exact put_eq (by have hz:=hsz.o;omega)),o17.q,o18.q,hK⟩
   ·rw [hE] at g e1;simp only [cond_true] at e1;refine jI (b:=true) rfl rfl rfl g (fun KK hK2 => ?_);go_simp;refine st (isWord e _ lo hi) ?_;rw [hCC];go_simp;exact hK2 (A.put (some 22) (.bool C)) _ ⟨hFR.put (by decide) _,o0.q,o1.q,o2.q,o3.q,o4.q,o5.q,o6.q,o7.q,o8.q,o9.q,o10.q,o11.q,o12.q,o13.q,o14.q,o15.q,.now (by rw [hE];exact put_eq (by have hz:=hsz.o;omega)),o17.q,o18.q,hK⟩
  ·have e1:=o13 (az hm 13 (by kernel_rfl));have e2:=o16 (az hm 16 (by kernel_rfl));rcases bfe (E&&B) with hE|hE
   ·rw [hE] at e1 e2;simp only [cond_false] at e2;refine wpOp_step rfl (fun KK hK2 => ?_);go_simp;exact hK2 (A.put (some 23) (.bool false)) _ ⟨hFR.put (by decide) _,o0.q,o1.q,o2.q,o3.q,o4.q,o5.q,o6.q,o7.q,o8.q,o9.q,o10.q,o11.q,o12.q,o13.q,o14.q,o15.q,o16.q,.now (by rw [hE];exact put_eq (by have hz:=hsz.o;omega)),o18.q,hK⟩
   ·rw [hE] at e1 e2;simp only [cond_true] at e2;refine wpOp_step rfl (fun KK hK2 => ?_);go_simp;exact hK2 (A.put (some 23) (.bool C)) _ ⟨hFR.put (by decide) _,o0.q,o1.q,o2.q,o3.q,o4.q,o5.q,o6.q,o7.q,o8.q,o9.q,o10.q,o11.q,o12.q,o13.q,o14.q,o15.q,o16.q,.now (by rw [hE];exact put_eq (by have hz:=hsz.o;omega)),o18.q,hK⟩
  ·have e1:=o17 (az hm 17 (by kernel_rfl));refine wpOp_step rfl (fun KK hK2 => ?_);go_simp;exact hK2 (A.put (some 2) (.bool ((E&&B)&&C))) _ ⟨hFR.put (by decide) _,o0.q,o1.q,o2.q,o3.q,o4.q,o5.q,o6.q,o7.q,o8.q,o9.q,o10.q,o11.q,o12.q,o13.q,o14.q,o15.q,o16.q,o17.q,.now (put_eq (by have hz:=hsz.o;omega)),hK⟩
  ·simp at hi1
   omega
theorem modes {m:Int} (h:bH m=true):m=0∨m=1∨m=2∨m=3∨m=4∨m=5∨m=6∨m=7:=by
 simp [bH,within] at h;omega
theorem zD (m k e k' e':Int) (w:World):(binOp .eql 46 (.agg #[iv m,iv k',iv e']) (.agg #[iv m,iv k,iv e])).run prog w=.ok (.bool ((k'==k)&&(e'==e))) w:=by
 go_simp;by_cases h1:k'=k<;>by_cases h2:e'=e<;>simp [h1,h2]
theorem jV (w:World) (m k e:Int) (wfm:(Lit.int .i64 m).wf=true) (wfk:(Lit.int .i64 k).wf=true) (wfe:(Lit.int .i64 e).wf=true) :
  Calls prog 117 #[.agg #[iv m,iv k,iv e]] w fun r w'=>r=.returned (.bool (iH m k e))∧Kept 0 0 w w':=by
 obtain ⟨lo,hi⟩:=wfB wfe;cases h:bH m
 ·have G:Hid (iH m k e=false):=Zr (by unfold iH;rw [h];rfl);have K0:=Zr (kept_alloc w (.cells #[iv m,iv k,iv e] 46));go_enter func117,ntmps117;go_wp2_with fail;refine (BV m k e _ h).mono ?_;rintro r w1 ⟨rfl,k1⟩;have K1:=Zr (K0.o.trans k1);clear k1;go_wp2_with fail;go_quiet (fail);go_wp2_with fail;go_ret;exact ⟨rB (by rw [G.o]),au K1.o _⟩
 ·rcases modes h with rfl|rfl|rfl|rfl|rfl|rfl|rfl|rfl
  ·have q:=oJ 0 k e w 228 339 (.agg #[iv k]) _ _ lo hi (fun w=>Ap k e w) (fun w=>VM _ w) (fun w=>Iz k e w) fn0 (fun w=>zD 0 k e k 0 w)
   have G:(((k:Int)==k)&&((0:Int)==e)&&(within k 0 3&&aJ e))=iH 0 k e:=by
    unfold iH;rw [show bH 0=true from by decide,show decide ((0:Int)<6)=true from by decide,show jH 0=false from by decide,Bool.eq_iff_iff];simp;grind
   rw [G] at q;exact q
  ·have q:=oJ 1 k e w 229 340 (.agg #[iv k]) _ _ lo hi (fun w=>Am k e w) (fun w=>VL _ w) (fun w=>Iy k e w) fn1 (fun w=>zD 1 k e k 0 w)
   have G:(((k:Int)==k)&&((0:Int)==e)&&(within k 0 3&&aJ e))=iH 1 k e:=by
    unfold iH;rw [show bH 1=true from by decide,show decide ((1:Int)<6)=true from by decide,show jH 1=false from by decide,Bool.eq_iff_iff];simp;grind
   rw [G] at q;exact q
  ·have q:=oJ 2 k e w 230 341 (.agg #[iv k]) _ _ lo hi (fun w=>Ak k e w) (fun w=>VK _ w) (fun w=>Iw k e w) fn2 (fun w=>zD 2 k e k 0 w)
   have G:(((k:Int)==k)&&((0:Int)==e)&&(within k 0 3&&aJ e))=iH 2 k e:=by
    unfold iH;rw [show bH 2=true from by decide,show decide ((2:Int)<6)=true from by decide,show jH 2=false from by decide,Bool.eq_iff_iff];simp;grind
   rw [G] at q;exact q
  ·have q:=oJ 3 k e w 231 342 (.agg #[iv k]) _ _ lo hi (fun w=>Aj k e w) (fun w=>VJ _ w) (fun w=>Iu k e w) fn3 (fun w=>zD 3 k e k 0 w)
   have G:(((k:Int)==k)&&((0:Int)==e)&&(within k 0 3&&aJ e))=iH 3 k e:=by
    unfold iH;rw [show bH 3=true from by decide,show decide ((3:Int)<6)=true from by decide,show jH 3=false from by decide,Bool.eq_iff_iff];simp;grind
   rw [G] at q;exact q
  ·have q:=oJ 4 k e w 232 343 (.agg #[iv k]) _ _ lo hi (fun w=>Ai k e w) (fun w=>VI _ w) (fun w=>Ir k e w) fn4 (fun w=>zD 4 k e k 0 w)
   have G:(((k:Int)==k)&&((0:Int)==e)&&(within k 0 3&&aJ e))=iH 4 k e:=by
    unfold iH;rw [show bH 4=true from by decide,show decide ((4:Int)<6)=true from by decide,show jH 4=false from by decide,Bool.eq_iff_iff];simp;grind
   rw [G] at q;exact q
  ·have q:=oJ 5 k e w 234 344 (.agg #[iv k,iv e]) _ _ lo hi (fun w=>Ah k e w) (fun w=>VH _ w) (fun w=>Iq k e w) fn5 (fun w=>zD 5 k e k e w)
   have G:(((k:Int)==k)&&((e:Int)==e)&&(within k 0 3&&aJ e))=iH 5 k e:=by
    unfold iH;rw [show bH 5=true from by decide,show decide ((5:Int)<6)=true from by decide,show jH 5=true from by decide,Bool.eq_iff_iff];simp;skip
   rw [G] at q;exact q
  ·have q:=oJ 6 k e w 236 345 (.agg #[iv e]) _ _ lo hi (fun w=>Ag k e w) (fun w=>VG _ w) (fun w=>Ip k e w) fn6 (fun w=>zD 6 k e 0 e w)
   have G:(((0:Int)==k)&&((e:Int)==e)&&(within k 0 3&&aJ e))=iH 6 k e:=by
    unfold iH;rw [show bH 6=true from by decide,show decide ((6:Int)<6)=false from by decide,show jH 6=true from by decide,Bool.eq_iff_iff];simp;grind
   rw [G] at q;exact q
  ·have q:=oJ 7 k e w 237 346 (.agg #[iv e]) _ _ lo hi (fun w=>Af k e w) (fun w=>VF _ w) (fun w=>Io k e w) fn7 (fun w=>zD 7 k e 0 e w)
   have G:(((0:Int)==k)&&((e:Int)==e)&&(within k 0 3&&aJ e))=iH 7 k e:=by
    unfold iH;rw [show bH 7=true from by decide,show decide ((7:Int)<6)=false from by decide,show jH 7=true from by decide,Bool.eq_iff_iff];simp;grind
   rw [G] at q;exact q
theorem xE (w:World) (m:Int) (wfm:(Lit.int .i64 m).wf=true) :
  Calls prog 183 #[iv m] w fun r w'=>r=.returned (.tuple #[.bool (bH m&&jH m),.bool (bH m)])∧Kept 0 0 w w':=by
 cases h:bH m
 ·go_enter func183,ntmps183;go_wp2_with (first|(go_at_call 168;refine (BV m 0 0 _ h).mono ?_;rintro r w1 ⟨rfl,k1⟩));go_quiet (fail);go_wp2_with fail;go_ret2;exact ⟨by simp,au k1 _⟩
 ·rcases modes h with rfl|rfl|rfl|rfl|rfl|rfl|rfl|rfl
  ·go_enter func183,ntmps183;go_wp2_with (first|(go_at_call 168;refine (Ap 0 0 _).mono ?_;rintro r w1 ⟨rfl,k1⟩));go_quiet (first|(go_at_call 234;exact Calls.quiet_of_same (OI _ _))|fail);go_wp2_with fail;go_ret2;exact ⟨rfl,au k1 _⟩
  ·go_enter func183,ntmps183;go_wp2_with (first|(go_at_call 168;refine (Am 0 0 _).mono ?_;rintro r w1 ⟨rfl,k1⟩));go_quiet (first|(go_at_call 234;exact Calls.quiet_of_same (OH _ _))|fail);go_wp2_with fail;go_ret2;exact ⟨rfl,au k1 _⟩
  ·go_enter func183,ntmps183;go_wp2_with (first|(go_at_call 168;refine (Ak 0 0 _).mono ?_;rintro r w1 ⟨rfl,k1⟩));go_quiet (first|(go_at_call 234;exact Calls.quiet_of_same (OG _ _))|fail);go_wp2_with fail;go_ret2;exact ⟨rfl,au k1 _⟩
  ·go_enter func183,ntmps183;go_wp2_with (first|(go_at_call 168;refine (Aj 0 0 _).mono ?_;rintro r w1 ⟨rfl,k1⟩));go_quiet (first|(go_at_call 234;exact Calls.quiet_of_same (OE _ _))|fail);go_wp2_with fail;go_ret2;exact ⟨rfl,au k1 _⟩
  ·go_enter func183,ntmps183;go_wp2_with (first|(go_at_call 168;refine (Ai 0 0 _).mono ?_;rintro r w1 ⟨rfl,k1⟩));go_quiet (first|(go_at_call 234;exact Calls.quiet_of_same (OD _ _))|fail);go_wp2_with fail;go_ret2;exact ⟨rfl,au k1 _⟩
  ·go_enter func183,ntmps183;go_wp2_with (first|(go_at_call 168;refine (Ah 0 0 _).mono ?_;rintro r w1 ⟨rfl,k1⟩));go_quiet (first|(go_at_call 234;exact Calls.quiet_of_same (OC _ _))|fail);go_wp2_with fail;go_ret2;exact ⟨rfl,au k1 _⟩
  ·go_enter func183,ntmps183;go_wp2_with (first|(go_at_call 168;refine (Ag 0 0 _).mono ?_;rintro r w1 ⟨rfl,k1⟩));go_quiet (first|(go_at_call 234;exact Calls.quiet_of_same (OB _ _))|fail);go_wp2_with fail;go_ret2;exact ⟨rfl,au k1 _⟩
  ·go_enter func183,ntmps183;go_wp2_with (first|(go_at_call 168;refine (Af 0 0 _).mono ?_;rintro r w1 ⟨rfl,k1⟩));go_quiet (first|(go_at_call 234;exact Calls.quiet_of_same (Oz _ _))|fail);go_wp2_with fail;go_ret2;exact ⟨rfl,au k1 _⟩
theorem V8 (m:Int) (w:World):Calls prog 221 #[iv m] w fun e w'=>e=.returned (.bool (jU m))∧w'=w:=by
 by_cases h0:2<=m
 ·by_cases h1:m<=6
  ·go_enter func221,ntmps221;go_wp2;go_ret;exact ⟨rB (by simp [jU,within,h0,h1]),rfl⟩
  ·go_enter func221,ntmps221;go_wp2;go_ret;exact ⟨rB (by simp [jU,within,h0];omega),rfl⟩
 ·go_enter func221,ntmps221;go_wp2;go_ret;exact ⟨rB (by simp [jU,within];omega),rfl⟩
theorem DJ (m:Int) (w:World):Calls prog 171 #[iv m] w fun e w'=>e=.returned (.bool ((m==0)||jU m))∧w'=w:=by
 cases h0:(m==0)
 ·go_enter func171,ntmps171;go_wp2_with (go_at_call 221;refine st (V8 _ _) ?_);go_ret;exact ⟨rB (by simp),rfl⟩
 ·go_enter func171,ntmps171;go_wp2;go_ret;exact ⟨rB (by simp),rfl⟩
theorem Dk (m:Int) (w:World):Calls prog 172 #[iv m] w fun e w'=>e=.returned (.bool (eX m))∧w'=w:=by
 unfold eX
 cases h0:(m==2)<;>cases h1:(m==5)<;>cases h2:(m==6)<;>(
  go_enter func172,ntmps172;go_wp2;go_ret
  exact ⟨rB (by simp),rfl⟩)
theorem Vz (v:Int):okv 1 v=within v 0 255:=by
 unfold okv within Pl.top;rw [Bool.eq_iff_iff];simp;omega
theorem Ox (v:Int) (w:World) (lo : -9223372036854775808<=v) (hi:v<=9223372036854775807) :
  Calls prog 170 #[iv v] w fun e w'=>e=.returned (.bool (within v 0 255))∧w'=w:=by
 go_enter func170,ntmps170;go_wp2_with (go_at_call 120;refine st (bQ _ _ _ lo hi) ?_;rw [Vz]);go_ret;exact ⟨rfl,rfl⟩
def Pl.lng (m:Int):Bool:=bH m&&jH m
theorem xC (w:World) (op z r m k e s:Int) (wfm:(Lit.int .i64 m).wf=true):Calls prog 133 #[.agg (inA op z r m k e s)] w fun r' w'=>r'=.returned (.bool (lng m))∧Kept 0 0 w w':=by
 have K0:=Zr (kept_alloc w (.cells (inA op z r m k e s) 48));go_enter func133,ntmps133;go_wp2_with (go_at_call 183;refine (xE _ m wfm).mono ?_;rintro e' w2 ⟨rfl,k2⟩);go_ret;exact ⟨rfl,K0.o.trans k2⟩
theorem lengthOf (w:World) (op z r m k e s:Int) (wfm:(Lit.int .i64 m).wf=true):Calls prog 80 #[.agg (inA op z r m k e s)] w fun r' w'=>r'=.returned (iv (if lng m=true then 2 else 1))∧Kept 0 0 w w':=by
 have K0:=Zr (kept_alloc w (.cells (inA op z r m k e s) 48));cases h:lng m
 ·go_enter func80,ntmps80;go_wp2_with (go_at_call 133;refine (xC _ op z r m k e s wfm).mono ?_;rintro e' w2 ⟨rfl,k2⟩;rw [h]);go_ret;exact ⟨rfl,K0.o.trans k2⟩
 ·go_enter func80,ntmps80;go_wp2_with (go_at_call 133;refine (xC _ op z r m k e s wfm).mono ?_;rintro e' w2 ⟨rfl,k2⟩;rw [h]);go_ret;exact ⟨rfl,K0.o.trans k2⟩
theorem sJ (w:World) (op z r m k e s:Int):Calls prog 222 #[.agg (inA op z r m k e s)] w fun r' w'=>r'=.returned (.bool ((r==0)&&jd m e))∧Kept 0 0 w w':=by
 have K0:=Zr (kept_alloc w (.cells (inA op z r m k e s) 48));unfold jd
 cases h0:(r==0)<;>cases h1:(m==7)<;>cases h2:decide (e<=1023)<;>(
  go_enter func222,ntmps222;go_wp2;go_ret
  exact ⟨rB (by simp),K0.o⟩)
theorem zy (w:World) (op z r m k e s:Int) (wfe:(Lit.int .i64 e).wf=true):Calls prog 118 #[.agg (inA op z r m k e s)] w fun r' w'=>r'=.returned (.bool (JX ⟨op,z,r,m,k,e,s⟩))∧Kept 0 0 w w':=by
 have K0:=Zr (kept_alloc w (.cells (inA op z r m k e s) 48));obtain ⟨lo,hi⟩:=wfB wfe;unfold JX;simp only
 cases h0:(m != 7)<;>cases h1:(z != 1)<;>cases h2:within e 0 255<;>(
  go_enter func118,ntmps118;go_wp2_with (go_at_call 170;refine st (Ox _ _ lo hi) ?_;rw [h2]);go_ret
  exact ⟨rB (by simp at h0 h1;simp [h0,h1]),K0.o⟩)
theorem nG (a:Int):∃q:Int,wrap64 a=a+18446744073709551616*q:=by
 refine ⟨-((a+9223372036854775808)/18446744073709551616),?_⟩;unfold wrap64;omega
theorem firstWord (w:World) (op z r m k e s:Int):Calls prog 167 #[.agg (inA op z r m k e s)] w fun r' w'=>r'=.returned (iv (nH ⟨op,z,r,m,k,e,s⟩%65536))∧Kept 0 0 w w':=by
 have K0:=Zr (kept_alloc w (.cells (inA op z r m k e s) 48));go_enter func167,ntmps167;go_wp2_with (go_at_call 178;refine (gQ _ _).mono ?_;rintro e' w2 ⟨rfl,hw⟩;have hw2:=hw.symm;clear hw;subst hw2);go_ret;refine ⟨rI ?_,K0.o⟩;unfold nH;simp only;obtain ⟨q1,e1⟩:=nG (op*2048);obtain ⟨q2,e2⟩:=nG (z-1);obtain ⟨q3,e3⟩:=nG (wrap64 (z-1)*1024);obtain ⟨q4,e4⟩:=nG (wrap64 (op*2048)+wrap64 (wrap64 (z-1)*1024));obtain ⟨q5,e5⟩:=nG (r*256);obtain ⟨q6,e6⟩:=nG (wrap64 (wrap64 (op*2048)+wrap64 (wrap64 (z-1)*1024))+wrap64 (r*256));obtain ⟨q7,e7⟩:=nG (m*32);obtain ⟨q8,e8⟩:=nG (wrap64 (wrap64 (wrap64 (op*2048)+wrap64 (wrap64 (z-1)*1024))+wrap64 (r*256))+wrap64 (m*32));obtain ⟨q9,e9⟩:=nG (k*8);obtain ⟨qa,ea⟩:=nG (wrap64 (wrap64 (wrap64 (wrap64 (op*2048)+wrap64 (wrap64 (z-1)*1024))+wrap64 (r*256))+wrap64 (m*32))+wrap64 (k*8));obtain ⟨qb,eb⟩:=nG (wrap64 (wrap64 (wrap64 (wrap64 (wrap64 (op*2048)+wrap64 (wrap64 (z-1)*1024))+wrap64 (r*256))+wrap64 (m*32))+wrap64 (k*8))+s);omega
theorem qy {n:Int} (h0 : -1<=n) (h1:n<=65536):(Lit.int .i64 n).wf=true:=by
 have e1:IntKind.i64.min = -9223372036854775808:=rfl;have e2:IntKind.i64.max=9223372036854775807:=rfl;simp [Lit.wf];omega
theorem Blk.c7 {w:World} {b:Nat} {v0 v1 v2 v3 v4 v5 v6:Value} {t:TypeId} (h:Blk w b #[v0,v1,v2,v3,v4,v5,v6] t):w.cell? (Zt b 0)=some v0∧w.cell? (Zt b 1)=some v1∧w.cell? (Zt b 2)=some v2∧w.cell? (Zt b 3)=some v3∧w.cell? (Zt b 4)=some v4∧w.cell? (Zt b 5)=some v5∧w.cell? (Zt b 6)=some v6:=
 ⟨h.cell (i:=0) rfl,h.cell (i:=1) rfl,h.cell (i:=2) rfl,h.cell (i:=3) rfl,h.cell (i:=4) rfl,h.cell (i:=5) rfl,h.cell (i:=6) rfl⟩
theorem insOf (w:World) (n v:Int) (h0:0<=n) (h1:n<=65535):Calls prog 166 #[iv n,iv v] w fun r' w'=>r'=.returned (.agg #[iv (Pl.decode n v).op,iv (Pl.decode n v).z,iv (Pl.decode n v).r,iv (Pl.decode n v).m,iv (Pl.decode n v).k,iv (Pl.decode n v).e,iv (Pl.decode n v).s])∧Kept 0 0 w w':=by
 rw [vk];simp only [Pl.decode];have t1:n.tdiv 2048=n/2048:=Int.tdiv_eq_ediv_of_nonneg h0;have t2:n.tdiv 1024=n/1024:=Int.tdiv_eq_ediv_of_nonneg h0;have t3:n.tdiv 256=n/256:=Int.tdiv_eq_ediv_of_nonneg h0;have t4:n.tdiv 32=n/32:=Int.tdiv_eq_ediv_of_nonneg h0;have t5:n.tdiv 8=n/8:=Int.tdiv_eq_ediv_of_nonneg h0;have t6:n.tmod 8=n%8:=Int.tmod_eq_emod_of_nonneg h0;have wfm:(Lit.int .i64 (n/32%8)).wf=true:=qy (by omega) (by omega)
 have hM:lng (n/32%8)=jH (n/32%8):=by
  unfold lng;rw [show bH (n/32%8)=true from by simp [bH,within];omega];rfl
 have HM:=Zr hM;have KA:=Zr (ag (kept_alloc w (.cells (inA 0 0 0 0 0 0 0) 48)) (.cells (inA (n/2048) (n/1024%2+1) (n/256%4) (n/32%8) (n/8%4) 0 (n%8)) 48));have B1:=Zr ((Blk.new w (inA 0 0 0 0 0 0 0) 48).alloc (.cells (inA (n/2048) (n/1024%2+1) (n/256%4) (n/32%8) (n/8%4) 0 (n%8)) 48));have b2:=Blk.new (w.alloc (.cells (inA 0 0 0 0 0 0 0) 48)) (inA (n/2048) (n/1024%2+1) (n/256%4) (n/32%8) (n/8%4) 0 (n%8)) 48;simp only [World.size_alloc] at b2;have B2:=Zr b2;clear b2 hM;cases hx:jH (n/32%8)
 ·go_enter func166,ntmps166;go_wp2_with fail;refine (xC _ _ _ _ _ _ _ _ wfm).mono ?_;rintro r2 w2 ⟨rfl,k2⟩;rw [HM.o,hx];have K2:=Zr (KA.o.trans k2);have C2:=Zr (B2.o.ae k2);have C1:=Zr (B1.o.ae k2);obtain ⟨p0,p1,p2,p3,p4,p5,p6⟩:=C2.o.c7;obtain ⟨q0,q1,q2,q3,q4,q5,q6⟩:=C1.o.c7;have fq0:=C1.o.frozen 0;have fq1:=C1.o.frozen 1;have fq2:=C1.o.frozen 2;have fq3:=C1.o.frozen 3;have fq4:=C1.o.frozen 4;have fq5:=C1.o.frozen 5;have fq6:=C1.o.frozen 6;have fp5:=C2.o.frozen 5;clear k2 t1 t2 t3 t4 t5 t6;go_wp2_with fail;refine bodyPost_ret (v:=.agg (inA (n/2048) (n/1024%2+1) (n/256%4) (n/32%8) (n/8%4) 0 (n%8))) ?_ rfl ⟨rfl,?_⟩
  ·rw [aj rfl];go_simp
  ·exact (af (af (af (af (af (af (af K2.o _ _ _ (.inr (by omega))) _ _ _ (.inr (by omega))) _ _ _ (.inr (by omega))) _ _ _ (.inr (by omega))) _ _ _ (.inr (by omega))) _ _ _ (.inr (by omega))) _ _ _ (.inr (by omega)))
 ·go_enter func166,ntmps166;go_wp2_with fail;refine (xC _ _ _ _ _ _ _ _ wfm).mono ?_;rintro r2 w2 ⟨rfl,k2⟩;rw [HM.o,hx];have K2:=Zr (KA.o.trans k2);have C2:=Zr (B2.o.ae k2);have C1:=Zr (B1.o.ae k2);obtain ⟨p0,p1,p2,p3,p4,p5,p6⟩:=C2.o.c7;obtain ⟨q0,q1,q2,q3,q4,q5,q6⟩:=C1.o.c7;have fq0:=C1.o.frozen 0;have fq1:=C1.o.frozen 1;have fq2:=C1.o.frozen 2;have fq3:=C1.o.frozen 3;have fq4:=C1.o.frozen 4;have fq5:=C1.o.frozen 5;have fq6:=C1.o.frozen 6;have fp5:=C2.o.frozen 5;clear k2 t1 t2 t3 t4 t5 t6;go_wp2_with fail;refine bodyPost_ret (v:=.agg (inA (n/2048) (n/1024%2+1) (n/256%4) (n/32%8) (n/8%4) v (n%8))) ?_ rfl ⟨rfl,?_⟩
  ·rw [aj rfl];go_simp
  ·exact (af (af (af (af (af (af (af (af K2.o _ _ _ (.inr (by omega))) _ _ _ (.inr (by omega))) _ _ _ (.inr (by omega))) _ _ _ (.inr (by omega))) _ _ _ (.inr (by omega))) _ _ _ (.inr (by omega))) _ _ _ (.inr (by omega))) _ _ _ (.inr (by omega)))
theorem YQ (a b:Pl.In) (w:World):(binOp .eql 48 (.agg #[iv a.op,iv a.z,iv a.r,iv a.m,iv a.k,iv a.e,iv a.s]) (.agg #[iv b.op,iv b.z,iv b.r,iv b.m,iv b.k,iv b.e,iv b.s])).run prog w=.ok (.bool (uD a b)) w:=by
 obtain ⟨a1,a2,a3,a4,a5,a6,a7⟩:=a;obtain ⟨b1,b2,b3,b4,b5,b6,b7⟩:=b;unfold uD;go_simp;by_cases h1:a1=b1
 ·by_cases h2:a2=b2
  ·by_cases h3:a3=b3
   ·by_cases h4:a4=b4
    ·by_cases h5:a5=b5
     ·by_cases h6:a6=b6
      ·by_cases h7:a7=b7
       ·simp [h1,h2,h3,h4,h5,h6,h7]
       ·simp [h1,h2,h3,h4,h5,h6,h7]
      ·simp [h1,h2,h3,h4,h5,h6]
     ·simp [h1,h2,h3,h4,h5]
    ·simp [h1,h2,h3,h4]
   ·simp [h1,h2,h3]
  ·simp [h1,h2]
 ·simp [h1]
theorem eqO (m k e:Int) (w:World):(binOp .eql 46 (.agg #[iv m,iv k,iv e]) (.agg #[iv 0,iv 0,iv 0])).run prog w=.ok (.bool (gW m k e)) w:=by
 unfold gW;go_simp;by_cases h1:m=0<;>by_cases h2:k=0<;>by_cases h3:e=0<;>simp [h1,h2,h3]
theorem pK (w:World) (op z r m k e s:Int):Calls prog 116 #[.agg #[iv op,iv z,iv r,iv m,iv k,iv e,iv s]] w fun r' w'=>r'=.returned (.bool (Pl.fits ⟨op,z,r,m,k,e,s⟩))∧Kept 0 0 w w':=by
 have K0:=Zr (kept_alloc w (.cells #[iv op,iv z,iv r,iv m,iv k,iv e,iv s] 48));have B0:=Zr (Blk.new w #[iv op,iv z,iv r,iv m,iv k,iv e,iv s] 48);obtain ⟨N,hN⟩:∃N,nH ⟨op,z,r,m,k,e,s⟩%65536=N:=⟨_,rfl⟩
 have n0:Hid (0<=N):=Zr (by omega);have n1:Hid (N<=65535):=Zr (by omega);obtain ⟨D,hD⟩:∃D,Pl.decode N e=D:=⟨_,rfl⟩
 obtain ⟨F,hF⟩:∃F,uD D ⟨op,z,r,m,k,e,s⟩=F:=⟨_,rfl⟩
 have EF:Hid (Pl.fits ⟨op,z,r,m,k,e,s⟩=F):=Zr (by unfold Pl.fits;rw [hN,hD,hF]);have HN:=Zr hN;have HD:=Zr hD;obtain ⟨RD,hR⟩:∃RD:Array Value,RD=#[iv D.op,iv D.z,iv D.r,iv D.m,iv D.k,iv D.e,iv D.s]:=⟨_,rfl⟩
 have HE:Hid (∀w:World,(binOp .eql 48 (.agg RD) (.agg #[iv op,iv z,iv r,iv m,iv k,iv e,iv s])).run prog w=.ok (.bool F) w):=Zr (fun w=>by rw [<-hF,hR];exact YQ D ⟨op,z,r,m,k,e,s⟩ w);have HR:=Zr hR;clear hN hD hF hR;rw [EF.o];go_enter func116,ntmps116;go_wp2_with fail;refine gY (fun A0 l A W=>FR [3,4,5,6,7,8,9,10,2] A0 A∧Once l 0 (A.tmps[3]? = some (.agg #[iv op,iv z,iv r,iv m,iv k,iv e,iv s]))∧Once l 1 (A.tmps[4]? = some (iv N))∧Once l 2 (A.tmps[5]? = some (.pointer (some (Zt w.heap.size 3))))∧Once l 3 (A.tmps[6]? = some (.pointer (some (Zt w.heap.size 5))))∧Once l 4 (A.tmps[7]? = some (iv e))∧Once l 5 (A.tmps[8]? = some (.agg RD))∧Once l 6 (A.tmps[9]? = some (.agg #[iv op,iv z,iv r,iv m,iv k,iv e,iv s]))∧Once l 7 (A.tmps[10]? = some (.bool F))∧Once l 8 (A.tmps[2]? = some (.bool F))∧Kept 0 0 (w.alloc (.cells #[iv op,iv z,iv r,iv m,iv k,iv e,iv s] 48)) W) (by kernel_rfl) (by kernel_rfl) ?start ?fin ?step
 case start=>exact ⟨FR.refl _ _,ay (by decide),ay (by decide),ay (by decide),ay (by decide),ay (by decide),ay (by decide),ay (by decide),ay (by decide),ay (by decide),ah (Kept.refl _ _ _)⟩
 case fin=>
  intro l A W h hl;obtain ⟨hFR,o0,o1,o2,o3,o4,o5,o6,o7,o8,hK⟩:=h;have g8:=o8 (hl 8 (by decide));have QQ:=Zr hK;have hc9:=hFR.chain;simp only [List.foldl] at hc9;rw [mP g8] at hc9;clear hl hK hFR g8 o0 o1 o2 o3 o4 o5 o6 o7 o8;generalize A.tmps.getD 3 undef=s3 at hc9;generalize A.tmps.getD 4 undef=s4 at hc9;generalize A.tmps.getD 5 undef=s5 at hc9;generalize A.tmps.getD 6 undef=s6 at hc9;generalize A.tmps.getD 7 undef=s7 at hc9;generalize A.tmps.getD 8 undef=s8 at hc9;generalize A.tmps.getD 9 undef=s9 at hc9;generalize A.tmps.getD 10 undef=s10 at hc9;subst hc9;go_simp;go_wp2_with fail;go_ret;exact ⟨rfl,K0.o.trans QQ.o⟩
 case step=>
  intro l A W i hI hm;obtain ⟨hFR,o0,o1,o2,o3,o4,o5,o6,o7,o8,hK⟩:=hI;obtain ⟨hi1,hi2⟩:=jB hm;have hsz:Hid (10<A.tmps.size):=Zr (by rw [hFR.size];simp);have m1:A.tmps[1]? = some (.pointer (some (Zt w.heap.size 0))):=(hFR.o 1 (by decide)).trans rfl;rcases i with _|_|_|_|_|_|_|_|_|i
  ·have BL:=Zr (B0.o.ae hK);obtain ⟨x0,x1,x2,x3,x4,x5,x6⟩:=BL.o.c7;refine wpOp_step rfl (fun KK hK2 => ?_);go_simp;exact hK2 (A.put (some 3) (.agg #[iv op,iv z,iv r,iv m,iv k,iv e,iv s])) _ ⟨hFR.put (by decide) _,.now (put_eq (by have hz:=hsz.o;omega)),o1.q,o2.q,o3.q,o4.q,o5.q,o6.q,o7.q,o8.q,hK⟩
  ·have e0:=o0 (az hm 0 (by kernel_rfl));refine wpOp_step rfl (fun KK hK2 => ?_);go_simp;refine (firstWord W op z r m k e s).mono ?_;rw [HN.o];rintro r9 y ⟨rfl,kd⟩;go_simp;exact hK2 (A.put (some 4) (iv N)) _ ⟨hFR.put (by decide) _,o0.q,.now (put_eq (by have hz:=hsz.o;omega)),o2.q,o3.q,o4.q,o5.q,o6.q,o7.q,o8.q,(hK.trans kd)⟩
  ·refine wpOp_step rfl (fun KK hK2 => ?_);go_simp;exact hK2 (A.put (some 5) (.pointer (some (Zt w.heap.size 3)))) _ ⟨hFR.put (by decide) _,o0.q,o1.q,.now (put_eq (by have hz:=hsz.o;omega)),o3.q,o4.q,o5.q,o6.q,o7.q,o8.q,hK⟩
  ·have e2:=o2 (az hm 2 (by kernel_rfl));refine wpOp_step rfl (fun KK hK2 => ?_);go_simp;exact hK2 (A.put (some 6) (.pointer (some (Zt w.heap.size 5)))) _ ⟨hFR.put (by decide) _,o0.q,o1.q,o2.q,.now (put_eq (by have hz:=hsz.o;omega)),o4.q,o5.q,o6.q,o7.q,o8.q,hK⟩
  ·have e3:=o3 (az hm 3 (by kernel_rfl));have BL:=Zr (B0.o.ae hK);obtain ⟨x0,x1,x2,x3,x4,x5,x6⟩:=BL.o.c7;refine wpOp_step rfl (fun KK hK2 => ?_);go_simp;exact hK2 (A.put (some 7) (iv e)) _ ⟨hFR.put (by decide) _,o0.q,o1.q,o2.q,o3.q,.now (put_eq (by have hz:=hsz.o;omega)),o5.q,o6.q,o7.q,o8.q,hK⟩
  ·have e1:=o1 (az hm 1 (by kernel_rfl));have e4:=o4 (az hm 4 (by kernel_rfl));refine wpOp_step rfl (fun KK hK2 => ?_);go_simp;refine (insOf W N e n0.o n1.o).mono ?_;rw [HD.o,<-HR.o];rintro r9 y ⟨rfl,kd⟩;go_simp;exact hK2 (A.put (some 8) (.agg RD)) _ ⟨hFR.put (by decide) _,o0.q,o1.q,o2.q,o3.q,o4.q,.now (put_eq (by have hz:=hsz.o;omega)),o6.q,o7.q,o8.q,(hK.trans kd)⟩
  ·have BL:=Zr (B0.o.ae hK);obtain ⟨x0,x1,x2,x3,x4,x5,x6⟩:=BL.o.c7;refine wpOp_step rfl (fun KK hK2 => ?_);go_simp;exact hK2 (A.put (some 9) (.agg #[iv op,iv z,iv r,iv m,iv k,iv e,iv s])) _ ⟨hFR.put (by decide) _,o0.q,o1.q,o2.q,o3.q,o4.q,o5.q,.now (put_eq (by have hz:=hsz.o;omega)),o7.q,o8.q,hK⟩
  ·have e5:=o5 (az hm 5 (by kernel_rfl));have e6:=o6 (az hm 6 (by kernel_rfl));have hc:=HE.o;refine wpOp_step rfl (fun KK hK2 => ?_);go_simp;exact hK2 (A.put (some 10) (.bool F)) _ ⟨hFR.put (by decide) _,o0.q,o1.q,o2.q,o3.q,o4.q,o5.q,o6.q,.now (put_eq (by have hz:=hsz.o;omega)),o8.q,hK⟩
  ·have e7:=o7 (az hm 7 (by kernel_rfl));refine wpOp_step rfl (fun KK hK2 => ?_);go_simp;exact hK2 (A.put (some 2) (.bool F)) _ ⟨hFR.put (by decide) _,o0.q,o1.q,o2.q,o3.q,o4.q,o5.q,o6.q,o7.q,.now (put_eq (by have hz:=hsz.o;omega)),hK⟩
  ·simp at hi1
   omega
theorem Bi (w:World) (op z r m k e s:Int):Calls prog 174 #[.agg #[iv op,iv z,iv r,iv m,iv k,iv e,iv s]] w fun r' w'=>r'=.returned (.bool (((s==0)&&((r==0)&&jd m e))||((s==1)&&gW m k e)))∧Kept 0 0 w w':=by
 have K0:=Zr (kept_alloc w (.cells #[iv op,iv z,iv r,iv m,iv k,iv e,iv s] 48));have hq:=eqO m k e;by_cases h0:s=0
 ·subst h0;go_enter func174,ntmps174;go_wp2_with (go_at_call 222;refine (sJ _ op z r m k e 0).mono ?_;rintro e9 w2 ⟨rfl,k2⟩);go_ret;exact ⟨rB (by simp),K0.o.trans k2⟩
 ·by_cases h1:s=1
  ·subst h1;go_enter func174,ntmps174;go_wp2_with fail;go_ret;exact ⟨rB (by simp),K0.o⟩
  ·go_enter func174,ntmps174;go_wp2_with fail;go_ret;exact ⟨rB (by simp [h0,h1]),K0.o⟩
theorem JW (w : World) (op z r m k e s : Int) (h0 : 0 <= s) : Calls prog 173 #[.agg #[iv op, iv z, iv r, iv m, iv k, iv e, iv s]] w fun r' w' => r' = .returned (.bool (bif s == 3 then (r == 0) && jd m e else (decide (s <= 6) && gW m k e) && (decide (3 < s) || (r == 0)))) ∧ Kept 0 0 w w' := by
  have K0 := Zr (kept_alloc w (.cells #[iv op, iv z, iv r, iv m, iv k, iv e, iv s] 48));have hq := eqO m k e;by_cases h7 : 7 <= s
  · go_enter func173, ntmps173
    go_wp2_with fail;go_ret
    exact ⟨rB (by have a1 : (s == 3) = false := by simp; omega
                  have a2 : decide (s <= 6) = false := by simp; omega
                  rw [a1, a2]; rfl), K0.o⟩
  · have hs : s = 0 ∨ s = 1 ∨ s = 2 ∨ s = 3 ∨ s = 4 ∨ s = 5 ∨ s = 6 := by omega
    rcases hs with rfl | rfl | rfl | rfl | rfl | rfl | rfl
    · cases hr : (r == 0) <;> (
        go_enter func173, ntmps173;go_wp2_with fail;go_ret
        exact ⟨rB (by simp), K0.o⟩)
    · cases hr : (r == 0) <;> (
        go_enter func173, ntmps173;go_wp2_with fail;go_ret
        exact ⟨rB (by simp), K0.o⟩)
    · cases hr : (r == 0) <;> (
        go_enter func173, ntmps173;go_wp2_with fail;go_ret
        exact ⟨rB (by simp), K0.o⟩)
    · go_enter func173, ntmps173
      go_wp2_with (go_at_call 222; refine (sJ _ op z r m k e 3).mono ?_; rintro e9 w2 ⟨rfl, k2⟩);go_ret;exact ⟨rB (by simp), K0.o.trans k2⟩
    · go_enter func173, ntmps173
      go_wp2_with fail;go_ret;exact ⟨rB (by simp), K0.o⟩
    · go_enter func173, ntmps173
      go_wp2_with fail;go_ret;exact ⟨rB (by simp), K0.o⟩
    · go_enter func173, ntmps173
      go_wp2_with fail;go_ret;exact ⟨rB (by simp), K0.o⟩
end Go.Proofs.YtgikibaajanjiaaGreatDoor
