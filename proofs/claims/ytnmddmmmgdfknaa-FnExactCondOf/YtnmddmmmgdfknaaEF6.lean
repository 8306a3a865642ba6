/- Flags that wait: what the program's functions that give them, and those given, answer. Flags that wait: flagsBehind, meantBy, and what FlagsOf, CondOf, CarryOf answer. What the program's FlagsOf, CondOf, CarryOf answer. The laws on GoodFlagOp, GoodLazy, FlagsOf, CondOf and CarryOf: of whatever arguments, their Go functions return true, and no block that was there has turned. Operations, notes and lists of operations that came in to a law: opened out of a law's argument. -/
import Derived.Test.YtnmddmmmgdfknaaEF2
import Derived.Test.YtnmddmmmgdfknaaEF5
import Derived.Test.YtnmddmmmgdfknaaEF1
import Derived.Lib.SmallJoins
import Derived.Deep.Slices
import Derived.ProofKit
import Derived.OpenShut
namespace Go.Proofs.Ytnmddmmmgdfknaa
open Go.RowKit
set_option linter.unusedVariables false
/-- a function value that tells these flags, whatever comes -/
def Wt (w : World) (v : Value) (f : Int) : Prop :=
  ∃ (n : Nat) (cap : Array Value), v = .func (.func n) #[] cap ∧ (∀ (a : Array Value) (w : World), (callFunc n a).run Try.prog w = .ok (.enter n a) w) ∧
    ∀ w', Kept 0 0 w w' → Calls Try.prog n cap w' fun e w'' => e = .returned (iv f) ∧ Kept 0 0 w' w''
theorem Wt.kept {w w' : World} {v : Value} {f : Int} (h : Wt w v f) (k : Kept 0 0 w w') : Wt w' v f := by
  obtain ⟨n, cap, hv, hf, hr⟩ := h
  exact ⟨n, cap, hv, hf, fun w2 k2 => hr w2 (k.trans k2)⟩
theorem fnw1 (a : Array Value) (w : World) : (callFunc 114 a).run Try.prog w = .ok (.enter 114 a) w := by kernel_rfl
theorem fnw2 (a : Array Value) (w : World) : (callFunc 116 a).run Try.prog w = .ok (.enter 116 a) w := by kernel_rfl
theorem fnw3 (a : Array Value) (w : World) : (callFunc 118 a).run Try.prog w = .ok (.enter 118 a) w := by kernel_rfl
theorem fnw4 (a : Array Value) (w : World) : (callFunc 120 a).run Try.prog w = .ok (.enter 120 a) w := by kernel_rfl
theorem fnw5 (a : Array Value) (w : World) : (callFunc 122 a).run Try.prog w = .ok (.enter 122 a) w := by kernel_rfl
theorem fnw0 (a : Array Value) (w : World) : (callFunc 123 a).run Try.prog w = .ok (.enter 123 a) w := by kernel_rfl
theorem known1 (w : World) (g : Nat) (f : Int) (h : Blk w g #[iv f] 3) : Calls Try.prog 123 #[.pointer (some ⟨g, 0, none⟩)] w fun e w' => e = .returned (iv f) ∧ Kept 0 0 w w' := by
  have q := h.all
  clear h
  go_enter Try.func123, Try.ntmps123
  go_wp2_with fail
  go_ret
  exact ⟨rfl, Kept.refl _ _ _⟩
theorem implKnown (w : World) (f : Int) : Calls Try.prog 78 #[iv f] w fun e w' => ∃ v, e = .returned v ∧ Wt w' v f ∧ Kept 0 0 w w' := by
  have hmf : ∀ (fn : Fn) (first cap : Array Value) (w : World), (Instr.makeFunc fn first cap).run Try.prog w = .ok (.func fn first cap) w := fun _ _ _ _ => rfl
  have B0 := hide (Blk.new w #[iv f] 3)
  go_enter Try.func78, Try.ntmps78
  go_wp2_with fail
  go_ret
  exact ⟨_, rfl, ⟨_, _, rfl, fnw0, fun w' k => known1 w' _ f (B0.out.kept0 k)⟩, kept_alloc _ _⟩
theorem behind1 (w : World) (g : Nat) (x : Pl.Fo) (h : Blk w g (foA x) 47) (hx : Pl.foOk x = true) : Calls Try.prog 114 #[.pointer (some ⟨g, 0, none⟩)] w fun e w' => e = .returned (iv (Pl.addF x.z 0 x.a x.b)) ∧ Kept 0 0 w w' := by
  obtain ⟨a0, a1, b0, b1⟩ := Pl.foOk_bd hx
  have q := h.all
  clear h hx
  go_enter Try.func114, Try.ntmps114
  go_wp2_with (go_at_call 115; refine st (addFlags x.z 0 x.a x.b _ (by omega) (by omega) (by omega) (by omega)) ?_)
  go_ret
  exact ⟨rfl, Kept.refl _ _ _⟩
theorem behind2 (w : World) (g : Nat) (x : Pl.Fo) (h : Blk w g (foA x) 47) (hx : Pl.foOk x = true) : Calls Try.prog 116 #[.pointer (some ⟨g, 0, none⟩)] w fun e w' => e = .returned (iv (Pl.subF x.z 0 x.a x.b)) ∧ Kept 0 0 w w' := by
  obtain ⟨a0, a1, b0, b1⟩ := Pl.foOk_bd hx
  have q := h.all
  clear h hx
  go_enter Try.func116, Try.ntmps116
  go_wp2_with (go_at_call 117; refine st (subFlags x.z 0 x.a x.b _ (by omega) (by omega) (by omega) (by omega)) ?_)
  go_ret
  exact ⟨rfl, Kept.refl _ _ _⟩
set_option maxRecDepth 100000 in
set_option maxHeartbeats 4000000 in
theorem behind3 (w0 w : World) (g g2 n : Nat) (cap : Array Value) (f : Int) (x : Pl.Fo) (h : Blk w g (foA x) 47) (h2 : Blk w g2 #[.func (.func n) #[] cap] 94) (hx : Pl.foOk x = true)
    (hfn : ∀ (a : Array Value) (w : World), (callFunc n a).run Try.prog w = .ok (.enter n a) w) (hk : Kept 0 0 w0 w) (hw : ∀ w', Kept 0 0 w0 w' → Calls Try.prog n cap w' fun e w'' => e = .returned (iv f) ∧ Kept 0 0 w' w'') :
    Calls Try.prog 118 #[.pointer (some ⟨g, 0, none⟩), .pointer (some ⟨g2, 0, none⟩)] w fun e w' => e = .returned (iv (Pl.cmpF x.z f x.a x.b)) ∧ Kept 0 0 w w' := by
  obtain ⟨a0, a1, b0, b1⟩ := Pl.foOk_bd hx
  have HB := hide h
  have HC := hide h2
  have HK := hide hk
  have HW := hide hw
  clear h h2 hx hk hw
  go_enter Try.func118, Try.ntmps118
  go_wp2_with fail
  refine wp_region_inv2 (fun A0 l A W => FR [6, 7, 8, 9, 10, 11, 12, 13, 14, 5, 15, 16, 3, 4] A0 A ∧ Once l 0 (A.tmps[6]? = some (.pointer (some ⟨g, 1, none⟩))) ∧ Once l 1 (A.tmps[7]? = some (iv x.z)) ∧ Once l 2 (A.tmps[8]? = some (.func (.func n) #[] cap)) ∧ Once l 3 (A.tmps[9]? = some (iv f)) ∧ Once l 4 (A.tmps[10]? = some (.pointer (some ⟨g, 2, none⟩))) ∧ Once l 5 (A.tmps[11]? = some (iv x.a)) ∧ Once l 6 (A.tmps[12]? = some (.pointer (some ⟨g, 3, none⟩))) ∧ Once l 7 (A.tmps[13]? = some (iv x.b)) ∧ Once l 8 (A.tmps[14]? = some (.tuple #[iv (Pl.cmpF x.z f x.a x.b), .bool (Pl.two x.z 0 x.a x.b && Pl.flags f)])) ∧ Once l 9 (A.tmps[5]? = some (.tuple #[iv (Pl.cmpF x.z f x.a x.b), .bool (Pl.two x.z 0 x.a x.b && Pl.flags f)])) ∧ Once l 10 (A.tmps[15]? = some (iv (Pl.cmpF x.z f x.a x.b))) ∧ Once l 11 (A.tmps[16]? = some (.bool (Pl.two x.z 0 x.a x.b && Pl.flags f))) ∧ Once l 12 (A.tmps[3]? = some (iv (Pl.cmpF x.z f x.a x.b))) ∧ Once l 13 (A.tmps[4]? = some (.bool (Pl.two x.z 0 x.a x.b && Pl.flags f))) ∧ Kept 0 0 w W) (by kernel_rfl) (by kernel_rfl) ?start ?fin ?step
  case start => exact ⟨FR.refl _ _, once_start (by decide), once_start (by decide), once_start (by decide), once_start (by decide), once_start (by decide), once_start (by decide), once_start (by decide), once_start (by decide), once_start (by decide), once_start (by decide), once_start (by decide), once_start (by decide), once_start (by decide), once_start (by decide), kept_drew (Kept.refl _ _ _)⟩
  case fin =>
    intro l A W h hl
    obtain ⟨hFR, o0, o1, o2, o3, o4, o5, o6, o7, o8, o9, o10, o11, o12, o13, hK⟩ := h
    have g12 := o12 (hl 12 (by decide))
    have QQ := hide hK
    have hc9 := hFR.chain
    simp only [List.foldl] at hc9
    rw [getD_of g12] at hc9
    clear hl hK hFR g12 o0 o1 o2 o3 o4 o5 o6 o7 o8 o9 o10 o11 o12 o13
    generalize A.tmps.getD 6 undef = s6 at hc9
    generalize A.tmps.getD 7 undef = s7 at hc9
    generalize A.tmps.getD 8 undef = s8 at hc9
    generalize A.tmps.getD 9 undef = s9 at hc9
    generalize A.tmps.getD 10 undef = s10 at hc9
    generalize A.tmps.getD 11 undef = s11 at hc9
    generalize A.tmps.getD 12 undef = s12 at hc9
    generalize A.tmps.getD 13 undef = s13 at hc9
    generalize A.tmps.getD 14 undef = s14 at hc9
    generalize A.tmps.getD 5 undef = s5 at hc9
    generalize A.tmps.getD 15 undef = s15 at hc9
    generalize A.tmps.getD 16 undef = s16 at hc9
    generalize A.tmps.getD 4 undef = s4 at hc9
    subst hc9
    go_simp
    go_wp2_with fail
    go_ret
    exact ⟨rfl, QQ.out⟩
  case step =>
    intro l A W i hI hm
    obtain ⟨hFR, o0, o1, o2, o3, o4, o5, o6, o7, o8, o9, o10, o11, o12, o13, hK⟩ := hI
    obtain ⟨hi1, hi2⟩ := ready_new hm
    have hsz : Hid (16 < A.tmps.size) := hide (by rw [hFR.size]; simp)
    have m0 : A.tmps[0]? = some (.pointer (some ⟨g, 0, none⟩)) := (hFR.out 0 (by decide)).trans rfl
    have m1 : A.tmps[1]? = some (.pointer (some ⟨g2, 0, none⟩)) := (hFR.out 1 (by decide)).trans rfl
    rcases i with _ | _ | _ | _ | _ | _ | _ | _ | _ | _ | _ | _ | _ | _ | i
    · refine wpOp_step rfl (fun KK hK2 => ?_)
      go_simp
      exact hK2 (A.put (some 6) (.pointer (some ⟨g, 1, none⟩))) _ ⟨hFR.put (by decide) _, .now (put_eq (by have hz := hsz.out; omega)), o1.past (by decide) (fun h => (put_ne (by decide)).trans h), o2.past (by decide) (fun h => (put_ne (by decide)).trans h), o3.past (by decide) (fun h => (put_ne (by decide)).trans h), o4.past (by decide) (fun h => (put_ne (by decide)).trans h), o5.past (by decide) (fun h => (put_ne (by decide)).trans h), o6.past (by decide) (fun h => (put_ne (by decide)).trans h), o7.past (by decide) (fun h => (put_ne (by decide)).trans h), o8.past (by decide) (fun h => (put_ne (by decide)).trans h), o9.past (by decide) (fun h => (put_ne (by decide)).trans h), o10.past (by decide) (fun h => (put_ne (by decide)).trans h), o11.past (by decide) (fun h => (put_ne (by decide)).trans h), o12.past (by decide) (fun h => (put_ne (by decide)).trans h), o13.past (by decide) (fun h => (put_ne (by decide)).trans h), hK⟩
    · have e0 := o0 (ready_dep hm 0 (by kernel_rfl))
      have BL := (HB.out.kept0 hK).all
      refine wpOp_step rfl (fun KK hK2 => ?_)
      go_simp
      exact hK2 (A.put (some 7) (iv x.z)) _ ⟨hFR.put (by decide) _, o0.past (by decide) (fun h => (put_ne (by decide)).trans h), .now (put_eq (by have hz := hsz.out; omega)), o2.past (by decide) (fun h => (put_ne (by decide)).trans h), o3.past (by decide) (fun h => (put_ne (by decide)).trans h), o4.past (by decide) (fun h => (put_ne (by decide)).trans h), o5.past (by decide) (fun h => (put_ne (by decide)).trans h), o6.past (by decide) (fun h => (put_ne (by decide)).trans h), o7.past (by decide) (fun h => (put_ne (by decide)).trans h), o8.past (by decide) (fun h => (put_ne (by decide)).trans h), o9.past (by decide) (fun h => (put_ne (by decide)).trans h), o10.past (by decide) (fun h => (put_ne (by decide)).trans h), o11.past (by decide) (fun h => (put_ne (by decide)).trans h), o12.past (by decide) (fun h => (put_ne (by decide)).trans h), o13.past (by decide) (fun h => (put_ne (by decide)).trans h), hK⟩
    · have CL := (HC.out.kept0 hK).all
      refine wpOp_step rfl (fun KK hK2 => ?_)
      go_simp
      exact hK2 (A.put (some 8) (.func (.func n) #[] cap)) _ ⟨hFR.put (by decide) _, o0.past (by decide) (fun h => (put_ne (by decide)).trans h), o1.past (by decide) (fun h => (put_ne (by decide)).trans h), .now (put_eq (by have hz := hsz.out; omega)), o3.past (by decide) (fun h => (put_ne (by decide)).trans h), o4.past (by decide) (fun h => (put_ne (by decide)).trans h), o5.past (by decide) (fun h => (put_ne (by decide)).trans h), o6.past (by decide) (fun h => (put_ne (by decide)).trans h), o7.past (by decide) (fun h => (put_ne (by decide)).trans h), o8.past (by decide) (fun h => (put_ne (by decide)).trans h), o9.past (by decide) (fun h => (put_ne (by decide)).trans h), o10.past (by decide) (fun h => (put_ne (by decide)).trans h), o11.past (by decide) (fun h => (put_ne (by decide)).trans h), o12.past (by decide) (fun h => (put_ne (by decide)).trans h), o13.past (by decide) (fun h => (put_ne (by decide)).trans h), hK⟩
    · have e2 := o2 (ready_dep hm 2 (by kernel_rfl))
      refine wpOp_step rfl (fun KK hK2 => ?_)
      go_simp
      refine (HW.out W ((HK.out.trans hK))).mono ?_
      rintro r9 y ⟨rfl, kd⟩
      go_simp
      exact hK2 (A.put (some 9) (iv f)) _ ⟨hFR.put (by decide) _, o0.past (by decide) (fun h => (put_ne (by decide)).trans h), o1.past (by decide) (fun h => (put_ne (by decide)).trans h), o2.past (by decide) (fun h => (put_ne (by decide)).trans h), .now (put_eq (by have hz := hsz.out; omega)), o4.past (by decide) (fun h => (put_ne (by decide)).trans h), o5.past (by decide) (fun h => (put_ne (by decide)).trans h), o6.past (by decide) (fun h => (put_ne (by decide)).trans h), o7.past (by decide) (fun h => (put_ne (by decide)).trans h), o8.past (by decide) (fun h => (put_ne (by decide)).trans h), o9.past (by decide) (fun h => (put_ne (by decide)).trans h), o10.past (by decide) (fun h => (put_ne (by decide)).trans h), o11.past (by decide) (fun h => (put_ne (by decide)).trans h), o12.past (by decide) (fun h => (put_ne (by decide)).trans h), o13.past (by decide) (fun h => (put_ne (by decide)).trans h), (hK.trans kd)⟩
    · refine wpOp_step rfl (fun KK hK2 => ?_)
      go_simp
      exact hK2 (A.put (some 10) (.pointer (some ⟨g, 2, none⟩))) _ ⟨hFR.put (by decide) _, o0.past (by decide) (fun h => (put_ne (by decide)).trans h), o1.past (by decide) (fun h => (put_ne (by decide)).trans h), o2.past (by decide) (fun h => (put_ne (by decide)).trans h), o3.past (by decide) (fun h => (put_ne (by decide)).trans h), .now (put_eq (by have hz := hsz.out; omega)), o5.past (by decide) (fun h => (put_ne (by decide)).trans h), o6.past (by decide) (fun h => (put_ne (by decide)).trans h), o7.past (by decide) (fun h => (put_ne (by decide)).trans h), o8.past (by decide) (fun h => (put_ne (by decide)).trans h), o9.past (by decide) (fun h => (put_ne (by decide)).trans h), o10.past (by decide) (fun h => (put_ne (by decide)).trans h), o11.past (by decide) (fun h => (put_ne (by decide)).trans h), o12.past (by decide) (fun h => (put_ne (by decide)).trans h), o13.past (by decide) (fun h => (put_ne (by decide)).trans h), hK⟩
    · have e4 := o4 (ready_dep hm 4 (by kernel_rfl))
      have BL := (HB.out.kept0 hK).all
      refine wpOp_step rfl (fun KK hK2 => ?_)
      go_simp
      exact hK2 (A.put (some 11) (iv x.a)) _ ⟨hFR.put (by decide) _, o0.past (by decide) (fun h => (put_ne (by decide)).trans h), o1.past (by decide) (fun h => (put_ne (by decide)).trans h), o2.past (by decide) (fun h => (put_ne (by decide)).trans h), o3.past (by decide) (fun h => (put_ne (by decide)).trans h), o4.past (by decide) (fun h => (put_ne (by decide)).trans h), .now (put_eq (by have hz := hsz.out; omega)), o6.past (by decide) (fun h => (put_ne (by decide)).trans h), o7.past (by decide) (fun h => (put_ne (by decide)).trans h), o8.past (by decide) (fun h => (put_ne (by decide)).trans h), o9.past (by decide) (fun h => (put_ne (by decide)).trans h), o10.past (by decide) (fun h => (put_ne (by decide)).trans h), o11.past (by decide) (fun h => (put_ne (by decide)).trans h), o12.past (by decide) (fun h => (put_ne (by decide)).trans h), o13.past (by decide) (fun h => (put_ne (by decide)).trans h), hK⟩
    · refine wpOp_step rfl (fun KK hK2 => ?_)
      go_simp
      exact hK2 (A.put (some 12) (.pointer (some ⟨g, 3, none⟩))) _ ⟨hFR.put (by decide) _, o0.past (by decide) (fun h => (put_ne (by decide)).trans h), o1.past (by decide) (fun h => (put_ne (by decide)).trans h), o2.past (by decide) (fun h => (put_ne (by decide)).trans h), o3.past (by decide) (fun h => (put_ne (by decide)).trans h), o4.past (by decide) (fun h => (put_ne (by decide)).trans h), o5.past (by decide) (fun h => (put_ne (by decide)).trans h), .now (put_eq (by have hz := hsz.out; omega)), o7.past (by decide) (fun h => (put_ne (by decide)).trans h), o8.past (by decide) (fun h => (put_ne (by decide)).trans h), o9.past (by decide) (fun h => (put_ne (by decide)).trans h), o10.past (by decide) (fun h => (put_ne (by decide)).trans h), o11.past (by decide) (fun h => (put_ne (by decide)).trans h), o12.past (by decide) (fun h => (put_ne (by decide)).trans h), o13.past (by decide) (fun h => (put_ne (by decide)).trans h), hK⟩
    · have e6 := o6 (ready_dep hm 6 (by kernel_rfl))
      have BL := (HB.out.kept0 hK).all
      refine wpOp_step rfl (fun KK hK2 => ?_)
      go_simp
      exact hK2 (A.put (some 13) (iv x.b)) _ ⟨hFR.put (by decide) _, o0.past (by decide) (fun h => (put_ne (by decide)).trans h), o1.past (by decide) (fun h => (put_ne (by decide)).trans h), o2.past (by decide) (fun h => (put_ne (by decide)).trans h), o3.past (by decide) (fun h => (put_ne (by decide)).trans h), o4.past (by decide) (fun h => (put_ne (by decide)).trans h), o5.past (by decide) (fun h => (put_ne (by decide)).trans h), o6.past (by decide) (fun h => (put_ne (by decide)).trans h), .now (put_eq (by have hz := hsz.out; omega)), o8.past (by decide) (fun h => (put_ne (by decide)).trans h), o9.past (by decide) (fun h => (put_ne (by decide)).trans h), o10.past (by decide) (fun h => (put_ne (by decide)).trans h), o11.past (by decide) (fun h => (put_ne (by decide)).trans h), o12.past (by decide) (fun h => (put_ne (by decide)).trans h), o13.past (by decide) (fun h => (put_ne (by decide)).trans h), hK⟩
    · have e1 := o1 (ready_dep hm 1 (by kernel_rfl))
      have e3 := o3 (ready_dep hm 3 (by kernel_rfl))
      have e5 := o5 (ready_dep hm 5 (by kernel_rfl))
      have e7 := o7 (ready_dep hm 7 (by kernel_rfl))
      refine wpOp_step rfl (fun KK hK2 => ?_)
      go_simp
      refine st (cmpFlags x.z f x.a x.b _ (by omega) (by omega) (by omega) (by omega)) ?_
      go_simp
      exact hK2 (A.put (some 14) (.tuple #[iv (Pl.cmpF x.z f x.a x.b), .bool (Pl.two x.z 0 x.a x.b && Pl.flags f)])) _ ⟨hFR.put (by decide) _, o0.past (by decide) (fun h => (put_ne (by decide)).trans h), o1.past (by decide) (fun h => (put_ne (by decide)).trans h), o2.past (by decide) (fun h => (put_ne (by decide)).trans h), o3.past (by decide) (fun h => (put_ne (by decide)).trans h), o4.past (by decide) (fun h => (put_ne (by decide)).trans h), o5.past (by decide) (fun h => (put_ne (by decide)).trans h), o6.past (by decide) (fun h => (put_ne (by decide)).trans h), o7.past (by decide) (fun h => (put_ne (by decide)).trans h), .now (put_eq (by have hz := hsz.out; omega)), o9.past (by decide) (fun h => (put_ne (by decide)).trans h), o10.past (by decide) (fun h => (put_ne (by decide)).trans h), o11.past (by decide) (fun h => (put_ne (by decide)).trans h), o12.past (by decide) (fun h => (put_ne (by decide)).trans h), o13.past (by decide) (fun h => (put_ne (by decide)).trans h), hK⟩
    · have e8 := o8 (ready_dep hm 8 (by kernel_rfl))
      refine wpOp_step rfl (fun KK hK2 => ?_)
      go_simp
      exact hK2 (A.put (some 5) (.tuple #[iv (Pl.cmpF x.z f x.a x.b), .bool (Pl.two x.z 0 x.a x.b && Pl.flags f)])) _ ⟨hFR.put (by decide) _, o0.past (by decide) (fun h => (put_ne (by decide)).trans h), o1.past (by decide) (fun h => (put_ne (by decide)).trans h), o2.past (by decide) (fun h => (put_ne (by decide)).trans h), o3.past (by decide) (fun h => (put_ne (by decide)).trans h), o4.past (by decide) (fun h => (put_ne (by decide)).trans h), o5.past (by decide) (fun h => (put_ne (by decide)).trans h), o6.past (by decide) (fun h => (put_ne (by decide)).trans h), o7.past (by decide) (fun h => (put_ne (by decide)).trans h), o8.past (by decide) (fun h => (put_ne (by decide)).trans h), .now (put_eq (by have hz := hsz.out; omega)), o10.past (by decide) (fun h => (put_ne (by decide)).trans h), o11.past (by decide) (fun h => (put_ne (by decide)).trans h), o12.past (by decide) (fun h => (put_ne (by decide)).trans h), o13.past (by decide) (fun h => (put_ne (by decide)).trans h), hK⟩
    · have e9 := o9 (ready_dep hm 9 (by kernel_rfl))
      refine wpOp_step rfl (fun KK hK2 => ?_)
      go_simp
      exact hK2 (A.put (some 15) (iv (Pl.cmpF x.z f x.a x.b))) _ ⟨hFR.put (by decide) _, o0.past (by decide) (fun h => (put_ne (by decide)).trans h), o1.past (by decide) (fun h => (put_ne (by decide)).trans h), o2.past (by decide) (fun h => (put_ne (by decide)).trans h), o3.past (by decide) (fun h => (put_ne (by decide)).trans h), o4.past (by decide) (fun h => (put_ne (by decide)).trans h), o5.past (by decide) (fun h => (put_ne (by decide)).trans h), o6.past (by decide) (fun h => (put_ne (by decide)).trans h), o7.past (by decide) (fun h => (put_ne (by decide)).trans h), o8.past (by decide) (fun h => (put_ne (by decide)).trans h), o9.past (by decide) (fun h => (put_ne (by decide)).trans h), .now (put_eq (by have hz := hsz.out; omega)), o11.past (by decide) (fun h => (put_ne (by decide)).trans h), o12.past (by decide) (fun h => (put_ne (by decide)).trans h), o13.past (by decide) (fun h => (put_ne (by decide)).trans h), hK⟩
    · have e9 := o9 (ready_dep hm 9 (by kernel_rfl))
      refine wpOp_step rfl (fun KK hK2 => ?_)
      go_simp
      exact hK2 (A.put (some 16) (.bool (Pl.two x.z 0 x.a x.b && Pl.flags f))) _ ⟨hFR.put (by decide) _, o0.past (by decide) (fun h => (put_ne (by decide)).trans h), o1.past (by decide) (fun h => (put_ne (by decide)).trans h), o2.past (by decide) (fun h => (put_ne (by decide)).trans h), o3.past (by decide) (fun h => (put_ne (by decide)).trans h), o4.past (by decide) (fun h => (put_ne (by decide)).trans h), o5.past (by decide) (fun h => (put_ne (by decide)).trans h), o6.past (by decide) (fun h => (put_ne (by decide)).trans h), o7.past (by decide) (fun h => (put_ne (by decide)).trans h), o8.past (by decide) (fun h => (put_ne (by decide)).trans h), o9.past (by decide) (fun h => (put_ne (by decide)).trans h), o10.past (by decide) (fun h => (put_ne (by decide)).trans h), .now (put_eq (by have hz := hsz.out; omega)), o12.past (by decide) (fun h => (put_ne (by decide)).trans h), o13.past (by decide) (fun h => (put_ne (by decide)).trans h), hK⟩
    · have e10 := o10 (ready_dep hm 10 (by kernel_rfl))
      refine wpOp_step rfl (fun KK hK2 => ?_)
      go_simp
      exact hK2 (A.put (some 3) (iv (Pl.cmpF x.z f x.a x.b))) _ ⟨hFR.put (by decide) _, o0.past (by decide) (fun h => (put_ne (by decide)).trans h), o1.past (by decide) (fun h => (put_ne (by decide)).trans h), o2.past (by decide) (fun h => (put_ne (by decide)).trans h), o3.past (by decide) (fun h => (put_ne (by decide)).trans h), o4.past (by decide) (fun h => (put_ne (by decide)).trans h), o5.past (by decide) (fun h => (put_ne (by decide)).trans h), o6.past (by decide) (fun h => (put_ne (by decide)).trans h), o7.past (by decide) (fun h => (put_ne (by decide)).trans h), o8.past (by decide) (fun h => (put_ne (by decide)).trans h), o9.past (by decide) (fun h => (put_ne (by decide)).trans h), o10.past (by decide) (fun h => (put_ne (by decide)).trans h), o11.past (by decide) (fun h => (put_ne (by decide)).trans h), .now (put_eq (by have hz := hsz.out; omega)), o13.past (by decide) (fun h => (put_ne (by decide)).trans h), hK⟩
    · have e11 := o11 (ready_dep hm 11 (by kernel_rfl))
      refine wpOp_step rfl (fun KK hK2 => ?_)
      go_simp
      exact hK2 (A.put (some 4) (.bool (Pl.two x.z 0 x.a x.b && Pl.flags f))) _ ⟨hFR.put (by decide) _, o0.past (by decide) (fun h => (put_ne (by decide)).trans h), o1.past (by decide) (fun h => (put_ne (by decide)).trans h), o2.past (by decide) (fun h => (put_ne (by decide)).trans h), o3.past (by decide) (fun h => (put_ne (by decide)).trans h), o4.past (by decide) (fun h => (put_ne (by decide)).trans h), o5.past (by decide) (fun h => (put_ne (by decide)).trans h), o6.past (by decide) (fun h => (put_ne (by decide)).trans h), o7.past (by decide) (fun h => (put_ne (by decide)).trans h), o8.past (by decide) (fun h => (put_ne (by decide)).trans h), o9.past (by decide) (fun h => (put_ne (by decide)).trans h), o10.past (by decide) (fun h => (put_ne (by decide)).trans h), o11.past (by decide) (fun h => (put_ne (by decide)).trans h), o12.past (by decide) (fun h => (put_ne (by decide)).trans h), .now (put_eq (by have hz := hsz.out; omega)), hK⟩
    · simp at hi1
      omega
set_option maxRecDepth 100000 in
set_option maxHeartbeats 4000000 in
theorem behind4 (w0 w : World) (g g2 n : Nat) (cap : Array Value) (f : Int) (x : Pl.Fo) (h : Blk w g (foA x) 47) (h2 : Blk w g2 #[.func (.func n) #[] cap] 94) (hx : Pl.foOk x = true)
    (hfn : ∀ (a : Array Value) (w : World), (callFunc n a).run Try.prog w = .ok (.enter n a) w) (hk : Kept 0 0 w0 w) (hw : ∀ w', Kept 0 0 w0 w' → Calls Try.prog n cap w' fun e w'' => e = .returned (iv f) ∧ Kept 0 0 w' w'') :
    Calls Try.prog 120 #[.pointer (some ⟨g, 0, none⟩), .pointer (some ⟨g2, 0, none⟩)] w fun e w' => e = .returned (iv (Pl.logF x.z f x.a)) ∧ Kept 0 0 w w' := by
  obtain ⟨a0, a1, b0, b1⟩ := Pl.foOk_bd hx
  have HB := hide h
  have HC := hide h2
  have HK := hide hk
  have HW := hide hw
  clear h h2 hx hk hw
  go_enter Try.func120, Try.ntmps120
  go_wp2_with fail
  refine wp_region_inv2 (fun A0 l A W => FR [6, 7, 8, 9, 10, 11, 12, 5, 13, 14, 3, 4] A0 A ∧ Once l 0 (A.tmps[6]? = some (.pointer (some ⟨g, 1, none⟩))) ∧ Once l 1 (A.tmps[7]? = some (iv x.z)) ∧ Once l 2 (A.tmps[8]? = some (.func (.func n) #[] cap)) ∧ Once l 3 (A.tmps[9]? = some (iv f)) ∧ Once l 4 (A.tmps[10]? = some (.pointer (some ⟨g, 2, none⟩))) ∧ Once l 5 (A.tmps[11]? = some (iv x.a)) ∧ Once l 6 (A.tmps[12]? = some (.tuple #[iv (Pl.logF x.z f x.a), .bool (Pl.okv x.z x.a && Pl.flags f)])) ∧ Once l 7 (A.tmps[5]? = some (.tuple #[iv (Pl.logF x.z f x.a), .bool (Pl.okv x.z x.a && Pl.flags f)])) ∧ Once l 8 (A.tmps[13]? = some (iv (Pl.logF x.z f x.a))) ∧ Once l 9 (A.tmps[14]? = some (.bool (Pl.okv x.z x.a && Pl.flags f))) ∧ Once l 10 (A.tmps[3]? = some (iv (Pl.logF x.z f x.a))) ∧ Once l 11 (A.tmps[4]? = some (.bool (Pl.okv x.z x.a && Pl.flags f))) ∧ Kept 0 0 w W) (by kernel_rfl) (by kernel_rfl) ?start ?fin ?step
  case start => exact ⟨FR.refl _ _, once_start (by decide), once_start (by decide), once_start (by decide), once_start (by decide), once_start (by decide), once_start (by decide), once_start (by decide), once_start (by decide), once_start (by decide), once_start (by decide), once_start (by decide), once_start (by decide), kept_drew (Kept.refl _ _ _)⟩
  case fin =>
    intro l A W h hl
    obtain ⟨hFR, o0, o1, o2, o3, o4, o5, o6, o7, o8, o9, o10, o11, hK⟩ := h
    have g10 := o10 (hl 10 (by decide))
    have QQ := hide hK
    have hc9 := hFR.chain
    simp only [List.foldl] at hc9
    rw [getD_of g10] at hc9
    clear hl hK hFR g10 o0 o1 o2 o3 o4 o5 o6 o7 o8 o9 o10 o11
    generalize A.tmps.getD 6 undef = s6 at hc9
    generalize A.tmps.getD 7 undef = s7 at hc9
    generalize A.tmps.getD 8 undef = s8 at hc9
    generalize A.tmps.getD 9 undef = s9 at hc9
    generalize A.tmps.getD 10 undef = s10 at hc9
    generalize A.tmps.getD 11 undef = s11 at hc9
    generalize A.tmps.getD 12 undef = s12 at hc9
    generalize A.tmps.getD 5 undef = s5 at hc9
    generalize A.tmps.getD 13 undef = s13 at hc9
    generalize A.tmps.getD 14 undef = s14 at hc9
    generalize A.tmps.getD 4 undef = s4 at hc9
    subst hc9
    go_simp
    go_wp2_with fail
    go_ret
    exact ⟨rfl, QQ.out⟩
  case step =>
    intro l A W i hI hm
    obtain ⟨hFR, o0, o1, o2, o3, o4, o5, o6, o7, o8, o9, o10, o11, hK⟩ := hI
    obtain ⟨hi1, hi2⟩ := ready_new hm
    have hsz : Hid (14 < A.tmps.size) := hide (by rw [hFR.size]; simp)
    have m0 : A.tmps[0]? = some (.pointer (some ⟨g, 0, none⟩)) := (hFR.out 0 (by decide)).trans rfl
    have m1 : A.tmps[1]? = some (.pointer (some ⟨g2, 0, none⟩)) := (hFR.out 1 (by decide)).trans rfl
    rcases i with _ | _ | _ | _ | _ | _ | _ | _ | _ | _ | _ | _ | i
    · refine wpOp_step rfl (fun KK hK2 => ?_)
      go_simp
      exact hK2 (A.put (some 6) (.pointer (some ⟨g, 1, none⟩))) _ ⟨hFR.put (by decide) _, .now (put_eq (by have hz := hsz.out; omega)), o1.past (by decide) (fun h => (put_ne (by decide)).trans h), o2.past (by decide) (fun h => (put_ne (by decide)).trans h), o3.past (by decide) (fun h => (put_ne (by decide)).trans h), o4.past (by decide) (fun h => (put_ne (by decide)).trans h), o5.past (by decide) (fun h => (put_ne (by decide)).trans h), o6.past (by decide) (fun h => (put_ne (by decide)).trans h), o7.past (by decide) (fun h => (put_ne (by decide)).trans h), o8.past (by decide) (fun h => (put_ne (by decide)).trans h), o9.past (by decide) (fun h => (put_ne (by decide)).trans h), o10.past (by decide) (fun h => (put_ne (by decide)).trans h), o11.past (by decide) (fun h => (put_ne (by decide)).trans h), hK⟩
    · have e0 := o0 (ready_dep hm 0 (by kernel_rfl))
      have BL := (HB.out.kept0 hK).all
      refine wpOp_step rfl (fun KK hK2 => ?_)
      go_simp
      exact hK2 (A.put (some 7) (iv x.z)) _ ⟨hFR.put (by decide) _, o0.past (by decide) (fun h => (put_ne (by decide)).trans h), .now (put_eq (by have hz := hsz.out; omega)), o2.past (by decide) (fun h => (put_ne (by decide)).trans h), o3.past (by decide) (fun h => (put_ne (by decide)).trans h), o4.past (by decide) (fun h => (put_ne (by decide)).trans h), o5.past (by decide) (fun h => (put_ne (by decide)).trans h), o6.past (by decide) (fun h => (put_ne (by decide)).trans h), o7.past (by decide) (fun h => (put_ne (by decide)).trans h), o8.past (by decide) (fun h => (put_ne (by decide)).trans h), o9.past (by decide) (fun h => (put_ne (by decide)).trans h), o10.past (by decide) (fun h => (put_ne (by decide)).trans h), o11.past (by decide) (fun h => (put_ne (by decide)).trans h), hK⟩
    · have CL := (HC.out.kept0 hK).all
      refine wpOp_step rfl (fun KK hK2 => ?_)
      go_simp
      exact hK2 (A.put (some 8) (.func (.func n) #[] cap)) _ ⟨hFR.put (by decide) _, o0.past (by decide) (fun h => (put_ne (by decide)).trans h), o1.past (by decide) (fun h => (put_ne (by decide)).trans h), .now (put_eq (by have hz := hsz.out; omega)), o3.past (by decide) (fun h => (put_ne (by decide)).trans h), o4.past (by decide) (fun h => (put_ne (by decide)).trans h), o5.past (by decide) (fun h => (put_ne (by decide)).trans h), o6.past (by decide) (fun h => (put_ne (by decide)).trans h), o7.past (by decide) (fun h => (put_ne (by decide)).trans h), o8.past (by decide) (fun h => (put_ne (by decide)).trans h), o9.past (by decide) (fun h => (put_ne (by decide)).trans h), o10.past (by decide) (fun h => (put_ne (by decide)).trans h), o11.past (by decide) (fun h => (put_ne (by decide)).trans h), hK⟩
    · have e2 := o2 (ready_dep hm 2 (by kernel_rfl))
      refine wpOp_step rfl (fun KK hK2 => ?_)
      go_simp
      refine (HW.out W ((HK.out.trans hK))).mono ?_
      rintro r9 y ⟨rfl, kd⟩
      go_simp
      exact hK2 (A.put (some 9) (iv f)) _ ⟨hFR.put (by decide) _, o0.past (by decide) (fun h => (put_ne (by decide)).trans h), o1.past (by decide) (fun h => (put_ne (by decide)).trans h), o2.past (by decide) (fun h => (put_ne (by decide)).trans h), .now (put_eq (by have hz := hsz.out; omega)), o4.past (by decide) (fun h => (put_ne (by decide)).trans h), o5.past (by decide) (fun h => (put_ne (by decide)).trans h), o6.past (by decide) (fun h => (put_ne (by decide)).trans h), o7.past (by decide) (fun h => (put_ne (by decide)).trans h), o8.past (by decide) (fun h => (put_ne (by decide)).trans h), o9.past (by decide) (fun h => (put_ne (by decide)).trans h), o10.past (by decide) (fun h => (put_ne (by decide)).trans h), o11.past (by decide) (fun h => (put_ne (by decide)).trans h), (hK.trans kd)⟩
    · refine wpOp_step rfl (fun KK hK2 => ?_)
      go_simp
      exact hK2 (A.put (some 10) (.pointer (some ⟨g, 2, none⟩))) _ ⟨hFR.put (by decide) _, o0.past (by decide) (fun h => (put_ne (by decide)).trans h), o1.past (by decide) (fun h => (put_ne (by decide)).trans h), o2.past (by decide) (fun h => (put_ne (by decide)).trans h), o3.past (by decide) (fun h => (put_ne (by decide)).trans h), .now (put_eq (by have hz := hsz.out; omega)), o5.past (by decide) (fun h => (put_ne (by decide)).trans h), o6.past (by decide) (fun h => (put_ne (by decide)).trans h), o7.past (by decide) (fun h => (put_ne (by decide)).trans h), o8.past (by decide) (fun h => (put_ne (by decide)).trans h), o9.past (by decide) (fun h => (put_ne (by decide)).trans h), o10.past (by decide) (fun h => (put_ne (by decide)).trans h), o11.past (by decide) (fun h => (put_ne (by decide)).trans h), hK⟩
    · have e4 := o4 (ready_dep hm 4 (by kernel_rfl))
      have BL := (HB.out.kept0 hK).all
      refine wpOp_step rfl (fun KK hK2 => ?_)
      go_simp
      exact hK2 (A.put (some 11) (iv x.a)) _ ⟨hFR.put (by decide) _, o0.past (by decide) (fun h => (put_ne (by decide)).trans h), o1.past (by decide) (fun h => (put_ne (by decide)).trans h), o2.past (by decide) (fun h => (put_ne (by decide)).trans h), o3.past (by decide) (fun h => (put_ne (by decide)).trans h), o4.past (by decide) (fun h => (put_ne (by decide)).trans h), .now (put_eq (by have hz := hsz.out; omega)), o6.past (by decide) (fun h => (put_ne (by decide)).trans h), o7.past (by decide) (fun h => (put_ne (by decide)).trans h), o8.past (by decide) (fun h => (put_ne (by decide)).trans h), o9.past (by decide) (fun h => (put_ne (by decide)).trans h), o10.past (by decide) (fun h => (put_ne (by decide)).trans h), o11.past (by decide) (fun h => (put_ne (by decide)).trans h), hK⟩
    · have e1 := o1 (ready_dep hm 1 (by kernel_rfl))
      have e3 := o3 (ready_dep hm 3 (by kernel_rfl))
      have e5 := o5 (ready_dep hm 5 (by kernel_rfl))
      refine wpOp_step rfl (fun KK hK2 => ?_)
      go_simp
      refine st (logicFlags x.z f x.a _ (by omega) (by omega)) ?_
      go_simp
      exact hK2 (A.put (some 12) (.tuple #[iv (Pl.logF x.z f x.a), .bool (Pl.okv x.z x.a && Pl.flags f)])) _ ⟨hFR.put (by decide) _, o0.past (by decide) (fun h => (put_ne (by decide)).trans h), o1.past (by decide) (fun h => (put_ne (by decide)).trans h), o2.past (by decide) (fun h => (put_ne (by decide)).trans h), o3.past (by decide) (fun h => (put_ne (by decide)).trans h), o4.past (by decide) (fun h => (put_ne (by decide)).trans h), o5.past (by decide) (fun h => (put_ne (by decide)).trans h), .now (put_eq (by have hz := hsz.out; omega)), o7.past (by decide) (fun h => (put_ne (by decide)).trans h), o8.past (by decide) (fun h => (put_ne (by decide)).trans h), o9.past (by decide) (fun h => (put_ne (by decide)).trans h), o10.past (by decide) (fun h => (put_ne (by decide)).trans h), o11.past (by decide) (fun h => (put_ne (by decide)).trans h), hK⟩
    · have e6 := o6 (ready_dep hm 6 (by kernel_rfl))
      refine wpOp_step rfl (fun KK hK2 => ?_)
      go_simp
      exact hK2 (A.put (some 5) (.tuple #[iv (Pl.logF x.z f x.a), .bool (Pl.okv x.z x.a && Pl.flags f)])) _ ⟨hFR.put (by decide) _, o0.past (by decide) (fun h => (put_ne (by decide)).trans h), o1.past (by decide) (fun h => (put_ne (by decide)).trans h), o2.past (by decide) (fun h => (put_ne (by decide)).trans h), o3.past (by decide) (fun h => (put_ne (by decide)).trans h), o4.past (by decide) (fun h => (put_ne (by decide)).trans h), o5.past (by decide) (fun h => (put_ne (by decide)).trans h), o6.past (by decide) (fun h => (put_ne (by decide)).trans h), .now (put_eq (by have hz := hsz.out; omega)), o8.past (by decide) (fun h => (put_ne (by decide)).trans h), o9.past (by decide) (fun h => (put_ne (by decide)).trans h), o10.past (by decide) (fun h => (put_ne (by decide)).trans h), o11.past (by decide) (fun h => (put_ne (by decide)).trans h), hK⟩
    · have e7 := o7 (ready_dep hm 7 (by kernel_rfl))
      refine wpOp_step rfl (fun KK hK2 => ?_)
      go_simp
      exact hK2 (A.put (some 13) (iv (Pl.logF x.z f x.a))) _ ⟨hFR.put (by decide) _, o0.past (by decide) (fun h => (put_ne (by decide)).trans h), o1.past (by decide) (fun h => (put_ne (by decide)).trans h), o2.past (by decide) (fun h => (put_ne (by decide)).trans h), o3.past (by decide) (fun h => (put_ne (by decide)).trans h), o4.past (by decide) (fun h => (put_ne (by decide)).trans h), o5.past (by decide) (fun h => (put_ne (by decide)).trans h), o6.past (by decide) (fun h => (put_ne (by decide)).trans h), o7.past (by decide) (fun h => (put_ne (by decide)).trans h), .now (put_eq (by have hz := hsz.out; omega)), o9.past (by decide) (fun h => (put_ne (by decide)).trans h), o10.past (by decide) (fun h => (put_ne (by decide)).trans h), o11.past (by decide) (fun h => (put_ne (by decide)).trans h), hK⟩
    · have e7 := o7 (ready_dep hm 7 (by kernel_rfl))
      refine wpOp_step rfl (fun KK hK2 => ?_)
      go_simp
      exact hK2 (A.put (some 14) (.bool (Pl.okv x.z x.a && Pl.flags f))) _ ⟨hFR.put (by decide) _, o0.past (by decide) (fun h => (put_ne (by decide)).trans h), o1.past (by decide) (fun h => (put_ne (by decide)).trans h), o2.past (by decide) (fun h => (put_ne (by decide)).trans h), o3.past (by decide) (fun h => (put_ne (by decide)).trans h), o4.past (by decide) (fun h => (put_ne (by decide)).trans h), o5.past (by decide) (fun h => (put_ne (by decide)).trans h), o6.past (by decide) (fun h => (put_ne (by decide)).trans h), o7.past (by decide) (fun h => (put_ne (by decide)).trans h), o8.past (by decide) (fun h => (put_ne (by decide)).trans h), .now (put_eq (by have hz := hsz.out; omega)), o10.past (by decide) (fun h => (put_ne (by decide)).trans h), o11.past (by decide) (fun h => (put_ne (by decide)).trans h), hK⟩
    · have e8 := o8 (ready_dep hm 8 (by kernel_rfl))
      refine wpOp_step rfl (fun KK hK2 => ?_)
      go_simp
      exact hK2 (A.put (some 3) (iv (Pl.logF x.z f x.a))) _ ⟨hFR.put (by decide) _, o0.past (by decide) (fun h => (put_ne (by decide)).trans h), o1.past (by decide) (fun h => (put_ne (by decide)).trans h), o2.past (by decide) (fun h => (put_ne (by decide)).trans h), o3.past (by decide) (fun h => (put_ne (by decide)).trans h), o4.past (by decide) (fun h => (put_ne (by decide)).trans h), o5.past (by decide) (fun h => (put_ne (by decide)).trans h), o6.past (by decide) (fun h => (put_ne (by decide)).trans h), o7.past (by decide) (fun h => (put_ne (by decide)).trans h), o8.past (by decide) (fun h => (put_ne (by decide)).trans h), o9.past (by decide) (fun h => (put_ne (by decide)).trans h), .now (put_eq (by have hz := hsz.out; omega)), o11.past (by decide) (fun h => (put_ne (by decide)).trans h), hK⟩
    · have e9 := o9 (ready_dep hm 9 (by kernel_rfl))
      refine wpOp_step rfl (fun KK hK2 => ?_)
      go_simp
      exact hK2 (A.put (some 4) (.bool (Pl.okv x.z x.a && Pl.flags f))) _ ⟨hFR.put (by decide) _, o0.past (by decide) (fun h => (put_ne (by decide)).trans h), o1.past (by decide) (fun h => (put_ne (by decide)).trans h), o2.past (by decide) (fun h => (put_ne (by decide)).trans h), o3.past (by decide) (fun h => (put_ne (by decide)).trans h), o4.past (by decide) (fun h => (put_ne (by decide)).trans h), o5.past (by decide) (fun h => (put_ne (by decide)).trans h), o6.past (by decide) (fun h => (put_ne (by decide)).trans h), o7.past (by decide) (fun h => (put_ne (by decide)).trans h), o8.past (by decide) (fun h => (put_ne (by decide)).trans h), o9.past (by decide) (fun h => (put_ne (by decide)).trans h), o10.past (by decide) (fun h => (put_ne (by decide)).trans h), .now (put_eq (by have hz := hsz.out; omega)), hK⟩
    · simp at hi1
      omega
set_option maxRecDepth 100000 in
set_option maxHeartbeats 4000000 in
theorem behind5 (w0 w : World) (g g2 n : Nat) (cap : Array Value) (f : Int) (x : Pl.Fo) (h : Blk w g (foA x) 47) (h2 : Blk w g2 #[.func (.func n) #[] cap] 94) (hx : Pl.foOk x = true)
    (hfn : ∀ (a : Array Value) (w : World), (callFunc n a).run Try.prog w = .ok (.enter n a) w) (hk : Kept 0 0 w0 w) (hw : ∀ w', Kept 0 0 w0 w' → Calls Try.prog n cap w' fun e w'' => e = .returned (iv f) ∧ Kept 0 0 w' w'') :
    Calls Try.prog 122 #[.pointer (some ⟨g, 0, none⟩), .pointer (some ⟨g2, 0, none⟩)] w fun e w' => e = .returned (iv (Pl.onceF 4 x.z f x.a)) ∧ Kept 0 0 w w' := by
  obtain ⟨a0, a1, b0, b1⟩ := Pl.foOk_bd hx
  have HB := hide h
  have HC := hide h2
  have HK := hide hk
  have HW := hide hw
  clear h h2 hx hk hw
  go_enter Try.func122, Try.ntmps122
  go_wp2_with fail
  refine wp_region_inv2 (fun A0 l A W => FR [7, 8, 9, 10, 11, 12, 13, 6, 14, 15, 16, 3, 4, 5] A0 A ∧ Once l 0 (A.tmps[7]? = some (.pointer (some ⟨g, 1, none⟩))) ∧ Once l 1 (A.tmps[8]? = some (iv x.z)) ∧ Once l 2 (A.tmps[9]? = some (.func (.func n) #[] cap)) ∧ Once l 3 (A.tmps[10]? = some (iv f)) ∧ Once l 4 (A.tmps[11]? = some (.pointer (some ⟨g, 2, none⟩))) ∧ Once l 5 (A.tmps[12]? = some (iv x.a)) ∧ Once l 6 (A.tmps[13]? = some (.tuple #[iv (Pl.onceV 4 x.z f x.a), iv (Pl.onceF 4 x.z f x.a), .bool (Pl.goodK 4 x.z f x.a)])) ∧ Once l 7 (A.tmps[6]? = some (.tuple #[iv (Pl.onceV 4 x.z f x.a), iv (Pl.onceF 4 x.z f x.a), .bool (Pl.goodK 4 x.z f x.a)])) ∧ Once l 8 (A.tmps[14]? = some (iv (Pl.onceV 4 x.z f x.a))) ∧ Once l 9 (A.tmps[15]? = some (iv (Pl.onceF 4 x.z f x.a))) ∧ Once l 10 (A.tmps[16]? = some (.bool (Pl.goodK 4 x.z f x.a))) ∧ Once l 11 (A.tmps[3]? = some (iv (Pl.onceV 4 x.z f x.a))) ∧ Once l 12 (A.tmps[4]? = some (iv (Pl.onceF 4 x.z f x.a))) ∧ Once l 13 (A.tmps[5]? = some (.bool (Pl.goodK 4 x.z f x.a))) ∧ Kept 0 0 w W) (by kernel_rfl) (by kernel_rfl) ?start ?fin ?step
  case start => exact ⟨FR.refl _ _, once_start (by decide), once_start (by decide), once_start (by decide), once_start (by decide), once_start (by decide), once_start (by decide), once_start (by decide), once_start (by decide), once_start (by decide), once_start (by decide), once_start (by decide), once_start (by decide), once_start (by decide), once_start (by decide), kept_drew (Kept.refl _ _ _)⟩
  case fin =>
    intro l A W h hl
    obtain ⟨hFR, o0, o1, o2, o3, o4, o5, o6, o7, o8, o9, o10, o11, o12, o13, hK⟩ := h
    have g12 := o12 (hl 12 (by decide))
    have QQ := hide hK
    have hc9 := hFR.chain
    simp only [List.foldl] at hc9
    rw [getD_of g12] at hc9
    clear hl hK hFR g12 o0 o1 o2 o3 o4 o5 o6 o7 o8 o9 o10 o11 o12 o13
    generalize A.tmps.getD 7 undef = s7 at hc9
    generalize A.tmps.getD 8 undef = s8 at hc9
    generalize A.tmps.getD 9 undef = s9 at hc9
    generalize A.tmps.getD 10 undef = s10 at hc9
    generalize A.tmps.getD 11 undef = s11 at hc9
    generalize A.tmps.getD 12 undef = s12 at hc9
    generalize A.tmps.getD 13 undef = s13 at hc9
    generalize A.tmps.getD 6 undef = s6 at hc9
    generalize A.tmps.getD 14 undef = s14 at hc9
    generalize A.tmps.getD 15 undef = s15 at hc9
    generalize A.tmps.getD 16 undef = s16 at hc9
    generalize A.tmps.getD 3 undef = s3 at hc9
    generalize A.tmps.getD 5 undef = s5 at hc9
    subst hc9
    go_simp
    go_wp2_with fail
    go_ret
    exact ⟨rfl, QQ.out⟩
  case step =>
    intro l A W i hI hm
    obtain ⟨hFR, o0, o1, o2, o3, o4, o5, o6, o7, o8, o9, o10, o11, o12, o13, hK⟩ := hI
    obtain ⟨hi1, hi2⟩ := ready_new hm
    have hsz : Hid (16 < A.tmps.size) := hide (by rw [hFR.size]; simp)
    have m0 : A.tmps[0]? = some (.pointer (some ⟨g, 0, none⟩)) := (hFR.out 0 (by decide)).trans rfl
    have m1 : A.tmps[1]? = some (.pointer (some ⟨g2, 0, none⟩)) := (hFR.out 1 (by decide)).trans rfl
    rcases i with _ | _ | _ | _ | _ | _ | _ | _ | _ | _ | _ | _ | _ | _ | i
    · refine wpOp_step rfl (fun KK hK2 => ?_)
      go_simp
      exact hK2 (A.put (some 7) (.pointer (some ⟨g, 1, none⟩))) _ ⟨hFR.put (by decide) _, .now (put_eq (by have hz := hsz.out; omega)), o1.past (by decide) (fun h => (put_ne (by decide)).trans h), o2.past (by decide) (fun h => (put_ne (by decide)).trans h), o3.past (by decide) (fun h => (put_ne (by decide)).trans h), o4.past (by decide) (fun h => (put_ne (by decide)).trans h), o5.past (by decide) (fun h => (put_ne (by decide)).trans h), o6.past (by decide) (fun h => (put_ne (by decide)).trans h), o7.past (by decide) (fun h => (put_ne (by decide)).trans h), o8.past (by decide) (fun h => (put_ne (by decide)).trans h), o9.past (by decide) (fun h => (put_ne (by decide)).trans h), o10.past (by decide) (fun h => (put_ne (by decide)).trans h), o11.past (by decide) (fun h => (put_ne (by decide)).trans h), o12.past (by decide) (fun h => (put_ne (by decide)).trans h), o13.past (by decide) (fun h => (put_ne (by decide)).trans h), hK⟩
    · have e0 := o0 (ready_dep hm 0 (by kernel_rfl))
      have BL := (HB.out.kept0 hK).all
      refine wpOp_step rfl (fun KK hK2 => ?_)
      go_simp
      exact hK2 (A.put (some 8) (iv x.z)) _ ⟨hFR.put (by decide) _, o0.past (by decide) (fun h => (put_ne (by decide)).trans h), .now (put_eq (by have hz := hsz.out; omega)), o2.past (by decide) (fun h => (put_ne (by decide)).trans h), o3.past (by decide) (fun h => (put_ne (by decide)).trans h), o4.past (by decide) (fun h => (put_ne (by decide)).trans h), o5.past (by decide) (fun h => (put_ne (by decide)).trans h), o6.past (by decide) (fun h => (put_ne (by decide)).trans h), o7.past (by decide) (fun h => (put_ne (by decide)).trans h), o8.past (by decide) (fun h => (put_ne (by decide)).trans h), o9.past (by decide) (fun h => (put_ne (by decide)).trans h), o10.past (by decide) (fun h => (put_ne (by decide)).trans h), o11.past (by decide) (fun h => (put_ne (by decide)).trans h), o12.past (by decide) (fun h => (put_ne (by decide)).trans h), o13.past (by decide) (fun h => (put_ne (by decide)).trans h), hK⟩
    · have CL := (HC.out.kept0 hK).all
      refine wpOp_step rfl (fun KK hK2 => ?_)
      go_simp
      exact hK2 (A.put (some 9) (.func (.func n) #[] cap)) _ ⟨hFR.put (by decide) _, o0.past (by decide) (fun h => (put_ne (by decide)).trans h), o1.past (by decide) (fun h => (put_ne (by decide)).trans h), .now (put_eq (by have hz := hsz.out; omega)), o3.past (by decide) (fun h => (put_ne (by decide)).trans h), o4.past (by decide) (fun h => (put_ne (by decide)).trans h), o5.past (by decide) (fun h => (put_ne (by decide)).trans h), o6.past (by decide) (fun h => (put_ne (by decide)).trans h), o7.past (by decide) (fun h => (put_ne (by decide)).trans h), o8.past (by decide) (fun h => (put_ne (by decide)).trans h), o9.past (by decide) (fun h => (put_ne (by decide)).trans h), o10.past (by decide) (fun h => (put_ne (by decide)).trans h), o11.past (by decide) (fun h => (put_ne (by decide)).trans h), o12.past (by decide) (fun h => (put_ne (by decide)).trans h), o13.past (by decide) (fun h => (put_ne (by decide)).trans h), hK⟩
    · have e2 := o2 (ready_dep hm 2 (by kernel_rfl))
      refine wpOp_step rfl (fun KK hK2 => ?_)
      go_simp
      refine (HW.out W ((HK.out.trans hK))).mono ?_
      rintro r9 y ⟨rfl, kd⟩
      go_simp
      exact hK2 (A.put (some 10) (iv f)) _ ⟨hFR.put (by decide) _, o0.past (by decide) (fun h => (put_ne (by decide)).trans h), o1.past (by decide) (fun h => (put_ne (by decide)).trans h), o2.past (by decide) (fun h => (put_ne (by decide)).trans h), .now (put_eq (by have hz := hsz.out; omega)), o4.past (by decide) (fun h => (put_ne (by decide)).trans h), o5.past (by decide) (fun h => (put_ne (by decide)).trans h), o6.past (by decide) (fun h => (put_ne (by decide)).trans h), o7.past (by decide) (fun h => (put_ne (by decide)).trans h), o8.past (by decide) (fun h => (put_ne (by decide)).trans h), o9.past (by decide) (fun h => (put_ne (by decide)).trans h), o10.past (by decide) (fun h => (put_ne (by decide)).trans h), o11.past (by decide) (fun h => (put_ne (by decide)).trans h), o12.past (by decide) (fun h => (put_ne (by decide)).trans h), o13.past (by decide) (fun h => (put_ne (by decide)).trans h), (hK.trans kd)⟩
    · refine wpOp_step rfl (fun KK hK2 => ?_)
      go_simp
      exact hK2 (A.put (some 11) (.pointer (some ⟨g, 2, none⟩))) _ ⟨hFR.put (by decide) _, o0.past (by decide) (fun h => (put_ne (by decide)).trans h), o1.past (by decide) (fun h => (put_ne (by decide)).trans h), o2.past (by decide) (fun h => (put_ne (by decide)).trans h), o3.past (by decide) (fun h => (put_ne (by decide)).trans h), .now (put_eq (by have hz := hsz.out; omega)), o5.past (by decide) (fun h => (put_ne (by decide)).trans h), o6.past (by decide) (fun h => (put_ne (by decide)).trans h), o7.past (by decide) (fun h => (put_ne (by decide)).trans h), o8.past (by decide) (fun h => (put_ne (by decide)).trans h), o9.past (by decide) (fun h => (put_ne (by decide)).trans h), o10.past (by decide) (fun h => (put_ne (by decide)).trans h), o11.past (by decide) (fun h => (put_ne (by decide)).trans h), o12.past (by decide) (fun h => (put_ne (by decide)).trans h), o13.past (by decide) (fun h => (put_ne (by decide)).trans h), hK⟩
    · have e4 := o4 (ready_dep hm 4 (by kernel_rfl))
      have BL := (HB.out.kept0 hK).all
      refine wpOp_step rfl (fun KK hK2 => ?_)
      go_simp
      exact hK2 (A.put (some 12) (iv x.a)) _ ⟨hFR.put (by decide) _, o0.past (by decide) (fun h => (put_ne (by decide)).trans h), o1.past (by decide) (fun h => (put_ne (by decide)).trans h), o2.past (by decide) (fun h => (put_ne (by decide)).trans h), o3.past (by decide) (fun h => (put_ne (by decide)).trans h), o4.past (by decide) (fun h => (put_ne (by decide)).trans h), .now (put_eq (by have hz := hsz.out; omega)), o6.past (by decide) (fun h => (put_ne (by decide)).trans h), o7.past (by decide) (fun h => (put_ne (by decide)).trans h), o8.past (by decide) (fun h => (put_ne (by decide)).trans h), o9.past (by decide) (fun h => (put_ne (by decide)).trans h), o10.past (by decide) (fun h => (put_ne (by decide)).trans h), o11.past (by decide) (fun h => (put_ne (by decide)).trans h), o12.past (by decide) (fun h => (put_ne (by decide)).trans h), o13.past (by decide) (fun h => (put_ne (by decide)).trans h), hK⟩
    · have e1 := o1 (ready_dep hm 1 (by kernel_rfl))
      have e3 := o3 (ready_dep hm 3 (by kernel_rfl))
      have e5 := o5 (ready_dep hm 5 (by kernel_rfl))
      refine wpOp_step rfl (fun KK hK2 => ?_)
      go_simp
      refine (shiftOnce 4 x.z f x.a _ ⟨by omega, by omega⟩).mono ?_
      rintro r9 y ⟨rfl, kb⟩
      have kd := kept_below kb
      go_simp
      exact hK2 (A.put (some 13) (.tuple #[iv (Pl.onceV 4 x.z f x.a), iv (Pl.onceF 4 x.z f x.a), .bool (Pl.goodK 4 x.z f x.a)])) _ ⟨hFR.put (by decide) _, o0.past (by decide) (fun h => (put_ne (by decide)).trans h), o1.past (by decide) (fun h => (put_ne (by decide)).trans h), o2.past (by decide) (fun h => (put_ne (by decide)).trans h), o3.past (by decide) (fun h => (put_ne (by decide)).trans h), o4.past (by decide) (fun h => (put_ne (by decide)).trans h), o5.past (by decide) (fun h => (put_ne (by decide)).trans h), .now (put_eq (by have hz := hsz.out; omega)), o7.past (by decide) (fun h => (put_ne (by decide)).trans h), o8.past (by decide) (fun h => (put_ne (by decide)).trans h), o9.past (by decide) (fun h => (put_ne (by decide)).trans h), o10.past (by decide) (fun h => (put_ne (by decide)).trans h), o11.past (by decide) (fun h => (put_ne (by decide)).trans h), o12.past (by decide) (fun h => (put_ne (by decide)).trans h), o13.past (by decide) (fun h => (put_ne (by decide)).trans h), (hK.trans kd)⟩
    · have e6 := o6 (ready_dep hm 6 (by kernel_rfl))
      refine wpOp_step rfl (fun KK hK2 => ?_)
      go_simp
      exact hK2 (A.put (some 6) (.tuple #[iv (Pl.onceV 4 x.z f x.a), iv (Pl.onceF 4 x.z f x.a), .bool (Pl.goodK 4 x.z f x.a)])) _ ⟨hFR.put (by decide) _, o0.past (by decide) (fun h => (put_ne (by decide)).trans h), o1.past (by decide) (fun h => (put_ne (by decide)).trans h), o2.past (by decide) (fun h => (put_ne (by decide)).trans h), o3.past (by decide) (fun h => (put_ne (by decide)).trans h), o4.past (by decide) (fun h => (put_ne (by decide)).trans h), o5.past (by decide) (fun h => (put_ne (by decide)).trans h), o6.past (by decide) (fun h => (put_ne (by decide)).trans h), .now (put_eq (by have hz := hsz.out; omega)), o8.past (by decide) (fun h => (put_ne (by decide)).trans h), o9.past (by decide) (fun h => (put_ne (by decide)).trans h), o10.past (by decide) (fun h => (put_ne (by decide)).trans h), o11.past (by decide) (fun h => (put_ne (by decide)).trans h), o12.past (by decide) (fun h => (put_ne (by decide)).trans h), o13.past (by decide) (fun h => (put_ne (by decide)).trans h), hK⟩
    · have e7 := o7 (ready_dep hm 7 (by kernel_rfl))
      refine wpOp_step rfl (fun KK hK2 => ?_)
      go_simp
      exact hK2 (A.put (some 14) (iv (Pl.onceV 4 x.z f x.a))) _ ⟨hFR.put (by decide) _, o0.past (by decide) (fun h => (put_ne (by decide)).trans h), o1.past (by decide) (fun h => (put_ne (by decide)).trans h), o2.past (by decide) (fun h => (put_ne (by decide)).trans h), o3.past (by decide) (fun h => (put_ne (by decide)).trans h), o4.past (by decide) (fun h => (put_ne (by decide)).trans h), o5.past (by decide) (fun h => (put_ne (by decide)).trans h), o6.past (by decide) (fun h => (put_ne (by decide)).trans h), o7.past (by decide) (fun h => (put_ne (by decide)).trans h), .now (put_eq (by have hz := hsz.out; omega)), o9.past (by decide) (fun h => (put_ne (by decide)).trans h), o10.past (by decide) (fun h => (put_ne (by decide)).trans h), o11.past (by decide) (fun h => (put_ne (by decide)).trans h), o12.past (by decide) (fun h => (put_ne (by decide)).trans h), o13.past (by decide) (fun h => (put_ne (by decide)).trans h), hK⟩
    · have e7 := o7 (ready_dep hm 7 (by kernel_rfl))
      refine wpOp_step rfl (fun KK hK2 => ?_)
      go_simp
      exact hK2 (A.put (some 15) (iv (Pl.onceF 4 x.z f x.a))) _ ⟨hFR.put (by decide) _, o0.past (by decide) (fun h => (put_ne (by decide)).trans h), o1.past (by decide) (fun h => (put_ne (by decide)).trans h), o2.past (by decide) (fun h => (put_ne (by decide)).trans h), o3.past (by decide) (fun h => (put_ne (by decide)).trans h), o4.past (by decide) (fun h => (put_ne (by decide)).trans h), o5.past (by decide) (fun h => (put_ne (by decide)).trans h), o6.past (by decide) (fun h => (put_ne (by decide)).trans h), o7.past (by decide) (fun h => (put_ne (by decide)).trans h), o8.past (by decide) (fun h => (put_ne (by decide)).trans h), .now (put_eq (by have hz := hsz.out; omega)), o10.past (by decide) (fun h => (put_ne (by decide)).trans h), o11.past (by decide) (fun h => (put_ne (by decide)).trans h), o12.past (by decide) (fun h => (put_ne (by decide)).trans h), o13.past (by decide) (fun h => (put_ne (by decide)).trans h), hK⟩
    · have e7 := o7 (ready_dep hm 7 (by kernel_rfl))
      refine wpOp_step rfl (fun KK hK2 => ?_)
      go_simp
      exact hK2 (A.put (some 16) (.bool (Pl.goodK 4 x.z f x.a))) _ ⟨hFR.put (by decide) _, o0.past (by decide) (fun h => (put_ne (by decide)).trans h), o1.past (by decide) (fun h => (put_ne (by decide)).trans h), o2.past (by decide) (fun h => (put_ne (by decide)).trans h), o3.past (by decide) (fun h => (put_ne (by decide)).trans h), o4.past (by decide) (fun h => (put_ne (by decide)).trans h), o5.past (by decide) (fun h => (put_ne (by decide)).trans h), o6.past (by decide) (fun h => (put_ne (by decide)).trans h), o7.past (by decide) (fun h => (put_ne (by decide)).trans h), o8.past (by decide) (fun h => (put_ne (by decide)).trans h), o9.past (by decide) (fun h => (put_ne (by decide)).trans h), .now (put_eq (by have hz := hsz.out; omega)), o11.past (by decide) (fun h => (put_ne (by decide)).trans h), o12.past (by decide) (fun h => (put_ne (by decide)).trans h), o13.past (by decide) (fun h => (put_ne (by decide)).trans h), hK⟩
    · have e8 := o8 (ready_dep hm 8 (by kernel_rfl))
      refine wpOp_step rfl (fun KK hK2 => ?_)
      go_simp
      exact hK2 (A.put (some 3) (iv (Pl.onceV 4 x.z f x.a))) _ ⟨hFR.put (by decide) _, o0.past (by decide) (fun h => (put_ne (by decide)).trans h), o1.past (by decide) (fun h => (put_ne (by decide)).trans h), o2.past (by decide) (fun h => (put_ne (by decide)).trans h), o3.past (by decide) (fun h => (put_ne (by decide)).trans h), o4.past (by decide) (fun h => (put_ne (by decide)).trans h), o5.past (by decide) (fun h => (put_ne (by decide)).trans h), o6.past (by decide) (fun h => (put_ne (by decide)).trans h), o7.past (by decide) (fun h => (put_ne (by decide)).trans h), o8.past (by decide) (fun h => (put_ne (by decide)).trans h), o9.past (by decide) (fun h => (put_ne (by decide)).trans h), o10.past (by decide) (fun h => (put_ne (by decide)).trans h), .now (put_eq (by have hz := hsz.out; omega)), o12.past (by decide) (fun h => (put_ne (by decide)).trans h), o13.past (by decide) (fun h => (put_ne (by decide)).trans h), hK⟩
    · have e9 := o9 (ready_dep hm 9 (by kernel_rfl))
      refine wpOp_step rfl (fun KK hK2 => ?_)
      go_simp
      exact hK2 (A.put (some 4) (iv (Pl.onceF 4 x.z f x.a))) _ ⟨hFR.put (by decide) _, o0.past (by decide) (fun h => (put_ne (by decide)).trans h), o1.past (by decide) (fun h => (put_ne (by decide)).trans h), o2.past (by decide) (fun h => (put_ne (by decide)).trans h), o3.past (by decide) (fun h => (put_ne (by decide)).trans h), o4.past (by decide) (fun h => (put_ne (by decide)).trans h), o5.past (by decide) (fun h => (put_ne (by decide)).trans h), o6.past (by decide) (fun h => (put_ne (by decide)).trans h), o7.past (by decide) (fun h => (put_ne (by decide)).trans h), o8.past (by decide) (fun h => (put_ne (by decide)).trans h), o9.past (by decide) (fun h => (put_ne (by decide)).trans h), o10.past (by decide) (fun h => (put_ne (by decide)).trans h), o11.past (by decide) (fun h => (put_ne (by decide)).trans h), .now (put_eq (by have hz := hsz.out; omega)), o13.past (by decide) (fun h => (put_ne (by decide)).trans h), hK⟩
    · have e10 := o10 (ready_dep hm 10 (by kernel_rfl))
      refine wpOp_step rfl (fun KK hK2 => ?_)
      go_simp
      exact hK2 (A.put (some 5) (.bool (Pl.goodK 4 x.z f x.a))) _ ⟨hFR.put (by decide) _, o0.past (by decide) (fun h => (put_ne (by decide)).trans h), o1.past (by decide) (fun h => (put_ne (by decide)).trans h), o2.past (by decide) (fun h => (put_ne (by decide)).trans h), o3.past (by decide) (fun h => (put_ne (by decide)).trans h), o4.past (by decide) (fun h => (put_ne (by decide)).trans h), o5.past (by decide) (fun h => (put_ne (by decide)).trans h), o6.past (by decide) (fun h => (put_ne (by decide)).trans h), o7.past (by decide) (fun h => (put_ne (by decide)).trans h), o8.past (by decide) (fun h => (put_ne (by decide)).trans h), o9.past (by decide) (fun h => (put_ne (by decide)).trans h), o10.past (by decide) (fun h => (put_ne (by decide)).trans h), o11.past (by decide) (fun h => (put_ne (by decide)).trans h), o12.past (by decide) (fun h => (put_ne (by decide)).trans h), .now (put_eq (by have hz := hsz.out; omega)), hK⟩
    · simp at hi1
      omega
end Go.Proofs.Ytnmddmmmgdfknaa

namespace Go.Proofs.Ytnmddmmmgdfknaa
open Go.RowKit
set_option linter.unusedVariables false
set_option maxRecDepth 100000 in
theorem implBehind (w : World) (x : Pl.Fo) (v : Value) (f : Int) (hv : Wt w v f) (h : Pl.foNone x = true ∨ Pl.foOk x = true) :
    Calls Try.prog 77 #[.agg (foA x), v] w fun e w' => ∃ u, e = .returned u ∧ Wt w' u (Pl.mk f x) ∧ Kept 0 0 w w' := by
  obtain ⟨n, cap, rfl, hfn, hw⟩ := hv
  have hmf : ∀ (fn : Fn) (first cap : Array Value) (w : World), (Instr.makeFunc fn first cap).run Try.prog w = .ok (.func fn first cap) w := fun _ _ _ _ => rfl
  have K0 := hide (kept_new (kept_alloc w (.cells (foA x) 47)) (.cells #[.func (.func n) #[] cap] 94))
  have B0 := hide ((Blk.new w (foA x) 47).alloc (.cells #[.func (.func n) #[] cap] 94))
  have B1 := Blk.new (w.alloc (.cells (foA x) 47)) #[.func (.func n) #[] cap] 94
  simp only [World.size_alloc] at B1
  replace B1 := hide B1
  have HF := hide hfn
  have HW := hide hw
  have q1 := B1.out.all
  clear hfn hw
  have hk : x.k = 0 ∨ (x.k = 1 ∨ x.k = 2 ∨ x.k = 3 ∨ x.k = 4 ∨ x.k = 5) := by
    rcases h with h | h
    · rw [Pl.foNone_ok h]; exact .inl rfl
    · have := Pl.foOk_ok h; exact .inr (by omega)
  rcases hk with hk | hk
  · have E : Hid (Pl.mk f x = f) := hide (by simp [Pl.mk, hk])
    obtain ⟨k, z, a, b⟩ := x
    simp only at hk
    subst hk
    clear h
    go_enter Try.func77, Try.ntmps77
    go_wp2_with fail
    go_ret
    exact ⟨_, rfl, ⟨n, cap, rfl, HF.out, fun w' kk => by rw [E.out]; exact HW.out w' (K0.out.trans kk)⟩, K0.out⟩
  have hx : Pl.foOk x = true := by
    rcases h with h | h
    · rw [Pl.foNone_ok h] at hk; simp [Pl.foNo] at hk
    · exact h
  obtain ⟨k, z, a, b⟩ := x
  simp only at hk
  clear h
  rcases hk with rfl | rfl | rfl | rfl | rfl
  · have HX := hide (show Pl.foOk ⟨1, z, a, b⟩ = true from hx)
    have E : Hid (Pl.mk f ⟨1, z, a, b⟩ = Pl.addF z 0 a b) := hide (by simp [Pl.mk])
    go_enter Try.func77, Try.ntmps77
    go_wp2_with fail
    go_ret
    exact ⟨_, rfl, ⟨_, _, rfl, fnw1, fun w' kk => by rw [E.out]; exact behind1 w' _ ⟨1, z, a, b⟩ (B0.out.kept0 kk) HX.out⟩, K0.out⟩
  · have HX := hide (show Pl.foOk ⟨2, z, a, b⟩ = true from hx)
    have E : Hid (Pl.mk f ⟨2, z, a, b⟩ = Pl.subF z 0 a b) := hide (by simp [Pl.mk])
    go_enter Try.func77, Try.ntmps77
    go_wp2_with fail
    go_ret
    exact ⟨_, rfl, ⟨_, _, rfl, fnw2, fun w' kk => by rw [E.out]; exact behind2 w' _ ⟨2, z, a, b⟩ (B0.out.kept0 kk) HX.out⟩, K0.out⟩
  · have HX := hide (show Pl.foOk ⟨3, z, a, b⟩ = true from hx)
    have E : Hid (Pl.mk f ⟨3, z, a, b⟩ = Pl.cmpF z f a b) := hide (by simp [Pl.mk])
    go_enter Try.func77, Try.ntmps77
    go_wp2_with fail
    go_ret
    exact ⟨_, rfl, ⟨_, _, rfl, fnw3, fun w' kk => by rw [E.out]; exact behind3 w w' _ _ n cap f ⟨3, z, a, b⟩ (B0.out.kept0 kk) (B1.out.kept0 kk) HX.out HF.out (K0.out.trans kk) HW.out⟩, K0.out⟩
  · have HX := hide (show Pl.foOk ⟨4, z, a, b⟩ = true from hx)
    have E : Hid (Pl.mk f ⟨4, z, a, b⟩ = Pl.logF z f a) := hide (by simp [Pl.mk])
    go_enter Try.func77, Try.ntmps77
    go_wp2_with fail
    go_ret
    exact ⟨_, rfl, ⟨_, _, rfl, fnw4, fun w' kk => by rw [E.out]; exact behind4 w w' _ _ n cap f ⟨4, z, a, b⟩ (B0.out.kept0 kk) (B1.out.kept0 kk) HX.out HF.out (K0.out.trans kk) HW.out⟩, K0.out⟩
  · have HX := hide (show Pl.foOk ⟨5, z, a, b⟩ = true from hx)
    have E : Hid (Pl.mk f ⟨5, z, a, b⟩ = Pl.onceF 4 z f a) := hide (by simp [Pl.mk])
    go_enter Try.func77, Try.ntmps77
    go_wp2_with fail
    go_ret
    exact ⟨_, rfl, ⟨_, _, rfl, fnw5, fun w' kk => by rw [E.out]; exact behind5 w w' _ _ n cap f ⟨5, z, a, b⟩ (B0.out.kept0 kk) (B1.out.kept0 kk) HX.out HF.out (K0.out.trans kk) HW.out⟩, K0.out⟩
set_option maxRecDepth 100000 in
set_option maxHeartbeats 4000000 in
theorem implMeant (w : World) (z : Pl.Lz) (hl : Pl.foNone z.l = true ∨ Pl.foOk z.l = true) (hr : Pl.foNone z.r = true ∨ Pl.foOk z.r = true) :
    Calls Try.prog 80 #[.agg (lzA z)] w fun e w' => ∃ v, e = .returned v ∧ Wt w' v (Pl.lzF z) ∧ Kept 0 0 w w' := by
  have K0 := hide (kept_alloc w (.cells (lzA z) 49))
  have B0 := hide (Blk.new w (lzA z) 49)
  obtain ⟨w1, hw1⟩ : ∃ X : World, w.alloc (.cells (lzA z) 49) = X := ⟨_, rfl⟩
  rw [hw1] at K0 B0
  go_enter Try.func80, Try.ntmps80
  go_wp2_with fail
  clear hw1
  refine wp_region_inv2 (fun A0 l A W => FR [3, 4, 5, 6, 7, 8, 9, 10, 11, 2] A0 A ∧ Once l 0 (A.tmps[3]? = some (.pointer (some ⟨w.heap.size, 1, none⟩))) ∧ Once l 1 (A.tmps[4]? = some (.agg (foA z.l))) ∧ Once l 2 (A.tmps[5]? = some (.pointer (some ⟨w.heap.size, 5, none⟩))) ∧ Once l 3 (A.tmps[6]? = some (.agg (foA z.r))) ∧ Once l 4 (A.tmps[7]? = some (.pointer (some ⟨w.heap.size, 0, none⟩))) ∧ Once l 5 (A.tmps[8]? = some (iv z.b)) ∧ Once l 6 (∃ v, A.tmps[9]? = some v ∧ Wt W v z.b) ∧ Once l 7 (∃ v, A.tmps[10]? = some v ∧ Wt W v (Pl.mk z.b z.r)) ∧ Once l 8 (∃ v, A.tmps[11]? = some v ∧ Wt W v (Pl.mk (Pl.mk z.b z.r) z.l)) ∧ Once l 9 (∃ v, A.tmps[2]? = some v ∧ Wt W v (Pl.mk (Pl.mk z.b z.r) z.l)) ∧ Kept 0 0 w1 W) (by kernel_rfl) (by kernel_rfl) ?start ?fin ?step
  case start => exact ⟨FR.refl _ _, once_start (by decide), once_start (by decide), once_start (by decide), once_start (by decide), once_start (by decide), once_start (by decide), once_start (by decide), once_start (by decide), once_start (by decide), once_start (by decide), kept_drew (Kept.refl _ _ _)⟩
  case fin =>
    intro l A W h hl9
    obtain ⟨hFR, o0, o1, o2, o3, o4, o5, o6, o7, o8, o9, hK⟩ := h
    obtain ⟨v9, g9, u9⟩ := o9 (hl9 9 (by decide))
    have QQ := hide (K0.out.trans hK)
    have UU := hide u9
    have hc9 := hFR.chain
    simp only [List.foldl] at hc9
    rw [getD_of g9] at hc9
    clear hl9 hK hFR g9 u9 o0 o1 o2 o3 o4 o5 o6 o7 o8 o9
    generalize A.tmps.getD 3 undef = s3 at hc9
    generalize A.tmps.getD 4 undef = s4 at hc9
    generalize A.tmps.getD 5 undef = s5 at hc9
    generalize A.tmps.getD 6 undef = s6 at hc9
    generalize A.tmps.getD 7 undef = s7 at hc9
    generalize A.tmps.getD 8 undef = s8 at hc9
    generalize A.tmps.getD 9 undef = s9 at hc9
    generalize A.tmps.getD 10 undef = s10 at hc9
    generalize A.tmps.getD 11 undef = s11 at hc9
    subst hc9
    go_simp
    go_wp2_with fail
    go_ret
    exact ⟨_, rfl, UU.out, QQ.out⟩
  case step =>
    intro l A W i hI hm
    obtain ⟨hFR, o0, o1, o2, o3, o4, o5, o6, o7, o8, o9, hK⟩ := hI
    obtain ⟨hi1, hi2⟩ := ready_new hm
    have hsz : Hid (11 < A.tmps.size) := hide (by rw [hFR.size]; simp)
    have m1 : A.tmps[1]? = some (.pointer (some ⟨w.heap.size, 0, none⟩)) := (hFR.out 1 (by decide)).trans rfl
    rcases i with _ | _ | _ | _ | _ | _ | _ | _ | _ | _ | i
    · refine wpOp_step rfl (fun KK hK2 => ?_)
      go_simp
      exact hK2 (A.put (some 3) (.pointer (some ⟨w.heap.size, 1, none⟩))) _ ⟨hFR.put (by decide) _, .now (put_eq (by have hz := hsz.out; omega)), o1.past (by decide) (fun h => (put_ne (by decide)).trans h), o2.past (by decide) (fun h => (put_ne (by decide)).trans h), o3.past (by decide) (fun h => (put_ne (by decide)).trans h), o4.past (by decide) (fun h => (put_ne (by decide)).trans h), o5.past (by decide) (fun h => (put_ne (by decide)).trans h), o6.past (by decide) (fun ⟨v, h⟩ => ⟨v, (put_ne (by decide)).trans h.1, h.2⟩), o7.past (by decide) (fun ⟨v, h⟩ => ⟨v, (put_ne (by decide)).trans h.1, h.2⟩), o8.past (by decide) (fun ⟨v, h⟩ => ⟨v, (put_ne (by decide)).trans h.1, h.2⟩), o9.past (by decide) (fun ⟨v, h⟩ => ⟨v, (put_ne (by decide)).trans h.1, h.2⟩), hK⟩
    · have e0 := o0 (ready_dep hm 0 (by kernel_rfl))
      have BL := (B0.out.kept0 hK).all
      refine wpOp_step rfl (fun KK hK2 => ?_)
      go_simp
      exact hK2 (A.put (some 4) (.agg (foA z.l))) _ ⟨hFR.put (by decide) _, o0.past (by decide) (fun h => (put_ne (by decide)).trans h), .now (put_eq (by have hz := hsz.out; omega)), o2.past (by decide) (fun h => (put_ne (by decide)).trans h), o3.past (by decide) (fun h => (put_ne (by decide)).trans h), o4.past (by decide) (fun h => (put_ne (by decide)).trans h), o5.past (by decide) (fun h => (put_ne (by decide)).trans h), o6.past (by decide) (fun ⟨v, h⟩ => ⟨v, (put_ne (by decide)).trans h.1, h.2⟩), o7.past (by decide) (fun ⟨v, h⟩ => ⟨v, (put_ne (by decide)).trans h.1, h.2⟩), o8.past (by decide) (fun ⟨v, h⟩ => ⟨v, (put_ne (by decide)).trans h.1, h.2⟩), o9.past (by decide) (fun ⟨v, h⟩ => ⟨v, (put_ne (by decide)).trans h.1, h.2⟩), hK⟩
    · refine wpOp_step rfl (fun KK hK2 => ?_)
      go_simp
      exact hK2 (A.put (some 5) (.pointer (some ⟨w.heap.size, 5, none⟩))) _ ⟨hFR.put (by decide) _, o0.past (by decide) (fun h => (put_ne (by decide)).trans h), o1.past (by decide) (fun h => (put_ne (by decide)).trans h), .now (put_eq (by have hz := hsz.out; omega)), o3.past (by decide) (fun h => (put_ne (by decide)).trans h), o4.past (by decide) (fun h => (put_ne (by decide)).trans h), o5.past (by decide) (fun h => (put_ne (by decide)).trans h), o6.past (by decide) (fun ⟨v, h⟩ => ⟨v, (put_ne (by decide)).trans h.1, h.2⟩), o7.past (by decide) (fun ⟨v, h⟩ => ⟨v, (put_ne (by decide)).trans h.1, h.2⟩), o8.past (by decide) (fun ⟨v, h⟩ => ⟨v, (put_ne (by decide)).trans h.1, h.2⟩), o9.past (by decide) (fun ⟨v, h⟩ => ⟨v, (put_ne (by decide)).trans h.1, h.2⟩), hK⟩
    · have e2 := o2 (ready_dep hm 2 (by kernel_rfl))
      have BL := (B0.out.kept0 hK).all
      refine wpOp_step rfl (fun KK hK2 => ?_)
      go_simp
      exact hK2 (A.put (some 6) (.agg (foA z.r))) _ ⟨hFR.put (by decide) _, o0.past (by decide) (fun h => (put_ne (by decide)).trans h), o1.past (by decide) (fun h => (put_ne (by decide)).trans h), o2.past (by decide) (fun h => (put_ne (by decide)).trans h), .now (put_eq (by have hz := hsz.out; omega)), o4.past (by decide) (fun h => (put_ne (by decide)).trans h), o5.past (by decide) (fun h => (put_ne (by decide)).trans h), o6.past (by decide) (fun ⟨v, h⟩ => ⟨v, (put_ne (by decide)).trans h.1, h.2⟩), o7.past (by decide) (fun ⟨v, h⟩ => ⟨v, (put_ne (by decide)).trans h.1, h.2⟩), o8.past (by decide) (fun ⟨v, h⟩ => ⟨v, (put_ne (by decide)).trans h.1, h.2⟩), o9.past (by decide) (fun ⟨v, h⟩ => ⟨v, (put_ne (by decide)).trans h.1, h.2⟩), hK⟩
    · refine wpOp_step rfl (fun KK hK2 => ?_)
      go_simp
      exact hK2 (A.put (some 7) (.pointer (some ⟨w.heap.size, 0, none⟩))) _ ⟨hFR.put (by decide) _, o0.past (by decide) (fun h => (put_ne (by decide)).trans h), o1.past (by decide) (fun h => (put_ne (by decide)).trans h), o2.past (by decide) (fun h => (put_ne (by decide)).trans h), o3.past (by decide) (fun h => (put_ne (by decide)).trans h), .now (put_eq (by have hz := hsz.out; omega)), o5.past (by decide) (fun h => (put_ne (by decide)).trans h), o6.past (by decide) (fun ⟨v, h⟩ => ⟨v, (put_ne (by decide)).trans h.1, h.2⟩), o7.past (by decide) (fun ⟨v, h⟩ => ⟨v, (put_ne (by decide)).trans h.1, h.2⟩), o8.past (by decide) (fun ⟨v, h⟩ => ⟨v, (put_ne (by decide)).trans h.1, h.2⟩), o9.past (by decide) (fun ⟨v, h⟩ => ⟨v, (put_ne (by decide)).trans h.1, h.2⟩), hK⟩
    · have e4 := o4 (ready_dep hm 4 (by kernel_rfl))
      have BL := (B0.out.kept0 hK).all
      refine wpOp_step rfl (fun KK hK2 => ?_)
      go_simp
      exact hK2 (A.put (some 8) (iv z.b)) _ ⟨hFR.put (by decide) _, o0.past (by decide) (fun h => (put_ne (by decide)).trans h), o1.past (by decide) (fun h => (put_ne (by decide)).trans h), o2.past (by decide) (fun h => (put_ne (by decide)).trans h), o3.past (by decide) (fun h => (put_ne (by decide)).trans h), o4.past (by decide) (fun h => (put_ne (by decide)).trans h), .now (put_eq (by have hz := hsz.out; omega)), o6.past (by decide) (fun ⟨v, h⟩ => ⟨v, (put_ne (by decide)).trans h.1, h.2⟩), o7.past (by decide) (fun ⟨v, h⟩ => ⟨v, (put_ne (by decide)).trans h.1, h.2⟩), o8.past (by decide) (fun ⟨v, h⟩ => ⟨v, (put_ne (by decide)).trans h.1, h.2⟩), o9.past (by decide) (fun ⟨v, h⟩ => ⟨v, (put_ne (by decide)).trans h.1, h.2⟩), hK⟩
    · have e5 := o5 (ready_dep hm 5 (by kernel_rfl))
      refine wpOp_step rfl (fun KK hK2 => ?_)
      go_simp
      refine (implKnown W z.b).mono ?_
      rintro r9 y ⟨v6, rfl, u6, kd⟩
      go_simp
      exact hK2 (A.put (some 9) (v6)) _ ⟨hFR.put (by decide) _, o0.past (by decide) (fun h => (put_ne (by decide)).trans h), o1.past (by decide) (fun h => (put_ne (by decide)).trans h), o2.past (by decide) (fun h => (put_ne (by decide)).trans h), o3.past (by decide) (fun h => (put_ne (by decide)).trans h), o4.past (by decide) (fun h => (put_ne (by decide)).trans h), o5.past (by decide) (fun h => (put_ne (by decide)).trans h), .now ⟨_, put_eq (by have hz := hsz.out; omega), u6⟩, o7.past (by decide) (fun ⟨v, h⟩ => ⟨v, (put_ne (by decide)).trans h.1, h.2.kept kd⟩), o8.past (by decide) (fun ⟨v, h⟩ => ⟨v, (put_ne (by decide)).trans h.1, h.2.kept kd⟩), o9.past (by decide) (fun ⟨v, h⟩ => ⟨v, (put_ne (by decide)).trans h.1, h.2.kept kd⟩), (hK.trans kd)⟩
    · have e3 := o3 (ready_dep hm 3 (by kernel_rfl))
      obtain ⟨v6, e6, u6⟩ := o6 (ready_dep hm 6 (by kernel_rfl))
      refine wpOp_step rfl (fun KK hK2 => ?_)
      go_simp
      refine (implBehind W z.r v6 _ u6 hr).mono ?_
      rintro r9 y ⟨v7, rfl, u7, kd⟩
      go_simp
      exact hK2 (A.put (some 10) (v7)) _ ⟨hFR.put (by decide) _, o0.past (by decide) (fun h => (put_ne (by decide)).trans h), o1.past (by decide) (fun h => (put_ne (by decide)).trans h), o2.past (by decide) (fun h => (put_ne (by decide)).trans h), o3.past (by decide) (fun h => (put_ne (by decide)).trans h), o4.past (by decide) (fun h => (put_ne (by decide)).trans h), o5.past (by decide) (fun h => (put_ne (by decide)).trans h), o6.past (by decide) (fun ⟨v, h⟩ => ⟨v, (put_ne (by decide)).trans h.1, h.2.kept kd⟩), .now ⟨_, put_eq (by have hz := hsz.out; omega), u7⟩, o8.past (by decide) (fun ⟨v, h⟩ => ⟨v, (put_ne (by decide)).trans h.1, h.2.kept kd⟩), o9.past (by decide) (fun ⟨v, h⟩ => ⟨v, (put_ne (by decide)).trans h.1, h.2.kept kd⟩), (hK.trans kd)⟩
    · have e1 := o1 (ready_dep hm 1 (by kernel_rfl))
      obtain ⟨v7, e7, u7⟩ := o7 (ready_dep hm 7 (by kernel_rfl))
      refine wpOp_step rfl (fun KK hK2 => ?_)
      go_simp
      refine (implBehind W z.l v7 _ u7 hl).mono ?_
      rintro r9 y ⟨v8, rfl, u8, kd⟩
      go_simp
      exact hK2 (A.put (some 11) (v8)) _ ⟨hFR.put (by decide) _, o0.past (by decide) (fun h => (put_ne (by decide)).trans h), o1.past (by decide) (fun h => (put_ne (by decide)).trans h), o2.past (by decide) (fun h => (put_ne (by decide)).trans h), o3.past (by decide) (fun h => (put_ne (by decide)).trans h), o4.past (by decide) (fun h => (put_ne (by decide)).trans h), o5.past (by decide) (fun h => (put_ne (by decide)).trans h), o6.past (by decide) (fun ⟨v, h⟩ => ⟨v, (put_ne (by decide)).trans h.1, h.2.kept kd⟩), o7.past (by decide) (fun ⟨v, h⟩ => ⟨v, (put_ne (by decide)).trans h.1, h.2.kept kd⟩), .now ⟨_, put_eq (by have hz := hsz.out; omega), u8⟩, o9.past (by decide) (fun ⟨v, h⟩ => ⟨v, (put_ne (by decide)).trans h.1, h.2.kept kd⟩), (hK.trans kd)⟩
    · obtain ⟨v8, e8, u8⟩ := o8 (ready_dep hm 8 (by kernel_rfl))
      refine wpOp_step rfl (fun KK hK2 => ?_)
      go_simp
      exact hK2 (A.put (some 2) (v8)) _ ⟨hFR.put (by decide) _, o0.past (by decide) (fun h => (put_ne (by decide)).trans h), o1.past (by decide) (fun h => (put_ne (by decide)).trans h), o2.past (by decide) (fun h => (put_ne (by decide)).trans h), o3.past (by decide) (fun h => (put_ne (by decide)).trans h), o4.past (by decide) (fun h => (put_ne (by decide)).trans h), o5.past (by decide) (fun h => (put_ne (by decide)).trans h), o6.past (by decide) (fun ⟨v, h⟩ => ⟨v, (put_ne (by decide)).trans h.1, h.2⟩), o7.past (by decide) (fun ⟨v, h⟩ => ⟨v, (put_ne (by decide)).trans h.1, h.2⟩), o8.past (by decide) (fun ⟨v, h⟩ => ⟨v, (put_ne (by decide)).trans h.1, h.2⟩), .now ⟨_, put_eq (by have hz := hsz.out; omega), u8⟩, hK⟩
    · simp at hi1
      omega
end Go.Proofs.Ytnmddmmmgdfknaa

namespace Go.Proofs.Ytnmddmmmgdfknaa
open Go.RowKit
set_option linter.unusedVariables false
theorem wfo {n : Int} (h : -9223372036854775808 ≤ n ∧ n ≤ 9223372036854775807) : (Lit.int .i64 n).wf = true := by
  have e1 : IntKind.i64.min = -9223372036854775808 := rfl
  have e2 : IntKind.i64.max = 9223372036854775807 := rfl
  simp [Lit.wf]
  omega
set_option maxRecDepth 100000 in
set_option maxHeartbeats 4000000 in
theorem implFlagsOf (w : World) (z : Pl.Lz) (wf : LzW z) : Calls Try.prog 37 #[.agg (lzA z)] w fun e w' => e = .returned (.tuple #[iv (Pl.lzV z), .bool (Pl.lzOk z)]) ∧ Kept 0 0 w w' := by
  have K0 := hide (kept_alloc w (.cells (lzA z) 49))
  have B0 := hide (Blk.new w (lzA z) 49)
  have q := B0.out.all
  cases G : Pl.lzOk z
  · have E : Hid (Pl.lzV z = 0) := hide (by simp [Pl.lzV, G])
    go_enter Try.func37, Try.ntmps37
    go_wp2_with (go_at_call 39; (with_reducible refine (implGoodLazy _ z wf).mono ?_); rw [G]; rintro e9 w9 ⟨rfl, k9⟩; replace K0 := hide (K0.out.trans k9); replace B0 := hide (B0.out.kept0 k9); clear q; have q := B0.out.all; clear k9)
    go_ret2
    exact ⟨rIB E.out.symm rfl, K0.out⟩
  · have E : Hid (Pl.lzV z = Pl.lzF z) := hide (by simp [Pl.lzV, G])
    obtain ⟨hb, hl, hr⟩ := Pl.lz_parts G
    go_enter Try.func37, Try.ntmps37
    go_wp2_with (first | (go_at_call 39; (with_reducible refine (implGoodLazy _ z wf).mono ?_); rw [G]; rintro e9 w9 ⟨rfl, k9⟩; replace K0 := hide (K0.out.trans k9); replace B0 := hide (B0.out.kept0 k9); clear q; have q := B0.out.all; clear k9) | (go_at_call 80; (with_reducible refine (implMeant _ z hl hr).mono ?_); rintro e9 w9 ⟨v9, rfl, ⟨n9, c9, rfl, fn9, run9⟩, k9⟩; replace K0 := hide (K0.out.trans k9); clear k9) | ((with_reducible refine (run9 _ (Kept.refl _ _ _)).mono ?_); rintro e8 w8 ⟨rfl, k8⟩))
    go_ret2
    exact ⟨rIB E.out.symm rfl, K0.out.trans k8⟩
set_option maxRecDepth 100000 in
theorem implCondOf (w : World) (z : Pl.Lz) (k : Int) (wf : LzW z) (wfk : (Lit.int .i64 k).wf = true) : Calls Try.prog 40 #[.agg (lzA z), iv k] w fun e w' => e = .returned (.tuple #[.bool (Pl.cdV z k), .bool (Pl.cdOk z k)]) ∧ Kept 0 0 w w' := by
  have K0 := hide (kept_alloc w (.cells (lzA z) 49))
  have B0 := hide (Blk.new w (lzA z) 49)
  have q := B0.out.all
  cases G : Pl.lzOk z
  · go_enter Try.func40, Try.ntmps40
    go_wp2_with (go_at_call 37; (with_reducible refine (implFlagsOf _ z wf).mono ?_); rw [G]; rintro e9 w9 ⟨rfl, k9⟩; replace K0 := hide (K0.out.trans k9); replace B0 := hide (B0.out.kept0 k9); clear q; have q := B0.out.all; clear k9)
    go_ret2
    exact ⟨rBB (by simp [Pl.cdV, Pl.cdOk, G]) (by simp [Pl.cdOk, G]), K0.out⟩
  · have E : Hid (Pl.lzV z = Pl.lzF z) := hide (by simp [Pl.lzV, G])
    have hf := Pl.lzF_flags G
    have wff : (Lit.int .i64 (Pl.lzF z)).wf = true := by have := Pl.flags_ok hf; exact wfo ⟨by omega, by omega⟩
    have E1 : Hid (((Pl.cOk k && Pl.flags (Pl.lzF z)) && Pl.tst k (Pl.lzF z)) = Pl.cdV z k) := hide (by simp [Pl.cdV, Pl.cdOk, G, hf])
    have E2 : Hid ((Pl.cOk k && Pl.flags (Pl.lzF z)) = Pl.cdOk z k) := hide (by simp [Pl.cdOk, G, hf])
    clear hf
    go_enter Try.func40, Try.ntmps40
    go_wp2_with (first | (go_at_call 37; (with_reducible refine (implFlagsOf _ z wf).mono ?_); rw [G, E.out]; rintro e9 w9 ⟨rfl, k9⟩; replace K0 := hide (K0.out.trans k9); replace B0 := hide (B0.out.kept0 k9); clear q; have q := B0.out.all; clear k9) | (go_at_call 41; (with_reducible refine (implTestCond _ k (Pl.lzF z) wfk wff).mono ?_); rw [E1.out, E2.out]; rintro e9 w9 ⟨rfl, k9⟩; replace K0 := hide (K0.out.trans k9); replace B0 := hide (B0.out.kept0 k9); clear q; have q := B0.out.all; clear k9))
    go_ret2
    exact ⟨rfl, K0.out⟩
end Go.Proofs.Ytnmddmmmgdfknaa

namespace Go.Proofs.Ytnmddmmmgdfknaa
open Go.RowKit
set_option linter.unusedVariables false
set_option maxRecDepth 100000 in
theorem lawCondOf (z : Pl.Lz) (k : Int) (w : World) (wf : LzW z) (wfk : (Lit.int .i64 k).wf = true) : Calls Try.prog 11 #[.agg (lzA z), iv k] w fun r' w' => r' = .returned (.bool true) ∧ Below w.heap.size w w' := by
  have K0 := hide (kept_alloc w (.cells (lzA z) 66))
  have W0 := hide (Blk.new w (lzA z) 66)
  have q := W0.out.all
  generalize hG0 : Pl.cdV z k = G0
  generalize hG1 : Pl.cdOk z k = G1
  replace hG0 := hide hG0
  replace hG1 := hide hG1
  go_enter Try.func11, Try.ntmps11
  go_wp2_with (first | (go_at_call 46; (with_reducible refine (toLz _ z).mono ?_); rintro e9 w9 ⟨rfl, k9⟩; replace K0 := hide (K0.out.trans k9); replace W0 := hide (W0.out.kept0 k9); clear q; have q := W0.out.all; clear k9) | (go_at_call 47; (with_reducible refine (specCondOf _ z k).mono ?_); rw [hG0.out, hG1.out]; rintro e9 w9 ⟨rfl, k9⟩; replace K0 := hide (K0.out.trans k9); replace W0 := hide (W0.out.kept0 k9); clear q; have q := W0.out.all; clear k9) | (go_at_call 40; (with_reducible refine (implCondOf _ z k wf wfk).mono ?_); rw [hG0.out, hG1.out]; rintro e9 w9 ⟨rfl, k9⟩; replace K0 := hide (K0.out.trans k9); replace W0 := hide (W0.out.kept0 k9); clear q; have q := W0.out.all; clear k9))
  go_ret
  exact ⟨rfl, K0.out.below⟩
end Go.Proofs.Ytnmddmmmgdfknaa

namespace Go.Proofs.Ytnmddmmmgdfknaa
open Go.RowKit Go.WideShapes Go.ChangeShapes Go.ChangeAt
set_option linter.unusedVariables false
set_option maxRecDepth 100000

theorem Try.cellsInt : Try.prog.cellsOf 3 = 1 := by kernel_rfl
theorem Try.cells_FlagOp : Try.prog.cellsOf 64 = 4 := by kernel_rfl

section
variable {H : Type} {enc : TypeId × Value → H} {w : World} {base : Nat} {spare : Nat → Bool} {held : Bool}

theorem Try.cells_Lazy : Try.prog.cellsOf 66 = 9 := by kernel_rfl
theorem open_foCells {fuel : Nat} {c0 c1 c2 c3 : Value} {y : DataW H × List MemPlace} (h : DataW.trod enc Try.prog w base spare held fuel 64 [c0, c1, c2, c3] = some y) :
    ∃ i0 i1 i2 i3 : Int, (c0 = .int .i64 i0 ∧ c1 = .int .i64 i1 ∧ c2 = .int .i64 i2 ∧ c3 = .int .i64 i3) ∧ (Lit.int .i64 i0).wf = true ∧ (Lit.int .i64 i1).wf = true ∧ (Lit.int .i64 i2).wf = true ∧ (Lit.int .i64 i3).wf = true := by
  obtain ⟨zs, k, _, _, _, hzl, hf⟩ := DataW.trod_struct Try.underlying64 h
  obtain ⟨z0, z1, z2, z3, rfl⟩ : ∃ z0 z1 z2 z3, zs = [z0, z1, z2, z3] := by
    match zs, hzl with
    | [z0, z1, z2, z3], _ => exact ⟨z0, z1, z2, z3, rfl⟩
  have t0 := hf 0 _ rfl
  have t1 := hf 1 _ rfl
  have t2 := hf 2 _ rfl
  have t3 := hf 3 _ rfl
  simp [Try.cellsInt] at t0 t1 t2 t3
  obtain ⟨i0, e0, _, b0⟩ := DataW.trod_int Try.underlying3 t0
  obtain ⟨i1, e1, _, b1⟩ := DataW.trod_int Try.underlying3 t1
  obtain ⟨i2, e2, _, b2⟩ := DataW.trod_int Try.underlying3 t2
  obtain ⟨i3, e3, _, b3⟩ := DataW.trod_int Try.underlying3 t3
  simp at e0 e1 e2 e3
  exact ⟨i0, i1, i2, i3, ⟨e0, e1, e2, e3⟩, b0, b1, b2, b3⟩
theorem open_Lazy {r : Reach} {b0 : Nat} {v : Value} {d : DataW H} {p : List MemPlace} (hv : Value.okWide Try.prog w r b0 66 v) (h : DataW.Trod enc Try.prog w base spare held 66 v d p) :
    ∃ i0 i1 i2 i3 i4 i5 i6 i7 i8 : Int, v = .agg #[.int .i64 i0, .int .i64 i1, .int .i64 i2, .int .i64 i3, .int .i64 i4, .int .i64 i5, .int .i64 i6, .int .i64 i7, .int .i64 i8] ∧ (Lit.int .i64 i0).wf = true ∧ (Lit.int .i64 i1).wf = true ∧ (Lit.int .i64 i2).wf = true ∧ (Lit.int .i64 i3).wf = true ∧ (Lit.int .i64 i4).wf = true ∧ (Lit.int .i64 i5).wf = true ∧ (Lit.int .i64 i6).wf = true ∧ (Lit.int .i64 i7).wf = true ∧ (Lit.int .i64 i8).wf = true := by
  obtain ⟨cs, rfl, hsz⟩ := okWide_struct Try.underlying66 hv
  rw [Try.cells_Lazy] at hsz
  obtain ⟨cl⟩ := cs
  obtain ⟨c0, c1, c2, c3, c4, c5, c6, c7, c8, rfl⟩ : ∃ c0 c1 c2 c3 c4 c5 c6 c7 c8, cl = [c0, c1, c2, c3, c4, c5, c6, c7, c8] := by
    match cl, hsz with
    | [c0, c1, c2, c3, c4, c5, c6, c7, c8], _ => exact ⟨c0, c1, c2, c3, c4, c5, c6, c7, c8, rfl⟩
  obtain ⟨fuel, hf0⟩ := h
  obtain ⟨zs, k, _, _, _, hzl, hf⟩ := DataW.trod_struct Try.underlying66 hf0
  obtain ⟨z0, z1, z2, rfl⟩ : ∃ z0 z1 z2, zs = [z0, z1, z2] := by
    match zs, hzl with
    | [z0, z1, z2], _ => exact ⟨z0, z1, z2, rfl⟩
  have t0 := hf 0 _ rfl
  have t1 := hf 1 _ rfl
  have t2 := hf 2 _ rfl
  simp [Value.cells, Try.cellsInt, Try.cells_FlagOp] at t0 t1 t2
  obtain ⟨i0, e0, _, b0⟩ := DataW.trod_int Try.underlying3 t0
  obtain ⟨i1, i2, i3, i4, ⟨e1, e2, e3, e4⟩, b1, b2, b3, b4⟩ := open_foCells t1
  obtain ⟨i5, i6, i7, i8, ⟨e5, e6, e7, e8⟩, b5, b6, b7, b8⟩ := open_foCells t2
  simp at e0
  subst e0 e1 e2 e3 e4 e5 e6 e7 e8
  exact ⟨i0, i1, i2, i3, i4, i5, i6, i7, i8, rfl, b0, b1, b2, b3, b4, b5, b6, b7, b8⟩
end
end Go.Proofs.Ytnmddmmmgdfknaa

