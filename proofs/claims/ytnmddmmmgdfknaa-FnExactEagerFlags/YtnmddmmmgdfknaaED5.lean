/- Flags that wait: what the program's functions that give them, and those given, answer. Flags that wait: flagsBehind, meantBy, and what FlagsOf, CondOf, CarryOf answer. What the program's FlagsOf, CondOf, CarryOf answer. What the model makes of lists of operations: whether all are good, EagerFlags, LazyFlags. What the program makes of lists of operations: whether all are good, EagerFlags, LazyFlags. The law on EagerFlags: of whatever arguments, its Go function returns true, and no block that was there has turned. Operations, notes and lists of operations that came in to a law: opened out of a law's argument. -/
import Derived.Test.YtnmddmmmgdfknaaED1
import Derived.Test.YtnmddmmmgdfknaaED4
import Derived.Deep.AppendLies
import Derived.Lib.SmallJoins
import Derived.Deep.Slices
import Derived.ProofKit
import Derived.OpenShut
namespace Go.Proofs.Ytnmddmmmgdfknaa
open Go.RowKit
set_option linter.unusedVariables false
/-- a function value that tells these flags, whatever comes -/
def Wt (w : World) (v : Value) (f : Int) : Prop :=
  ∃ (n : Nat) (cap : Array Value), v = .func (.func n) #[] cap ∧ (∀ (a : Array Value) (w : World), (callFunc n a).run Try.prog w = .ok (.enter n a) w) ∧
    ∀ w', Kept 0 0 w w' → Calls Try.prog n cap w' fun e w'' => e = .returned (iv f) ∧ Kept 0 0 w' w''
theorem fnw1 (a : Array Value) (w : World) : (callFunc 114 a).run Try.prog w = .ok (.enter 114 a) w := by kernel_rfl
theorem fnw2 (a : Array Value) (w : World) : (callFunc 116 a).run Try.prog w = .ok (.enter 116 a) w := by kernel_rfl
theorem fnw3 (a : Array Value) (w : World) : (callFunc 118 a).run Try.prog w = .ok (.enter 118 a) w := by kernel_rfl
theorem fnw4 (a : Array Value) (w : World) : (callFunc 120 a).run Try.prog w = .ok (.enter 120 a) w := by kernel_rfl
theorem fnw5 (a : Array Value) (w : World) : (callFunc 122 a).run Try.prog w = .ok (.enter 122 a) w := by kernel_rfl
theorem fnw0 (a : Array Value) (w : World) : (callFunc 123 a).run Try.prog w = .ok (.enter 123 a) w := by kernel_rfl
theorem known1 (w : World) (g : Nat) (f : Int) (h : Blk w g #[iv f] 3) : Calls Try.prog 123 #[.pointer (some ⟨g, 0, none⟩)] w fun e w' => e = .returned (iv f) ∧ Kept 0 0 w w' := by
  have q := h.all
  clear h
  go_enter Try.func123, Try.ntmps123
  go_wp2_with fail
  go_ret
  exact ⟨rfl, Kept.refl _ _ _⟩
theorem implKnown (w : World) (f : Int) : Calls Try.prog 78 #[iv f] w fun e w' => ∃ v, e = .returned v ∧ Wt w' v f ∧ Kept 0 0 w w' := by
  have hmf : ∀ (fn : Fn) (first cap : Array Value) (w : World), (Instr.makeFunc fn first cap).run Try.prog w = .ok (.func fn first cap) w := fun _ _ _ _ => rfl
  have B0 := hide (Blk.new w #[iv f] 3)
  go_enter Try.func78, Try.ntmps78
  go_wp2_with fail
  go_ret
  exact ⟨_, rfl, ⟨_, _, rfl, fnw0, fun w' k => known1 w' _ f (B0.out.kept0 k)⟩, kept_alloc _ _⟩
theorem behind1 (w : World) (g : Nat) (x : Pl.Fo) (h : Blk w g (foA x) 47) (hx : Pl.foOk x = true) : Calls Try.prog 114 #[.pointer (some ⟨g, 0, none⟩)] w fun e w' => e = .returned (iv (Pl.addF x.z 0 x.a x.b)) ∧ Kept 0 0 w w' := by
  obtain ⟨a0, a1, b0, b1⟩ := Pl.foOk_bd hx
  have q := h.all
  clear h hx
  go_enter Try.func114, Try.ntmps114
  go_wp2_with (go_at_call 115; refine st (addFlags x.z 0 x.a x.b _ (by omega) (by omega) (by omega) (by omega)) ?_)
  go_ret
  exact ⟨rfl, Kept.refl _ _ _⟩
theorem behind2 (w : World) (g : Nat) (x : Pl.Fo) (h : Blk w g (foA x) 47) (hx : Pl.foOk x = true) : Calls Try.prog 116 #[.pointer (some ⟨g, 0, none⟩)] w fun e w' => e = .returned (iv (Pl.subF x.z 0 x.a x.b)) ∧ Kept 0 0 w w' := by
  obtain ⟨a0, a1, b0, b1⟩ := Pl.foOk_bd hx
  have q := h.all
  clear h hx
  go_enter Try.func116, Try.ntmps116
  go_wp2_with (go_at_call 117; refine st (subFlags x.z 0 x.a x.b _ (by omega) (by omega) (by omega) (by omega)) ?_)
  go_ret
  exact ⟨rfl, Kept.refl _ _ _⟩
set_option maxRecDepth 100000 in
set_option maxHeartbeats 4000000 in
theorem behind3 (w0 w : World) (g g2 n : Nat) (cap : Array Value) (f : Int) (x : Pl.Fo) (h : Blk w g (foA x) 47) (h2 : Blk w g2 #[.func (.func n) #[] cap] 94) (hx : Pl.foOk x = true)
    (hfn : ∀ (a : Array Value) (w : World), (callFunc n a).run Try.prog w = .ok (.enter n a) w) (hk : Kept 0 0 w0 w) (hw : ∀ w', Kept 0 0 w0 w' → Calls Try.prog n cap w' fun e w'' => e = .returned (iv f) ∧ Kept 0 0 w' w'') :
    Calls Try.prog 118 #[.pointer (some ⟨g, 0, none⟩), .pointer (some ⟨g2, 0, none⟩)] w fun e w' => e = .returned (iv (Pl.cmpF x.z f x.a x.b)) ∧ Kept 0 0 w w' := by
  obtain ⟨a0, a1, b0, b1⟩ := Pl.foOk_bd hx
  have HB := hide h
  have HC := hide h2
  have HK := hide hk
  have HW := hide hw
  clear h h2 hx hk hw
  go_enter Try.func118, Try.ntmps118
  go_wp2_with fail
  refine wp_region_inv2 (fun A0 l A W => FR [6, 7, 8, 9, 10, 11, 12, 13, 14, 5, 15, 16, 3, 4] A0 A ∧ Once l 0 (A.tmps[6]? = some (.pointer (some ⟨g, 1, none⟩))) ∧ Once l 1 (A.tmps[7]? = some (iv x.z)) ∧ Once l 2 (A.tmps[8]? = some (.func (.func n) #[] cap)) ∧ Once l 3 (A.tmps[9]? = some (iv f)) ∧ Once l 4 (A.tmps[10]? = some (.pointer (some ⟨g, 2, none⟩))) ∧ Once l 5 (A.tmps[11]? = some (iv x.a)) ∧ Once l 6 (A.tmps[12]? = some (.pointer (some ⟨g, 3, none⟩))) ∧ Once l 7 (A.tmps[13]? = some (iv x.b)) ∧ Once l 8 (A.tmps[14]? = some (.tuple #[iv (Pl.cmpF x.z f x.a x.b), .bool (Pl.two x.z 0 x.a x.b && Pl.flags f)])) ∧ Once l 9 (A.tmps[5]? = some (.tuple #[iv (Pl.cmpF x.z f x.a x.b), .bool (Pl.two x.z 0 x.a x.b && Pl.flags f)])) ∧ Once l 10 (A.tmps[15]? = some (iv (Pl.cmpF x.z f x.a x.b))) ∧ Once l 11 (A.tmps[16]? = some (.bool (Pl.two x.z 0 x.a x.b && Pl.flags f))) ∧ Once l 12 (A.tmps[3]? = some (iv (Pl.cmpF x.z f x.a x.b))) ∧ Once l 13 (A.tmps[4]? = some (.bool (Pl.two x.z 0 x.a x.b && Pl.flags f))) ∧ Kept 0 0 w W) (by kernel_rfl) (by kernel_rfl) ?start ?fin ?step
  case start => exact ⟨FR.refl _ _, once_start (by decide), once_start (by decide), once_start (by decide), once_start (by decide), once_start (by decide), once_start (by decide), once_start (by decide), once_start (by decide), once_start (by decide), once_start (by decide), once_start (by decide), once_start (by decide), once_start (by decide), once_start (by decide), kept_drew (Kept.refl _ _ _)⟩
  case fin =>
    intro l A W h hl
    obtain ⟨hFR, o0, o1, o2, o3, o4, o5, o6, o7, o8, o9, o10, o11, o12, o13, hK⟩ := h
    have g12 := o12 (hl 12 (by decide))
    have QQ := hide hK
    have hc9 := hFR.chain
    simp only [List.foldl] at hc9
    rw [getD_of g12] at hc9
    clear hl hK hFR g12 o0 o1 o2 o3 o4 o5 o6 o7 o8 o9 o10 o11 o12 o13
    generalize A.tmps.getD 6 undef = s6 at hc9
    generalize A.tmps.getD 7 undef = s7 at hc9
    generalize A.tmps.getD 8 undef = s8 at hc9
    generalize A.tmps.getD 9 undef = s9 at hc9
    generalize A.tmps.getD 10 undef = s10 at hc9
    generalize A.tmps.getD 11 undef = s11 at hc9
    generalize A.tmps.getD 12 undef = s12 at hc9
    generalize A.tmps.getD 13 undef = s13 at hc9
    generalize A.tmps.getD 14 undef = s14 at hc9
    generalize A.tmps.getD 5 undef = s5 at hc9
    generalize A.tmps.getD 15 undef = s15 at hc9
    generalize A.tmps.getD 16 undef = s16 at hc9
    generalize A.tmps.getD 4 undef = s4 at hc9
    subst hc9
    go_simp
    go_wp2_with fail
    go_ret
    exact ⟨rfl, QQ.out⟩
  case step =>
    intro l A W i hI hm
    obtain ⟨hFR, o0, o1, o2, o3, o4, o5, o6, o7, o8, o9, o10, o11, o12, o13, hK⟩ := hI
    obtain ⟨hi1, hi2⟩ := ready_new hm
    have hsz : Hid (16 < A.tmps.size) := hide (by rw [hFR.size]; simp)
    have m0 : A.tmps[0]? = some (.pointer (some ⟨g, 0, none⟩)) := (hFR.out 0 (by decide)).trans rfl
    have m1 : A.tmps[1]? = some (.pointer (some ⟨g2, 0, none⟩)) := (hFR.out 1 (by decide)).trans rfl
    rcases i with _ | _ | _ | _ | _ | _ | _ | _ | _ | _ | _ | _ | _ | _ | i
    · refine wpOp_step rfl (fun KK hK2 => ?_)
      go_simp
      exact hK2 (A.put (some 6) (.pointer (some ⟨g, 1, none⟩))) _ ⟨hFR.put (by decide) _, .now (put_eq (by have hz := hsz.out; omega)), o1.past (by decide) (fun h => (put_ne (by decide)).trans h), o2.past (by decide) (fun h => (put_ne (by decide)).trans h), o3.past (by decide) (fun h => (put_ne (by decide)).trans h), o4.past (by decide) (fun h => (put_ne (by decide)).trans h), o5.past (by decide) (fun h => (put_ne (by decide)).trans h), o6.past (by decide) (fun h => (put_ne (by decide)).trans h), o7.past (by decide) (fun h => (put_ne (by decide)).trans h), o8.past (by decide) (fun h => (put_ne (by decide)).trans h), o9.past (by decide) (fun h => (put_ne (by decide)).trans h), o10.past (by decide) (fun h => (put_ne (by decide)).trans h), o11.past (by decide) (fun h => (put_ne (by decide)).trans h), o12.past (by decide) (fun h => (put_ne (by decide)).trans h), o13.past (by decide) (fun h => (put_ne (by decide)).trans h), hK⟩
    · have e0 := o0 (ready_dep hm 0 (by kernel_rfl))
      have BL := (HB.out.kept0 hK).all
      refine wpOp_step rfl (fun KK hK2 => ?_)
      go_simp
      exact hK2 (A.put (some 7) (iv x.z)) _ ⟨hFR.put (by decide) _, o0.past (by decide) (fun h => (put_ne (by decide)).trans h), .now (put_eq (by have hz := hsz.out; omega)), o2.past (by decide) (fun h => (put_ne (by decide)).trans h), o3.past (by decide) (fun h => (put_ne (by decide)).trans h), o4.past (by decide) (fun h => (put_ne (by decide)).trans h), o5.past (by decide) (fun h => (put_ne (by decide)).trans h), o6.past (by decide) (fun h => (put_ne (by decide)).trans h), o7.past (by decide) (fun h => (put_ne (by decide)).trans h), o8.past (by decide) (fun h => (put_ne (by decide)).trans h), o9.past (by decide) (fun h => (put_ne (by decide)).trans h), o10.past (by decide) (fun h => (put_ne (by decide)).trans h), o11.past (by decide) (fun h => (put_ne (by decide)).trans h), o12.past (by decide) (fun h => (put_ne (by decide)).trans h), o13.past (by decide) (fun h => (put_ne (by decide)).trans h), hK⟩
    · have CL := (HC.out.kept0 hK).all
      refine wpOp_step rfl (fun KK hK2 => ?_)
      go_simp
      exact hK2 (A.put (some 8) (.func (.func n) #[] cap)) _ ⟨hFR.put (by decide) _, o0.past (by decide) (fun h => (put_ne (by decide)).trans h), o1.past (by decide) (fun h => (put_ne (by decide)).trans h), .now (put_eq (by have hz := hsz.out; omega)), o3.past (by decide) (fun h => (put_ne (by decide)).trans h), o4.past (by decide) (fun h => (put_ne (by decide)).trans h), o5.past (by decide) (fun h => (put_ne (by decide)).trans h), o6.past (by decide) (fun h => (put_ne (by decide)).trans h), o7.past (by decide) (fun h => (put_ne (by decide)).trans h), o8.past (by decide) (fun h => (put_ne (by decide)).trans h), o9.past (by decide) (fun h => (put_ne (by decide)).trans h), o10.past (by decide) (fun h => (put_ne (by decide)).trans h), o11.past (by decide) (fun h => (put_ne (by decide)).trans h), o12.past (by decide) (fun h => (put_ne (by decide)).trans h), o13.past (by decide) (fun h => (put_ne (by decide)).trans h), hK⟩
    · have e2 := o2 (ready_dep hm 2 (by kernel_rfl))
      refine wpOp_step rfl (fun KK hK2 => ?_)
      go_simp
      refine (HW.out W ((HK.out.trans hK))).mono ?_
      rintro r9 y ⟨rfl, kd⟩
      go_simp
      exact hK2 (A.put (some 9) (iv f)) _ ⟨hFR.put (by decide) _, o0.past (by decide) (fun h => (put_ne (by decide)).trans h), o1.past (by decide) (fun h => (put_ne (by decide)).trans h), o2.past (by decide) (fun h => (put_ne (by decide)).trans h), .now (put_eq (by have hz := hsz.out; omega)), o4.past (by decide) (fun h => (put_ne (by decide)).trans h), o5.past (by decide) (fun h => (put_ne (by decide)).trans h), o6.past (by decide) (fun h => (put_ne (by decide)).trans h), o7.past (by decide) (fun h => (put_ne (by decide)).trans h), o8.past (by decide) (fun h => (put_ne (by decide)).trans h), o9.past (by decide) (fun h => (put_ne (by decide)).trans h), o10.past (by decide) (fun h => (put_ne (by decide)).trans h), o11.past (by decide) (fun h => (put_ne (by decide)).trans h), o12.past (by decide) (fun h => (put_ne (by decide)).trans h), o13.past (by decide) (fun h => (put_ne (by decide)).trans h), (hK.trans kd)⟩
    · refine wpOp_step rfl (fun KK hK2 => ?_)
      go_simp
      exact hK2 (A.put (some 10) (.pointer (some ⟨g, 2, none⟩))) _ ⟨hFR.put (by decide) _, o0.past (by decide) (fun h => (put_ne (by decide)).trans h), o1.past (by decide) (fun h => (put_ne (by decide)).trans h), o2.past (by decide) (fun h => (put_ne (by decide)).trans h), o3.past (by decide) (fun h => (put_ne (by decide)).trans h), .now (put_eq (by have hz := hsz.out; omega)), o5.past (by decide) (fun h => (put_ne (by decide)).trans h), o6.past (by decide) (fun h => (put_ne (by decide)).trans h), o7.past (by decide) (fun h => (put_ne (by decide)).trans h), o8.past (by decide) (fun h => (put_ne (by decide)).trans h), o9.past (by decide) (fun h => (put_ne (by decide)).trans h), o10.past (by decide) (fun h => (put_ne (by decide)).trans h), o11.past (by decide) (fun h => (put_ne (by decide)).trans h), o12.past (by decide) (fun h => (put_ne (by decide)).trans h), o13.past (by decide) (fun h => (put_ne (by decide)).trans h), hK⟩
    · have e4 := o4 (ready_dep hm 4 (by kernel_rfl))
      have BL := (HB.out.kept0 hK).all
      refine wpOp_step rfl (fun KK hK2 => ?_)
      go_simp
      exact hK2 (A.put (some 11) (iv x.a)) _ ⟨hFR.put (by decide) _, o0.past (by decide) (fun h => (put_ne (by decide)).trans h), o1.past (by decide) (fun h => (put_ne (by decide)).trans h), o2.past (by decide) (fun h => (put_ne (by decide)).trans h), o3.past (by decide) (fun h => (put_ne (by decide)).trans h), o4.past (by decide) (fun h => (put_ne (by decide)).trans h), .now (put_eq (by have hz := hsz.out; omega)), o6.past (by decide) (fun h => (put_ne (by decide)).trans h), o7.past (by decide) (fun h => (put_ne (by decide)).trans h), o8.past (by decide) (fun h => (put_ne (by decide)).trans h), o9.past (by decide) (fun h => (put_ne (by decide)).trans h), o10.past (by decide) (fun h => (put_ne (by decide)).trans h), o11.past (by decide) (fun h => (put_ne (by decide)).trans h), o12.past (by decide) (fun h => (put_ne (by decide)).trans h), o13.past (by decide) (fun h => (put_ne (by decide)).trans h), hK⟩
    · refine wpOp_step rfl (fun KK hK2 => ?_)
      go_simp
      exact hK2 (A.put (some 12) (.pointer (some ⟨g, 3, none⟩))) _ ⟨hFR.put (by decide) _, o0.past (by decide) (fun h => (put_ne (by decide)).trans h), o1.past (by decide) (fun h => (put_ne (by decide)).trans h), o2.past (by decide) (fun h => (put_ne (by decide)).trans h), o3.past (by decide) (fun h => (put_ne (by decide)).trans h), o4.past (by decide) (fun h => (put_ne (by decide)).trans h), o5.past (by decide) (fun h => (put_ne (by decide)).trans h), .now (put_eq (by have hz := hsz.out; omega)), o7.past (by decide) (fun h => (put_ne (by decide)).trans h), o8.past (by decide) (fun h => (put_ne (by decide)).trans h), o9.past (by decide) (fun h => (put_ne (by decide)).trans h), o10.past (by decide) (fun h => (put_ne (by decide)).trans h), o11.past (by decide) (fun h => (put_ne (by decide)).trans h), o12.past (by decide) (fun h => (put_ne (by decide)).trans h), o13.past (by decide) (fun h => (put_ne (by decide)).trans h), hK⟩
    · have e6 := o6 (ready_dep hm 6 (by kernel_rfl))
      have BL := (HB.out.kept0 hK).all
      refine wpOp_step rfl (fun KK hK2 => ?_)
      go_simp
      exact hK2 (A.put (some 13) (iv x.b)) _ ⟨hFR.put (by decide) _, o0.past (by decide) (fun h => (put_ne (by decide)).trans h), o1.past (by decide) (fun h => (put_ne (by decide)).trans h), o2.past (by decide) (fun h => (put_ne (by decide)).trans h), o3.past (by decide) (fun h => (put_ne (by decide)).trans h), o4.past (by decide) (fun h => (put_ne (by decide)).trans h), o5.past (by decide) (fun h => (put_ne (by decide)).trans h), o6.past (by decide) (fun h => (put_ne (by decide)).trans h), .now (put_eq (by have hz := hsz.out; omega)), o8.past (by decide) (fun h => (put_ne (by decide)).trans h), o9.past (by decide) (fun h => (put_ne (by decide)).trans h), o10.past (by decide) (fun h => (put_ne (by decide)).trans h), o11.past (by decide) (fun h => (put_ne (by decide)).trans h), o12.past (by decide) (fun h => (put_ne (by decide)).trans h), o13.past (by decide) (fun h => (put_ne (by decide)).trans h), hK⟩
    · have e1 := o1 (ready_dep hm 1 (by kernel_rfl))
      have e3 := o3 (ready_dep hm 3 (by kernel_rfl))
      have e5 := o5 (ready_dep hm 5 (by kernel_rfl))
      have e7 := o7 (ready_dep hm 7 (by kernel_rfl))
      refine wpOp_step rfl (fun KK hK2 => ?_)
      go_simp
      refine st (cmpFlags x.z f x.a x.b _ (by omega) (by omega) (by omega) (by omega)) ?_
      go_simp
      exact hK2 (A.put (some 14) (.tuple #[iv (Pl.cmpF x.z f x.a x.b), .bool (Pl.two x.z 0 x.a x.b && Pl.flags f)])) _ ⟨hFR.put (by decide) _, o0.past (by decide) (fun h => (put_ne (by decide)).trans h), o1.past (by decide) (fun h => (put_ne (by decide)).trans h), o2.past (by decide) (fun h => (put_ne (by decide)).trans h), o3.past (by decide) (fun h => (put_ne (by decide)).trans h), o4.past (by decide) (fun h => (put_ne (by decide)).trans h), o5.past (by decide) (fun h => (put_ne (by decide)).trans h), o6.past (by decide) (fun h => (put_ne (by decide)).trans h), o7.past (by decide) (fun h => (put_ne (by decide)).trans h), .now (put_eq (by have hz := hsz.out; omega)), o9.past (by decide) (fun h => (put_ne (by decide)).trans h), o10.past (by decide) (fun h => (put_ne (by decide)).trans h), o11.past (by decide) (fun h => (put_ne (by decide)).trans h), o12.past (by decide) (fun h => (put_ne (by decide)).trans h), o13.past (by decide) (fun h => (put_ne (by decide)).trans h), hK⟩
    · have e8 := o8 (ready_dep hm 8 (by kernel_rfl))
      refine wpOp_step rfl (fun KK hK2 => ?_)
      go_simp
      exact hK2 (A.put (some 5) (.tuple #[iv (Pl.cmpF x.z f x.a x.b), .bool (Pl.two x.z 0 x.a x.b && Pl.flags f)])) _ ⟨hFR.put (by decide) _, o0.past (by decide) (fun h => (put_ne (by decide)).trans h), o1.past (by decide) (fun h => (put_ne (by decide)).trans h), o2.past (by decide) (fun h => (put_ne (by decide)).trans h), o3.past (by decide) (fun h => (put_ne (by decide)).trans h), o4.past (by decide) (fun h => (put_ne (by decide)).trans h), o5.past (by decide) (fun h => (put_ne (by decide)).trans h), o6.past (by decide) (fun h => (put_ne (by decide)).trans h), o7.past (by decide) (fun h => (put_ne (by decide)).trans h), o8.past (by decide) (fun h => (put_ne (by decide)).trans h), .now (put_eq (by have hz := hsz.out; omega)), o10.past (by decide) (fun h => (put_ne (by decide)).trans h), o11.past (by decide) (fun h => (put_ne (by decide)).trans h), o12.past (by decide) (fun h => (put_ne (by decide)).trans h), o13.past (by decide) (fun h => (put_ne (by decide)).trans h), hK⟩
    · have e9 := o9 (ready_dep hm 9 (by kernel_rfl))
      refine wpOp_step rfl (fun KK hK2 => ?_)
      go_simp
      exact hK2 (A.put (some 15) (iv (Pl.cmpF x.z f x.a x.b))) _ ⟨hFR.put (by decide) _, o0.past (by decide) (fun h => (put_ne (by decide)).trans h), o1.past (by decide) (fun h => (put_ne (by decide)).trans h), o2.past (by decide) (fun h => (put_ne (by decide)).trans h), o3.past (by decide) (fun h => (put_ne (by decide)).trans h), o4.past (by decide) (fun h => (put_ne (by decide)).trans h), o5.past (by decide) (fun h => (put_ne (by decide)).trans h), o6.past (by decide) (fun h => (put_ne (by decide)).trans h), o7.past (by decide) (fun h => (put_ne (by decide)).trans h), o8.past (by decide) (fun h => (put_ne (by decide)).trans h), o9.past (by decide) (fun h => (put_ne (by decide)).trans h), .now (put_eq (by have hz := hsz.out; omega)), o11.past (by decide) (fun h => (put_ne (by decide)).trans h), o12.past (by decide) (fun h => (put_ne (by decide)).trans h), o13.past (by decide) (fun h => (put_ne (by decide)).trans h), hK⟩
    · have e9 := o9 (ready_dep hm 9 (by kernel_rfl))
      refine wpOp_step rfl (fun KK hK2 => ?_)
      go_simp
      exact hK2 (A.put (some 16) (.bool (Pl.two x.z 0 x.a x.b && Pl.flags f))) _ ⟨hFR.put (by decide) _, o0.past (by decide) (fun h => (put_ne (by decide)).trans h), o1.past (by decide) (fun h => (put_ne (by decide)).trans h), o2.past (by decide) (fun h => (put_ne (by decide)).trans h), o3.past (by decide) (fun h => (put_ne (by decide)).trans h), o4.past (by decide) (fun h => (put_ne (by decide)).trans h), o5.past (by decide) (fun h => (put_ne (by decide)).trans h), o6.past (by decide) (fun h => (put_ne (by decide)).trans h), o7.past (by decide) (fun h => (put_ne (by decide)).trans h), o8.past (by decide) (fun h => (put_ne (by decide)).trans h), o9.past (by decide) (fun h => (put_ne (by decide)).trans h), o10.past (by decide) (fun h => (put_ne (by decide)).trans h), .now (put_eq (by have hz := hsz.out; omega)), o12.past (by decide) (fun h => (put_ne (by decide)).trans h), o13.past (by decide) (fun h => (put_ne (by decide)).trans h), hK⟩
    · have e10 := o10 (ready_dep hm 10 (by kernel_rfl))
      refine wpOp_step rfl (fun KK hK2 => ?_)
      go_simp
      exact hK2 (A.put (some 3) (iv (Pl.cmpF x.z f x.a x.b))) _ ⟨hFR.put (by decide) _, o0.past (by decide) (fun h => (put_ne (by decide)).trans h), o1.past (by decide) (fun h => (put_ne (by decide)).trans h), o2.past (by decide) (fun h => (put_ne (by decide)).trans h), o3.past (by decide) (fun h => (put_ne (by decide)).trans h), o4.past (by decide) (fun h => (put_ne (by decide)).trans h), o5.past (by decide) (fun h => (put_ne (by decide)).trans h), o6.past (by decide) (fun h => (put_ne (by decide)).trans h), o7.past (by decide) (fun h => (put_ne (by decide)).trans h), o8.past (by decide) (fun h => (put_ne (by decide)).trans h), o9.past (by decide) (fun h => (put_ne (by decide)).trans h), o10.past (by decide) (fun h => (put_ne (by decide)).trans h), o11.past (by decide) (fun h => (put_ne (by decide)).trans h), .now (put_eq (by have hz := hsz.out; omega)), o13.past (by decide) (fun h => (put_ne (by decide)).trans h), hK⟩
    · have e11 := o11 (ready_dep hm 11 (by kernel_rfl))
      refine wpOp_step rfl (fun KK hK2 => ?_)
      go_simp
      exact hK2 (A.put (some 4) (.bool (Pl.two x.z 0 x.a x.b && Pl.flags f))) _ ⟨hFR.put (by decide) _, o0.past (by decide) (fun h => (put_ne (by decide)).trans h), o1.past (by decide) (fun h => (put_ne (by decide)).trans h), o2.past (by decide) (fun h => (put_ne (by decide)).trans h), o3.past (by decide) (fun h => (put_ne (by decide)).trans h), o4.past (by decide) (fun h => (put_ne (by decide)).trans h), o5.past (by decide) (fun h => (put_ne (by decide)).trans h), o6.past (by decide) (fun h => (put_ne (by decide)).trans h), o7.past (by decide) (fun h => (put_ne (by decide)).trans h), o8.past (by decide) (fun h => (put_ne (by decide)).trans h), o9.past (by decide) (fun h => (put_ne (by decide)).trans h), o10.past (by decide) (fun h => (put_ne (by decide)).trans h), o11.past (by decide) (fun h => (put_ne (by decide)).trans h), o12.past (by decide) (fun h => (put_ne (by decide)).trans h), .now (put_eq (by have hz := hsz.out; omega)), hK⟩
    · simp at hi1
      omega
set_option maxRecDepth 100000 in
set_option maxHeartbeats 4000000 in
theorem behind4 (w0 w : World) (g g2 n : Nat) (cap : Array Value) (f : Int) (x : Pl.Fo) (h : Blk w g (foA x) 47) (h2 : Blk w g2 #[.func (.func n) #[] cap] 94) (hx : Pl.foOk x = true)
    (hfn : ∀ (a : Array Value) (w : World), (callFunc n a).run Try.prog w = .ok (.enter n a) w) (hk : Kept 0 0 w0 w) (hw : ∀ w', Kept 0 0 w0 w' → Calls Try.prog n cap w' fun e w'' => e = .returned (iv f) ∧ Kept 0 0 w' w'') :
    Calls Try.prog 120 #[.pointer (some ⟨g, 0, none⟩), .pointer (some ⟨g2, 0, none⟩)] w fun e w' => e = .returned (iv (Pl.logF x.z f x.a)) ∧ Kept 0 0 w w' := by
  obtain ⟨a0, a1, b0, b1⟩ := Pl.foOk_bd hx
  have HB := hide h
  have HC := hide h2
  have HK := hide hk
  have HW := hide hw
  clear h h2 hx hk hw
  go_enter Try.func120, Try.ntmps120
  go_wp2_with fail
  refine wp_region_inv2 (fun A0 l A W => FR [6, 7, 8, 9, 10, 11, 12, 5, 13, 14, 3, 4] A0 A ∧ Once l 0 (A.tmps[6]? = some (.pointer (some ⟨g, 1, none⟩))) ∧ Once l 1 (A.tmps[7]? = some (iv x.z)) ∧ Once l 2 (A.tmps[8]? = some (.func (.func n) #[] cap)) ∧ Once l 3 (A.tmps[9]? = some (iv f)) ∧ Once l 4 (A.tmps[10]? = some (.pointer (some ⟨g, 2, none⟩))) ∧ Once l 5 (A.tmps[11]? = some (iv x.a)) ∧ Once l 6 (A.tmps[12]? = some (.tuple #[iv (Pl.logF x.z f x.a), .bool (Pl.okv x.z x.a && Pl.flags f)])) ∧ Once l 7 (A.tmps[5]? = some (.tuple #[iv (Pl.logF x.z f x.a), .bool (Pl.okv x.z x.a && Pl.flags f)])) ∧ Once l 8 (A.tmps[13]? = some (iv (Pl.logF x.z f x.a))) ∧ Once l 9 (A.tmps[14]? = some (.bool (Pl.okv x.z x.a && Pl.flags f))) ∧ Once l 10 (A.tmps[3]? = some (iv (Pl.logF x.z f x.a))) ∧ Once l 11 (A.tmps[4]? = some (.bool (Pl.okv x.z x.a && Pl.flags f))) ∧ Kept 0 0 w W) (by kernel_rfl) (by kernel_rfl) ?start ?fin ?step
  case start => exact ⟨FR.refl _ _, once_start (by decide), once_start (by decide), once_start (by decide), once_start (by decide), once_start (by decide), once_start (by decide), once_start (by decide), once_start (by decide), once_start (by decide), once_start (by decide), once_start (by decide), once_start (by decide), kept_drew (Kept.refl _ _ _)⟩
  case fin =>
    intro l A W h hl
    obtain ⟨hFR, o0, o1, o2, o3, o4, o5, o6, o7, o8, o9, o10, o11, hK⟩ := h
    have g10 := o10 (hl 10 (by decide))
    have QQ := hide hK
    have hc9 := hFR.chain
    simp only [List.foldl] at hc9
    rw [getD_of g10] at hc9
    clear hl hK hFR g10 o0 o1 o2 o3 o4 o5 o6 o7 o8 o9 o10 o11
    generalize A.tmps.getD 6 undef = s6 at hc9
    generalize A.tmps.getD 7 undef = s7 at hc9
    generalize A.tmps.getD 8 undef = s8 at hc9
    generalize A.tmps.getD 9 undef = s9 at hc9
    generalize A.tmps.getD 10 undef = s10 at hc9
    generalize A.tmps.getD 11 undef = s11 at hc9
    generalize A.tmps.getD 12 undef = s12 at hc9
    generalize A.tmps.getD 5 undef = s5 at hc9
    generalize A.tmps.getD 13 undef = s13 at hc9
    generalize A.tmps.getD 14 undef = s14 at hc9
    generalize A.tmps.getD 4 undef = s4 at hc9
    subst hc9
    go_simp
    go_wp2_with fail
    go_ret
    exact ⟨rfl, QQ.out⟩
  case step =>
    intro l A W i hI hm
    obtain ⟨hFR, o0, o1, o2, o3, o4, o5, o6, o7, o8, o9, o10, o11, hK⟩ := hI
    obtain ⟨hi1, hi2⟩ := ready_new hm
    have hsz : Hid (14 < A.tmps.size) := hide (by rw [hFR.size]; simp)
    have m0 : A.tmps[0]? = some (.pointer (some ⟨g, 0, none⟩)) := (hFR.out 0 (by decide)).trans rfl
    have m1 : A.tmps[1]? = some (.pointer (some ⟨g2, 0, none⟩)) := (hFR.out 1 (by decide)).trans rfl
    rcases i with _ | _ | _ | _ | _ | _ | _ | _ | _ | _ | _ | _ | i
    · refine wpOp_step rfl (fun KK hK2 => ?_)
      go_simp
      exact hK2 (A.put (some 6) (.pointer (some ⟨g, 1, none⟩))) _ ⟨hFR.put (by decide) _, .now (put_eq (by have hz := hsz.out; omega)), o1.past (by decide) (fun h => (put_ne (by decide)).trans h), o2.past (by decide) (fun h => (put_ne (by decide)).trans h), o3.past (by decide) (fun h => (put_ne (by decide)).trans h), o4.past (by decide) (fun h => (put_ne (by decide)).trans h), o5.past (by decide) (fun h => (put_ne (by decide)).trans h), o6.past (by decide) (fun h => (put_ne (by decide)).trans h), o7.past (by decide) (fun h => (put_ne (by decide)).trans h), o8.past (by decide) (fun h => (put_ne (by decide)).trans h), o9.past (by decide) (fun h => (put_ne (by decide)).trans h), o10.past (by decide) (fun h => (put_ne (by decide)).trans h), o11.past (by decide) (fun h => (put_ne (by decide)).trans h), hK⟩
    · have e0 := o0 (ready_dep hm 0 (by kernel_rfl))
      have BL := (HB.out.kept0 hK).all
      refine wpOp_step rfl (fun KK hK2 => ?_)
      go_simp
      exact hK2 (A.put (some 7) (iv x.z)) _ ⟨hFR.put (by decide) _, o0.past (by decide) (fun h => (put_ne (by decide)).trans h), .now (put_eq (by have hz := hsz.out; omega)), o2.past (by decide) (fun h => (put_ne (by decide)).trans h), o3.past (by decide) (fun h => (put_ne (by decide)).trans h), o4.past (by decide) (fun h => (put_ne (by decide)).trans h), o5.past (by decide) (fun h => (put_ne (by decide)).trans h), o6.past (by decide) (fun h => (put_ne (by decide)).trans h), o7.past (by decide) (fun h => (put_ne (by decide)).trans h), o8.past (by decide) (fun h => (put_ne (by decide)).trans h), o9.past (by decide) (fun h => (put_ne (by decide)).trans h), o10.past (by decide) (fun h => (put_ne (by decide)).trans h), o11.past (by decide) (fun h => (put_ne (by decide)).trans h), hK⟩
    · have CL := (HC.out.kept0 hK).all
      refine wpOp_step rfl (fun KK hK2 => ?_)
      go_simp
      exact hK2 (A.put (some 8) (.func (.func n) #[] cap)) _ ⟨hFR.put (by decide) _, o0.past (by decide) (fun h => (put_ne (by decide)).trans h), o1.past (by decide) (fun h => (put_ne (by decide)).trans h), .now (put_eq (by have hz := hsz.out; omega)), o3.past (by decide) (fun h => (put_ne (by decide)).trans h), o4.past (by decide) (fun h => (put_ne (by decide)).trans h), o5.past (by decide) (fun h => (put_ne (by decide)).trans h), o6.past (by decide) (fun h => (put_ne (by decide)).trans h), o7.past (by decide) (fun h => (put_ne (by decide)).trans h), o8.past (by decide) (fun h => (put_ne (by decide)).trans h), o9.past (by decide) (fun h => (put_ne (by decide)).trans h), o10.past (by decide) (fun h => (put_ne (by decide)).trans h), o11.past (by decide) (fun h => (put_ne (by decide)).trans h), hK⟩
    · have e2 := o2 (ready_dep hm 2 (by kernel_rfl))
      refine wpOp_step rfl (fun KK hK2 => ?_)
      go_simp
      refine (HW.out W ((HK.out.trans hK))).mono ?_
      rintro r9 y ⟨rfl, kd⟩
      go_simp
      exact hK2 (A.put (some 9) (iv f)) _ ⟨hFR.put (by decide) _, o0.past (by decide) (fun h => (put_ne (by decide)).trans h), o1.past (by decide) (fun h => (put_ne (by decide)).trans h), o2.past (by decide) (fun h => (put_ne (by decide)).trans h), .now (put_eq (by have hz := hsz.out; omega)), o4.past (by decide) (fun h => (put_ne (by decide)).trans h), o5.past (by decide) (fun h => (put_ne (by decide)).trans h), o6.past (by decide) (fun h => (put_ne (by decide)).trans h), o7.past (by decide) (fun h => (put_ne (by decide)).trans h), o8.past (by decide) (fun h => (put_ne (by decide)).trans h), o9.past (by decide) (fun h => (put_ne (by decide)).trans h), o10.past (by decide) (fun h => (put_ne (by decide)).trans h), o11.past (by decide) (fun h => (put_ne (by decide)).trans h), (hK.trans kd)⟩
    · refine wpOp_step rfl (fun KK hK2 => ?_)
      go_simp
      exact hK2 (A.put (some 10) (.pointer (some ⟨g, 2, none⟩))) _ ⟨hFR.put (by decide) _, o0.past (by decide) (fun h => (put_ne (by decide)).trans h), o1.past (by decide) (fun h => (put_ne (by decide)).trans h), o2.past (by decide) (fun h => (put_ne (by decide)).trans h), o3.past (by decide) (fun h => (put_ne (by decide)).trans h), .now (put_eq (by have hz := hsz.out; omega)), o5.past (by decide) (fun h => (put_ne (by decide)).trans h), o6.past (by decide) (fun h => (put_ne (by decide)).trans h), o7.past (by decide) (fun h => (put_ne (by decide)).trans h), o8.past (by decide) (fun h => (put_ne (by decide)).trans h), o9.past (by decide) (fun h => (put_ne (by decide)).trans h), o10.past (by decide) (fun h => (put_ne (by decide)).trans h), o11.past (by decide) (fun h => (put_ne (by decide)).trans h), hK⟩
    · have e4 := o4 (ready_dep hm 4 (by kernel_rfl))
      have BL := (HB.out.kept0 hK).all
      refine wpOp_step rfl (fun KK hK2 => ?_)
      go_simp
      exact hK2 (A.put (some 11) (iv x.a)) _ ⟨hFR.put (by decide) _, o0.past (by decide) (fun h => (put_ne (by decide)).trans h), o1.past (by decide) (fun h => (put_ne (by decide)).trans h), o2.past (by decide) (fun h => (put_ne (by decide)).trans h), o3.past (by decide) (fun h => (put_ne (by decide)).trans h), o4.past (by decide) (fun h => (put_ne (by decide)).trans h), .now (put_eq (by have hz := hsz.out; omega)), o6.past (by decide) (fun h => (put_ne (by decide)).trans h), o7.past (by decide) (fun h => (put_ne (by decide)).trans h), o8.past (by decide) (fun h => (put_ne (by decide)).trans h), o9.past (by decide) (fun h => (put_ne (by decide)).trans h), o10.past (by decide) (fun h => (put_ne (by decide)).trans h), o11.past (by decide) (fun h => (put_ne (by decide)).trans h), hK⟩
    · have e1 := o1 (ready_dep hm 1 (by kernel_rfl))
      have e3 := o3 (ready_dep hm 3 (by kernel_rfl))
      have e5 := o5 (ready_dep hm 5 (by kernel_rfl))
      refine wpOp_step rfl (fun KK hK2 => ?_)
      go_simp
      refine st (logicFlags x.z f x.a _ (by omega) (by omega)) ?_
      go_simp
      exact hK2 (A.put (some 12) (.tuple #[iv (Pl.logF x.z f x.a), .bool (Pl.okv x.z x.a && Pl.flags f)])) _ ⟨hFR.put (by decide) _, o0.past (by decide) (fun h => (put_ne (by decide)).trans h), o1.past (by decide) (fun h => (put_ne (by decide)).trans h), o2.past (by decide) (fun h => (put_ne (by decide)).trans h), o3.past (by decide) (fun h => (put_ne (by decide)).trans h), o4.past (by decide) (fun h => (put_ne (by decide)).trans h), o5.past (by decide) (fun h => (put_ne (by decide)).trans h), .now (put_eq (by have hz := hsz.out; omega)), o7.past (by decide) (fun h => (put_ne (by decide)).trans h), o8.past (by decide) (fun h => (put_ne (by decide)).trans h), o9.past (by decide) (fun h => (put_ne (by decide)).trans h), o10.past (by decide) (fun h => (put_ne (by decide)).trans h), o11.past (by decide) (fun h => (put_ne (by decide)).trans h), hK⟩
    · have e6 := o6 (ready_dep hm 6 (by kernel_rfl))
      refine wpOp_step rfl (fun KK hK2 => ?_)
      go_simp
      exact hK2 (A.put (some 5) (.tuple #[iv (Pl.logF x.z f x.a), .bool (Pl.okv x.z x.a && Pl.flags f)])) _ ⟨hFR.put (by decide) _, o0.past (by decide) (fun h => (put_ne (by decide)).trans h), o1.past (by decide) (fun h => (put_ne (by decide)).trans h), o2.past (by decide) (fun h => (put_ne (by decide)).trans h), o3.past (by decide) (fun h => (put_ne (by decide)).trans h), o4.past (by decide) (fun h => (put_ne (by decide)).trans h), o5.past (by decide) (fun h => (put_ne (by decide)).trans h), o6.past (by decide) (fun h => (put_ne (by decide)).trans h), .now (put_eq (by have hz := hsz.out; omega)), o8.past (by decide) (fun h => (put_ne (by decide)).trans h), o9.past (by decide) (fun h => (put_ne (by decide)).trans h), o10.past (by decide) (fun h => (put_ne (by decide)).trans h), o11.past (by decide) (fun h => (put_ne (by decide)).trans h), hK⟩
    · have e7 := o7 (ready_dep hm 7 (by kernel_rfl))
      refine wpOp_step rfl (fun KK hK2 => ?_)
      go_simp
      exact hK2 (A.put (some 13) (iv (Pl.logF x.z f x.a))) _ ⟨hFR.put (by decide) _, o0.past (by decide) (fun h => (put_ne (by decide)).trans h), o1.past (by decide) (fun h => (put_ne (by decide)).trans h), o2.past (by decide) (fun h => (put_ne (by decide)).trans h), o3.past (by decide) (fun h => (put_ne (by decide)).trans h), o4.past (by decide) (fun h => (put_ne (by decide)).trans h), o5.past (by decide) (fun h => (put_ne (by decide)).trans h), o6.past (by decide) (fun h => (put_ne (by decide)).trans h), o7.past (by decide) (fun h => (put_ne (by decide)).trans h), .now (put_eq (by have hz := hsz.out; omega)), o9.past (by decide) (fun h => (put_ne (by decide)).trans h), o10.past (by decide) (fun h => (put_ne (by decide)).trans h), o11.past (by decide) (fun h => (put_ne (by decide)).trans h), hK⟩
    · have e7 := o7 (ready_dep hm 7 (by kernel_rfl))
      refine wpOp_step rfl (fun KK hK2 => ?_)
      go_simp
      exact hK2 (A.put (some 14) (.bool (Pl.okv x.z x.a && Pl.flags f))) _ ⟨hFR.put (by decide) _, o0.past (by decide) (fun h => (put_ne (by decide)).trans h), o1.past (by decide) (fun h => (put_ne (by decide)).trans h), o2.past (by decide) (fun h => (put_ne (by decide)).trans h), o3.past (by decide) (fun h => (put_ne (by decide)).trans h), o4.past (by decide) (fun h => (put_ne (by decide)).trans h), o5.past (by decide) (fun h => (put_ne (by decide)).trans h), o6.past (by decide) (fun h => (put_ne (by decide)).trans h), o7.past (by decide) (fun h => (put_ne (by decide)).trans h), o8.past (by decide) (fun h => (put_ne (by decide)).trans h), .now (put_eq (by have hz := hsz.out; omega)), o10.past (by decide) (fun h => (put_ne (by decide)).trans h), o11.past (by decide) (fun h => (put_ne (by decide)).trans h), hK⟩
    · have e8 := o8 (ready_dep hm 8 (by kernel_rfl))
      refine wpOp_step rfl (fun KK hK2 => ?_)
      go_simp
      exact hK2 (A.put (some 3) (iv (Pl.logF x.z f x.a))) _ ⟨hFR.put (by decide) _, o0.past (by decide) (fun h => (put_ne (by decide)).trans h), o1.past (by decide) (fun h => (put_ne (by decide)).trans h), o2.past (by decide) (fun h => (put_ne (by decide)).trans h), o3.past (by decide) (fun h => (put_ne (by decide)).trans h), o4.past (by decide) (fun h => (put_ne (by decide)).trans h), o5.past (by decide) (fun h => (put_ne (by decide)).trans h), o6.past (by decide) (fun h => (put_ne (by decide)).trans h), o7.past (by decide) (fun h => (put_ne (by decide)).trans h), o8.past (by decide) (fun h => (put_ne (by decide)).trans h), o9.past (by decide) (fun h => (put_ne (by decide)).trans h), .now (put_eq (by have hz := hsz.out; omega)), o11.past (by decide) (fun h => (put_ne (by decide)).trans h), hK⟩
    · have e9 := o9 (ready_dep hm 9 (by kernel_rfl))
      refine wpOp_step rfl (fun KK hK2 => ?_)
      go_simp
      exact hK2 (A.put (some 4) (.bool (Pl.okv x.z x.a && Pl.flags f))) _ ⟨hFR.put (by decide) _, o0.past (by decide) (fun h => (put_ne (by decide)).trans h), o1.past (by decide) (fun h => (put_ne (by decide)).trans h), o2.past (by decide) (fun h => (put_ne (by decide)).trans h), o3.past (by decide) (fun h => (put_ne (by decide)).trans h), o4.past (by decide) (fun h => (put_ne (by decide)).trans h), o5.past (by decide) (fun h => (put_ne (by decide)).trans h), o6.past (by decide) (fun h => (put_ne (by decide)).trans h), o7.past (by decide) (fun h => (put_ne (by decide)).trans h), o8.past (by decide) (fun h => (put_ne (by decide)).trans h), o9.past (by decide) (fun h => (put_ne (by decide)).trans h), o10.past (by decide) (fun h => (put_ne (by decide)).trans h), .now (put_eq (by have hz := hsz.out; omega)), hK⟩
    · simp at hi1
      omega
set_option maxRecDepth 100000 in
set_option maxHeartbeats 4000000 in
theorem behind5 (w0 w : World) (g g2 n : Nat) (cap : Array Value) (f : Int) (x : Pl.Fo) (h : Blk w g (foA x) 47) (h2 : Blk w g2 #[.func (.func n) #[] cap] 94) (hx : Pl.foOk x = true)
    (hfn : ∀ (a : Array Value) (w : World), (callFunc n a).run Try.prog w = .ok (.enter n a) w) (hk : Kept 0 0 w0 w) (hw : ∀ w', Kept 0 0 w0 w' → Calls Try.prog n cap w' fun e w'' => e = .returned (iv f) ∧ Kept 0 0 w' w'') :
    Calls Try.prog 122 #[.pointer (some ⟨g, 0, none⟩), .pointer (some ⟨g2, 0, none⟩)] w fun e w' => e = .returned (iv (Pl.onceF 4 x.z f x.a)) ∧ Kept 0 0 w w' := by
  obtain ⟨a0, a1, b0, b1⟩ := Pl.foOk_bd hx
  have HB := hide h
  have HC := hide h2
  have HK := hide hk
  have HW := hide hw
  clear h h2 hx hk hw
  go_enter Try.func122, Try.ntmps122
  go_wp2_with fail
  refine wp_region_inv2 (fun A0 l A W => FR [7, 8, 9, 10, 11, 12, 13, 6, 14, 15, 16, 3, 4, 5] A0 A ∧ Once l 0 (A.tmps[7]? = some (.pointer (some ⟨g, 1, none⟩))) ∧ Once l 1 (A.tmps[8]? = some (iv x.z)) ∧ Once l 2 (A.tmps[9]? = some (.func (.func n) #[] cap)) ∧ Once l 3 (A.tmps[10]? = some (iv f)) ∧ Once l 4 (A.tmps[11]? = some (.pointer (some ⟨g, 2, none⟩))) ∧ Once l 5 (A.tmps[12]? = some (iv x.a)) ∧ Once l 6 (A.tmps[13]? = some (.tuple #[iv (Pl.onceV 4 x.z f x.a), iv (Pl.onceF 4 x.z f x.a), .bool (Pl.goodK 4 x.z f x.a)])) ∧ Once l 7 (A.tmps[6]? = some (.tuple #[iv (Pl.onceV 4 x.z f x.a), iv (Pl.onceF 4 x.z f x.a), .bool (Pl.goodK 4 x.z f x.a)])) ∧ Once l 8 (A.tmps[14]? = some (iv (Pl.onceV 4 x.z f x.a))) ∧ Once l 9 (A.tmps[15]? = some (iv (Pl.onceF 4 x.z f x.a))) ∧ Once l 10 (A.tmps[16]? = some (.bool (Pl.goodK 4 x.z f x.a))) ∧ Once l 11 (A.tmps[3]? = some (iv (Pl.onceV 4 x.z f x.a))) ∧ Once l 12 (A.tmps[4]? = some (iv (Pl.onceF 4 x.z f x.a))) ∧ Once l 13 (A.tmps[5]? = some (.bool (Pl.goodK 4 x.z f x.a))) ∧ Kept 0 0 w W) (by kernel_rfl) (by kernel_rfl) ?start ?fin ?step
  case start => exact ⟨FR.refl _ _, once_start (by decide), once_start (by decide), once_start (by decide), once_start (by decide), once_start (by decide), once_start (by decide), once_start (by decide), once_start (by decide), once_start (by decide), once_start (by decide), once_start (by decide), once_start (by decide), once_start (by decide), once_start (by decide), kept_drew (Kept.refl _ _ _)⟩
  case fin =>
    intro l A W h hl
    obtain ⟨hFR, o0, o1, o2, o3, o4, o5, o6, o7, o8, o9, o10, o11, o12, o13, hK⟩ := h
    have g12 := o12 (hl 12 (by decide))
    have QQ := hide hK
    have hc9 := hFR.chain
    simp only [List.foldl] at hc9
    rw [getD_of g12] at hc9
    clear hl hK hFR g12 o0 o1 o2 o3 o4 o5 o6 o7 o8 o9 o10 o11 o12 o13
    generalize A.tmps.getD 7 undef = s7 at hc9
    generalize A.tmps.getD 8 undef = s8 at hc9
    generalize A.tmps.getD 9 undef = s9 at hc9
    generalize A.tmps.getD 10 undef = s10 at hc9
    generalize A.tmps.getD 11 undef = s11 at hc9
    generalize A.tmps.getD 12 undef = s12 at hc9
    generalize A.tmps.getD 13 undef = s13 at hc9
    generalize A.tmps.getD 6 undef = s6 at hc9
    generalize A.tmps.getD 14 undef = s14 at hc9
    generalize A.tmps.getD 15 undef = s15 at hc9
    generalize A.tmps.getD 16 undef = s16 at hc9
    generalize A.tmps.getD 3 undef = s3 at hc9
    generalize A.tmps.getD 5 undef = s5 at hc9
    subst hc9
    go_simp
    go_wp2_with fail
    go_ret
    exact ⟨rfl, QQ.out⟩
  case step =>
    intro l A W i hI hm
    obtain ⟨hFR, o0, o1, o2, o3, o4, o5, o6, o7, o8, o9, o10, o11, o12, o13, hK⟩ := hI
    obtain ⟨hi1, hi2⟩ := ready_new hm
    have hsz : Hid (16 < A.tmps.size) := hide (by rw [hFR.size]; simp)
    have m0 : A.tmps[0]? = some (.pointer (some ⟨g, 0, none⟩)) := (hFR.out 0 (by decide)).trans rfl
    have m1 : A.tmps[1]? = some (.pointer (some ⟨g2, 0, none⟩)) := (hFR.out 1 (by decide)).trans rfl
    rcases i with _ | _ | _ | _ | _ | _ | _ | _ | _ | _ | _ | _ | _ | _ | i
    · refine wpOp_step rfl (fun KK hK2 => ?_)
      go_simp
      exact hK2 (A.put (some 7) (.pointer (some ⟨g, 1, none⟩))) _ ⟨hFR.put (by decide) _, .now (put_eq (by have hz := hsz.out; omega)), o1.past (by decide) (fun h => (put_ne (by decide)).trans h), o2.past (by decide) (fun h => (put_ne (by decide)).trans h), o3.past (by decide) (fun h => (put_ne (by decide)).trans h), o4.past (by decide) (fun h => (put_ne (by decide)).trans h), o5.past (by decide) (fun h => (put_ne (by decide)).trans h), o6.past (by decide) (fun h => (put_ne (by decide)).trans h), o7.past (by decide) (fun h => (put_ne (by decide)).trans h), o8.past (by decide) (fun h => (put_ne (by decide)).trans h), o9.past (by decide) (fun h => (put_ne (by decide)).trans h), o10.past (by decide) (fun h => (put_ne (by decide)).trans h), o11.past (by decide) (fun h => (put_ne (by decide)).trans h), o12.past (by decide) (fun h => (put_ne (by decide)).trans h), o13.past (by decide) (fun h => (put_ne (by decide)).trans h), hK⟩
    · have e0 := o0 (ready_dep hm 0 (by kernel_rfl))
      have BL := (HB.out.kept0 hK).all
      refine wpOp_step rfl (fun KK hK2 => ?_)
      go_simp
      exact hK2 (A.put (some 8) (iv x.z)) _ ⟨hFR.put (by decide) _, o0.past (by decide) (fun h => (put_ne (by decide)).trans h), .now (put_eq (by have hz := hsz.out; omega)), o2.past (by decide) (fun h => (put_ne (by decide)).trans h), o3.past (by decide) (fun h => (put_ne (by decide)).trans h), o4.past (by decide) (fun h => (put_ne (by decide)).trans h), o5.past (by decide) (fun h => (put_ne (by decide)).trans h), o6.past (by decide) (fun h => (put_ne (by decide)).trans h), o7.past (by decide) (fun h => (put_ne (by decide)).trans h), o8.past (by decide) (fun h => (put_ne (by decide)).trans h), o9.past (by decide) (fun h => (put_ne (by decide)).trans h), o10.past (by decide) (fun h => (put_ne (by decide)).trans h), o11.past (by decide) (fun h => (put_ne (by decide)).trans h), o12.past (by decide) (fun h => (put_ne (by decide)).trans h), o13.past (by decide) (fun h => (put_ne (by decide)).trans h), hK⟩
    · have CL := (HC.out.kept0 hK).all
      refine wpOp_step rfl (fun KK hK2 => ?_)
      go_simp
      exact hK2 (A.put (some 9) (.func (.func n) #[] cap)) _ ⟨hFR.put (by decide) _, o0.past (by decide) (fun h => (put_ne (by decide)).trans h), o1.past (by decide) (fun h => (put_ne (by decide)).trans h), .now (put_eq (by have hz := hsz.out; omega)), o3.past (by decide) (fun h => (put_ne (by decide)).trans h), o4.past (by decide) (fun h => (put_ne (by decide)).trans h), o5.past (by decide) (fun h => (put_ne (by decide)).trans h), o6.past (by decide) (fun h => (put_ne (by decide)).trans h), o7.past (by decide) (fun h => (put_ne (by decide)).trans h), o8.past (by decide) (fun h => (put_ne (by decide)).trans h), o9.past (by decide) (fun h => (put_ne (by decide)).trans h), o10.past (by decide) (fun h => (put_ne (by decide)).trans h), o11.past (by decide) (fun h => (put_ne (by decide)).trans h), o12.past (by decide) (fun h => (put_ne (by decide)).trans h), o13.past (by decide) (fun h => (put_ne (by decide)).trans h), hK⟩
    · have e2 := o2 (ready_dep hm 2 (by kernel_rfl))
      refine wpOp_step rfl (fun KK hK2 => ?_)
      go_simp
      refine (HW.out W ((HK.out.trans hK))).mono ?_
      rintro r9 y ⟨rfl, kd⟩
      go_simp
      exact hK2 (A.put (some 10) (iv f)) _ ⟨hFR.put (by decide) _, o0.past (by decide) (fun h => (put_ne (by decide)).trans h), o1.past (by decide) (fun h => (put_ne (by decide)).trans h), o2.past (by decide) (fun h => (put_ne (by decide)).trans h), .now (put_eq (by have hz := hsz.out; omega)), o4.past (by decide) (fun h => (put_ne (by decide)).trans h), o5.past (by decide) (fun h => (put_ne (by decide)).trans h), o6.past (by decide) (fun h => (put_ne (by decide)).trans h), o7.past (by decide) (fun h => (put_ne (by decide)).trans h), o8.past (by decide) (fun h => (put_ne (by decide)).trans h), o9.past (by decide) (fun h => (put_ne (by decide)).trans h), o10.past (by decide) (fun h => (put_ne (by decide)).trans h), o11.past (by decide) (fun h => (put_ne (by decide)).trans h), o12.past (by decide) (fun h => (put_ne (by decide)).trans h), o13.past (by decide) (fun h => (put_ne (by decide)).trans h), (hK.trans kd)⟩
    · refine wpOp_step rfl (fun KK hK2 => ?_)
      go_simp
      exact hK2 (A.put (some 11) (.pointer (some ⟨g, 2, none⟩))) _ ⟨hFR.put (by decide) _, o0.past (by decide) (fun h => (put_ne (by decide)).trans h), o1.past (by decide) (fun h => (put_ne (by decide)).trans h), o2.past (by decide) (fun h => (put_ne (by decide)).trans h), o3.past (by decide) (fun h => (put_ne (by decide)).trans h), .now (put_eq (by have hz := hsz.out; omega)), o5.past (by decide) (fun h => (put_ne (by decide)).trans h), o6.past (by decide) (fun h => (put_ne (by decide)).trans h), o7.past (by decide) (fun h => (put_ne (by decide)).trans h), o8.past (by decide) (fun h => (put_ne (by decide)).trans h), o9.past (by decide) (fun h => (put_ne (by decide)).trans h), o10.past (by decide) (fun h => (put_ne (by decide)).trans h), o11.past (by decide) (fun h => (put_ne (by decide)).trans h), o12.past (by decide) (fun h => (put_ne (by decide)).trans h), o13.past (by decide) (fun h => (put_ne (by decide)).trans h), hK⟩
    · have e4 := o4 (ready_dep hm 4 (by kernel_rfl))
      have BL := (HB.out.kept0 hK).all
      refine wpOp_step rfl (fun KK hK2 => ?_)
      go_simp
      exact hK2 (A.put (some 12) (iv x.a)) _ ⟨hFR.put (by decide) _, o0.past (by decide) (fun h => (put_ne (by decide)).trans h), o1.past (by decide) (fun h => (put_ne (by decide)).trans h), o2.past (by decide) (fun h => (put_ne (by decide)).trans h), o3.past (by decide) (fun h => (put_ne (by decide)).trans h), o4.past (by decide) (fun h => (put_ne (by decide)).trans h), .now (put_eq (by have hz := hsz.out; omega)), o6.past (by decide) (fun h => (put_ne (by decide)).trans h), o7.past (by decide) (fun h => (put_ne (by decide)).trans h), o8.past (by decide) (fun h => (put_ne (by decide)).trans h), o9.past (by decide) (fun h => (put_ne (by decide)).trans h), o10.past (by decide) (fun h => (put_ne (by decide)).trans h), o11.past (by decide) (fun h => (put_ne (by decide)).trans h), o12.past (by decide) (fun h => (put_ne (by decide)).trans h), o13.past (by decide) (fun h => (put_ne (by decide)).trans h), hK⟩
    · have e1 := o1 (ready_dep hm 1 (by kernel_rfl))
      have e3 := o3 (ready_dep hm 3 (by kernel_rfl))
      have e5 := o5 (ready_dep hm 5 (by kernel_rfl))
      refine wpOp_step rfl (fun KK hK2 => ?_)
      go_simp
      refine (shiftOnce 4 x.z f x.a _ ⟨by omega, by omega⟩).mono ?_
      rintro r9 y ⟨rfl, kb⟩
      have kd := kept_below kb
      go_simp
      exact hK2 (A.put (some 13) (.tuple #[iv (Pl.onceV 4 x.z f x.a), iv (Pl.onceF 4 x.z f x.a), .bool (Pl.goodK 4 x.z f x.a)])) _ ⟨hFR.put (by decide) _, o0.past (by decide) (fun h => (put_ne (by decide)).trans h), o1.past (by decide) (fun h => (put_ne (by decide)).trans h), o2.past (by decide) (fun h => (put_ne (by decide)).trans h), o3.past (by decide) (fun h => (put_ne (by decide)).trans h), o4.past (by decide) (fun h => (put_ne (by decide)).trans h), o5.past (by decide) (fun h => (put_ne (by decide)).trans h), .now (put_eq (by have hz := hsz.out; omega)), o7.past (by decide) (fun h => (put_ne (by decide)).trans h), o8.past (by decide) (fun h => (put_ne (by decide)).trans h), o9.past (by decide) (fun h => (put_ne (by decide)).trans h), o10.past (by decide) (fun h => (put_ne (by decide)).trans h), o11.past (by decide) (fun h => (put_ne (by decide)).trans h), o12.past (by decide) (fun h => (put_ne (by decide)).trans h), o13.past (by decide) (fun h => (put_ne (by decide)).trans h), (hK.trans kd)⟩
    · have e6 := o6 (ready_dep hm 6 (by kernel_rfl))
      refine wpOp_step rfl (fun KK hK2 => ?_)
      go_simp
      exact hK2 (A.put (some 6) (.tuple #[iv (Pl.onceV 4 x.z f x.a), iv (Pl.onceF 4 x.z f x.a), .bool (Pl.goodK 4 x.z f x.a)])) _ ⟨hFR.put (by decide) _, o0.past (by decide) (fun h => (put_ne (by decide)).trans h), o1.past (by decide) (fun h => (put_ne (by decide)).trans h), o2.past (by decide) (fun h => (put_ne (by decide)).trans h), o3.past (by decide) (fun h => (put_ne (by decide)).trans h), o4.past (by decide) (fun h => (put_ne (by decide)).trans h), o5.past (by decide) (fun h => (put_ne (by decide)).trans h), o6.past (by decide) (fun h => (put_ne (by decide)).trans h), .now (put_eq (by have hz := hsz.out; omega)), o8.past (by decide) (fun h => (put_ne (by decide)).trans h), o9.past (by decide) (fun h => (put_ne (by decide)).trans h), o10.past (by decide) (fun h => (put_ne (by decide)).trans h), o11.past (by decide) (fun h => (put_ne (by decide)).trans h), o12.past (by decide) (fun h => (put_ne (by decide)).trans h), o13.past (by decide) (fun h => (put_ne (by decide)).trans h), hK⟩
    · have e7 := o7 (ready_dep hm 7 (by kernel_rfl))
      refine wpOp_step rfl (fun KK hK2 => ?_)
      go_simp
      exact hK2 (A.put (some 14) (iv (Pl.onceV 4 x.z f x.a))) _ ⟨hFR.put (by decide) _, o0.past (by decide) (fun h => (put_ne (by decide)).trans h), o1.past (by decide) (fun h => (put_ne (by decide)).trans h), o2.past (by decide) (fun h => (put_ne (by decide)).trans h), o3.past (by decide) (fun h => (put_ne (by decide)).trans h), o4.past (by decide) (fun h => (put_ne (by decide)).trans h), o5.past (by decide) (fun h => (put_ne (by decide)).trans h), o6.past (by decide) (fun h => (put_ne (by decide)).trans h), o7.past (by decide) (fun h => (put_ne (by decide)).trans h), .now (put_eq (by have hz := hsz.out; omega)), o9.past (by decide) (fun h => (put_ne (by decide)).trans h), o10.past (by decide) (fun h => (put_ne (by decide)).trans h), o11.past (by decide) (fun h => (put_ne (by decide)).trans h), o12.past (by decide) (fun h => (put_ne (by decide)).trans h), o13.past (by decide) (fun h => (put_ne (by decide)).trans h), hK⟩
    · have e7 := o7 (ready_dep hm 7 (by kernel_rfl))
      refine wpOp_step rfl (fun KK hK2 => ?_)
      go_simp
      exact hK2 (A.put (some 15) (iv (Pl.onceF 4 x.z f x.a))) _ ⟨hFR.put (by decide) _, o0.past (by decide) (fun h => (put_ne (by decide)).trans h), o1.past (by decide) (fun h => (put_ne (by decide)).trans h), o2.past (by decide) (fun h => (put_ne (by decide)).trans h), o3.past (by decide) (fun h => (put_ne (by decide)).trans h), o4.past (by decide) (fun h => (put_ne (by decide)).trans h), o5.past (by decide) (fun h => (put_ne (by decide)).trans h), o6.past (by decide) (fun h => (put_ne (by decide)).trans h), o7.past (by decide) (fun h => (put_ne (by decide)).trans h), o8.past (by decide) (fun h => (put_ne (by decide)).trans h), .now (put_eq (by have hz := hsz.out; omega)), o10.past (by decide) (fun h => (put_ne (by decide)).trans h), o11.past (by decide) (fun h => (put_ne (by decide)).trans h), o12.past (by decide) (fun h => (put_ne (by decide)).trans h), o13.past (by decide) (fun h => (put_ne (by decide)).trans h), hK⟩
    · have e7 := o7 (ready_dep hm 7 (by kernel_rfl))
      refine wpOp_step rfl (fun KK hK2 => ?_)
      go_simp
      exact hK2 (A.put (some 16) (.bool (Pl.goodK 4 x.z f x.a))) _ ⟨hFR.put (by decide) _, o0.past (by decide) (fun h => (put_ne (by decide)).trans h), o1.past (by decide) (fun h => (put_ne (by decide)).trans h), o2.past (by decide) (fun h => (put_ne (by decide)).trans h), o3.past (by decide) (fun h => (put_ne (by decide)).trans h), o4.past (by decide) (fun h => (put_ne (by decide)).trans h), o5.past (by decide) (fun h => (put_ne (by decide)).trans h), o6.past (by decide) (fun h => (put_ne (by decide)).trans h), o7.past (by decide) (fun h => (put_ne (by decide)).trans h), o8.past (by decide) (fun h => (put_ne (by decide)).trans h), o9.past (by decide) (fun h => (put_ne (by decide)).trans h), .now (put_eq (by have hz := hsz.out; omega)), o11.past (by decide) (fun h => (put_ne (by decide)).trans h), o12.past (by decide) (fun h => (put_ne (by decide)).trans h), o13.past (by decide) (fun h => (put_ne (by decide)).trans h), hK⟩
    · have e8 := o8 (ready_dep hm 8 (by kernel_rfl))
      refine wpOp_step rfl (fun KK hK2 => ?_)
      go_simp
      exact hK2 (A.put (some 3) (iv (Pl.onceV 4 x.z f x.a))) _ ⟨hFR.put (by decide) _, o0.past (by decide) (fun h => (put_ne (by decide)).trans h), o1.past (by decide) (fun h => (put_ne (by decide)).trans h), o2.past (by decide) (fun h => (put_ne (by decide)).trans h), o3.past (by decide) (fun h => (put_ne (by decide)).trans h), o4.past (by decide) (fun h => (put_ne (by decide)).trans h), o5.past (by decide) (fun h => (put_ne (by decide)).trans h), o6.past (by decide) (fun h => (put_ne (by decide)).trans h), o7.past (by decide) (fun h => (put_ne (by decide)).trans h), o8.past (by decide) (fun h => (put_ne (by decide)).trans h), o9.past (by decide) (fun h => (put_ne (by decide)).trans h), o10.past (by decide) (fun h => (put_ne (by decide)).trans h), .now (put_eq (by have hz := hsz.out; omega)), o12.past (by decide) (fun h => (put_ne (by decide)).trans h), o13.past (by decide) (fun h => (put_ne (by decide)).trans h), hK⟩
    · have e9 := o9 (ready_dep hm 9 (by kernel_rfl))
      refine wpOp_step rfl (fun KK hK2 => ?_)
      go_simp
      exact hK2 (A.put (some 4) (iv (Pl.onceF 4 x.z f x.a))) _ ⟨hFR.put (by decide) _, o0.past (by decide) (fun h => (put_ne (by decide)).trans h), o1.past (by decide) (fun h => (put_ne (by decide)).trans h), o2.past (by decide) (fun h => (put_ne (by decide)).trans h), o3.past (by decide) (fun h => (put_ne (by decide)).trans h), o4.past (by decide) (fun h => (put_ne (by decide)).trans h), o5.past (by decide) (fun h => (put_ne (by decide)).trans h), o6.past (by decide) (fun h => (put_ne (by decide)).trans h), o7.past (by decide) (fun h => (put_ne (by decide)).trans h), o8.past (by decide) (fun h => (put_ne (by decide)).trans h), o9.past (by decide) (fun h => (put_ne (by decide)).trans h), o10.past (by decide) (fun h => (put_ne (by decide)).trans h), o11.past (by decide) (fun h => (put_ne (by decide)).trans h), .now (put_eq (by have hz := hsz.out; omega)), o13.past (by decide) (fun h => (put_ne (by decide)).trans h), hK⟩
    · have e10 := o10 (ready_dep hm 10 (by kernel_rfl))
      refine wpOp_step rfl (fun KK hK2 => ?_)
      go_simp
      exact hK2 (A.put (some 5) (.bool (Pl.goodK 4 x.z f x.a))) _ ⟨hFR.put (by decide) _, o0.past (by decide) (fun h => (put_ne (by decide)).trans h), o1.past (by decide) (fun h => (put_ne (by decide)).trans h), o2.past (by decide) (fun h => (put_ne (by decide)).trans h), o3.past (by decide) (fun h => (put_ne (by decide)).trans h), o4.past (by decide) (fun h => (put_ne (by decide)).trans h), o5.past (by decide) (fun h => (put_ne (by decide)).trans h), o6.past (by decide) (fun h => (put_ne (by decide)).trans h), o7.past (by decide) (fun h => (put_ne (by decide)).trans h), o8.past (by decide) (fun h => (put_ne (by decide)).trans h), o9.past (by decide) (fun h => (put_ne (by decide)).trans h), o10.past (by decide) (fun h => (put_ne (by decide)).trans h), o11.past (by decide) (fun h => (put_ne (by decide)).trans h), o12.past (by decide) (fun h => (put_ne (by decide)).trans h), .now (put_eq (by have hz := hsz.out; omega)), hK⟩
    · simp at hi1
      omega
end Go.Proofs.Ytnmddmmmgdfknaa

namespace Go.Proofs.Ytnmddmmmgdfknaa
open Go.RowKit
set_option linter.unusedVariables false
set_option maxRecDepth 100000 in
theorem implBehind (w : World) (x : Pl.Fo) (v : Value) (f : Int) (hv : Wt w v f) (h : Pl.foNone x = true ∨ Pl.foOk x = true) :
    Calls Try.prog 77 #[.agg (foA x), v] w fun e w' => ∃ u, e = .returned u ∧ Wt w' u (Pl.mk f x) ∧ Kept 0 0 w w' := by
  obtain ⟨n, cap, rfl, hfn, hw⟩ := hv
  have hmf : ∀ (fn : Fn) (first cap : Array Value) (w : World), (Instr.makeFunc fn first cap).run Try.prog w = .ok (.func fn first cap) w := fun _ _ _ _ => rfl
  have K0 := hide (kept_new (kept_alloc w (.cells (foA x) 47)) (.cells #[.func (.func n) #[] cap] 94))
  have B0 := hide ((Blk.new w (foA x) 47).alloc (.cells #[.func (.func n) #[] cap] 94))
  have B1 := Blk.new (w.alloc (.cells (foA x) 47)) #[.func (.func n) #[] cap] 94
  simp only [World.size_alloc] at B1
  replace B1 := hide B1
  have HF := hide hfn
  have HW := hide hw
  have q1 := B1.out.all
  clear hfn hw
  have hk : x.k = 0 ∨ (x.k = 1 ∨ x.k = 2 ∨ x.k = 3 ∨ x.k = 4 ∨ x.k = 5) := by
    rcases h with h | h
    · rw [Pl.foNone_ok h]; exact .inl rfl
    · have := Pl.foOk_ok h; exact .inr (by omega)
  rcases hk with hk | hk
  · have E : Hid (Pl.mk f x = f) := hide (by simp [Pl.mk, hk])
    obtain ⟨k, z, a, b⟩ := x
    simp only at hk
    subst hk
    clear h
    go_enter Try.func77, Try.ntmps77
    go_wp2_with fail
    go_ret
    exact ⟨_, rfl, ⟨n, cap, rfl, HF.out, fun w' kk => by rw [E.out]; exact HW.out w' (K0.out.trans kk)⟩, K0.out⟩
  have hx : Pl.foOk x = true := by
    rcases h with h | h
    · rw [Pl.foNone_ok h] at hk; simp [Pl.foNo] at hk
    · exact h
  obtain ⟨k, z, a, b⟩ := x
  simp only at hk
  clear h
  rcases hk with rfl | rfl | rfl | rfl | rfl
  · have HX := hide (show Pl.foOk ⟨1, z, a, b⟩ = true from hx)
    have E : Hid (Pl.mk f ⟨1, z, a, b⟩ = Pl.addF z 0 a b) := hide (by simp [Pl.mk])
    go_enter Try.func77, Try.ntmps77
    go_wp2_with fail
    go_ret
    exact ⟨_, rfl, ⟨_, _, rfl, fnw1, fun w' kk => by rw [E.out]; exact behind1 w' _ ⟨1, z, a, b⟩ (B0.out.kept0 kk) HX.out⟩, K0.out⟩
  · have HX := hide (show Pl.foOk ⟨2, z, a, b⟩ = true from hx)
    have E : Hid (Pl.mk f ⟨2, z, a, b⟩ = Pl.subF z 0 a b) := hide (by simp [Pl.mk])
    go_enter Try.func77, Try.ntmps77
    go_wp2_with fail
    go_ret
    exact ⟨_, rfl, ⟨_, _, rfl, fnw2, fun w' kk => by rw [E.out]; exact behind2 w' _ ⟨2, z, a, b⟩ (B0.out.kept0 kk) HX.out⟩, K0.out⟩
  · have HX := hide (show Pl.foOk ⟨3, z, a, b⟩ = true from hx)
    have E : Hid (Pl.mk f ⟨3, z, a, b⟩ = Pl.cmpF z f a b) := hide (by simp [Pl.mk])
    go_enter Try.func77, Try.ntmps77
    go_wp2_with fail
    go_ret
    exact ⟨_, rfl, ⟨_, _, rfl, fnw3, fun w' kk => by rw [E.out]; exact behind3 w w' _ _ n cap f ⟨3, z, a, b⟩ (B0.out.kept0 kk) (B1.out.kept0 kk) HX.out HF.out (K0.out.trans kk) HW.out⟩, K0.out⟩
  · have HX := hide (show Pl.foOk ⟨4, z, a, b⟩ = true from hx)
    have E : Hid (Pl.mk f ⟨4, z, a, b⟩ = Pl.logF z f a) := hide (by simp [Pl.mk])
    go_enter Try.func77, Try.ntmps77
    go_wp2_with fail
    go_ret
    exact ⟨_, rfl, ⟨_, _, rfl, fnw4, fun w' kk => by rw [E.out]; exact behind4 w w' _ _ n cap f ⟨4, z, a, b⟩ (B0.out.kept0 kk) (B1.out.kept0 kk) HX.out HF.out (K0.out.trans kk) HW.out⟩, K0.out⟩
  · have HX := hide (show Pl.foOk ⟨5, z, a, b⟩ = true from hx)
    have E : Hid (Pl.mk f ⟨5, z, a, b⟩ = Pl.onceF 4 z f a) := hide (by simp [Pl.mk])
    go_enter Try.func77, Try.ntmps77
    go_wp2_with fail
    go_ret
    exact ⟨_, rfl, ⟨_, _, rfl, fnw5, fun w' kk => by rw [E.out]; exact behind5 w w' _ _ n cap f ⟨5, z, a, b⟩ (B0.out.kept0 kk) (B1.out.kept0 kk) HX.out HF.out (K0.out.trans kk) HW.out⟩, K0.out⟩
end Go.Proofs.Ytnmddmmmgdfknaa

namespace Go.Proofs.Ytnmddmmmgdfknaa
open Go.RowKit
set_option linter.unusedVariables false
theorem wfo {n : Int} (h : -9223372036854775808 ≤ n ∧ n ≤ 9223372036854775807) : (Lit.int .i64 n).wf = true := by
  have e1 : IntKind.i64.min = -9223372036854775808 := rfl
  have e2 : IntKind.i64.max = 9223372036854775807 := rfl
  simp [Lit.wf]
  omega
end Go.Proofs.Ytnmddmmmgdfknaa

namespace Go.Proofs.Ytnmddmmmgdfknaa
open Go.RowKit
set_option linter.unusedVariables false
theorem specOps (w : World) (a : Option Addr) (ca n : Nat) (ys : List Int) (ha : IRow w a ys) (ly : ys.length = 4 * n) (bn : n ≤ 2000000) :
    Calls Try.prog 75 #[.slice a n ca] w fun e w' => e = .returned (.bool (decide ((n : Int) ≤ 40) && Pl.allFo ys n)) ∧ Kept 0 0 w w' := by
  have HA := hide ha
  have HZ := hide ly
  clear ha ly
  go_enter Try.func75, Try.ntmps75
  go_wp2
  go_loopw [4, 7] (fun _ j wr => ∃ k : Nat, k ≤ n ∧ j = iv k ∧ Pl.allFo ys k = true ∧ Kept 0 0 w wr) (fun _ j _ => n - (intOf j).toNat)
  case atStart => exact ⟨0, Nat.zero_le _, rfl, rfl, Kept.refl _ _ _⟩
  case round =>
    obtain ⟨k, hk, rfl, heq, hkept⟩ := hrel
    have HE := hide heq
    have HK := hide hkept
    clear heq hkept
    by_cases hlt : k < n
    · obtain ⟨g1, o1, rfl, p0, p1, p2, p3⟩ := (HA.out.keptS HK.out).at4 HZ.out hlt
      cases hb : Pl.foOk (Pl.foAt ys k)
      · go_wp2_with (go_at_call 112; refine (specFo _ (Pl.foAt ys k)).mono ?_; rw [hb]; rintro e w2 ⟨rfl, k2⟩)
        go_ret
        exact ⟨rB (by rw [Pl.allFo_no hlt hb]; simp), (kept_new HK.out _).trans k2⟩
      · go_wp2_with (go_at_call 112; refine (specFo _ (Pl.foAt ys k)).mono ?_; rw [hb]; rintro e w2 ⟨rfl, k2⟩)
        go_round
        case rel => exact ⟨k + 1, by omega, by go_num, by simp [Pl.allFo, HE.out, hb], (kept_new HK.out _).trans k2⟩
        case measure => simp [intOf]; omega
    · obtain rfl : k = n := by omega
      go_wp2
      go_ret
      exact ⟨rB (by rw [HE.out]; simp), HK.out⟩
theorem frE (ys : List Int) (f : Int) (n : Nat) (h : Pl.flags f = true) : (decide ((n : Int) ≤ 40) && Pl.allFo ys n) = Pl.frOk ys f n := by simp [Pl.frOk, h]
theorem fr_ok {ys : List Int} {f : Int} {n : Nat} (h : Pl.frOk ys f n = true) : Pl.flags f = true ∧ n ≤ 40 ∧ Pl.allFo ys n = true := by
  simp only [Pl.frOk, Bool.and_eq_true, decide_eq_true_eq] at h
  exact ⟨h.1, by omega, h.2.2⟩
set_option maxRecDepth 100000 in
set_option maxHeartbeats 4000000 in
theorem specEager (w : World) (f : Int) (a : Option Addr) (ca n : Nat) (ys : List Int) (ha : IRow w a ys) (ly : ys.length = 4 * n) (bn : n ≤ 2000000) :
    Calls Try.prog 36 #[iv f, .slice a n ca] w fun e w' => e = .returned (.tuple #[iv (Pl.eagV ys f n), .bool (Pl.frOk ys f n)]) ∧ Kept 0 0 w w' := by
  have HA := hide ha
  have HZ := hide ly
  clear ha ly
  cases F : Pl.flags f
  · have E : Hid (Pl.eagV ys f n = 0 ∧ Pl.frOk ys f n = false) := hide (by simp [Pl.eagV, Pl.frOk, F])
    go_enter Try.func36, Try.ntmps36
    go_wp2_with (go_at_call 74; refine st (l1Flags _ _) ?_; rw [F])
    go_ret2
    exact ⟨rIB E.out.1.symm E.out.2.symm, Kept.refl _ _ _⟩
  · cases G : Pl.frOk ys f n
    · have E : Hid (Pl.eagV ys f n = 0) := hide (by simp [Pl.eagV, G])
      go_enter Try.func36, Try.ntmps36
      go_wp2_with (first | (go_at_call 74; refine st (l1Flags _ _) ?_; rw [F]) | (go_at_call 75; refine (specOps _ a ca n ys HA.out HZ.out bn).mono ?_; rw [frE ys f n F, G]; rintro e w2 ⟨rfl, k2⟩))
      go_ret2
      exact ⟨rIB E.out.symm rfl, k2⟩
    · have E : Hid (Pl.eagV ys f n = Pl.eag ys f n) := hide (by simp [Pl.eagV, G])
      obtain ⟨_, n40, hall⟩ := fr_ok G
      have HAL := hide hall
      clear hall
      go_enter Try.func36, Try.ntmps36
      go_wp2_with (first | (go_at_call 74; refine st (l1Flags _ _) ?_; rw [F]) | (go_at_call 75; refine (specOps _ a ca n ys HA.out HZ.out bn).mono ?_; rw [frE ys f n F, G]; rintro e w2 ⟨rfl, k2⟩))
      go_loopw [0, 7, 18] (fun v _ j wr => ∃ k : Nat, k ≤ n ∧ j = iv k ∧ v = iv (Pl.eag ys f k) ∧ Kept 0 0 w wr) (fun _ _ j _ => n - (intOf j).toNat)
      case atStart => exact ⟨0, Nat.zero_le _, rfl, rfl, k2⟩
      case round =>
        obtain ⟨k, hk, rfl, rfl, hkept⟩ := hrel
        have HK := hide hkept
        clear hkept k2
        by_cases hlt : k < n
        · obtain ⟨g1, o1, rfl, p0, p1, p2, p3⟩ := (HA.out.keptS HK.out).at4 HZ.out hlt
          obtain ⟨hx, hp⟩ := Pl.allFo_at hlt HAL.out
          have hf := Pl.eag_ok F k hp
          obtain ⟨u, hu⟩ : ∃ u, Pl.eag ys f k = u := ⟨_, rfl⟩
          rw [hu] at hf
          have HU : Hid (Pl.mk u (Pl.foAt ys k) = Pl.eag ys f (k + 1)) := hide (by rw [← hu]; rfl)
          rw [hu]
          clear hu
          go_wp2_with (go_at_call 79; refine (specMake _ u (Pl.foAt ys k) hx hf).mono ?_; rw [HU.out]; rintro e w3 ⟨rfl, k3⟩)
          go_round
          case rel => exact ⟨k + 1, by omega, by go_num, rfl, (kept_new HK.out _).trans k3⟩
          case measure => simp [intOf]; omega
        · obtain rfl : k = n := by omega
          go_wp2
          go_ret2
          exact ⟨rIB E.out.symm rfl, HK.out⟩
end Go.Proofs.Ytnmddmmmgdfknaa

namespace Go.Proofs.Ytnmddmmmgdfknaa
open Go.RowKit
set_option linter.unusedVariables false
theorem foW_at {w : World} {a : Option Addr} {ys : List Int} (h : Came w a ys) {n k : Nat} (hl : ys.length = 4 * n) (hk : k < n) : FoW (Pl.foAt ys k) :=
  ⟨wfo (h.2 (k * 4) (by omega)), wfo (h.2 (k * 4 + 1) (by omega)), wfo (h.2 (k * 4 + 2) (by omega)), wfo (h.2 (k * 4 + 3) (by omega))⟩
set_option maxRecDepth 100000 in
theorem implRow (w : World) (f : Int) (a : Option Addr) (ca n : Nat) (ys : List Int) (ha : Came w a ys) (ly : ys.length = 4 * n) (bn : n ≤ 2000000) :
    Calls Try.prog 72 #[iv f, .slice a n ca] w fun e w' => e = .returned (.bool (Pl.frOk ys f n)) ∧ Kept 0 0 w w' := by
  have HA := hide ha
  have HZ := hide ly
  clear ha ly
  cases F : Pl.flags f
  · go_enter Try.func72, Try.ntmps72
    go_wp2_with (go_at_call 82; refine st (isFlags _ _) ?_; rw [F])
    go_ret
    exact ⟨rB (by simp [Pl.frOk, F]), Kept.refl _ _ _⟩
  · by_cases h40 : (40 : Int) < (n : Int)
    · go_enter Try.func72, Try.ntmps72
      go_wp2_with (go_at_call 82; refine st (isFlags _ _) ?_; rw [F])
      go_ret
      exact ⟨rB (by have : ¬ ((n : Int) ≤ 40) := by omega
                    simp only [Pl.frOk]; rw [decide_eq_false this]; simp), Kept.refl _ _ _⟩
    · have h40b : (n : Int) ≤ 40 := by omega
      have E : Hid (Pl.frOk ys f n = Pl.allFo ys n) := hide (by simp only [Pl.frOk]; rw [F, decide_eq_true h40b]; simp)
      go_enter Try.func72, Try.ntmps72
      go_wp2_with (go_at_call 82; refine st (isFlags _ _) ?_; rw [F])
      go_loopw [6, 17] (fun _ j wr => ∃ k : Nat, k ≤ n ∧ j = iv k ∧ Pl.allFo ys k = true ∧ Kept 0 0 w wr) (fun _ j _ => n - (intOf j).toNat)
      case atStart => exact ⟨0, Nat.zero_le _, rfl, rfl, Kept.refl _ _ _⟩
      case round =>
        obtain ⟨k, hk, rfl, heq, hkept⟩ := hrel
        have HE := hide heq
        have HK := hide hkept
        clear heq hkept
        by_cases hlt : k < n
        · obtain ⟨g1, o1, rfl, p0, p1, p2, p3⟩ := (HA.out.keptS HK.out).1.at4 HZ.out hlt
          have wx := hide (foW_at HA.out HZ.out hlt)
          cases hb : Pl.foOk (Pl.foAt ys k)
          · go_wp2_with (go_at_call 84; refine (implFo _ (Pl.foAt ys k) wx.out).mono ?_; rw [hb]; rintro e w2 ⟨rfl, k2⟩)
            go_ret
            exact ⟨rB (by rw [E.out, Pl.allFo_no hlt hb]), (kept_new HK.out _).trans k2⟩
          · go_wp2_with (go_at_call 84; refine (implFo _ (Pl.foAt ys k) wx.out).mono ?_; rw [hb]; rintro e w2 ⟨rfl, k2⟩)
            go_round
            case rel => exact ⟨k + 1, by omega, by go_num, by simp [Pl.allFo, HE.out, hb], (kept_new HK.out _).trans k2⟩
            case measure => simp [intOf]; omega
        · obtain rfl : k = n := by omega
          go_wp2
          go_ret
          exact ⟨rB (by rw [E.out, HE.out]), HK.out⟩
set_option maxRecDepth 100000 in
set_option maxHeartbeats 8000000 in
theorem implEager (w : World) (f : Int) (a : Option Addr) (ca n : Nat) (ys : List Int) (ha : Came w a ys) (ly : ys.length = 4 * n) (bn : n ≤ 2000000) :
    Calls Try.prog 35 #[iv f, .slice a n ca] w fun e w' => e = .returned (.tuple #[iv (Pl.eagV ys f n), .bool (Pl.frOk ys f n)]) ∧ Kept 0 0 w w' := by
  have HA := hide ha
  have HZ := hide ly
  clear ha ly
  cases G : Pl.frOk ys f n
  · have E : Hid (Pl.eagV ys f n = 0) := hide (by simp [Pl.eagV, G])
    go_enter Try.func35, Try.ntmps35
    go_wp2_with (go_at_call 72; refine (implRow _ f a ca n ys HA.out HZ.out bn).mono ?_; rw [G]; rintro e w2 ⟨rfl, k2⟩)
    go_ret2
    exact ⟨rIB E.out.symm rfl, k2⟩
  · have E : Hid (Pl.eagV ys f n = Pl.eag ys f n) := hide (by simp [Pl.eagV, G])
    obtain ⟨F, n40, hall⟩ := fr_ok G
    have HAL := hide hall
    have HF := hide F
    clear hall F
    go_enter Try.func35, Try.ntmps35
    go_wp2_with (go_at_call 72; refine (implRow _ f a ca n ys HA.out HZ.out bn).mono ?_; rw [G]; rintro e w2 ⟨rfl, k2⟩)
    go_loopw [0, 7, 14] (fun v _ j wr => ∃ k : Nat, k ≤ n ∧ j = iv k ∧ v = iv (Pl.eag ys f k) ∧ Kept 0 0 w wr) (fun _ _ j _ => n - (intOf j).toNat)
    case atStart => exact ⟨0, Nat.zero_le _, rfl, rfl, k2⟩
    case round =>
      obtain ⟨k, hk, rfl, rfl, hkept⟩ := hrel
      have HK := hide hkept
      clear hkept k2
      by_cases hlt : k < n
      · obtain ⟨g1, o1, rfl, p0, p1, p2, p3⟩ := (HA.out.keptS HK.out).1.at4 HZ.out hlt
        obtain ⟨hx, hp⟩ := Pl.allFo_at hlt HAL.out
        obtain ⟨u, hu⟩ : ∃ u, Pl.eag ys f k = u := ⟨_, rfl⟩
        have HU : Hid (Pl.mk u (Pl.foAt ys k) = Pl.eag ys f (k + 1)) := hide (by rw [← hu]; rfl)
        rw [hu]
        clear hu
        have HX := hide hx
        clear hx hp
        have BX := hide (Blk.new wr (foA (Pl.foAt ys k)) 47)
        have KX := hide (kept_new HK.out (.cells (foA (Pl.foAt ys k)) 47))
        go_wp2_with fail
        go_region_with (first | (go_at_call 78; refine (implKnown _ u).mono ?_; rintro e9 w9 ⟨v6, rfl, u6, k9⟩; have U6 := hide u6; have k10 := undrewK k9; have K9 := hide k10; have q := (BX.out.kept0 k10).all; clear u6 k9 k10) | (go_at_call 77; refine (implBehind _ (Pl.foAt ys k) _ u U6.out (.inr HX.out)).mono ?_; rintro e8 w8 ⟨v7, rfl, ⟨n7, c7, rfl, fn7, run7⟩, k8⟩; have K8 := hide k8; clear k8) | ((with_reducible refine (run7 _ (Kept.refl _ _ _)).mono ?_); rintro e7 w7 ⟨rfl, k7⟩))
        all_goals
          rw [HU.out]
          go_wp2_with fail
          go_round
          case rel => exact ⟨k + 1, by omega, by go_num, rfl, ((KX.out.trans K9.out).trans K8.out).trans k7⟩
          case measure => simp [intOf]; omega
      · obtain rfl : k = n := by omega
        go_wp2
        go_ret2
        exact ⟨rIB E.out.symm rfl, HK.out⟩
end Go.Proofs.Ytnmddmmmgdfknaa

namespace Go.Proofs.Ytnmddmmmgdfknaa
open Go.RowKit
set_option linter.unusedVariables false
set_option maxRecDepth 100000 in
set_option maxHeartbeats 8000000 in
theorem lawEagerFlags (f : Int) (a : Option Addr) (m ca : Nat) (ys : List Int) (w : World) (hx : Came w a ys) (ly : ys.length = 4 * m) (lx : m ≤ 9223372036854775807) :
    Calls Try.prog 9 #[iv f, .slice a m ca] w fun r' w' => r' = .returned (.bool true) ∧ Below w.heap.size w w' := by
  have HX := hide hx
  have HY := hide ly
  clear hx ly
  by_cases hs : (1048576 : Int) - (m : Int) < 0
  · go_enter Try.func9, Try.ntmps9
    go_wp2_with (go_at_call 42; refine st (szFo _ a ca m 1048576 lx (by decide) (by decide)) ?_; rw [if_pos hs])
    go_ret
    exact ⟨rfl, (Kept.refl 0 0 w).below⟩
  · have bn : m ≤ 2000000 := by omega
    have K0 := hide (Kept.refl 0 0 w)
    generalize hN : Pl.eagV ys f m = N
    generalize hO : Pl.frOk ys f m = O
    replace hN := hide hN
    replace hO := hide hO
    go_enter Try.func9, Try.ntmps9
    go_wp2_with (go_at_call 42; refine st (szFo _ a ca m 1048576 lx (by decide) (by decide)) ?_; rw [if_neg hs])
    refine (toFlagOpS _ a ca m ys (HX.out.keptS K0.out).1 HY.out bn).mono ?_
    rintro e9 w2 ⟨rfl, o9, l9, gr⟩
    have k9 := kept_grown gr
    replace K0 := hide (K0.out.trans k9)
    have O2 := hide o9
    clear k9 gr o9 l9
    go_wp2_with fail
    refine (specEager _ f _ _ m ys O2.out.row HY.out bn).mono ?_
    rw [hN.out, hO.out]
    rintro e9 w3 ⟨rfl, k9⟩
    clear O2
    replace K0 := hide (K0.out.trans k9)
    clear k9
    go_wp2_with fail
    refine (toFlagOpS _ a ca m ys (HX.out.keptS K0.out).1 HY.out bn).mono ?_
    rintro e9 w4 ⟨rfl, o9, l9, gr⟩
    have k9 := kept_grown gr
    replace K0 := hide (K0.out.trans k9)
    have O4 := hide o9
    clear k9 gr o9 l9
    go_wp2_with fail
    refine (implEager _ f _ _ m ys (O4.out.came HX.out.2) HY.out bn).mono ?_
    rw [hN.out, hO.out]
    rintro e9 w5 ⟨rfl, k9⟩
    replace K0 := hide (K0.out.trans k9)
    replace O4 := hide (O4.out.keptS k9 (by omega))
    clear k9
    go_wp2_with fail
    refine (toFlagOpS _ a ca m ys (HX.out.keptS K0.out).1 HY.out bn).mono ?_
    rintro e9 w7 ⟨rfl, o9, l9, gr⟩
    have k9 := kept_grown gr
    replace K0 := hide (K0.out.trans k9)
    replace O4 := hide (O4.out.keptS k9 (by omega))
    have O7 := hide o9
    clear k9 gr o9 l9
    go_wp2_with fail
    refine (eqFlagOpS _ _ _ _ _ m ys O4.out.row O7.out.row HY.out bn).mono ?_
    rintro e9 w8 ⟨rfl, gr⟩
    have k9 := kept_grown gr
    have K9 := hide (K0.out.trans k9)
    clear k9 gr
    go_wp2_with fail
    go_ret
    exact ⟨rfl, K9.out.below⟩
end Go.Proofs.Ytnmddmmmgdfknaa

namespace Go.Proofs.Ytnmddmmmgdfknaa
open Go.RowKit Go.WideShapes Go.ChangeShapes Go.ChangeAt
set_option linter.unusedVariables false
set_option maxRecDepth 100000

theorem Try.cellsInt : Try.prog.cellsOf 3 = 1 := by kernel_rfl
theorem Try.cellsFlagOp : Try.prog.cellsOf 64 = 4 := by kernel_rfl
theorem Addr.add_add_own (a : Addr) (i j : Nat) : (a.add i).add j = a.add (i + j) := by
  unfold Addr.add
  by_cases hi : i = 0 <;> by_cases hj : j = 0 <;> simp [hi, hj, Nat.add_assoc]
theorem came_of {w : World} {x : Addr} {n : Nat} (h : ∀ i, i < n → ∃ z : Int, w.cell? (x.add i) = some (.int .i64 z) ∧ (Lit.int .i64 z).wf = true) : ∃ xs : List Int, xs.length = n ∧ Came w (some x) xs := by
  obtain ⟨f, hf⟩ := Go.Deep.choose_lt h
  refine ⟨(List.range n).map f, by simp, ?_, ?_⟩
  · intro i hi
    have hi' : i < n := by simpa using hi
    obtain ⟨g, off, spot⟩ := x
    have hspot : spot = none := by simpa [Addr.add] using World.cell?_spot (hf 0 (by omega)).1
    subst hspot
    refine ⟨g, off, rfl, ?_⟩
    have hc := (hf i hi').1
    by_cases h0 : i = 0
    · subst h0; simpa [Addr.add, hi'] using hc
    · simpa [Addr.add, h0, hi'] using hc
  · intro i hi
    have hi' : i < n := by simpa using hi
    have := bounds_i64 (hf i hi').2
    simpa [hi'] using this

section
variable {H : Type} {enc : TypeId × Value → H} {w : World} {base : Nat} {spare : Nat → Bool} {held : Bool}

theorem open_FlagOpRow {fuel : Nat} {v : Value} {y : DataW H × List MemPlace} (h : DataW.trod enc Try.prog w base spare held fuel 59 [v] = some y) :
    ∃ (a : Option Addr) (m cap : Nat) (ys : List Int), v = .slice a m cap ∧ Came w a ys ∧ ys.length = 4 * m ∧ m ≤ maxLen := by
  rcases Go.Deep.open_slice Try.underlying59 h with ⟨hc, _⟩ | ⟨x, len, cap, m, n, D, Pl, hc, _, hl, hm, hmm, _, hel⟩
  · simp at hc
    exact ⟨none, 0, 0, [], hc, ⟨fun i hi => absurd hi (Nat.not_lt_zero i), fun i hi => absurd hi (Nat.not_lt_zero i)⟩, rfl, Nat.zero_le _⟩
  · simp at hc
    have hlen : len ≤ m := by rw [hmm]; split <;> omega
    obtain ⟨ys, hy, hx⟩ := came_of (w := w) (x := x) (n := 4 * len) (by
      intro i hi
      obtain ⟨cs', h1, h2⟩ := hel (i / 4) (by omega)
      rw [Try.cellsFlagOp] at h1
      obtain ⟨_, hl5, hcs⟩ := World.cells?_some h1
      obtain ⟨zs, k, _, _, _, hzl, hf⟩ := DataW.trod_struct Try.underlying64 h2
      have hget := hcs (i % 4) (by omega)
      rw [Addr.add_add_own, show i / 4 * 4 + i % 4 = i from by omega] at hget
      rw [hget]
      obtain ⟨c0, c1, c2, c3, rfl⟩ : ∃ c0 c1 c2 c3, cs' = [c0, c1, c2, c3] := by
        match cs', hl5 with
        | [c0, c1, c2, c3], _ => exact ⟨c0, c1, c2, c3, rfl⟩
      obtain ⟨z0, z1, z2, z3, rfl⟩ : ∃ z0 z1 z2 z3, zs = [z0, z1, z2, z3] := by
        match zs, hzl with
        | [z0, z1, z2, z3], _ => exact ⟨z0, z1, z2, z3, rfl⟩
      have t0 := hf 0 _ rfl
      have t1 := hf 1 _ rfl
      have t2 := hf 2 _ rfl
      have t3 := hf 3 _ rfl
      simp [Try.cellsInt] at t0 t1 t2 t3
      obtain ⟨n0, e0, _, b0⟩ := DataW.trod_int Try.underlying3 t0
      obtain ⟨n1, e1, _, b1⟩ := DataW.trod_int Try.underlying3 t1
      obtain ⟨n2, e2, _, b2⟩ := DataW.trod_int Try.underlying3 t2
      obtain ⟨n3, e3, _, b3⟩ := DataW.trod_int Try.underlying3 t3
      simp at e0 e1 e2 e3
      subst e0 e1 e2 e3
      obtain h | h | h | h : i % 4 = 0 ∨ i % 4 = 1 ∨ i % 4 = 2 ∨ i % 4 = 3 := by omega
      all_goals rw [h]
      · exact ⟨n0, rfl, b0⟩
      · exact ⟨n1, rfl, b1⟩
      · exact ⟨n2, rfl, b2⟩
      · exact ⟨n3, rfl, b3⟩)
    exact ⟨some x, len, cap, ys, hc, hx, hy, by omega⟩
theorem open_FlagOpArg {r : Reach} {b0 : Nat} {v : Value} {d : DataW H} {p : List MemPlace} (hv : Value.okWide Try.prog w r b0 59 v) (h : DataW.Trod enc Try.prog w base spare held 59 v d p) :
    ∃ (a : Option Addr) (m cap : Nat) (ys : List Int), v = .slice a m cap ∧ Came w a ys ∧ ys.length = 4 * m ∧ m ≤ maxLen := by
  obtain ⟨a1, len1, cap1, rfl⟩ := okWide_slice Try.underlying59 hv
  obtain ⟨fuel, hf⟩ := h
  exact open_FlagOpRow hf

end
end Go.Proofs.Ytnmddmmmgdfknaa

