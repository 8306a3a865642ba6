/- Flags that wait: what the program's functions that give them, and those given, answer. Flags that wait: flagsBehind, meantBy, and what FlagsOf, CondOf, CarryOf answer. What the program's FlagsOf, CondOf, CarryOf answer. What the model makes of lists of operations: whether all are good, EagerFlags, LazyFlags. What the program makes of lists of operations: whether all are good, EagerFlags, LazyFlags. The law on flags that wait: of whatever bytes, its Go function returns true, and no block that was there has turned. -/
import Derived.Test.YtnmddmmmgdfknaaEJ2
import Derived.Test.YtnmddmmmgdfknaaEJ5
import Derived.Test.YtnmddmmmgdfknaaEJ1
namespace Go.Proofs.Ytnmddmmmgdfknaa
open Go.RowKit
set_option linter.unusedVariables false
/-- a function value that tells these flags, whatever comes -/
def Wt (w : World) (v : Value) (f : Int) : Prop :=
  ∃ (n : Nat) (cap : Array Value), v = .func (.func n) #[] cap ∧ (∀ (a : Array Value) (w : World), (callFunc n a).run Try.prog w = .ok (.enter n a) w) ∧
    ∀ w', Kept 0 0 w w' → Calls Try.prog n cap w' fun e w'' => e = .returned (iv f) ∧ Kept 0 0 w' w''
theorem Wt.kept {w w' : World} {v : Value} {f : Int} (h : Wt w v f) (k : Kept 0 0 w w') : Wt w' v f := by
  obtain ⟨n, cap, hv, hf, hr⟩ := h
  exact ⟨n, cap, hv, hf, fun w2 k2 => hr w2 (k.trans k2)⟩
theorem fnw1 (a : Array Value) (w : World) : (callFunc 114 a).run Try.prog w = .ok (.enter 114 a) w := by kernel_rfl
theorem fnw2 (a : Array Value) (w : World) : (callFunc 116 a).run Try.prog w = .ok (.enter 116 a) w := by kernel_rfl
theorem fnw3 (a : Array Value) (w : World) : (callFunc 118 a).run Try.prog w = .ok (.enter 118 a) w := by kernel_rfl
theorem fnw4 (a : Array Value) (w : World) : (callFunc 120 a).run Try.prog w = .ok (.enter 120 a) w := by kernel_rfl
theorem fnw5 (a : Array Value) (w : World) : (callFunc 122 a).run Try.prog w = .ok (.enter 122 a) w := by kernel_rfl
theorem fnw0 (a : Array Value) (w : World) : (callFunc 123 a).run Try.prog w = .ok (.enter 123 a) w := by kernel_rfl
theorem known1 (w : World) (g : Nat) (f : Int) (h : Blk w g #[iv f] 3) : Calls Try.prog 123 #[.pointer (some ⟨g, 0, none⟩)] w fun e w' => e = .returned (iv f) ∧ Kept 0 0 w w' := by
  have q := h.all
  clear h
  go_enter Try.func123, Try.ntmps123
  go_wp2_with fail
  go_ret
  exact ⟨rfl, Kept.refl _ _ _⟩
theorem implKnown (w : World) (f : Int) : Calls Try.prog 78 #[iv f] w fun e w' => ∃ v, e = .returned v ∧ Wt w' v f ∧ Kept 0 0 w w' := by
  have hmf : ∀ (fn : Fn) (first cap : Array Value) (w : World), (Instr.makeFunc fn first cap).run Try.prog w = .ok (.func fn first cap) w := fun _ _ _ _ => rfl
  have B0 := hide (Blk.new w #[iv f] 3)
  go_enter Try.func78, Try.ntmps78
  go_wp2_with fail
  go_ret
  exact ⟨_, rfl, ⟨_, _, rfl, fnw0, fun w' k => known1 w' _ f (B0.out.kept0 k)⟩, kept_alloc _ _⟩
theorem behind1 (w : World) (g : Nat) (x : Pl.Fo) (h : Blk w g (foA x) 47) (hx : Pl.foOk x = true) : Calls Try.prog 114 #[.pointer (some ⟨g, 0, none⟩)] w fun e w' => e = .returned (iv (Pl.addF x.z 0 x.a x.b)) ∧ Kept 0 0 w w' := by
  obtain ⟨a0, a1, b0, b1⟩ := Pl.foOk_bd hx
  have q := h.all
  clear h hx
  go_enter Try.func114, Try.ntmps114
  go_wp2_with (go_at_call 115; refine st (addFlags x.z 0 x.a x.b _ (by omega) (by omega) (by omega) (by omega)) ?_)
  go_ret
  exact ⟨rfl, Kept.refl _ _ _⟩
theorem behind2 (w : World) (g : Nat) (x : Pl.Fo) (h : Blk w g (foA x) 47) (hx : Pl.foOk x = true) : Calls Try.prog 116 #[.pointer (some ⟨g, 0, none⟩)] w fun e w' => e = .returned (iv (Pl.subF x.z 0 x.a x.b)) ∧ Kept 0 0 w w' := by
  obtain ⟨a0, a1, b0, b1⟩ := Pl.foOk_bd hx
  have q := h.all
  clear h hx
  go_enter Try.func116, Try.ntmps116
  go_wp2_with (go_at_call 117; refine st (subFlags x.z 0 x.a x.b _ (by omega) (by omega) (by omega) (by omega)) ?_)
  go_ret
  exact ⟨rfl, Kept.refl _ _ _⟩
set_option maxRecDepth 100000 in
set_option maxHeartbeats 4000000 in
theorem behind3 (w0 w : World) (g g2 n : Nat) (cap : Array Value) (f : Int) (x : Pl.Fo) (h : Blk w g (foA x) 47) (h2 : Blk w g2 #[.func (.func n) #[] cap] 94) (hx : Pl.foOk x = true)
    (hfn : ∀ (a : Array Value) (w : World), (callFunc n a).run Try.prog w = .ok (.enter n a) w) (hk : Kept 0 0 w0 w) (hw : ∀ w', Kept 0 0 w0 w' → Calls Try.prog n cap w' fun e w'' => e = .returned (iv f) ∧ Kept 0 0 w' w'') :
    Calls Try.prog 118 #[.pointer (some ⟨g, 0, none⟩), .pointer (some ⟨g2, 0, none⟩)] w fun e w' => e = .returned (iv (Pl.cmpF x.z f x.a x.b)) ∧ Kept 0 0 w w' := by
  obtain ⟨a0, a1, b0, b1⟩ := Pl.foOk_bd hx
  have HB := hide h
  have HC := hide h2
  have HK := hide hk
  have HW := hide hw
  clear h h2 hx hk hw
  go_enter Try.func118, Try.ntmps118
  go_wp2_with fail
  refine wp_region_inv2 (fun A0 l A W => FR [6, 7, 8, 9, 10, 11, 12, 13, 14, 5, 15, 16, 3, 4] A0 A ∧ Once l 0 (A.tmps[6]? = some (.pointer (some ⟨g, 1, none⟩))) ∧ Once l 1 (A.tmps[7]? = some (iv x.z)) ∧ Once l 2 (A.tmps[8]? = some (.func (.func n) #[] cap)) ∧ Once l 3 (A.tmps[9]? = some (iv f)) ∧ Once l 4 (A.tmps[10]? = some (.pointer (some ⟨g, 2, none⟩))) ∧ Once l 5 (A.tmps[11]? = some (iv x.a)) ∧ Once l 6 (A.tmps[12]? = some (.pointer (some ⟨g, 3, none⟩))) ∧ Once l 7 (A.tmps[13]? = some (iv x.b)) ∧ Once l 8 (A.tmps[14]? = some (.tuple #[iv (Pl.cmpF x.z f x.a x.b), .bool (Pl.two x.z 0 x.a x.b && Pl.flags f)])) ∧ Once l 9 (A.tmps[5]? = some (.tuple #[iv (Pl.cmpF x.z f x.a x.b), .bool (Pl.two x.z 0 x.a x.b && Pl.flags f)])) ∧ Once l 10 (A.tmps[15]? = some (iv (Pl.cmpF x.z f x.a x.b))) ∧ Once l 11 (A.tmps[16]? = some (.bool (Pl.two x.z 0 x.a x.b && Pl.flags f))) ∧ Once l 12 (A.tmps[3]? = some (iv (Pl.cmpF x.z f x.a x.b))) ∧ Once l 13 (A.tmps[4]? = some (.bool (Pl.two x.z 0 x.a x.b && Pl.flags f))) ∧ Kept 0 0 w W) (by kernel_rfl) (by kernel_rfl) ?start ?fin ?step
  case start => exact ⟨FR.refl _ _, once_start (by decide), once_start (by decide), once_start (by decide), once_start (by decide), once_start (by decide), once_start (by decide), once_start (by decide), once_start (by decide), once_start (by decide), once_start (by decide), once_start (by decide), once_start (by decide), once_start (by decide), once_start (by decide), kept_drew (Kept.refl _ _ _)⟩
  case fin =>
    intro l A W h hl
    obtain ⟨hFR, o0, o1, o2, o3, o4, o5, o6, o7, o8, o9, o10, o11, o12, o13, hK⟩ := h
    have g12 := o12 (hl 12 (by decide))
    have QQ := hide hK
    have hc9 := hFR.chain
    simp only [List.foldl] at hc9
    rw [getD_of g12] at hc9
    clear hl hK hFR g12 o0 o1 o2 o3 o4 o5 o6 o7 o8 o9 o10 o11 o12 o13
    generalize A.tmps.getD 6 undef = s6 at hc9
    generalize A.tmps.getD 7 undef = s7 at hc9
    generalize A.tmps.getD 8 undef = s8 at hc9
    generalize A.tmps.getD 9 undef = s9 at hc9
    generalize A.tmps.getD 10 undef = s10 at hc9
    generalize A.tmps.getD 11 undef = s11 at hc9
    generalize A.tmps.getD 12 undef = s12 at hc9
    generalize A.tmps.getD 13 undef = s13 at hc9
    generalize A.tmps.getD 14 undef = s14 at hc9
    generalize A.tmps.getD 5 undef = s5 at hc9
    generalize A.tmps.getD 15 undef = s15 at hc9
    generalize A.tmps.getD 16 undef = s16 at hc9
    generalize A.tmps.getD 4 undef = s4 at hc9
    subst hc9
    go_simp
    go_wp2_with fail
    go_ret
    exact ⟨rfl, QQ.out⟩
  case step =>
    intro l A W i hI hm
    obtain ⟨hFR, o0, o1, o2, o3, o4, o5, o6, o7, o8, o9, o10, o11, o12, o13, hK⟩ := hI
    obtain ⟨hi1, hi2⟩ := ready_new hm
    have hsz : Hid (16 < A.tmps.size) := hide (by rw [hFR.size]; simp)
    have m0 : A.tmps[0]? = some (.pointer (some ⟨g, 0, none⟩)) := (hFR.out 0 (by decide)).trans rfl
    have m1 : A.tmps[1]? = some (.pointer (some ⟨g2, 0, none⟩)) := (hFR.out 1 (by decide)).trans rfl
    rcases i with _ | _ | _ | _ | _ | _ | _ | _ | _ | _ | _ | _ | _ | _ | i
    · refine wpOp_step rfl (fun KK hK2 => ?_)
      go_simp
      exact hK2 (A.put (some 6) (.pointer (some ⟨g, 1, none⟩))) _ ⟨hFR.put (by decide) _, .now (put_eq (by have hz := hsz.out; omega)), o1.past (by decide) (fun h => (put_ne (by decide)).trans h), o2.past (by decide) (fun h => (put_ne (by decide)).trans h), o3.past (by decide) (fun h => (put_ne (by decide)).trans h), o4.past (by decide) (fun h => (put_ne (by decide)).trans h), o5.past (by decide) (fun h => (put_ne (by decide)).trans h), o6.past (by decide) (fun h => (put_ne (by decide)).trans h), o7.past (by decide) (fun h => (put_ne (by decide)).trans h), o8.past (by decide) (fun h => (put_ne (by decide)).trans h), o9.past (by decide) (fun h => (put_ne (by decide)).trans h), o10.past (by decide) (fun h => (put_ne (by decide)).trans h), o11.past (by decide) (fun h => (put_ne (by decide)).trans h), o12.past (by decide) (fun h => (put_ne (by decide)).trans h), o13.past (by decide) (fun h => (put_ne (by decide)).trans h), hK⟩
    · have e0 := o0 (ready_dep hm 0 (by kernel_rfl))
      have BL := (HB.out.kept0 hK).all
      refine wpOp_step rfl (fun KK hK2 => ?_)
      go_simp
      exact hK2 (A.put (some 7) (iv x.z)) _ ⟨hFR.put (by decide) _, o0.past (by decide) (fun h => (put_ne (by decide)).trans h), .now (put_eq (by have hz := hsz.out; omega)), o2.past (by decide) (fun h => (put_ne (by decide)).trans h), o3.past (by decide) (fun h => (put_ne (by decide)).trans h), o4.past (by decide) (fun h => (put_ne (by decide)).trans h), o5.past (by decide) (fun h => (put_ne (by decide)).trans h), o6.past (by decide) (fun h => (put_ne (by decide)).trans h), o7.past (by decide) (fun h => (put_ne (by decide)).trans h), o8.past (by decide) (fun h => (put_ne (by decide)).trans h), o9.past (by decide) (fun h => (put_ne (by decide)).trans h), o10.past (by decide) (fun h => (put_ne (by decide)).trans h), o11.past (by decide) (fun h => (put_ne (by decide)).trans h), o12.past (by decide) (fun h => (put_ne (by decide)).trans h), o13.past (by decide) (fun h => (put_ne (by decide)).trans h), hK⟩
    · have CL := (HC.out.kept0 hK).all
      refine wpOp_step rfl (fun KK hK2 => ?_)
      go_simp
      exact hK2 (A.put (some 8) (.func (.func n) #[] cap)) _ ⟨hFR.put (by decide) _, o0.past (by decide) (fun h => (put_ne (by decide)).trans h), o1.past (by decide) (fun h => (put_ne (by decide)).trans h), .now (put_eq (by have hz := hsz.out; omega)), o3.past (by decide) (fun h => (put_ne (by decide)).trans h), o4.past (by decide) (fun h => (put_ne (by decide)).trans h), o5.past (by decide) (fun h => (put_ne (by decide)).trans h), o6.past (by decide) (fun h => (put_ne (by decide)).trans h), o7.past (by decide) (fun h => (put_ne (by decide)).trans h), o8.past (by decide) (fun h => (put_ne (by decide)).trans h), o9.past (by decide) (fun h => (put_ne (by decide)).trans h), o10.past (by decide) (fun h => (put_ne (by decide)).trans h), o11.past (by decide) (fun h => (put_ne (by decide)).trans h), o12.past (by decide) (fun h => (put_ne (by decide)).trans h), o13.past (by decide) (fun h => (put_ne (by decide)).trans h), hK⟩
    · have e2 := o2 (ready_dep hm 2 (by kernel_rfl))
      refine wpOp_step rfl (fun KK hK2 => ?_)
      go_simp
      refine (HW.out W ((HK.out.trans hK))).mono ?_
      rintro r9 y ⟨rfl, kd⟩
      go_simp
      exact hK2 (A.put (some 9) (iv f)) _ ⟨hFR.put (by decide) _, o0.past (by decide) (fun h => (put_ne (by decide)).trans h), o1.past (by decide) (fun h => (put_ne (by decide)).trans h), o2.past (by decide) (fun h => (put_ne (by decide)).trans h), .now (put_eq (by have hz := hsz.out; omega)), o4.past (by decide) (fun h => (put_ne (by decide)).trans h), o5.past (by decide) (fun h => (put_ne (by decide)).trans h), o6.past (by decide) (fun h => (put_ne (by decide)).trans h), o7.past (by decide) (fun h => (put_ne (by decide)).trans h), o8.past (by decide) (fun h => (put_ne (by decide)).trans h), o9.past (by decide) (fun h => (put_ne (by decide)).trans h), o10.past (by decide) (fun h => (put_ne (by decide)).trans h), o11.past (by decide) (fun h => (put_ne (by decide)).trans h), o12.past (by decide) (fun h => (put_ne (by decide)).trans h), o13.past (by decide) (fun h => (put_ne (by decide)).trans h), (hK.trans kd)⟩
    · refine wpOp_step rfl (fun KK hK2 => ?_)
      go_simp
      exact hK2 (A.put (some 10) (.pointer (some ⟨g, 2, none⟩))) _ ⟨hFR.put (by decide) _, o0.past (by decide) (fun h => (put_ne (by decide)).trans h), o1.past (by decide) (fun h => (put_ne (by decide)).trans h), o2.past (by decide) (fun h => (put_ne (by decide)).trans h), o3.past (by decide) (fun h => (put_ne (by decide)).trans h), .now (put_eq (by have hz := hsz.out; omega)), o5.past (by decide) (fun h => (put_ne (by decide)).trans h), o6.past (by decide) (fun h => (put_ne (by decide)).trans h), o7.past (by decide) (fun h => (put_ne (by decide)).trans h), o8.past (by decide) (fun h => (put_ne (by decide)).trans h), o9.past (by decide) (fun h => (put_ne (by decide)).trans h), o10.past (by decide) (fun h => (put_ne (by decide)).trans h), o11.past (by decide) (fun h => (put_ne (by decide)).trans h), o12.past (by decide) (fun h => (put_ne (by decide)).trans h), o13.past (by decide) (fun h => (put_ne (by decide)).trans h), hK⟩
    · have e4 := o4 (ready_dep hm 4 (by kernel_rfl))
      have BL := (HB.out.kept0 hK).all
      refine wpOp_step rfl (fun KK hK2 => ?_)
      go_simp
      exact hK2 (A.put (some 11) (iv x.a)) _ ⟨hFR.put (by decide) _, o0.past (by decide) (fun h => (put_ne (by decide)).trans h), o1.past (by decide) (fun h => (put_ne (by decide)).trans h), o2.past (by decide) (fun h => (put_ne (by decide)).trans h), o3.past (by decide) (fun h => (put_ne (by decide)).trans h), o4.past (by decide) (fun h => (put_ne (by decide)).trans h), .now (put_eq (by have hz := hsz.out; omega)), o6.past (by decide) (fun h => (put_ne (by decide)).trans h), o7.past (by decide) (fun h => (put_ne (by decide)).trans h), o8.past (by decide) (fun h => (put_ne (by decide)).trans h), o9.past (by decide) (fun h => (put_ne (by decide)).trans h), o10.past (by decide) (fun h => (put_ne (by decide)).trans h), o11.past (by decide) (fun h => (put_ne (by decide)).trans h), o12.past (by decide) (fun h => (put_ne (by decide)).trans h), o13.past (by decide) (fun h => (put_ne (by decide)).trans h), hK⟩
    · refine wpOp_step rfl (fun KK hK2 => ?_)
      go_simp
      exact hK2 (A.put (some 12) (.pointer (some ⟨g, 3, none⟩))) _ ⟨hFR.put (by decide) _, o0.past (by decide) (fun h => (put_ne (by decide)).trans h), o1.past (by decide) (fun h => (put_ne (by decide)).trans h), o2.past (by decide) (fun h => (put_ne (by decide)).trans h), o3.past (by decide) (fun h => (put_ne (by decide)).trans h), o4.past (by decide) (fun h => (put_ne (by decide)).trans h), o5.past (by decide) (fun h => (put_ne (by decide)).trans h), .now (put_eq (by have hz := hsz.out; omega)), o7.past (by decide) (fun h => (put_ne (by decide)).trans h), o8.past (by decide) (fun h => (put_ne (by decide)).trans h), o9.past (by decide) (fun h => (put_ne (by decide)).trans h), o10.past (by decide) (fun h => (put_ne (by decide)).trans h), o11.past (by decide) (fun h => (put_ne (by decide)).trans h), o12.past (by decide) (fun h => (put_ne (by decide)).trans h), o13.past (by decide) (fun h => (put_ne (by decide)).trans h), hK⟩
    · have e6 := o6 (ready_dep hm 6 (by kernel_rfl))
      have BL := (HB.out.kept0 hK).all
      refine wpOp_step rfl (fun KK hK2 => ?_)
      go_simp
      exact hK2 (A.put (some 13) (iv x.b)) _ ⟨hFR.put (by decide) _, o0.past (by decide) (fun h => (put_ne (by decide)).trans h), o1.past (by decide) (fun h => (put_ne (by decide)).trans h), o2.past (by decide) (fun h => (put_ne (by decide)).trans h), o3.past (by decide) (fun h => (put_ne (by decide)).trans h), o4.past (by decide) (fun h => (put_ne (by decide)).trans h), o5.past (by decide) (fun h => (put_ne (by decide)).trans h), o6.past (by decide) (fun h => (put_ne (by decide)).trans h), .now (put_eq (by have hz := hsz.out; omega)), o8.past (by decide) (fun h => (put_ne (by decide)).trans h), o9.past (by decide) (fun h => (put_ne (by decide)).trans h), o10.past (by decide) (fun h => (put_ne (by decide)).trans h), o11.past (by decide) (fun h => (put_ne (by decide)).trans h), o12.past (by decide) (fun h => (put_ne (by decide)).trans h), o13.past (by decide) (fun h => (put_ne (by decide)).trans h), hK⟩
    · have e1 := o1 (ready_dep hm 1 (by kernel_rfl))
      have e3 := o3 (ready_dep hm 3 (by kernel_rfl))
      have e5 := o5 (ready_dep hm 5 (by kernel_rfl))
      have e7 := o7 (ready_dep hm 7 (by kernel_rfl))
      refine wpOp_step rfl (fun KK hK2 => ?_)
      go_simp
      refine st (cmpFlags x.z f x.a x.b _ (by omega) (by omega) (by omega) (by omega)) ?_
      go_simp
      exact hK2 (A.put (some 14) (.tuple #[iv (Pl.cmpF x.z f x.a x.b), .bool (Pl.two x.z 0 x.a x.b && Pl.flags f)])) _ ⟨hFR.put (by decide) _, o0.past (by decide) (fun h => (put_ne (by decide)).trans h), o1.past (by decide) (fun h => (put_ne (by decide)).trans h), o2.past (by decide) (fun h => (put_ne (by decide)).trans h), o3.past (by decide) (fun h => (put_ne (by decide)).trans h), o4.past (by decide) (fun h => (put_ne (by decide)).trans h), o5.past (by decide) (fun h => (put_ne (by decide)).trans h), o6.past (by decide) (fun h => (put_ne (by decide)).trans h), o7.past (by decide) (fun h => (put_ne (by decide)).trans h), .now (put_eq (by have hz := hsz.out; omega)), o9.past (by decide) (fun h => (put_ne (by decide)).trans h), o10.past (by decide) (fun h => (put_ne (by decide)).trans h), o11.past (by decide) (fun h => (put_ne (by decide)).trans h), o12.past (by decide) (fun h => (put_ne (by decide)).trans h), o13.past (by decide) (fun h => (put_ne (by decide)).trans h), hK⟩
    · have e8 := o8 (ready_dep hm 8 (by kernel_rfl))
      refine wpOp_step rfl (fun KK hK2 => ?_)
      go_simp
      exact hK2 (A.put (some 5) (.tuple #[iv (Pl.cmpF x.z f x.a x.b), .bool (Pl.two x.z 0 x.a x.b && Pl.flags f)])) _ ⟨hFR.put (by decide) _, o0.past (by decide) (fun h => (put_ne (by decide)).trans h), o1.past (by decide) (fun h => (put_ne (by decide)).trans h), o2.past (by decide) (fun h => (put_ne (by decide)).trans h), o3.past (by decide) (fun h => (put_ne (by decide)).trans h), o4.past (by decide) (fun h => (put_ne (by decide)).trans h), o5.past (by decide) (fun h => (put_ne (by decide)).trans h), o6.past (by decide) (fun h => (put_ne (by decide)).trans h), o7.past (by decide) (fun h => (put_ne (by decide)).trans h), o8.past (by decide) (fun h => (put_ne (by decide)).trans h), .now (put_eq (by have hz := hsz.out; omega)), o10.past (by decide) (fun h => (put_ne (by decide)).trans h), o11.past (by decide) (fun h => (put_ne (by decide)).trans h), o12.past (by decide) (fun h => (put_ne (by decide)).trans h), o13.past (by decide) (fun h => (put_ne (by decide)).trans h), hK⟩
    · have e9 := o9 (ready_dep hm 9 (by kernel_rfl))
      refine wpOp_step rfl (fun KK hK2 => ?_)
      go_simp
      exact hK2 (A.put (some 15) (iv (Pl.cmpF x.z f x.a x.b))) _ ⟨hFR.put (by decide) _, o0.past (by decide) (fun h => (put_ne (by decide)).trans h), o1.past (by decide) (fun h => (put_ne (by decide)).trans h), o2.past (by decide) (fun h => (put_ne (by decide)).trans h), o3.past (by decide) (fun h => (put_ne (by decide)).trans h), o4.past (by decide) (fun h => (put_ne (by decide)).trans h), o5.past (by decide) (fun h => (put_ne (by decide)).trans h), o6.past (by decide) (fun h => (put_ne (by decide)).trans h), o7.past (by decide) (fun h => (put_ne (by decide)).trans h), o8.past (by decide) (fun h => (put_ne (by decide)).trans h), o9.past (by decide) (fun h => (put_ne (by decide)).trans h), .now (put_eq (by have hz := hsz.out; omega)), o11.past (by decide) (fun h => (put_ne (by decide)).trans h), o12.past (by decide) (fun h => (put_ne (by decide)).trans h), o13.past (by decide) (fun h => (put_ne (by decide)).trans h), hK⟩
    · have e9 := o9 (ready_dep hm 9 (by kernel_rfl))
      refine wpOp_step rfl (fun KK hK2 => ?_)
      go_simp
      exact hK2 (A.put (some 16) (.bool (Pl.two x.z 0 x.a x.b && Pl.flags f))) _ ⟨hFR.put (by decide) _, o0.past (by decide) (fun h => (put_ne (by decide)).trans h), o1.past (by decide) (fun h => (put_ne (by decide)).trans h), o2.past (by decide) (fun h => (put_ne (by decide)).trans h), o3.past (by decide) (fun h => (put_ne (by decide)).trans h), o4.past (by decide) (fun h => (put_ne (by decide)).trans h), o5.past (by decide) (fun h => (put_ne (by decide)).trans h), o6.past (by decide) (fun h => (put_ne (by decide)).trans h), o7.past (by decide) (fun h => (put_ne (by decide)).trans h), o8.past (by decide) (fun h => (put_ne (by decide)).trans h), o9.past (by decide) (fun h => (put_ne (by decide)).trans h), o10.past (by decide) (fun h => (put_ne (by decide)).trans h), .now (put_eq (by have hz := hsz.out; omega)), o12.past (by decide) (fun h => (put_ne (by decide)).trans h), o13.past (by decide) (fun h => (put_ne (by decide)).trans h), hK⟩
    · have e10 := o10 (ready_dep hm 10 (by kernel_rfl))
      refine wpOp_step rfl (fun KK hK2 => ?_)
      go_simp
      exact hK2 (A.put (some 3) (iv (Pl.cmpF x.z f x.a x.b))) _ ⟨hFR.put (by decide) _, o0.past (by decide) (fun h => (put_ne (by decide)).trans h), o1.past (by decide) (fun h => (put_ne (by decide)).trans h), o2.past (by decide) (fun h => (put_ne (by decide)).trans h), o3.past (by decide) (fun h => (put_ne (by decide)).trans h), o4.past (by decide) (fun h => (put_ne (by decide)).trans h), o5.past (by decide) (fun h => (put_ne (by decide)).trans h), o6.past (by decide) (fun h => (put_ne (by decide)).trans h), o7.past (by decide) (fun h => (put_ne (by decide)).trans h), o8.past (by decide) (fun h => (put_ne (by decide)).trans h), o9.past (by decide) (fun h => (put_ne (by decide)).trans h), o10.past (by decide) (fun h => (put_ne (by decide)).trans h), o11.past (by decide) (fun h => (put_ne (by decide)).trans h), .now (put_eq (by have hz := hsz.out; omega)), o13.past (by decide) (fun h => (put_ne (by decide)).trans h), hK⟩
    · have e11 := o11 (ready_dep hm 11 (by kernel_rfl))
      refine wpOp_step rfl (fun KK hK2 => ?_)
      go_simp
      exact hK2 (A.put (some 4) (.bool (Pl.two x.z 0 x.a x.b && Pl.flags f))) _ ⟨hFR.put (by decide) _, o0.past (by decide) (fun h => (put_ne (by decide)).trans h), o1.past (by decide) (fun h => (put_ne (by decide)).trans h), o2.past (by decide) (fun h => (put_ne (by decide)).trans h), o3.past (by decide) (fun h => (put_ne (by decide)).trans h), o4.past (by decide) (fun h => (put_ne (by decide)).trans h), o5.past (by decide) (fun h => (put_ne (by decide)).trans h), o6.past (by decide) (fun h => (put_ne (by decide)).trans h), o7.past (by decide) (fun h => (put_ne (by decide)).trans h), o8.past (by decide) (fun h => (put_ne (by decide)).trans h), o9.past (by decide) (fun h => (put_ne (by decide)).trans h), o10.past (by decide) (fun h => (put_ne (by decide)).trans h), o11.past (by decide) (fun h => (put_ne (by decide)).trans h), o12.past (by decide) (fun h => (put_ne (by decide)).trans h), .now (put_eq (by have hz := hsz.out; omega)), hK⟩
    · simp at hi1
      omega
set_option maxRecDepth 100000 in
set_option maxHeartbeats 4000000 in
theorem behind4 (w0 w : World) (g g2 n : Nat) (cap : Array Value) (f : Int) (x : Pl.Fo) (h : Blk w g (foA x) 47) (h2 : Blk w g2 #[.func (.func n) #[] cap] 94) (hx : Pl.foOk x = true)
    (hfn : ∀ (a : Array Value) (w : World), (callFunc n a).run Try.prog w = .ok (.enter n a) w) (hk : Kept 0 0 w0 w) (hw : ∀ w', Kept 0 0 w0 w' → Calls Try.prog n cap w' fun e w'' => e = .returned (iv f) ∧ Kept 0 0 w' w'') :
    Calls Try.prog 120 #[.pointer (some ⟨g, 0, none⟩), .pointer (some ⟨g2, 0, none⟩)] w fun e w' => e = .returned (iv (Pl.logF x.z f x.a)) ∧ Kept 0 0 w w' := by
  obtain ⟨a0, a1, b0, b1⟩ := Pl.foOk_bd hx
  have HB := hide h
  have HC := hide h2
  have HK := hide hk
  have HW := hide hw
  clear h h2 hx hk hw
  go_enter Try.func120, Try.ntmps120
  go_wp2_with fail
  refine wp_region_inv2 (fun A0 l A W => FR [6, 7, 8, 9, 10, 11, 12, 5, 13, 14, 3, 4] A0 A ∧ Once l 0 (A.tmps[6]? = some (.pointer (some ⟨g, 1, none⟩))) ∧ Once l 1 (A.tmps[7]? = some (iv x.z)) ∧ Once l 2 (A.tmps[8]? = some (.func (.func n) #[] cap)) ∧ Once l 3 (A.tmps[9]? = some (iv f)) ∧ Once l 4 (A.tmps[10]? = some (.pointer (some ⟨g, 2, none⟩))) ∧ Once l 5 (A.tmps[11]? = some (iv x.a)) ∧ Once l 6 (A.tmps[12]? = some (.tuple #[iv (Pl.logF x.z f x.a), .bool (Pl.okv x.z x.a && Pl.flags f)])) ∧ Once l 7 (A.tmps[5]? = some (.tuple #[iv (Pl.logF x.z f x.a), .bool (Pl.okv x.z x.a && Pl.flags f)])) ∧ Once l 8 (A.tmps[13]? = some (iv (Pl.logF x.z f x.a))) ∧ Once l 9 (A.tmps[14]? = some (.bool (Pl.okv x.z x.a && Pl.flags f))) ∧ Once l 10 (A.tmps[3]? = some (iv (Pl.logF x.z f x.a))) ∧ Once l 11 (A.tmps[4]? = some (.bool (Pl.okv x.z x.a && Pl.flags f))) ∧ Kept 0 0 w W) (by kernel_rfl) (by kernel_rfl) ?start ?fin ?step
  case start => exact ⟨FR.refl _ _, once_start (by decide), once_start (by decide), once_start (by decide), once_start (by decide), once_start (by decide), once_start (by decide), once_start (by decide), once_start (by decide), once_start (by decide), once_start (by decide), once_start (by decide), once_start (by decide), kept_drew (Kept.refl _ _ _)⟩
  case fin =>
    intro l A W h hl
    obtain ⟨hFR, o0, o1, o2, o3, o4, o5, o6, o7, o8, o9, o10, o11, hK⟩ := h
    have g10 := o10 (hl 10 (by decide))
    have QQ := hide hK
    have hc9 := hFR.chain
    simp only [List.foldl] at hc9
    rw [getD_of g10] at hc9
    clear hl hK hFR g10 o0 o1 o2 o3 o4 o5 o6 o7 o8 o9 o10 o11
    generalize A.tmps.getD 6 undef = s6 at hc9
    generalize A.tmps.getD 7 undef = s7 at hc9
    generalize A.tmps.getD 8 undef = s8 at hc9
    generalize A.tmps.getD 9 undef = s9 at hc9
    generalize A.tmps.getD 10 undef = s10 at hc9
    generalize A.tmps.getD 11 undef = s11 at hc9
    generalize A.tmps.getD 12 undef = s12 at hc9
    generalize A.tmps.getD 5 undef = s5 at hc9
    generalize A.tmps.getD 13 undef = s13 at hc9
    generalize A.tmps.getD 14 undef = s14 at hc9
    generalize A.tmps.getD 4 undef = s4 at hc9
    subst hc9
    go_simp
    go_wp2_with fail
    go_ret
    exact ⟨rfl, QQ.out⟩
  case step =>
    intro l A W i hI hm
    obtain ⟨hFR, o0, o1, o2, o3, o4, o5, o6, o7, o8, o9, o10, o11, hK⟩ := hI
    obtain ⟨hi1, hi2⟩ := ready_new hm
    have hsz : Hid (14 < A.tmps.size) := hide (by rw [hFR.size]; simp)
    have m0 : A.tmps[0]? = some (.pointer (some ⟨g, 0, none⟩)) := (hFR.out 0 (by decide)).trans rfl
    have m1 : A.tmps[1]? = some (.pointer (some ⟨g2, 0, none⟩)) := (hFR.out 1 (by decide)).trans rfl
    rcases i with _ | _ | _ | _ | _ | _ | _ | _ | _ | _ | _ | _ | i
    · refine wpOp_step rfl (fun KK hK2 => ?_)
      go_simp
      exact hK2 (A.put (some 6) (.pointer (some ⟨g, 1, none⟩))) _ ⟨hFR.put (by decide) _, .now (put_eq (by have hz := hsz.out; omega)), o1.past (by decide) (fun h => (put_ne (by decide)).trans h), o2.past (by decide) (fun h => (put_ne (by decide)).trans h), o3.past (by decide) (fun h => (put_ne (by decide)).trans h), o4.past (by decide) (fun h => (put_ne (by decide)).trans h), o5.past (by decide) (fun h => (put_ne (by decide)).trans h), o6.past (by decide) (fun h => (put_ne (by decide)).trans h), o7.past (by decide) (fun h => (put_ne (by decide)).trans h), o8.past (by decide) (fun h => (put_ne (by decide)).trans h), o9.past (by decide) (fun h => (put_ne (by decide)).trans h), o10.past (by decide) (fun h => (put_ne (by decide)).trans h), o11.past (by decide) (fun h => (put_ne (by decide)).trans h), hK⟩
    · have e0 := o0 (ready_dep hm 0 (by kernel_rfl))
      have BL := (HB.out.kept0 hK).all
      refine wpOp_step rfl (fun KK hK2 => ?_)
      go_simp
      exact hK2 (A.put (some 7) (iv x.z)) _ ⟨hFR.put (by decide) _, o0.past (by decide) (fun h => (put_ne (by decide)).trans h), .now (put_eq (by have hz := hsz.out; omega)), o2.past (by decide) (fun h => (put_ne (by decide)).trans h), o3.past (by decide) (fun h => (put_ne (by decide)).trans h), o4.past (by decide) (fun h => (put_ne (by decide)).trans h), o5.past (by decide) (fun h => (put_ne (by decide)).trans h), o6.past (by decide) (fun h => (put_ne (by decide)).trans h), o7.past (by decide) (fun h => (put_ne (by decide)).trans h), o8.past (by decide) (fun h => (put_ne (by decide)).trans h), o9.past (by decide) (fun h => (put_ne (by decide)).trans h), o10.past (by decide) (fun h => (put_ne (by decide)).trans h), o11.past (by decide) (fun h => (put_ne (by decide)).trans h), hK⟩
    · have CL := (HC.out.kept0 hK).all
      refine wpOp_step rfl (fun KK hK2 => ?_)
      go_simp
      exact hK2 (A.put (some 8) (.func (.func n) #[] cap)) _ ⟨hFR.put (by decide) _, o0.past (by decide) (fun h => (put_ne (by decide)).trans h), o1.past (by decide) (fun h => (put_ne (by decide)).trans h), .now (put_eq (by have hz := hsz.out; omega)), o3.past (by decide) (fun h => (put_ne (by decide)).trans h), o4.past (by decide) (fun h => (put_ne (by decide)).trans h), o5.past (by decide) (fun h => (put_ne (by decide)).trans h), o6.past (by decide) (fun h => (put_ne (by decide)).trans h), o7.past (by decide) (fun h => (put_ne (by decide)).trans h), o8.past (by decide) (fun h => (put_ne (by decide)).trans h), o9.past (by decide) (fun h => (put_ne (by decide)).trans h), o10.past (by decide) (fun h => (put_ne (by decide)).trans h), o11.past (by decide) (fun h => (put_ne (by decide)).trans h), hK⟩
    · have e2 := o2 (ready_dep hm 2 (by kernel_rfl))
      refine wpOp_step rfl (fun KK hK2 => ?_)
      go_simp
      refine (HW.out W ((HK.out.trans hK))).mono ?_
      rintro r9 y ⟨rfl, kd⟩
      go_simp
      exact hK2 (A.put (some 9) (iv f)) _ ⟨hFR.put (by decide) _, o0.past (by decide) (fun h => (put_ne (by decide)).trans h), o1.past (by decide) (fun h => (put_ne (by decide)).trans h), o2.past (by decide) (fun h => (put_ne (by decide)).trans h), .now (put_eq (by have hz := hsz.out; omega)), o4.past (by decide) (fun h => (put_ne (by decide)).trans h), o5.past (by decide) (fun h => (put_ne (by decide)).trans h), o6.past (by decide) (fun h => (put_ne (by decide)).trans h), o7.past (by decide) (fun h => (put_ne (by decide)).trans h), o8.past (by decide) (fun h => (put_ne (by decide)).trans h), o9.past (by decide) (fun h => (put_ne (by decide)).trans h), o10.past (by decide) (fun h => (put_ne (by decide)).trans h), o11.past (by decide) (fun h => (put_ne (by decide)).trans h), (hK.trans kd)⟩
    · refine wpOp_step rfl (fun KK hK2 => ?_)
      go_simp
      exact hK2 (A.put (some 10) (.pointer (some ⟨g, 2, none⟩))) _ ⟨hFR.put (by decide) _, o0.past (by decide) (fun h => (put_ne (by decide)).trans h), o1.past (by decide) (fun h => (put_ne (by decide)).trans h), o2.past (by decide) (fun h => (put_ne (by decide)).trans h), o3.past (by decide) (fun h => (put_ne (by decide)).trans h), .now (put_eq (by have hz := hsz.out; omega)), o5.past (by decide) (fun h => (put_ne (by decide)).trans h), o6.past (by decide) (fun h => (put_ne (by decide)).trans h), o7.past (by decide) (fun h => (put_ne (by decide)).trans h), o8.past (by decide) (fun h => (put_ne (by decide)).trans h), o9.past (by decide) (fun h => (put_ne (by decide)).trans h), o10.past (by decide) (fun h => (put_ne (by decide)).trans h), o11.past (by decide) (fun h => (put_ne (by decide)).trans h), hK⟩
    · have e4 := o4 (ready_dep hm 4 (by kernel_rfl))
      have BL := (HB.out.kept0 hK).all
      refine wpOp_step rfl (fun KK hK2 => ?_)
      go_simp
      exact hK2 (A.put (some 11) (iv x.a)) _ ⟨hFR.put (by decide) _, o0.past (by decide) (fun h => (put_ne (by decide)).trans h), o1.past (by decide) (fun h => (put_ne (by decide)).trans h), o2.past (by decide) (fun h => (put_ne (by decide)).trans h), o3.past (by decide) (fun h => (put_ne (by decide)).trans h), o4.past (by decide) (fun h => (put_ne (by decide)).trans h), .now (put_eq (by have hz := hsz.out; omega)), o6.past (by decide) (fun h => (put_ne (by decide)).trans h), o7.past (by decide) (fun h => (put_ne (by decide)).trans h), o8.past (by decide) (fun h => (put_ne (by decide)).trans h), o9.past (by decide) (fun h => (put_ne (by decide)).trans h), o10.past (by decide) (fun h => (put_ne (by decide)).trans h), o11.past (by decide) (fun h => (put_ne (by decide)).trans h), hK⟩
    · have e1 := o1 (ready_dep hm 1 (by kernel_rfl))
      have e3 := o3 (ready_dep hm 3 (by kernel_rfl))
      have e5 := o5 (ready_dep hm 5 (by kernel_rfl))
      refine wpOp_step rfl (fun KK hK2 => ?_)
      go_simp
      refine st (logicFlags x.z f x.a _ (by omega) (by omega)) ?_
      go_simp
      exact hK2 (A.put (some 12) (.tuple #[iv (Pl.logF x.z f x.a), .bool (Pl.okv x.z x.a && Pl.flags f)])) _ ⟨hFR.put (by decide) _, o0.past (by decide) (fun h => (put_ne (by decide)).trans h), o1.past (by decide) (fun h => (put_ne (by decide)).trans h), o2.past (by decide) (fun h => (put_ne (by decide)).trans h), o3.past (by decide) (fun h => (put_ne (by decide)).trans h), o4.past (by decide) (fun h => (put_ne (by decide)).trans h), o5.past (by decide) (fun h => (put_ne (by decide)).trans h), .now (put_eq (by have hz := hsz.out; omega)), o7.past (by decide) (fun h => (put_ne (by decide)).trans h), o8.past (by decide) (fun h => (put_ne (by decide)).trans h), o9.past (by decide) (fun h => (put_ne (by decide)).trans h), o10.past (by decide) (fun h => (put_ne (by decide)).trans h), o11.past (by decide) (fun h => (put_ne (by decide)).trans h), hK⟩
    · have e6 := o6 (ready_dep hm 6 (by kernel_rfl))
      refine wpOp_step rfl (fun KK hK2 => ?_)
      go_simp
      exact hK2 (A.put (some 5) (.tuple #[iv (Pl.logF x.z f x.a), .bool (Pl.okv x.z x.a && Pl.flags f)])) _ ⟨hFR.put (by decide) _, o0.past (by decide) (fun h => (put_ne (by decide)).trans h), o1.past (by decide) (fun h => (put_ne (by decide)).trans h), o2.past (by decide) (fun h => (put_ne (by decide)).trans h), o3.past (by decide) (fun h => (put_ne (by decide)).trans h), o4.past (by decide) (fun h => (put_ne (by decide)).trans h), o5.past (by decide) (fun h => (put_ne (by decide)).trans h), o6.past (by decide) (fun h => (put_ne (by decide)).trans h), .now (put_eq (by have hz := hsz.out; omega)), o8.past (by decide) (fun h => (put_ne (by decide)).trans h), o9.past (by decide) (fun h => (put_ne (by decide)).trans h), o10.past (by decide) (fun h => (put_ne (by decide)).trans h), o11.past (by decide) (fun h => (put_ne (by decide)).trans h), hK⟩
    · have e7 := o7 (ready_dep hm 7 (by kernel_rfl))
      refine wpOp_step rfl (fun KK hK2 => ?_)
      go_simp
      exact hK2 (A.put (some 13) (iv (Pl.logF x.z f x.a))) _ ⟨hFR.put (by decide) _, o0.past (by decide) (fun h => (put_ne (by decide)).trans h), o1.past (by decide) (fun h => (put_ne (by decide)).trans h), o2.past (by decide) (fun h => (put_ne (by decide)).trans h), o3.past (by decide) (fun h => (put_ne (by decide)).trans h), o4.past (by decide) (fun h => (put_ne (by decide)).trans h), o5.past (by decide) (fun h => (put_ne (by decide)).trans h), o6.past (by decide) (fun h => (put_ne (by decide)).trans h), o7.past (by decide) (fun h => (put_ne (by decide)).trans h), .now (put_eq (by have hz := hsz.out; omega)), o9.past (by decide) (fun h => (put_ne (by decide)).trans h), o10.past (by decide) (fun h => (put_ne (by decide)).trans h), o11.past (by decide) (fun h => (put_ne (by decide)).trans h), hK⟩
    · have e7 := o7 (ready_dep hm 7 (by kernel_rfl))
      refine wpOp_step rfl (fun KK hK2 => ?_)
      go_simp
      exact hK2 (A.put (some 14) (.bool (Pl.okv x.z x.a && Pl.flags f))) _ ⟨hFR.put (by decide) _, o0.past (by decide) (fun h => (put_ne (by decide)).trans h), o1.past (by decide) (fun h => (put_ne (by decide)).trans h), o2.past (by decide) (fun h => (put_ne (by decide)).trans h), o3.past (by decide) (fun h => (put_ne (by decide)).trans h), o4.past (by decide) (fun h => (put_ne (by decide)).trans h), o5.past (by decide) (fun h => (put_ne (by decide)).trans h), o6.past (by decide) (fun h => (put_ne (by decide)).trans h), o7.past (by decide) (fun h => (put_ne (by decide)).trans h), o8.past (by decide) (fun h => (put_ne (by decide)).trans h), .now (put_eq (by have hz := hsz.out; omega)), o10.past (by decide) (fun h => (put_ne (by decide)).trans h), o11.past (by decide) (fun h => (put_ne (by decide)).trans h), hK⟩
    · have e8 := o8 (ready_dep hm 8 (by kernel_rfl))
      refine wpOp_step rfl (fun KK hK2 => ?_)
      go_simp
      exact hK2 (A.put (some 3) (iv (Pl.logF x.z f x.a))) _ ⟨hFR.put (by decide) _, o0.past (by decide) (fun h => (put_ne (by decide)).trans h), o1.past (by decide) (fun h => (put_ne (by decide)).trans h), o2.past (by decide) (fun h => (put_ne (by decide)).trans h), o3.past (by decide) (fun h => (put_ne (by decide)).trans h), o4.past (by decide) (fun h => (put_ne (by decide)).trans h), o5.past (by decide) (fun h => (put_ne (by decide)).trans h), o6.past (by decide) (fun h => (put_ne (by decide)).trans h), o7.past (by decide) (fun h => (put_ne (by decide)).trans h), o8.past (by decide) (fun h => (put_ne (by decide)).trans h), o9.past (by decide) (fun h => (put_ne (by decide)).trans h), .now (put_eq (by have hz := hsz.out; omega)), o11.past (by decide) (fun h => (put_ne (by decide)).trans h), hK⟩
    · have e9 := o9 (ready_dep hm 9 (by kernel_rfl))
      refine wpOp_step rfl (fun KK hK2 => ?_)
      go_simp
      exact hK2 (A.put (some 4) (.bool (Pl.okv x.z x.a && Pl.flags f))) _ ⟨hFR.put (by decide) _, o0.past (by decide) (fun h => (put_ne (by decide)).trans h), o1.past (by decide) (fun h => (put_ne (by decide)).trans h), o2.past (by decide) (fun h => (put_ne (by decide)).trans h), o3.past (by decide) (fun h => (put_ne (by decide)).trans h), o4.past (by decide) (fun h => (put_ne (by decide)).trans h), o5.past (by decide) (fun h => (put_ne (by decide)).trans h), o6.past (by decide) (fun h => (put_ne (by decide)).trans h), o7.past (by decide) (fun h => (put_ne (by decide)).trans h), o8.past (by decide) (fun h => (put_ne (by decide)).trans h), o9.past (by decide) (fun h => (put_ne (by decide)).trans h), o10.past (by decide) (fun h => (put_ne (by decide)).trans h), .now (put_eq (by have hz := hsz.out; omega)), hK⟩
    · simp at hi1
      omega
set_option maxRecDepth 100000 in
set_option maxHeartbeats 4000000 in
theorem behind5 (w0 w : World) (g g2 n : Nat) (cap : Array Value) (f : Int) (x : Pl.Fo) (h : Blk w g (foA x) 47) (h2 : Blk w g2 #[.func (.func n) #[] cap] 94) (hx : Pl.foOk x = true)
    (hfn : ∀ (a : Array Value) (w : World), (callFunc n a).run Try.prog w = .ok (.enter n a) w) (hk : Kept 0 0 w0 w) (hw : ∀ w', Kept 0 0 w0 w' → Calls Try.prog n cap w' fun e w'' => e = .returned (iv f) ∧ Kept 0 0 w' w'') :
    Calls Try.prog 122 #[.pointer (some ⟨g, 0, none⟩), .pointer (some ⟨g2, 0, none⟩)] w fun e w' => e = .returned (iv (Pl.onceF 4 x.z f x.a)) ∧ Kept 0 0 w w' := by
  obtain ⟨a0, a1, b0, b1⟩ := Pl.foOk_bd hx
  have HB := hide h
  have HC := hide h2
  have HK := hide hk
  have HW := hide hw
  clear h h2 hx hk hw
  go_enter Try.func122, Try.ntmps122
  go_wp2_with fail
  refine wp_region_inv2 (fun A0 l A W => FR [7, 8, 9, 10, 11, 12, 13, 6, 14, 15, 16, 3, 4, 5] A0 A ∧ Once l 0 (A.tmps[7]? = some (.pointer (some ⟨g, 1, none⟩))) ∧ Once l 1 (A.tmps[8]? = some (iv x.z)) ∧ Once l 2 (A.tmps[9]? = some (.func (.func n) #[] cap)) ∧ Once l 3 (A.tmps[10]? = some (iv f)) ∧ Once l 4 (A.tmps[11]? = some (.pointer (some ⟨g, 2, none⟩))) ∧ Once l 5 (A.tmps[12]? = some (iv x.a)) ∧ Once l 6 (A.tmps[13]? = some (.tuple #[iv (Pl.onceV 4 x.z f x.a), iv (Pl.onceF 4 x.z f x.a), .bool (Pl.goodK 4 x.z f x.a)])) ∧ Once l 7 (A.tmps[6]? = some (.tuple #[iv (Pl.onceV 4 x.z f x.a), iv (Pl.onceF 4 x.z f x.a), .bool (Pl.goodK 4 x.z f x.a)])) ∧ Once l 8 (A.tmps[14]? = some (iv (Pl.onceV 4 x.z f x.a))) ∧ Once l 9 (A.tmps[15]? = some (iv (Pl.onceF 4 x.z f x.a))) ∧ Once l 10 (A.tmps[16]? = some (.bool (Pl.goodK 4 x.z f x.a))) ∧ Once l 11 (A.tmps[3]? = some (iv (Pl.onceV 4 x.z f x.a))) ∧ Once l 12 (A.tmps[4]? = some (iv (Pl.onceF 4 x.z f x.a))) ∧ Once l 13 (A.tmps[5]? = some (.bool (Pl.goodK 4 x.z f x.a))) ∧ Kept 0 0 w W) (by kernel_rfl) (by kernel_rfl) ?start ?fin ?step
  case start => exact ⟨FR.refl _ _, once_start (by decide), once_start (by decide), once_start (by decide), once_start (by decide), once_start (by decide), once_start (by decide), once_start (by decide), once_start (by decide), once_start (by decide), once_start (by decide), once_start (by decide), once_start (by decide), once_start (by decide), once_start (by decide), kept_drew (Kept.refl _ _ _)⟩
  case fin =>
    intro l A W h hl
    obtain ⟨hFR, o0, o1, o2, o3, o4, o5, o6, o7, o8, o9, o10, o11, o12, o13, hK⟩ := h
    have g12 := o12 (hl 12 (by decide))
    have QQ := hide hK
    have hc9 := hFR.chain
    simp only [List.foldl] at hc9
    rw [getD_of g12] at hc9
    clear hl hK hFR g12 o0 o1 o2 o3 o4 o5 o6 o7 o8 o9 o10 o11 o12 o13
    generalize A.tmps.getD 7 undef = s7 at hc9
    generalize A.tmps.getD 8 undef = s8 at hc9
    generalize A.tmps.getD 9 undef = s9 at hc9
    generalize A.tmps.getD 10 undef = s10 at hc9
    generalize A.tmps.getD 11 undef = s11 at hc9
    generalize A.tmps.getD 12 undef = s12 at hc9
    generalize A.tmps.getD 13 undef = s13 at hc9
    generalize A.tmps.getD 6 undef = s6 at hc9
    generalize A.tmps.getD 14 undef = s14 at hc9
    generalize A.tmps.getD 15 undef = s15 at hc9
    generalize A.tmps.getD 16 undef = s16 at hc9
    generalize A.tmps.getD 3 undef = s3 at hc9
    generalize A.tmps.getD 5 undef = s5 at hc9
    subst hc9
    go_simp
    go_wp2_with fail
    go_ret
    exact ⟨rfl, QQ.out⟩
  case step =>
    intro l A W i hI hm
    obtain ⟨hFR, o0, o1, o2, o3, o4, o5, o6, o7, o8, o9, o10, o11, o12, o13, hK⟩ := hI
    obtain ⟨hi1, hi2⟩ := ready_new hm
    have hsz : Hid (16 < A.tmps.size) := hide (by rw [hFR.size]; simp)
    have m0 : A.tmps[0]? = some (.pointer (some ⟨g, 0, none⟩)) := (hFR.out 0 (by decide)).trans rfl
    have m1 : A.tmps[1]? = some (.pointer (some ⟨g2, 0, none⟩)) := (hFR.out 1 (by decide)).trans rfl
    rcases i with _ | _ | _ | _ | _ | _ | _ | _ | _ | _ | _ | _ | _ | _ | i
    · refine wpOp_step rfl (fun KK hK2 => ?_)
      go_simp
      exact hK2 (A.put (some 7) (.pointer (some ⟨g, 1, none⟩))) _ ⟨hFR.put (by decide) _, .now (put_eq (by have hz := hsz.out; omega)), o1.past (by decide) (fun h => (put_ne (by decide)).trans h), o2.past (by decide) (fun h => (put_ne (by decide)).trans h), o3.past (by decide) (fun h => (put_ne (by decide)).trans h), o4.past (by decide) (fun h => (put_ne (by decide)).trans h), o5.past (by decide) (fun h => (put_ne (by decide)).trans h), o6.past (by decide) (fun h => (put_ne (by decide)).trans h), o7.past (by decide) (fun h => (put_ne (by decide)).trans h), o8.past (by decide) (fun h => (put_ne (by decide)).trans h), o9.past (by decide) (fun h => (put_ne (by decide)).trans h), o10.past (by decide) (fun h => (put_ne (by decide)).trans h), o11.past (by decide) (fun h => (put_ne (by decide)).trans h), o12.past (by decide) (fun h => (put_ne (by decide)).trans h), o13.past (by decide) (fun h => (put_ne (by decide)).trans h), hK⟩
    · have e0 := o0 (ready_dep hm 0 (by kernel_rfl))
      have BL := (HB.out.kept0 hK).all
      refine wpOp_step rfl (fun KK hK2 => ?_)
      go_simp
      exact hK2 (A.put (some 8) (iv x.z)) _ ⟨hFR.put (by decide) _, o0.past (by decide) (fun h => (put_ne (by decide)).trans h), .now (put_eq (by have hz := hsz.out; omega)), o2.past (by decide) (fun h => (put_ne (by decide)).trans h), o3.past (by decide) (fun h => (put_ne (by decide)).trans h), o4.past (by decide) (fun h => (put_ne (by decide)).trans h), o5.past (by decide) (fun h => (put_ne (by decide)).trans h), o6.past (by decide) (fun h => (put_ne (by decide)).trans h), o7.past (by decide) (fun h => (put_ne (by decide)).trans h), o8.past (by decide) (fun h => (put_ne (by decide)).trans h), o9.past (by decide) (fun h => (put_ne (by decide)).trans h), o10.past (by decide) (fun h => (put_ne (by decide)).trans h), o11.past (by decide) (fun h => (put_ne (by decide)).trans h), o12.past (by decide) (fun h => (put_ne (by decide)).trans h), o13.past (by decide) (fun h => (put_ne (by decide)).trans h), hK⟩
    · have CL := (HC.out.kept0 hK).all
      refine wpOp_step rfl (fun KK hK2 => ?_)
      go_simp
      exact hK2 (A.put (some 9) (.func (.func n) #[] cap)) _ ⟨hFR.put (by decide) _, o0.past (by decide) (fun h => (put_ne (by decide)).trans h), o1.past (by decide) (fun h => (put_ne (by decide)).trans h), .now (put_eq (by have hz := hsz.out; omega)), o3.past (by decide) (fun h => (put_ne (by decide)).trans h), o4.past (by decide) (fun h => (put_ne (by decide)).trans h), o5.past (by decide) (fun h => (put_ne (by decide)).trans h), o6.past (by decide) (fun h => (put_ne (by decide)).trans h), o7.past (by decide) (fun h => (put_ne (by decide)).trans h), o8.past (by decide) (fun h => (put_ne (by decide)).trans h), o9.past (by decide) (fun h => (put_ne (by decide)).trans h), o10.past (by decide) (fun h => (put_ne (by decide)).trans h), o11.past (by decide) (fun h => (put_ne (by decide)).trans h), o12.past (by decide) (fun h => (put_ne (by decide)).trans h), o13.past (by decide) (fun h => (put_ne (by decide)).trans h), hK⟩
    · have e2 := o2 (ready_dep hm 2 (by kernel_rfl))
      refine wpOp_step rfl (fun KK hK2 => ?_)
      go_simp
      refine (HW.out W ((HK.out.trans hK))).mono ?_
      rintro r9 y ⟨rfl, kd⟩
      go_simp
      exact hK2 (A.put (some 10) (iv f)) _ ⟨hFR.put (by decide) _, o0.past (by decide) (fun h => (put_ne (by decide)).trans h), o1.past (by decide) (fun h => (put_ne (by decide)).trans h), o2.past (by decide) (fun h => (put_ne (by decide)).trans h), .now (put_eq (by have hz := hsz.out; omega)), o4.past (by decide) (fun h => (put_ne (by decide)).trans h), o5.past (by decide) (fun h => (put_ne (by decide)).trans h), o6.past (by decide) (fun h => (put_ne (by decide)).trans h), o7.past (by decide) (fun h => (put_ne (by decide)).trans h), o8.past (by decide) (fun h => (put_ne (by decide)).trans h), o9.past (by decide) (fun h => (put_ne (by decide)).trans h), o10.past (by decide) (fun h => (put_ne (by decide)).trans h), o11.past (by decide) (fun h => (put_ne (by decide)).trans h), o12.past (by decide) (fun h => (put_ne (by decide)).trans h), o13.past (by decide) (fun h => (put_ne (by decide)).trans h), (hK.trans kd)⟩
    · refine wpOp_step rfl (fun KK hK2 => ?_)
      go_simp
      exact hK2 (A.put (some 11) (.pointer (some ⟨g, 2, none⟩))) _ ⟨hFR.put (by decide) _, o0.past (by decide) (fun h => (put_ne (by decide)).trans h), o1.past (by decide) (fun h => (put_ne (by decide)).trans h), o2.past (by decide) (fun h => (put_ne (by decide)).trans h), o3.past (by decide) (fun h => (put_ne (by decide)).trans h), .now (put_eq (by have hz := hsz.out; omega)), o5.past (by decide) (fun h => (put_ne (by decide)).trans h), o6.past (by decide) (fun h => (put_ne (by decide)).trans h), o7.past (by decide) (fun h => (put_ne (by decide)).trans h), o8.past (by decide) (fun h => (put_ne (by decide)).trans h), o9.past (by decide) (fun h => (put_ne (by decide)).trans h), o10.past (by decide) (fun h => (put_ne (by decide)).trans h), o11.past (by decide) (fun h => (put_ne (by decide)).trans h), o12.past (by decide) (fun h => (put_ne (by decide)).trans h), o13.past (by decide) (fun h => (put_ne (by decide)).trans h), hK⟩
    · have e4 := o4 (ready_dep hm 4 (by kernel_rfl))
      have BL := (HB.out.kept0 hK).all
      refine wpOp_step rfl (fun KK hK2 => ?_)
      go_simp
      exact hK2 (A.put (some 12) (iv x.a)) _ ⟨hFR.put (by decide) _, o0.past (by decide) (fun h => (put_ne (by decide)).trans h), o1.past (by decide) (fun h => (put_ne (by decide)).trans h), o2.past (by decide) (fun h => (put_ne (by decide)).trans h), o3.past (by decide) (fun h => (put_ne (by decide)).trans h), o4.past (by decide) (fun h => (put_ne (by decide)).trans h), .now (put_eq (by have hz := hsz.out; omega)), o6.past (by decide) (fun h => (put_ne (by decide)).trans h), o7.past (by decide) (fun h => (put_ne (by decide)).trans h), o8.past (by decide) (fun h => (put_ne (by decide)).trans h), o9.past (by decide) (fun h => (put_ne (by decide)).trans h), o10.past (by decide) (fun h => (put_ne (by decide)).trans h), o11.past (by decide) (fun h => (put_ne (by decide)).trans h), o12.past (by decide) (fun h => (put_ne (by decide)).trans h), o13.past (by decide) (fun h => (put_ne (by decide)).trans h), hK⟩
    · have e1 := o1 (ready_dep hm 1 (by kernel_rfl))
      have e3 := o3 (ready_dep hm 3 (by kernel_rfl))
      have e5 := o5 (ready_dep hm 5 (by kernel_rfl))
      refine wpOp_step rfl (fun KK hK2 => ?_)
      go_simp
      refine (shiftOnce 4 x.z f x.a _ ⟨by omega, by omega⟩).mono ?_
      rintro r9 y ⟨rfl, kb⟩
      have kd := kept_below kb
      go_simp
      exact hK2 (A.put (some 13) (.tuple #[iv (Pl.onceV 4 x.z f x.a), iv (Pl.onceF 4 x.z f x.a), .bool (Pl.goodK 4 x.z f x.a)])) _ ⟨hFR.put (by decide) _, o0.past (by decide) (fun h => (put_ne (by decide)).trans h), o1.past (by decide) (fun h => (put_ne (by decide)).trans h), o2.past (by decide) (fun h => (put_ne (by decide)).trans h), o3.past (by decide) (fun h => (put_ne (by decide)).trans h), o4.past (by decide) (fun h => (put_ne (by decide)).trans h), o5.past (by decide) (fun h => (put_ne (by decide)).trans h), .now (put_eq (by have hz := hsz.out; omega)), o7.past (by decide) (fun h => (put_ne (by decide)).trans h), o8.past (by decide) (fun h => (put_ne (by decide)).trans h), o9.past (by decide) (fun h => (put_ne (by decide)).trans h), o10.past (by decide) (fun h => (put_ne (by decide)).trans h), o11.past (by decide) (fun h => (put_ne (by decide)).trans h), o12.past (by decide) (fun h => (put_ne (by decide)).trans h), o13.past (by decide) (fun h => (put_ne (by decide)).trans h), (hK.trans kd)⟩
    · have e6 := o6 (ready_dep hm 6 (by kernel_rfl))
      refine wpOp_step rfl (fun KK hK2 => ?_)
      go_simp
      exact hK2 (A.put (some 6) (.tuple #[iv (Pl.onceV 4 x.z f x.a), iv (Pl.onceF 4 x.z f x.a), .bool (Pl.goodK 4 x.z f x.a)])) _ ⟨hFR.put (by decide) _, o0.past (by decide) (fun h => (put_ne (by decide)).trans h), o1.past (by decide) (fun h => (put_ne (by decide)).trans h), o2.past (by decide) (fun h => (put_ne (by decide)).trans h), o3.past (by decide) (fun h => (put_ne (by decide)).trans h), o4.past (by decide) (fun h => (put_ne (by decide)).trans h), o5.past (by decide) (fun h => (put_ne (by decide)).trans h), o6.past (by decide) (fun h => (put_ne (by decide)).trans h), .now (put_eq (by have hz := hsz.out; omega)), o8.past (by decide) (fun h => (put_ne (by decide)).trans h), o9.past (by decide) (fun h => (put_ne (by decide)).trans h), o10.past (by decide) (fun h => (put_ne (by decide)).trans h), o11.past (by decide) (fun h => (put_ne (by decide)).trans h), o12.past (by decide) (fun h => (put_ne (by decide)).trans h), o13.past (by decide) (fun h => (put_ne (by decide)).trans h), hK⟩
    · have e7 := o7 (ready_dep hm 7 (by kernel_rfl))
      refine wpOp_step rfl (fun KK hK2 => ?_)
      go_simp
      exact hK2 (A.put (some 14) (iv (Pl.onceV 4 x.z f x.a))) _ ⟨hFR.put (by decide) _, o0.past (by decide) (fun h => (put_ne (by decide)).trans h), o1.past (by decide) (fun h => (put_ne (by decide)).trans h), o2.past (by decide) (fun h => (put_ne (by decide)).trans h), o3.past (by decide) (fun h => (put_ne (by decide)).trans h), o4.past (by decide) (fun h => (put_ne (by decide)).trans h), o5.past (by decide) (fun h => (put_ne (by decide)).trans h), o6.past (by decide) (fun h => (put_ne (by decide)).trans h), o7.past (by decide) (fun h => (put_ne (by decide)).trans h), .now (put_eq (by have hz := hsz.out; omega)), o9.past (by decide) (fun h => (put_ne (by decide)).trans h), o10.past (by decide) (fun h => (put_ne (by decide)).trans h), o11.past (by decide) (fun h => (put_ne (by decide)).trans h), o12.past (by decide) (fun h => (put_ne (by decide)).trans h), o13.past (by decide) (fun h => (put_ne (by decide)).trans h), hK⟩
    · have e7 := o7 (ready_dep hm 7 (by kernel_rfl))
      refine wpOp_step rfl (fun KK hK2 => ?_)
      go_simp
      exact hK2 (A.put (some 15) (iv (Pl.onceF 4 x.z f x.a))) _ ⟨hFR.put (by decide) _, o0.past (by decide) (fun h => (put_ne (by decide)).trans h), o1.past (by decide) (fun h => (put_ne (by decide)).trans h), o2.past (by decide) (fun h => (put_ne (by decide)).trans h), o3.past (by decide) (fun h => (put_ne (by decide)).trans h), o4.past (by decide) (fun h => (put_ne (by decide)).trans h), o5.past (by decide) (fun h => (put_ne (by decide)).trans h), o6.past (by decide) (fun h => (put_ne (by decide)).trans h), o7.past (by decide) (fun h => (put_ne (by decide)).trans h), o8.past (by decide) (fun h => (put_ne (by decide)).trans h), .now (put_eq (by have hz := hsz.out; omega)), o10.past (by decide) (fun h => (put_ne (by decide)).trans h), o11.past (by decide) (fun h => (put_ne (by decide)).trans h), o12.past (by decide) (fun h => (put_ne (by decide)).trans h), o13.past (by decide) (fun h => (put_ne (by decide)).trans h), hK⟩
    · have e7 := o7 (ready_dep hm 7 (by kernel_rfl))
      refine wpOp_step rfl (fun KK hK2 => ?_)
      go_simp
      exact hK2 (A.put (some 16) (.bool (Pl.goodK 4 x.z f x.a))) _ ⟨hFR.put (by decide) _, o0.past (by decide) (fun h => (put_ne (by decide)).trans h), o1.past (by decide) (fun h => (put_ne (by decide)).trans h), o2.past (by decide) (fun h => (put_ne (by decide)).trans h), o3.past (by decide) (fun h => (put_ne (by decide)).trans h), o4.past (by decide) (fun h => (put_ne (by decide)).trans h), o5.past (by decide) (fun h => (put_ne (by decide)).trans h), o6.past (by decide) (fun h => (put_ne (by decide)).trans h), o7.past (by decide) (fun h => (put_ne (by decide)).trans h), o8.past (by decide) (fun h => (put_ne (by decide)).trans h), o9.past (by decide) (fun h => (put_ne (by decide)).trans h), .now (put_eq (by have hz := hsz.out; omega)), o11.past (by decide) (fun h => (put_ne (by decide)).trans h), o12.past (by decide) (fun h => (put_ne (by decide)).trans h), o13.past (by decide) (fun h => (put_ne (by decide)).trans h), hK⟩
    · have e8 := o8 (ready_dep hm 8 (by kernel_rfl))
      refine wpOp_step rfl (fun KK hK2 => ?_)
      go_simp
      exact hK2 (A.put (some 3) (iv (Pl.onceV 4 x.z f x.a))) _ ⟨hFR.put (by decide) _, o0.past (by decide) (fun h => (put_ne (by decide)).trans h), o1.past (by decide) (fun h => (put_ne (by decide)).trans h), o2.past (by decide) (fun h => (put_ne (by decide)).trans h), o3.past (by decide) (fun h => (put_ne (by decide)).trans h), o4.past (by decide) (fun h => (put_ne (by decide)).trans h), o5.past (by decide) (fun h => (put_ne (by decide)).trans h), o6.past (by decide) (fun h => (put_ne (by decide)).trans h), o7.past (by decide) (fun h => (put_ne (by decide)).trans h), o8.past (by decide) (fun h => (put_ne (by decide)).trans h), o9.past (by decide) (fun h => (put_ne (by decide)).trans h), o10.past (by decide) (fun h => (put_ne (by decide)).trans h), .now (put_eq (by have hz := hsz.out; omega)), o12.past (by decide) (fun h => (put_ne (by decide)).trans h), o13.past (by decide) (fun h => (put_ne (by decide)).trans h), hK⟩
    · have e9 := o9 (ready_dep hm 9 (by kernel_rfl))
      refine wpOp_step rfl (fun KK hK2 => ?_)
      go_simp
      exact hK2 (A.put (some 4) (iv (Pl.onceF 4 x.z f x.a))) _ ⟨hFR.put (by decide) _, o0.past (by decide) (fun h => (put_ne (by decide)).trans h), o1.past (by decide) (fun h => (put_ne (by decide)).trans h), o2.past (by decide) (fun h => (put_ne (by decide)).trans h), o3.past (by decide) (fun h => (put_ne (by decide)).trans h), o4.past (by decide) (fun h => (put_ne (by decide)).trans h), o5.past (by decide) (fun h => (put_ne (by decide)).trans h), o6.past (by decide) (fun h => (put_ne (by decide)).trans h), o7.past (by decide) (fun h => (put_ne (by decide)).trans h), o8.past (by decide) (fun h => (put_ne (by decide)).trans h), o9.past (by decide) (fun h => (put_ne (by decide)).trans h), o10.past (by decide) (fun h => (put_ne (by decide)).trans h), o11.past (by decide) (fun h => (put_ne (by decide)).trans h), .now (put_eq (by have hz := hsz.out; omega)), o13.past (by decide) (fun h => (put_ne (by decide)).trans h), hK⟩
    · have e10 := o10 (ready_dep hm 10 (by kernel_rfl))
      refine wpOp_step rfl (fun KK hK2 => ?_)
      go_simp
      exact hK2 (A.put (some 5) (.bool (Pl.goodK 4 x.z f x.a))) _ ⟨hFR.put (by decide) _, o0.past (by decide) (fun h => (put_ne (by decide)).trans h), o1.past (by decide) (fun h => (put_ne (by decide)).trans h), o2.past (by decide) (fun h => (put_ne (by decide)).trans h), o3.past (by decide) (fun h => (put_ne (by decide)).trans h), o4.past (by decide) (fun h => (put_ne (by decide)).trans h), o5.past (by decide) (fun h => (put_ne (by decide)).trans h), o6.past (by decide) (fun h => (put_ne (by decide)).trans h), o7.past (by decide) (fun h => (put_ne (by decide)).trans h), o8.past (by decide) (fun h => (put_ne (by decide)).trans h), o9.past (by decide) (fun h => (put_ne (by decide)).trans h), o10.past (by decide) (fun h => (put_ne (by decide)).trans h), o11.past (by decide) (fun h => (put_ne (by decide)).trans h), o12.past (by decide) (fun h => (put_ne (by decide)).trans h), .now (put_eq (by have hz := hsz.out; omega)), hK⟩
    · simp at hi1
      omega
end Go.Proofs.Ytnmddmmmgdfknaa

namespace Go.Proofs.Ytnmddmmmgdfknaa
open Go.RowKit
set_option linter.unusedVariables false
set_option maxRecDepth 100000 in
theorem implBehind (w : World) (x : Pl.Fo) (v : Value) (f : Int) (hv : Wt w v f) (h : Pl.foNone x = true ∨ Pl.foOk x = true) :
    Calls Try.prog 77 #[.agg (foA x), v] w fun e w' => ∃ u, e = .returned u ∧ Wt w' u (Pl.mk f x) ∧ Kept 0 0 w w' := by
  obtain ⟨n, cap, rfl, hfn, hw⟩ := hv
  have hmf : ∀ (fn : Fn) (first cap : Array Value) (w : World), (Instr.makeFunc fn first cap).run Try.prog w = .ok (.func fn first cap) w := fun _ _ _ _ => rfl
  have K0 := hide (kept_new (kept_alloc w (.cells (foA x) 47)) (.cells #[.func (.func n) #[] cap] 94))
  have B0 := hide ((Blk.new w (foA x) 47).alloc (.cells #[.func (.func n) #[] cap] 94))
  have B1 := Blk.new (w.alloc (.cells (foA x) 47)) #[.func (.func n) #[] cap] 94
  simp only [World.size_alloc] at B1
  replace B1 := hide B1
  have HF := hide hfn
  have HW := hide hw
  have q1 := B1.out.all
  clear hfn hw
  have hk : x.k = 0 ∨ (x.k = 1 ∨ x.k = 2 ∨ x.k = 3 ∨ x.k = 4 ∨ x.k = 5) := by
    rcases h with h | h
    · rw [Pl.foNone_ok h]; exact .inl rfl
    · have := Pl.foOk_ok h; exact .inr (by omega)
  rcases hk with hk | hk
  · have E : Hid (Pl.mk f x = f) := hide (by simp [Pl.mk, hk])
    obtain ⟨k, z, a, b⟩ := x
    simp only at hk
    subst hk
    clear h
    go_enter Try.func77, Try.ntmps77
    go_wp2_with fail
    go_ret
    exact ⟨_, rfl, ⟨n, cap, rfl, HF.out, fun w' kk => by rw [E.out]; exact HW.out w' (K0.out.trans kk)⟩, K0.out⟩
  have hx : Pl.foOk x = true := by
    rcases h with h | h
    · rw [Pl.foNone_ok h] at hk; simp [Pl.foNo] at hk
    · exact h
  obtain ⟨k, z, a, b⟩ := x
  simp only at hk
  clear h
  rcases hk with rfl | rfl | rfl | rfl | rfl
  · have HX := hide (show Pl.foOk ⟨1, z, a, b⟩ = true from hx)
    have E : Hid (Pl.mk f ⟨1, z, a, b⟩ = Pl.addF z 0 a b) := hide (by simp [Pl.mk])
    go_enter Try.func77, Try.ntmps77
    go_wp2_with fail
    go_ret
    exact ⟨_, rfl, ⟨_, _, rfl, fnw1, fun w' kk => by rw [E.out]; exact behind1 w' _ ⟨1, z, a, b⟩ (B0.out.kept0 kk) HX.out⟩, K0.out⟩
  · have HX := hide (show Pl.foOk ⟨2, z, a, b⟩ = true from hx)
    have E : Hid (Pl.mk f ⟨2, z, a, b⟩ = Pl.subF z 0 a b) := hide (by simp [Pl.mk])
    go_enter Try.func77, Try.ntmps77
    go_wp2_with fail
    go_ret
    exact ⟨_, rfl, ⟨_, _, rfl, fnw2, fun w' kk => by rw [E.out]; exact behind2 w' _ ⟨2, z, a, b⟩ (B0.out.kept0 kk) HX.out⟩, K0.out⟩
  · have HX := hide (show Pl.foOk ⟨3, z, a, b⟩ = true from hx)
    have E : Hid (Pl.mk f ⟨3, z, a, b⟩ = Pl.cmpF z f a b) := hide (by simp [Pl.mk])
    go_enter Try.func77, Try.ntmps77
    go_wp2_with fail
    go_ret
    exact ⟨_, rfl, ⟨_, _, rfl, fnw3, fun w' kk => by rw [E.out]; exact behind3 w w' _ _ n cap f ⟨3, z, a, b⟩ (B0.out.kept0 kk) (B1.out.kept0 kk) HX.out HF.out (K0.out.trans kk) HW.out⟩, K0.out⟩
  · have HX := hide (show Pl.foOk ⟨4, z, a, b⟩ = true from hx)
    have E : Hid (Pl.mk f ⟨4, z, a, b⟩ = Pl.logF z f a) := hide (by simp [Pl.mk])
    go_enter Try.func77, Try.ntmps77
    go_wp2_with fail
    go_ret
    exact ⟨_, rfl, ⟨_, _, rfl, fnw4, fun w' kk => by rw [E.out]; exact behind4 w w' _ _ n cap f ⟨4, z, a, b⟩ (B0.out.kept0 kk) (B1.out.kept0 kk) HX.out HF.out (K0.out.trans kk) HW.out⟩, K0.out⟩
  · have HX := hide (show Pl.foOk ⟨5, z, a, b⟩ = true from hx)
    have E : Hid (Pl.mk f ⟨5, z, a, b⟩ = Pl.onceF 4 z f a) := hide (by simp [Pl.mk])
    go_enter Try.func77, Try.ntmps77
    go_wp2_with fail
    go_ret
    exact ⟨_, rfl, ⟨_, _, rfl, fnw5, fun w' kk => by rw [E.out]; exact behind5 w w' _ _ n cap f ⟨5, z, a, b⟩ (B0.out.kept0 kk) (B1.out.kept0 kk) HX.out HF.out (K0.out.trans kk) HW.out⟩, K0.out⟩
set_option maxRecDepth 100000 in
set_option maxHeartbeats 4000000 in
theorem implMeant (w : World) (z : Pl.Lz) (hl : Pl.foNone z.l = true ∨ Pl.foOk z.l = true) (hr : Pl.foNone z.r = true ∨ Pl.foOk z.r = true) :
    Calls Try.prog 80 #[.agg (lzA z)] w fun e w' => ∃ v, e = .returned v ∧ Wt w' v (Pl.lzF z) ∧ Kept 0 0 w w' := by
  have K0 := hide (kept_alloc w (.cells (lzA z) 49))
  have B0 := hide (Blk.new w (lzA z) 49)
  obtain ⟨w1, hw1⟩ : ∃ X : World, w.alloc (.cells (lzA z) 49) = X := ⟨_, rfl⟩
  rw [hw1] at K0 B0
  go_enter Try.func80, Try.ntmps80
  go_wp2_with fail
  clear hw1
  refine wp_region_inv2 (fun A0 l A W => FR [3, 4, 5, 6, 7, 8, 9, 10, 11, 2] A0 A ∧ Once l 0 (A.tmps[3]? = some (.pointer (some ⟨w.heap.size, 1, none⟩))) ∧ Once l 1 (A.tmps[4]? = some (.agg (foA z.l))) ∧ Once l 2 (A.tmps[5]? = some (.pointer (some ⟨w.heap.size, 5, none⟩))) ∧ Once l 3 (A.tmps[6]? = some (.agg (foA z.r))) ∧ Once l 4 (A.tmps[7]? = some (.pointer (some ⟨w.heap.size, 0, none⟩))) ∧ Once l 5 (A.tmps[8]? = some (iv z.b)) ∧ Once l 6 (∃ v, A.tmps[9]? = some v ∧ Wt W v z.b) ∧ Once l 7 (∃ v, A.tmps[10]? = some v ∧ Wt W v (Pl.mk z.b z.r)) ∧ Once l 8 (∃ v, A.tmps[11]? = some v ∧ Wt W v (Pl.mk (Pl.mk z.b z.r) z.l)) ∧ Once l 9 (∃ v, A.tmps[2]? = some v ∧ Wt W v (Pl.mk (Pl.mk z.b z.r) z.l)) ∧ Kept 0 0 w1 W) (by kernel_rfl) (by kernel_rfl) ?start ?fin ?step
  case start => exact ⟨FR.refl _ _, once_start (by decide), once_start (by decide), once_start (by decide), once_start (by decide), once_start (by decide), once_start (by decide), once_start (by decide), once_start (by decide), once_start (by decide), once_start (by decide), kept_drew (Kept.refl _ _ _)⟩
  case fin =>
    intro l A W h hl9
    obtain ⟨hFR, o0, o1, o2, o3, o4, o5, o6, o7, o8, o9, hK⟩ := h
    obtain ⟨v9, g9, u9⟩ := o9 (hl9 9 (by decide))
    have QQ := hide (K0.out.trans hK)
    have UU := hide u9
    have hc9 := hFR.chain
    simp only [List.foldl] at hc9
    rw [getD_of g9] at hc9
    clear hl9 hK hFR g9 u9 o0 o1 o2 o3 o4 o5 o6 o7 o8 o9
    generalize A.tmps.getD 3 undef = s3 at hc9
    generalize A.tmps.getD 4 undef = s4 at hc9
    generalize A.tmps.getD 5 undef = s5 at hc9
    generalize A.tmps.getD 6 undef = s6 at hc9
    generalize A.tmps.getD 7 undef = s7 at hc9
    generalize A.tmps.getD 8 undef = s8 at hc9
    generalize A.tmps.getD 9 undef = s9 at hc9
    generalize A.tmps.getD 10 undef = s10 at hc9
    generalize A.tmps.getD 11 undef = s11 at hc9
    subst hc9
    go_simp
    go_wp2_with fail
    go_ret
    exact ⟨_, rfl, UU.out, QQ.out⟩
  case step =>
    intro l A W i hI hm
    obtain ⟨hFR, o0, o1, o2, o3, o4, o5, o6, o7, o8, o9, hK⟩ := hI
    obtain ⟨hi1, hi2⟩ := ready_new hm
    have hsz : Hid (11 < A.tmps.size) := hide (by rw [hFR.size]; simp)
    have m1 : A.tmps[1]? = some (.pointer (some ⟨w.heap.size, 0, none⟩)) := (hFR.out 1 (by decide)).trans rfl
    rcases i with _ | _ | _ | _ | _ | _ | _ | _ | _ | _ | i
    · refine wpOp_step rfl (fun KK hK2 => ?_)
      go_simp
      exact hK2 (A.put (some 3) (.pointer (some ⟨w.heap.size, 1, none⟩))) _ ⟨hFR.put (by decide) _, .now (put_eq (by have hz := hsz.out; omega)), o1.past (by decide) (fun h => (put_ne (by decide)).trans h), o2.past (by decide) (fun h => (put_ne (by decide)).trans h), o3.past (by decide) (fun h => (put_ne (by decide)).trans h), o4.past (by decide) (fun h => (put_ne (by decide)).trans h), o5.past (by decide) (fun h => (put_ne (by decide)).trans h), o6.past (by decide) (fun ⟨v, h⟩ => ⟨v, (put_ne (by decide)).trans h.1, h.2⟩), o7.past (by decide) (fun ⟨v, h⟩ => ⟨v, (put_ne (by decide)).trans h.1, h.2⟩), o8.past (by decide) (fun ⟨v, h⟩ => ⟨v, (put_ne (by decide)).trans h.1, h.2⟩), o9.past (by decide) (fun ⟨v, h⟩ => ⟨v, (put_ne (by decide)).trans h.1, h.2⟩), hK⟩
    · have e0 := o0 (ready_dep hm 0 (by kernel_rfl))
      have BL := (B0.out.kept0 hK).all
      refine wpOp_step rfl (fun KK hK2 => ?_)
      go_simp
      exact hK2 (A.put (some 4) (.agg (foA z.l))) _ ⟨hFR.put (by decide) _, o0.past (by decide) (fun h => (put_ne (by decide)).trans h), .now (put_eq (by have hz := hsz.out; omega)), o2.past (by decide) (fun h => (put_ne (by decide)).trans h), o3.past (by decide) (fun h => (put_ne (by decide)).trans h), o4.past (by decide) (fun h => (put_ne (by decide)).trans h), o5.past (by decide) (fun h => (put_ne (by decide)).trans h), o6.past (by decide) (fun ⟨v, h⟩ => ⟨v, (put_ne (by decide)).trans h.1, h.2⟩), o7.past (by decide) (fun ⟨v, h⟩ => ⟨v, (put_ne (by decide)).trans h.1, h.2⟩), o8.past (by decide) (fun ⟨v, h⟩ => ⟨v, (put_ne (by decide)).trans h.1, h.2⟩), o9.past (by decide) (fun ⟨v, h⟩ => ⟨v, (put_ne (by decide)).trans h.1, h.2⟩), hK⟩
    · refine wpOp_step rfl (fun KK hK2 => ?_)
      go_simp
      exact hK2 (A.put (some 5) (.pointer (some ⟨w.heap.size, 5, none⟩))) _ ⟨hFR.put (by decide) _, o0.past (by decide) (fun h => (put_ne (by decide)).trans h), o1.past (by decide) (fun h => (put_ne (by decide)).trans h), .now (put_eq (by have hz := hsz.out; omega)), o3.past (by decide) (fun h => (put_ne (by decide)).trans h), o4.past (by decide) (fun h => (put_ne (by decide)).trans h), o5.past (by decide) (fun h => (put_ne (by decide)).trans h), o6.past (by decide) (fun ⟨v, h⟩ => ⟨v, (put_ne (by decide)).trans h.1, h.2⟩), o7.past (by decide) (fun ⟨v, h⟩ => ⟨v, (put_ne (by decide)).trans h.1, h.2⟩), o8.past (by decide) (fun ⟨v, h⟩ => ⟨v, (put_ne (by decide)).trans h.1, h.2⟩), o9.past (by decide) (fun ⟨v, h⟩ => ⟨v, (put_ne (by decide)).trans h.1, h.2⟩), hK⟩
    · have e2 := o2 (ready_dep hm 2 (by kernel_rfl))
      have BL := (B0.out.kept0 hK).all
      refine wpOp_step rfl (fun KK hK2 => ?_)
      go_simp
      exact hK2 (A.put (some 6) (.agg (foA z.r))) _ ⟨hFR.put (by decide) _, o0.past (by decide) (fun h => (put_ne (by decide)).trans h), o1.past (by decide) (fun h => (put_ne (by decide)).trans h), o2.past (by decide) (fun h => (put_ne (by decide)).trans h), .now (put_eq (by have hz := hsz.out; omega)), o4.past (by decide) (fun h => (put_ne (by decide)).trans h), o5.past (by decide) (fun h => (put_ne (by decide)).trans h), o6.past (by decide) (fun ⟨v, h⟩ => ⟨v, (put_ne (by decide)).trans h.1, h.2⟩), o7.past (by decide) (fun ⟨v, h⟩ => ⟨v, (put_ne (by decide)).trans h.1, h.2⟩), o8.past (by decide) (fun ⟨v, h⟩ => ⟨v, (put_ne (by decide)).trans h.1, h.2⟩), o9.past (by decide) (fun ⟨v, h⟩ => ⟨v, (put_ne (by decide)).trans h.1, h.2⟩), hK⟩
    · refine wpOp_step rfl (fun KK hK2 => ?_)
      go_simp
      exact hK2 (A.put (some 7) (.pointer (some ⟨w.heap.size, 0, none⟩))) _ ⟨hFR.put (by decide) _, o0.past (by decide) (fun h => (put_ne (by decide)).trans h), o1.past (by decide) (fun h => (put_ne (by decide)).trans h), o2.past (by decide) (fun h => (put_ne (by decide)).trans h), o3.past (by decide) (fun h => (put_ne (by decide)).trans h), .now (put_eq (by have hz := hsz.out; omega)), o5.past (by decide) (fun h => (put_ne (by decide)).trans h), o6.past (by decide) (fun ⟨v, h⟩ => ⟨v, (put_ne (by decide)).trans h.1, h.2⟩), o7.past (by decide) (fun ⟨v, h⟩ => ⟨v, (put_ne (by decide)).trans h.1, h.2⟩), o8.past (by decide) (fun ⟨v, h⟩ => ⟨v, (put_ne (by decide)).trans h.1, h.2⟩), o9.past (by decide) (fun ⟨v, h⟩ => ⟨v, (put_ne (by decide)).trans h.1, h.2⟩), hK⟩
    · have e4 := o4 (ready_dep hm 4 (by kernel_rfl))
      have BL := (B0.out.kept0 hK).all
      refine wpOp_step rfl (fun KK hK2 => ?_)
      go_simp
      exact hK2 (A.put (some 8) (iv z.b)) _ ⟨hFR.put (by decide) _, o0.past (by decide) (fun h => (put_ne (by decide)).trans h), o1.past (by decide) (fun h => (put_ne (by decide)).trans h), o2.past (by decide) (fun h => (put_ne (by decide)).trans h), o3.past (by decide) (fun h => (put_ne (by decide)).trans h), o4.past (by decide) (fun h => (put_ne (by decide)).trans h), .now (put_eq (by have hz := hsz.out; omega)), o6.past (by decide) (fun ⟨v, h⟩ => ⟨v, (put_ne (by decide)).trans h.1, h.2⟩), o7.past (by decide) (fun ⟨v, h⟩ => ⟨v, (put_ne (by decide)).trans h.1, h.2⟩), o8.past (by decide) (fun ⟨v, h⟩ => ⟨v, (put_ne (by decide)).trans h.1, h.2⟩), o9.past (by decide) (fun ⟨v, h⟩ => ⟨v, (put_ne (by decide)).trans h.1, h.2⟩), hK⟩
    · have e5 := o5 (ready_dep hm 5 (by kernel_rfl))
      refine wpOp_step rfl (fun KK hK2 => ?_)
      go_simp
      refine (implKnown W z.b).mono ?_
      rintro r9 y ⟨v6, rfl, u6, kd⟩
      go_simp
      exact hK2 (A.put (some 9) (v6)) _ ⟨hFR.put (by decide) _, o0.past (by decide) (fun h => (put_ne (by decide)).trans h), o1.past (by decide) (fun h => (put_ne (by decide)).trans h), o2.past (by decide) (fun h => (put_ne (by decide)).trans h), o3.past (by decide) (fun h => (put_ne (by decide)).trans h), o4.past (by decide) (fun h => (put_ne (by decide)).trans h), o5.past (by decide) (fun h => (put_ne (by decide)).trans h), .now ⟨_, put_eq (by have hz := hsz.out; omega), u6⟩, o7.past (by decide) (fun ⟨v, h⟩ => ⟨v, (put_ne (by decide)).trans h.1, h.2.kept kd⟩), o8.past (by decide) (fun ⟨v, h⟩ => ⟨v, (put_ne (by decide)).trans h.1, h.2.kept kd⟩), o9.past (by decide) (fun ⟨v, h⟩ => ⟨v, (put_ne (by decide)).trans h.1, h.2.kept kd⟩), (hK.trans kd)⟩
    · have e3 := o3 (ready_dep hm 3 (by kernel_rfl))
      obtain ⟨v6, e6, u6⟩ := o6 (ready_dep hm 6 (by kernel_rfl))
      refine wpOp_step rfl (fun KK hK2 => ?_)
      go_simp
      refine (implBehind W z.r v6 _ u6 hr).mono ?_
      rintro r9 y ⟨v7, rfl, u7, kd⟩
      go_simp
      exact hK2 (A.put (some 10) (v7)) _ ⟨hFR.put (by decide) _, o0.past (by decide) (fun h => (put_ne (by decide)).trans h), o1.past (by decide) (fun h => (put_ne (by decide)).trans h), o2.past (by decide) (fun h => (put_ne (by decide)).trans h), o3.past (by decide) (fun h => (put_ne (by decide)).trans h), o4.past (by decide) (fun h => (put_ne (by decide)).trans h), o5.past (by decide) (fun h => (put_ne (by decide)).trans h), o6.past (by decide) (fun ⟨v, h⟩ => ⟨v, (put_ne (by decide)).trans h.1, h.2.kept kd⟩), .now ⟨_, put_eq (by have hz := hsz.out; omega), u7⟩, o8.past (by decide) (fun ⟨v, h⟩ => ⟨v, (put_ne (by decide)).trans h.1, h.2.kept kd⟩), o9.past (by decide) (fun ⟨v, h⟩ => ⟨v, (put_ne (by decide)).trans h.1, h.2.kept kd⟩), (hK.trans kd)⟩
    · have e1 := o1 (ready_dep hm 1 (by kernel_rfl))
      obtain ⟨v7, e7, u7⟩ := o7 (ready_dep hm 7 (by kernel_rfl))
      refine wpOp_step rfl (fun KK hK2 => ?_)
      go_simp
      refine (implBehind W z.l v7 _ u7 hl).mono ?_
      rintro r9 y ⟨v8, rfl, u8, kd⟩
      go_simp
      exact hK2 (A.put (some 11) (v8)) _ ⟨hFR.put (by decide) _, o0.past (by decide) (fun h => (put_ne (by decide)).trans h), o1.past (by decide) (fun h => (put_ne (by decide)).trans h), o2.past (by decide) (fun h => (put_ne (by decide)).trans h), o3.past (by decide) (fun h => (put_ne (by decide)).trans h), o4.past (by decide) (fun h => (put_ne (by decide)).trans h), o5.past (by decide) (fun h => (put_ne (by decide)).trans h), o6.past (by decide) (fun ⟨v, h⟩ => ⟨v, (put_ne (by decide)).trans h.1, h.2.kept kd⟩), o7.past (by decide) (fun ⟨v, h⟩ => ⟨v, (put_ne (by decide)).trans h.1, h.2.kept kd⟩), .now ⟨_, put_eq (by have hz := hsz.out; omega), u8⟩, o9.past (by decide) (fun ⟨v, h⟩ => ⟨v, (put_ne (by decide)).trans h.1, h.2.kept kd⟩), (hK.trans kd)⟩
    · obtain ⟨v8, e8, u8⟩ := o8 (ready_dep hm 8 (by kernel_rfl))
      refine wpOp_step rfl (fun KK hK2 => ?_)
      go_simp
      exact hK2 (A.put (some 2) (v8)) _ ⟨hFR.put (by decide) _, o0.past (by decide) (fun h => (put_ne (by decide)).trans h), o1.past (by decide) (fun h => (put_ne (by decide)).trans h), o2.past (by decide) (fun h => (put_ne (by decide)).trans h), o3.past (by decide) (fun h => (put_ne (by decide)).trans h), o4.past (by decide) (fun h => (put_ne (by decide)).trans h), o5.past (by decide) (fun h => (put_ne (by decide)).trans h), o6.past (by decide) (fun ⟨v, h⟩ => ⟨v, (put_ne (by decide)).trans h.1, h.2⟩), o7.past (by decide) (fun ⟨v, h⟩ => ⟨v, (put_ne (by decide)).trans h.1, h.2⟩), o8.past (by decide) (fun ⟨v, h⟩ => ⟨v, (put_ne (by decide)).trans h.1, h.2⟩), .now ⟨_, put_eq (by have hz := hsz.out; omega), u8⟩, hK⟩
    · simp at hi1
      omega
end Go.Proofs.Ytnmddmmmgdfknaa

namespace Go.Proofs.Ytnmddmmmgdfknaa
open Go.RowKit
set_option linter.unusedVariables false
theorem wfo {n : Int} (h : -9223372036854775808 ≤ n ∧ n ≤ 9223372036854775807) : (Lit.int .i64 n).wf = true := by
  have e1 : IntKind.i64.min = -9223372036854775808 := rfl
  have e2 : IntKind.i64.max = 9223372036854775807 := rfl
  simp [Lit.wf]
  omega
set_option maxRecDepth 100000 in
set_option maxHeartbeats 4000000 in
theorem implFlagsOf (w : World) (z : Pl.Lz) (wf : LzW z) : Calls Try.prog 37 #[.agg (lzA z)] w fun e w' => e = .returned (.tuple #[iv (Pl.lzV z), .bool (Pl.lzOk z)]) ∧ Kept 0 0 w w' := by
  have K0 := hide (kept_alloc w (.cells (lzA z) 49))
  have B0 := hide (Blk.new w (lzA z) 49)
  have q := B0.out.all
  cases G : Pl.lzOk z
  · have E : Hid (Pl.lzV z = 0) := hide (by simp [Pl.lzV, G])
    go_enter Try.func37, Try.ntmps37
    go_wp2_with (go_at_call 39; (with_reducible refine (implGoodLazy _ z wf).mono ?_); rw [G]; rintro e9 w9 ⟨rfl, k9⟩; replace K0 := hide (K0.out.trans k9); replace B0 := hide (B0.out.kept0 k9); clear q; have q := B0.out.all; clear k9)
    go_ret2
    exact ⟨rIB E.out.symm rfl, K0.out⟩
  · have E : Hid (Pl.lzV z = Pl.lzF z) := hide (by simp [Pl.lzV, G])
    obtain ⟨hb, hl, hr⟩ := Pl.lz_parts G
    go_enter Try.func37, Try.ntmps37
    go_wp2_with (first | (go_at_call 39; (with_reducible refine (implGoodLazy _ z wf).mono ?_); rw [G]; rintro e9 w9 ⟨rfl, k9⟩; replace K0 := hide (K0.out.trans k9); replace B0 := hide (B0.out.kept0 k9); clear q; have q := B0.out.all; clear k9) | (go_at_call 80; (with_reducible refine (implMeant _ z hl hr).mono ?_); rintro e9 w9 ⟨v9, rfl, ⟨n9, c9, rfl, fn9, run9⟩, k9⟩; replace K0 := hide (K0.out.trans k9); clear k9) | ((with_reducible refine (run9 _ (Kept.refl _ _ _)).mono ?_); rintro e8 w8 ⟨rfl, k8⟩))
    go_ret2
    exact ⟨rIB E.out.symm rfl, K0.out.trans k8⟩
set_option maxRecDepth 100000 in
theorem implCondOf (w : World) (z : Pl.Lz) (k : Int) (wf : LzW z) (wfk : (Lit.int .i64 k).wf = true) : Calls Try.prog 40 #[.agg (lzA z), iv k] w fun e w' => e = .returned (.tuple #[.bool (Pl.cdV z k), .bool (Pl.cdOk z k)]) ∧ Kept 0 0 w w' := by
  have K0 := hide (kept_alloc w (.cells (lzA z) 49))
  have B0 := hide (Blk.new w (lzA z) 49)
  have q := B0.out.all
  cases G : Pl.lzOk z
  · go_enter Try.func40, Try.ntmps40
    go_wp2_with (go_at_call 37; (with_reducible refine (implFlagsOf _ z wf).mono ?_); rw [G]; rintro e9 w9 ⟨rfl, k9⟩; replace K0 := hide (K0.out.trans k9); replace B0 := hide (B0.out.kept0 k9); clear q; have q := B0.out.all; clear k9)
    go_ret2
    exact ⟨rBB (by simp [Pl.cdV, Pl.cdOk, G]) (by simp [Pl.cdOk, G]), K0.out⟩
  · have E : Hid (Pl.lzV z = Pl.lzF z) := hide (by simp [Pl.lzV, G])
    have hf := Pl.lzF_flags G
    have wff : (Lit.int .i64 (Pl.lzF z)).wf = true := by have := Pl.flags_ok hf; exact wfo ⟨by omega, by omega⟩
    have E1 : Hid (((Pl.cOk k && Pl.flags (Pl.lzF z)) && Pl.tst k (Pl.lzF z)) = Pl.cdV z k) := hide (by simp [Pl.cdV, Pl.cdOk, G, hf])
    have E2 : Hid ((Pl.cOk k && Pl.flags (Pl.lzF z)) = Pl.cdOk z k) := hide (by simp [Pl.cdOk, G, hf])
    clear hf
    go_enter Try.func40, Try.ntmps40
    go_wp2_with (first | (go_at_call 37; (with_reducible refine (implFlagsOf _ z wf).mono ?_); rw [G, E.out]; rintro e9 w9 ⟨rfl, k9⟩; replace K0 := hide (K0.out.trans k9); replace B0 := hide (B0.out.kept0 k9); clear q; have q := B0.out.all; clear k9) | (go_at_call 41; (with_reducible refine (implTestCond _ k (Pl.lzF z) wfk wff).mono ?_); rw [E1.out, E2.out]; rintro e9 w9 ⟨rfl, k9⟩; replace K0 := hide (K0.out.trans k9); replace B0 := hide (B0.out.kept0 k9); clear q; have q := B0.out.all; clear k9))
    go_ret2
    exact ⟨rfl, K0.out⟩
theorem cr_c : ∀ n : Nat, n < 32 → Pl.fl (bits .and .i64 (n : Int) 1 != 0) 1 = (n : Int) % 2 := by decide +kernel
theorem cr_x : ∀ n : Nat, n < 32 → Pl.fl (bits .and .i64 (n : Int) 16 != 0) 1 = (n : Int) / 16 := by decide +kernel
theorem cr_v {z : Pl.Lz} : ∃ n : Nat, n < 32 ∧ Pl.lzV z = (n : Int) ∧ Pl.crC z = (n : Int) % 2 ∧ Pl.crX z = (n : Int) / 16 := by
  cases G : Pl.lzOk z
  · exact ⟨0, by decide, by simp [Pl.lzV, G], by simp [Pl.crC, G], by simp [Pl.crX, G]⟩
  · obtain ⟨n, hn, e⟩ := Pl.flags_nat (Pl.lzF_flags G)
    exact ⟨n, hn, by simp [Pl.lzV, G, e], by simp [Pl.crC, G, e], by simp [Pl.crX, G, e]⟩
set_option maxRecDepth 100000 in
theorem implCarryOf (w : World) (z : Pl.Lz) (wf : LzW z) : Calls Try.prog 38 #[.agg (lzA z)] w fun e w' => e = .returned (.tuple #[iv (Pl.crC z), iv (Pl.crX z), .bool (Pl.lzOk z)]) ∧ Kept 0 0 w w' := by
  have K0 := hide (kept_alloc w (.cells (lzA z) 49))
  have B0 := hide (Blk.new w (lzA z) 49)
  have q := B0.out.all
  obtain ⟨n, hn, e1, e2, e3⟩ := cr_v (z := z)
  rw [← cr_c n hn] at e2
  rw [← cr_x n hn] at e3
  have E1 := hide e1
  have E2 := hide e2
  have E3 := hide e3
  clear e1 e2 e3
  rw [E2.out, E3.out]
  obtain ⟨b1, h1⟩ : ∃ b, (bits .and .i64 (n : Int) 1 != 0) = b := ⟨_, rfl⟩
  obtain ⟨b2, h2⟩ : ∃ b, (bits .and .i64 (n : Int) 16 != 0) = b := ⟨_, rfl⟩
  rw [h1, h2]
  go_enter Try.func38, Try.ntmps38
  go_wp2_with (first | (go_at_call 37; (with_reducible refine (implFlagsOf _ z wf).mono ?_); rw [E1.out]; rintro e9 w9 ⟨rfl, k9⟩; replace K0 := hide (K0.out.trans k9); replace B0 := hide (B0.out.kept0 k9); clear q; have q := B0.out.all; clear k9) | (go_at_call 81; refine st (flagsIf _ _ _) ?_))
  go_ret3
  exact ⟨rfl, K0.out⟩
end Go.Proofs.Ytnmddmmmgdfknaa

namespace Go.Proofs.Ytnmddmmmgdfknaa
open Go.RowKit
set_option linter.unusedVariables false
theorem Blk.set9 {w : World} {b : Nat} {c0 c1 c2 c3 c4 c5 c6 c7 c8 : Value} {ty : TypeId} (h : Blk w b #[c0, c1, c2, c3, c4, c5, c6, c7, c8] ty) (v0 v1 v2 v3 v4 v5 v6 v7 v8 : Value) :
    Blk (((((((((w.setCell ⟨b, 0, none⟩ v0).setCell ⟨b, 1, none⟩ v1).setCell ⟨b, 2, none⟩ v2).setCell ⟨b, 3, none⟩ v3).setCell ⟨b, 4, none⟩ v4).setCell ⟨b, 5, none⟩ v5).setCell ⟨b, 6, none⟩ v6).setCell ⟨b, 7, none⟩ v7).setCell ⟨b, 8, none⟩ v8) b #[v0, v1, v2, v3, v4, v5, v6, v7, v8] ty := by
  have h0 : Blk (w.setCell ⟨b, 0, none⟩ v0) b #[v0, c1, c2, c3, c4, c5, c6, c7, c8] ty := h.set 0 v0
  have h1 : Blk ((w.setCell ⟨b, 0, none⟩ v0).setCell ⟨b, 1, none⟩ v1) b #[v0, v1, c2, c3, c4, c5, c6, c7, c8] ty := h0.set 1 v1
  have h2 : Blk (((w.setCell ⟨b, 0, none⟩ v0).setCell ⟨b, 1, none⟩ v1).setCell ⟨b, 2, none⟩ v2) b #[v0, v1, v2, c3, c4, c5, c6, c7, c8] ty := h1.set 2 v2
  have h3 : Blk ((((w.setCell ⟨b, 0, none⟩ v0).setCell ⟨b, 1, none⟩ v1).setCell ⟨b, 2, none⟩ v2).setCell ⟨b, 3, none⟩ v3) b #[v0, v1, v2, v3, c4, c5, c6, c7, c8] ty := h2.set 3 v3
  have h4 : Blk (((((w.setCell ⟨b, 0, none⟩ v0).setCell ⟨b, 1, none⟩ v1).setCell ⟨b, 2, none⟩ v2).setCell ⟨b, 3, none⟩ v3).setCell ⟨b, 4, none⟩ v4) b #[v0, v1, v2, v3, v4, c5, c6, c7, c8] ty := h3.set 4 v4
  have h5 : Blk ((((((w.setCell ⟨b, 0, none⟩ v0).setCell ⟨b, 1, none⟩ v1).setCell ⟨b, 2, none⟩ v2).setCell ⟨b, 3, none⟩ v3).setCell ⟨b, 4, none⟩ v4).setCell ⟨b, 5, none⟩ v5) b #[v0, v1, v2, v3, v4, v5, c6, c7, c8] ty := h4.set 5 v5
  have h6 : Blk (((((((w.setCell ⟨b, 0, none⟩ v0).setCell ⟨b, 1, none⟩ v1).setCell ⟨b, 2, none⟩ v2).setCell ⟨b, 3, none⟩ v3).setCell ⟨b, 4, none⟩ v4).setCell ⟨b, 5, none⟩ v5).setCell ⟨b, 6, none⟩ v6) b #[v0, v1, v2, v3, v4, v5, v6, c7, c8] ty := h5.set 6 v6
  have h7 : Blk ((((((((w.setCell ⟨b, 0, none⟩ v0).setCell ⟨b, 1, none⟩ v1).setCell ⟨b, 2, none⟩ v2).setCell ⟨b, 3, none⟩ v3).setCell ⟨b, 4, none⟩ v4).setCell ⟨b, 5, none⟩ v5).setCell ⟨b, 6, none⟩ v6).setCell ⟨b, 7, none⟩ v7) b #[v0, v1, v2, v3, v4, v5, v6, v7, c8] ty := h6.set 7 v7
  have h8 : Blk (((((((((w.setCell ⟨b, 0, none⟩ v0).setCell ⟨b, 1, none⟩ v1).setCell ⟨b, 2, none⟩ v2).setCell ⟨b, 3, none⟩ v3).setCell ⟨b, 4, none⟩ v4).setCell ⟨b, 5, none⟩ v5).setCell ⟨b, 6, none⟩ v6).setCell ⟨b, 7, none⟩ v7).setCell ⟨b, 8, none⟩ v8) b #[v0, v1, v2, v3, v4, v5, v6, v7, v8] ty := h7.set 8 v8
  exact h8
theorem specOps (w : World) (a : Option Addr) (ca n : Nat) (ys : List Int) (ha : IRow w a ys) (ly : ys.length = 4 * n) (bn : n ≤ 2000000) :
    Calls Try.prog 75 #[.slice a n ca] w fun e w' => e = .returned (.bool (decide ((n : Int) ≤ 40) && Pl.allFo ys n)) ∧ Kept 0 0 w w' := by
  have HA := hide ha
  have HZ := hide ly
  clear ha ly
  go_enter Try.func75, Try.ntmps75
  go_wp2
  go_loopw [4, 7] (fun _ j wr => ∃ k : Nat, k ≤ n ∧ j = iv k ∧ Pl.allFo ys k = true ∧ Kept 0 0 w wr) (fun _ j _ => n - (intOf j).toNat)
  case atStart => exact ⟨0, Nat.zero_le _, rfl, rfl, Kept.refl _ _ _⟩
  case round =>
    obtain ⟨k, hk, rfl, heq, hkept⟩ := hrel
    have HE := hide heq
    have HK := hide hkept
    clear heq hkept
    by_cases hlt : k < n
    · obtain ⟨g1, o1, rfl, p0, p1, p2, p3⟩ := (HA.out.keptS HK.out).at4 HZ.out hlt
      cases hb : Pl.foOk (Pl.foAt ys k)
      · go_wp2_with (go_at_call 112; refine (specFo _ (Pl.foAt ys k)).mono ?_; rw [hb]; rintro e w2 ⟨rfl, k2⟩)
        go_ret
        exact ⟨rB (by rw [Pl.allFo_no hlt hb]; simp), (kept_new HK.out _).trans k2⟩
      · go_wp2_with (go_at_call 112; refine (specFo _ (Pl.foAt ys k)).mono ?_; rw [hb]; rintro e w2 ⟨rfl, k2⟩)
        go_round
        case rel => exact ⟨k + 1, by omega, by go_num, by simp [Pl.allFo, HE.out, hb], (kept_new HK.out _).trans k2⟩
        case measure => simp [intOf]; omega
    · obtain rfl : k = n := by omega
      go_wp2
      go_ret
      exact ⟨rB (by rw [HE.out]; simp), HK.out⟩
theorem frE (ys : List Int) (f : Int) (n : Nat) (h : Pl.flags f = true) : (decide ((n : Int) ≤ 40) && Pl.allFo ys n) = Pl.frOk ys f n := by simp [Pl.frOk, h]
theorem fr_ok {ys : List Int} {f : Int} {n : Nat} (h : Pl.frOk ys f n = true) : Pl.flags f = true ∧ n ≤ 40 ∧ Pl.allFo ys n = true := by
  simp only [Pl.frOk, Bool.and_eq_true, decide_eq_true_eq] at h
  exact ⟨h.1, by omega, h.2.2⟩
set_option maxRecDepth 100000 in
set_option maxHeartbeats 4000000 in
theorem specEager (w : World) (f : Int) (a : Option Addr) (ca n : Nat) (ys : List Int) (ha : IRow w a ys) (ly : ys.length = 4 * n) (bn : n ≤ 2000000) :
    Calls Try.prog 36 #[iv f, .slice a n ca] w fun e w' => e = .returned (.tuple #[iv (Pl.eagV ys f n), .bool (Pl.frOk ys f n)]) ∧ Kept 0 0 w w' := by
  have HA := hide ha
  have HZ := hide ly
  clear ha ly
  cases F : Pl.flags f
  · have E : Hid (Pl.eagV ys f n = 0 ∧ Pl.frOk ys f n = false) := hide (by simp [Pl.eagV, Pl.frOk, F])
    go_enter Try.func36, Try.ntmps36
    go_wp2_with (go_at_call 74; refine st (l1Flags _ _) ?_; rw [F])
    go_ret2
    exact ⟨rIB E.out.1.symm E.out.2.symm, Kept.refl _ _ _⟩
  · cases G : Pl.frOk ys f n
    · have E : Hid (Pl.eagV ys f n = 0) := hide (by simp [Pl.eagV, G])
      go_enter Try.func36, Try.ntmps36
      go_wp2_with (first | (go_at_call 74; refine st (l1Flags _ _) ?_; rw [F]) | (go_at_call 75; refine (specOps _ a ca n ys HA.out HZ.out bn).mono ?_; rw [frE ys f n F, G]; rintro e w2 ⟨rfl, k2⟩))
      go_ret2
      exact ⟨rIB E.out.symm rfl, k2⟩
    · have E : Hid (Pl.eagV ys f n = Pl.eag ys f n) := hide (by simp [Pl.eagV, G])
      obtain ⟨_, n40, hall⟩ := fr_ok G
      have HAL := hide hall
      clear hall
      go_enter Try.func36, Try.ntmps36
      go_wp2_with (first | (go_at_call 74; refine st (l1Flags _ _) ?_; rw [F]) | (go_at_call 75; refine (specOps _ a ca n ys HA.out HZ.out bn).mono ?_; rw [frE ys f n F, G]; rintro e w2 ⟨rfl, k2⟩))
      go_loopw [0, 7, 18] (fun v _ j wr => ∃ k : Nat, k ≤ n ∧ j = iv k ∧ v = iv (Pl.eag ys f k) ∧ Kept 0 0 w wr) (fun _ _ j _ => n - (intOf j).toNat)
      case atStart => exact ⟨0, Nat.zero_le _, rfl, rfl, k2⟩
      case round =>
        obtain ⟨k, hk, rfl, rfl, hkept⟩ := hrel
        have HK := hide hkept
        clear hkept k2
        by_cases hlt : k < n
        · obtain ⟨g1, o1, rfl, p0, p1, p2, p3⟩ := (HA.out.keptS HK.out).at4 HZ.out hlt
          obtain ⟨hx, hp⟩ := Pl.allFo_at hlt HAL.out
          have hf := Pl.eag_ok F k hp
          obtain ⟨u, hu⟩ : ∃ u, Pl.eag ys f k = u := ⟨_, rfl⟩
          rw [hu] at hf
          have HU : Hid (Pl.mk u (Pl.foAt ys k) = Pl.eag ys f (k + 1)) := hide (by rw [← hu]; rfl)
          rw [hu]
          clear hu
          go_wp2_with (go_at_call 79; refine (specMake _ u (Pl.foAt ys k) hx hf).mono ?_; rw [HU.out]; rintro e w3 ⟨rfl, k3⟩)
          go_round
          case rel => exact ⟨k + 1, by omega, by go_num, rfl, (kept_new HK.out _).trans k3⟩
          case measure => simp [intOf]; omega
        · obtain rfl : k = n := by omega
          go_wp2
          go_ret2
          exact ⟨rIB E.out.symm rfl, HK.out⟩
set_option maxRecDepth 100000 in
set_option maxHeartbeats 8000000 in
theorem specLazy (w : World) (f : Int) (a : Option Addr) (ca n : Nat) (ys : List Int) (ha : IRow w a ys) (ly : ys.length = 4 * n) (bn : n ≤ 2000000) :
    Calls Try.prog 34 #[iv f, .slice a n ca] w fun e w' => e = .returned (.tuple #[.agg (lzA (Pl.lazV ys f n)), .bool (Pl.frOk ys f n)]) ∧ Kept 0 0 w w' := by
  have HA := hide ha
  have HZ := hide ly
  clear ha ly
  have K0 := hide (kept_alloc w (.cells #[iv 0, iv 0, iv 0, iv 0, iv 0, iv 0, iv 0, iv 0, iv 0] 49))
  have B0 := hide (Blk.new w #[iv 0, iv 0, iv 0, iv 0, iv 0, iv 0, iv 0, iv 0, iv 0] 49)
  have q := B0.out.all
  have f0 := B0.out.fz
  cases F : Pl.flags f
  · have E : Hid (Pl.lazV ys f n = Pl.lzNo ∧ Pl.frOk ys f n = false) := hide (by simp [Pl.lazV, Pl.frOk, F])
    go_enter Try.func34, Try.ntmps34
    go_wp2_with (go_at_call 74; refine st (l1Flags _ _) ?_; rw [F])
    refine bodyPost_ret (v := .tuple #[.agg (lzA Pl.lzNo), .bool false]) ?_ rfl ⟨by rw [E.out.1, E.out.2], ?_⟩
    · rw [results_c1t rfl]; go_simp; simp [Pl.lzNo, Pl.foNo]
    · repeat (first | with_reducible exact K0.out | refine kept_set ?_ _ _ _ (.inr (by omega)))
  · cases G : Pl.frOk ys f n
    · have E : Hid (Pl.lazV ys f n = Pl.lzNo ∧ Pl.frOk ys f n = Pl.frOk ys f n) := hide (by simp [Pl.lazV, G])
      go_enter Try.func34, Try.ntmps34
      go_wp2_with (first | (go_at_call 74; refine st (l1Flags _ _) ?_; rw [F]) | (go_at_call 75; refine (specOps _ a ca n ys (HA.out.keptS K0.out) HZ.out bn).mono ?_; rw [frE ys f n F, G]; rintro e w2 ⟨rfl, k2⟩; replace K0 := hide (K0.out.trans k2); replace B0 := hide (B0.out.kept0 k2); clear q f0 k2; have q := B0.out.all; have f0 := B0.out.fz))
      refine bodyPost_ret (v := .tuple #[.agg (lzA Pl.lzNo), .bool false]) ?_ rfl ⟨by rw [E.out.1], ?_⟩
      · rw [results_c1t rfl]; go_simp; simp [Pl.lzNo, Pl.foNo]
      · repeat (first | with_reducible exact K0.out | refine kept_set ?_ _ _ _ (.inr (by omega)))
    · have E : Hid (Pl.lazV ys f n = Pl.laz ys f n) := hide (by simp [Pl.lazV, G])
      obtain ⟨_, n40, hall⟩ := fr_ok G
      have HAL := hide hall
      clear hall
      go_enter Try.func34, Try.ntmps34
      go_wp2_with (first | (go_at_call 74; refine st (l1Flags _ _) ?_; rw [F]) | (go_at_call 75; refine (specOps _ a ca n ys (HA.out.keptS K0.out) HZ.out bn).mono ?_; rw [frE ys f n F, G]; rintro e w2 ⟨rfl, k2⟩; replace K0 := hide (K0.out.trans k2); replace B0 := hide (B0.out.kept0 k2); clear q f0 k2; have q := B0.out.all; have f0 := B0.out.fz))
      have s2 := K0.out.size
      have b2 := B0.out.lt
      have C0 : Hid (Blk (w2.alloc (.cells (lzA (Pl.laz ys f 0)) 49)) w2.heap.size (lzA (Pl.laz ys f 0)) 49) := hide (Blk.new w2 _ _)
      have D0 := hide (B0.out.alloc (.cells (lzA (Pl.laz ys f 0)) 49))
      have KA := hide (kept_new K0.out (.cells (lzA (Pl.laz ys f 0)) 49))
      go_loopw [8, 22] (fun _ j wr => ∃ k : Nat, k ≤ n ∧ j = iv k ∧ Blk wr w2.heap.size (lzA (Pl.laz ys f k)) 49 ∧ Blk wr w.heap.size #[iv 0, iv 0, iv 0, iv 0, iv 0, iv 0, iv 0, iv 0, iv 0] 49 ∧ Kept 0 0 w wr) (fun _ j _ => n - (intOf j).toNat)
      case atStart => exact ⟨0, Nat.zero_le _, rfl, C0.out, D0.out, KA.out⟩
      case round =>
        obtain ⟨k, hk, rfl, hC, hD, hkept⟩ := hrel
        have HC := hide hC
        have HD := hide hD
        have HK := hide hkept
        clear hC hD hkept C0 D0 KA q f0
        by_cases hlt : k < n
        · obtain ⟨g1, o1, rfl, p0, p1, p2, p3⟩ := (HA.out.keptS HK.out).at4 HZ.out hlt
          obtain ⟨hx, hp⟩ := Pl.allFo_at hlt HAL.out
          obtain ⟨N, hN⟩ : ∃ N, Pl.laz ys f k = N := ⟨_, rfl⟩
          rw [hN] at HC
          have HU : Hid (Pl.note N (Pl.foAt ys k) = Pl.laz ys f (k + 1)) := hide (by rw [← hN]; rfl)
          clear hN
          have r := HC.out.all
          have hb := HC.out.lt
          have r1 := (HC.out.alloc (.cells (foA (Pl.foAt ys k)) 47)).all
          go_wp2_with (go_at_call 76; refine (specNote _ N (Pl.foAt ys k)).mono ?_; rw [HU.out]; rintro e X ⟨rfl, kX⟩; have HX := hide ((HC.out.alloc (.cells (foA (Pl.foAt ys k)) 47)).kept0 kX); have HY := hide ((HD.out.alloc (.cells (foA (Pl.foAt ys k)) 47)).kept0 kX); have HKX := hide ((kept_new HK.out (.cells (foA (Pl.foAt ys k)) 47)).trans kX); clear kX r r1 p0 p1 p2 p3; have t := HX.out.all; have ft := HX.out.fz)
          go_round
          case rel =>
            refine ⟨k + 1, by omega, by go_num, ?_, ?_, ?_⟩
            · exact HX.out.set9 _ _ _ _ _ _ _ _ _
            · repeat (first | with_reducible exact HY.out | refine Blk.other ?_ _ _ _ (by omega))
            · repeat (first | with_reducible exact HKX.out | refine kept_set ?_ _ _ _ (.inr (by omega)))
          case measure => simp [intOf]; omega
        · obtain rfl : k = n := by omega
          obtain ⟨N, hN⟩ : ∃ N, Pl.laz ys f k = N := ⟨_, rfl⟩
          rw [hN] at HC E
          clear hN
          have r := HC.out.all
          have t := HD.out.all
          have ft := HD.out.fz
          go_wp2
          refine bodyPost_ret (v := .tuple #[.agg (lzA N), .bool true]) ?_ rfl ⟨by rw [E.out], ?_⟩
          · rw [results_c1t rfl]; go_simp
          · repeat (first | with_reducible exact HK.out | refine kept_set ?_ _ _ _ (.inr (by omega)))
end Go.Proofs.Ytnmddmmmgdfknaa

namespace Go.Proofs.Ytnmddmmmgdfknaa
open Go.RowKit
set_option linter.unusedVariables false
theorem foW_at {w : World} {a : Option Addr} {ys : List Int} (h : Came w a ys) {n k : Nat} (hl : ys.length = 4 * n) (hk : k < n) : FoW (Pl.foAt ys k) :=
  ⟨wfo (h.2 (k * 4) (by omega)), wfo (h.2 (k * 4 + 1) (by omega)), wfo (h.2 (k * 4 + 2) (by omega)), wfo (h.2 (k * 4 + 3) (by omega))⟩
set_option maxRecDepth 100000 in
theorem implRow (w : World) (f : Int) (a : Option Addr) (ca n : Nat) (ys : List Int) (ha : Came w a ys) (ly : ys.length = 4 * n) (bn : n ≤ 2000000) :
    Calls Try.prog 72 #[iv f, .slice a n ca] w fun e w' => e = .returned (.bool (Pl.frOk ys f n)) ∧ Kept 0 0 w w' := by
  have HA := hide ha
  have HZ := hide ly
  clear ha ly
  cases F : Pl.flags f
  · go_enter Try.func72, Try.ntmps72
    go_wp2_with (go_at_call 82; refine st (isFlags _ _) ?_; rw [F])
    go_ret
    exact ⟨rB (by simp [Pl.frOk, F]), Kept.refl _ _ _⟩
  · by_cases h40 : (40 : Int) < (n : Int)
    · go_enter Try.func72, Try.ntmps72
      go_wp2_with (go_at_call 82; refine st (isFlags _ _) ?_; rw [F])
      go_ret
      exact ⟨rB (by have : ¬ ((n : Int) ≤ 40) := by omega
                    simp only [Pl.frOk]; rw [decide_eq_false this]; simp), Kept.refl _ _ _⟩
    · have h40b : (n : Int) ≤ 40 := by omega
      have E : Hid (Pl.frOk ys f n = Pl.allFo ys n) := hide (by simp only [Pl.frOk]; rw [F, decide_eq_true h40b]; simp)
      go_enter Try.func72, Try.ntmps72
      go_wp2_with (go_at_call 82; refine st (isFlags _ _) ?_; rw [F])
      go_loopw [6, 17] (fun _ j wr => ∃ k : Nat, k ≤ n ∧ j = iv k ∧ Pl.allFo ys k = true ∧ Kept 0 0 w wr) (fun _ j _ => n - (intOf j).toNat)
      case atStart => exact ⟨0, Nat.zero_le _, rfl, rfl, Kept.refl _ _ _⟩
      case round =>
        obtain ⟨k, hk, rfl, heq, hkept⟩ := hrel
        have HE := hide heq
        have HK := hide hkept
        clear heq hkept
        by_cases hlt : k < n
        · obtain ⟨g1, o1, rfl, p0, p1, p2, p3⟩ := (HA.out.keptS HK.out).1.at4 HZ.out hlt
          have wx := hide (foW_at HA.out HZ.out hlt)
          cases hb : Pl.foOk (Pl.foAt ys k)
          · go_wp2_with (go_at_call 84; refine (implFo _ (Pl.foAt ys k) wx.out).mono ?_; rw [hb]; rintro e w2 ⟨rfl, k2⟩)
            go_ret
            exact ⟨rB (by rw [E.out, Pl.allFo_no hlt hb]), (kept_new HK.out _).trans k2⟩
          · go_wp2_with (go_at_call 84; refine (implFo _ (Pl.foAt ys k) wx.out).mono ?_; rw [hb]; rintro e w2 ⟨rfl, k2⟩)
            go_round
            case rel => exact ⟨k + 1, by omega, by go_num, by simp [Pl.allFo, HE.out, hb], (kept_new HK.out _).trans k2⟩
            case measure => simp [intOf]; omega
        · obtain rfl : k = n := by omega
          go_wp2
          go_ret
          exact ⟨rB (by rw [E.out, HE.out]), HK.out⟩
set_option maxRecDepth 100000 in
set_option maxHeartbeats 8000000 in
theorem implEager (w : World) (f : Int) (a : Option Addr) (ca n : Nat) (ys : List Int) (ha : Came w a ys) (ly : ys.length = 4 * n) (bn : n ≤ 2000000) :
    Calls Try.prog 35 #[iv f, .slice a n ca] w fun e w' => e = .returned (.tuple #[iv (Pl.eagV ys f n), .bool (Pl.frOk ys f n)]) ∧ Kept 0 0 w w' := by
  have HA := hide ha
  have HZ := hide ly
  clear ha ly
  cases G : Pl.frOk ys f n
  · have E : Hid (Pl.eagV ys f n = 0) := hide (by simp [Pl.eagV, G])
    go_enter Try.func35, Try.ntmps35
    go_wp2_with (go_at_call 72; refine (implRow _ f a ca n ys HA.out HZ.out bn).mono ?_; rw [G]; rintro e w2 ⟨rfl, k2⟩)
    go_ret2
    exact ⟨rIB E.out.symm rfl, k2⟩
  · have E : Hid (Pl.eagV ys f n = Pl.eag ys f n) := hide (by simp [Pl.eagV, G])
    obtain ⟨F, n40, hall⟩ := fr_ok G
    have HAL := hide hall
    have HF := hide F
    clear hall F
    go_enter Try.func35, Try.ntmps35
    go_wp2_with (go_at_call 72; refine (implRow _ f a ca n ys HA.out HZ.out bn).mono ?_; rw [G]; rintro e w2 ⟨rfl, k2⟩)
    go_loopw [0, 7, 14] (fun v _ j wr => ∃ k : Nat, k ≤ n ∧ j = iv k ∧ v = iv (Pl.eag ys f k) ∧ Kept 0 0 w wr) (fun _ _ j _ => n - (intOf j).toNat)
    case atStart => exact ⟨0, Nat.zero_le _, rfl, rfl, k2⟩
    case round =>
      obtain ⟨k, hk, rfl, rfl, hkept⟩ := hrel
      have HK := hide hkept
      clear hkept k2
      by_cases hlt : k < n
      · obtain ⟨g1, o1, rfl, p0, p1, p2, p3⟩ := (HA.out.keptS HK.out).1.at4 HZ.out hlt
        obtain ⟨hx, hp⟩ := Pl.allFo_at hlt HAL.out
        obtain ⟨u, hu⟩ : ∃ u, Pl.eag ys f k = u := ⟨_, rfl⟩
        have HU : Hid (Pl.mk u (Pl.foAt ys k) = Pl.eag ys f (k + 1)) := hide (by rw [← hu]; rfl)
        rw [hu]
        clear hu
        have HX := hide hx
        clear hx hp
        have BX := hide (Blk.new wr (foA (Pl.foAt ys k)) 47)
        have KX := hide (kept_new HK.out (.cells (foA (Pl.foAt ys k)) 47))
        go_wp2_with fail
        go_region_with (first | (go_at_call 78; refine (implKnown _ u).mono ?_; rintro e9 w9 ⟨v6, rfl, u6, k9⟩; have U6 := hide u6; have k10 := undrewK k9; have K9 := hide k10; have q := (BX.out.kept0 k10).all; clear u6 k9 k10) | (go_at_call 77; refine (implBehind _ (Pl.foAt ys k) _ u U6.out (.inr HX.out)).mono ?_; rintro e8 w8 ⟨v7, rfl, ⟨n7, c7, rfl, fn7, run7⟩, k8⟩; have K8 := hide k8; clear k8) | ((with_reducible refine (run7 _ (Kept.refl _ _ _)).mono ?_); rintro e7 w7 ⟨rfl, k7⟩))
        all_goals
          rw [HU.out]
          go_wp2_with fail
          go_round
          case rel => exact ⟨k + 1, by omega, by go_num, rfl, ((KX.out.trans K9.out).trans K8.out).trans k7⟩
          case measure => simp [intOf]; omega
      · obtain rfl : k = n := by omega
        go_wp2
        go_ret2
        exact ⟨rIB E.out.symm rfl, HK.out⟩
set_option maxRecDepth 100000 in
set_option maxHeartbeats 8000000 in
theorem implLazy (w : World) (f : Int) (a : Option Addr) (ca n : Nat) (ys : List Int) (ha : Came w a ys) (ly : ys.length = 4 * n) (bn : n ≤ 2000000) :
    Calls Try.prog 33 #[iv f, .slice a n ca] w fun e w' => e = .returned (.tuple #[.agg (lzA (Pl.lazV ys f n)), .bool (Pl.frOk ys f n)]) ∧ Kept 0 0 w w' := by
  have HA := hide ha
  have HZ := hide ly
  clear ha ly
  have K0 := hide (kept_alloc w (.cells #[iv 0, iv 0, iv 0, iv 0, iv 0, iv 0, iv 0, iv 0, iv 0] 49))
  have B0 := hide (Blk.new w #[iv 0, iv 0, iv 0, iv 0, iv 0, iv 0, iv 0, iv 0, iv 0] 49)
  have q := B0.out.all
  have f0 := B0.out.fz
  cases G : Pl.frOk ys f n
  · have E : Hid (Pl.lazV ys f n = Pl.lzNo ∧ Pl.frOk ys f n = Pl.frOk ys f n) := hide (by simp [Pl.lazV, G])
    go_enter Try.func33, Try.ntmps33
    go_wp2_with (go_at_call 72; refine (implRow _ f a ca n ys (HA.out.keptS K0.out) HZ.out bn).mono ?_; rw [G]; rintro e w2 ⟨rfl, k2⟩; replace K0 := hide (K0.out.trans k2); replace B0 := hide (B0.out.kept0 k2); clear q f0 k2; have q := B0.out.all; have f0 := B0.out.fz)
    refine bodyPost_ret (v := .tuple #[.agg (lzA Pl.lzNo), .bool false]) ?_ rfl ⟨by rw [E.out.1], ?_⟩
    · rw [results_c1t rfl]; go_simp; simp [Pl.lzNo, Pl.foNo]
    · repeat (first | with_reducible exact K0.out | refine kept_set ?_ _ _ _ (.inr (by omega)))
  · have E : Hid (Pl.lazV ys f n = Pl.laz ys f n) := hide (by simp [Pl.lazV, G])
    obtain ⟨_, n40, hall⟩ := fr_ok G
    have HAL := hide hall
    clear hall
    go_enter Try.func33, Try.ntmps33
    go_wp2_with (go_at_call 72; refine (implRow _ f a ca n ys (HA.out.keptS K0.out) HZ.out bn).mono ?_; rw [G]; rintro e w2 ⟨rfl, k2⟩; replace K0 := hide (K0.out.trans k2); replace B0 := hide (B0.out.kept0 k2); clear q f0 k2; have q := B0.out.all; have f0 := B0.out.fz)
    have s2 := K0.out.size
    have b2 := B0.out.lt
    have C0 : Hid (Blk (w2.alloc (.cells (lzA (Pl.laz ys f 0)) 49)) w2.heap.size (lzA (Pl.laz ys f 0)) 49) := hide (Blk.new w2 _ _)
    have D0 := hide (B0.out.alloc (.cells (lzA (Pl.laz ys f 0)) 49))
    have KA := hide (kept_new K0.out (.cells (lzA (Pl.laz ys f 0)) 49))
    go_loopw [8, 18] (fun _ j wr => ∃ k : Nat, k ≤ n ∧ j = iv k ∧ Blk wr w2.heap.size (lzA (Pl.laz ys f k)) 49 ∧ Blk wr w.heap.size #[iv 0, iv 0, iv 0, iv 0, iv 0, iv 0, iv 0, iv 0, iv 0] 49 ∧ Kept 0 0 w wr) (fun _ j _ => n - (intOf j).toNat)
    case atStart => exact ⟨0, Nat.zero_le _, rfl, C0.out, D0.out, KA.out⟩
    case round =>
      obtain ⟨k, hk, rfl, hC, hD, hkept⟩ := hrel
      have HC := hide hC
      have HD := hide hD
      have HK := hide hkept
      clear hC hD hkept C0 D0 KA q f0
      by_cases hlt : k < n
      · obtain ⟨g1, o1, rfl, p0, p1, p2, p3⟩ := (HA.out.keptS HK.out).1.at4 HZ.out hlt
        obtain ⟨hx, hp⟩ := Pl.allFo_at hlt HAL.out
        obtain ⟨N, hN⟩ : ∃ N, Pl.laz ys f k = N := ⟨_, rfl⟩
        rw [hN] at HC
        have HU : Hid (Pl.note N (Pl.foAt ys k) = Pl.laz ys f (k + 1)) := hide (by rw [← hN]; rfl)
        clear hN
        have r := HC.out.all
        have hb := HC.out.lt
        have r1 := (HC.out.alloc (.cells (foA (Pl.foAt ys k)) 47)).all
        go_wp2_with (go_at_call 73; refine (implNote _ N (Pl.foAt ys k)).mono ?_; rw [HU.out]; rintro e X ⟨rfl, kX⟩; have HX := hide ((HC.out.alloc (.cells (foA (Pl.foAt ys k)) 47)).kept0 kX); have HY := hide ((HD.out.alloc (.cells (foA (Pl.foAt ys k)) 47)).kept0 kX); have HKX := hide ((kept_new HK.out (.cells (foA (Pl.foAt ys k)) 47)).trans kX); clear kX r r1 p0 p1 p2 p3; have t := HX.out.all; have ft := HX.out.fz)
        go_round
        case rel =>
          refine ⟨k + 1, by omega, by go_num, ?_, ?_, ?_⟩
          · exact HX.out.set9 _ _ _ _ _ _ _ _ _
          · repeat (first | with_reducible exact HY.out | refine Blk.other ?_ _ _ _ (by omega))
          · repeat (first | with_reducible exact HKX.out | refine kept_set ?_ _ _ _ (.inr (by omega)))
        case measure => simp [intOf]; omega
      · obtain rfl : k = n := by omega
        obtain ⟨N, hN⟩ : ∃ N, Pl.laz ys f k = N := ⟨_, rfl⟩
        rw [hN] at HC E
        clear hN
        have r := HC.out.all
        have t := HD.out.all
        have ft := HD.out.fz
        go_wp2
        refine bodyPost_ret (v := .tuple #[.agg (lzA N), .bool true]) ?_ rfl ⟨by rw [E.out], ?_⟩
        · rw [results_c1t rfl]; go_simp
        · repeat (first | with_reducible exact HK.out | refine kept_set ?_ _ _ _ (.inr (by omega)))
end Go.Proofs.Ytnmddmmmgdfknaa

namespace Go.Proofs.Ytnmddmmmgdfknaa
open Go.RowKit
set_option linter.unusedVariables false
theorem came_small {w : World} {a : Option Addr} {ys : List Int} (h : IRow w a ys) (hs : ∀ y ∈ ys, -1 ≤ y ∧ y ≤ 65536) : Came w a ys :=
  ⟨h, fun i hi => by
    have hm : ys[i]?.getD 0 ∈ ys := by simp [hi]
    have := hs _ hm
    omega⟩
theorem foW_no : FoW Pl.foNo := ⟨by decide, by decide, by decide, by decide⟩
theorem foW_ok {x : Pl.Fo} (h : Pl.foOk x = true) : FoW x := by
  have hb := Pl.foOk_bd h
  obtain ⟨h1, h2, h3, h4, _⟩ := Pl.foOk_ok h
  have ht := Pl.top_ok h1
  have hz : x.z = 1 ∨ x.z = 2 := by rcases ht.1 with h | h <;> omega
  exact ⟨wfo ⟨by omega, by omega⟩, wfo ⟨by omega, by omega⟩, wfo ⟨by omega, by omega⟩, wfo ⟨by omega, by omega⟩⟩
theorem lzW_ok {z : Pl.Lz} (h : Pl.lzOk z = true) : LzW z := by
  obtain ⟨h1, h2, h3⟩ := Pl.lz_parts h
  have hf := Pl.flags_ok h1
  refine ⟨wfo ⟨by omega, by omega⟩, ?_, ?_⟩
  · rcases h2 with h2 | h2
    · rw [Pl.foNone_ok h2]; exact foW_no
    · exact foW_ok h2
  · rcases h3 with h3 | h3
    · rw [Pl.foNone_ok h3]; exact foW_no
    · exact foW_ok h3
theorem eqLv (a : Pl.Lz) (w : World) : (binOp .neq 49 (.agg (lzA a)) (.agg (lzA a))).run Try.prog w = .ok (.bool false) w := by
  obtain ⟨b, ⟨k, z, c, d⟩, ⟨k', z', c', d'⟩⟩ := a
  go_simp
set_option maxRecDepth 100000 in
set_option maxHeartbeats 16000000 in
theorem lawLazy (a : Option Addr) (len cap : Nat) (w : World) (h : Bytes w a len) :
    Calls Try.prog 8 #[.slice a len cap] w fun e w' => e = .returned (.bool true) ∧ Below w.heap.size w w' := by
  have l0 := h.1
  unfold maxLen at l0
  by_cases hbig : 1048576 < (len : Int)
  · go_enter Try.func8, Try.ntmps8
    go_wp2_with fail
    go_ret
    exact ⟨rfl, Below.refl _ _⟩
  · go_enter Try.func8, Try.ntmps8
    go_wp2_with fail
    refine (drawLazy _ a len cap h).mono ?_
    rintro e w1 ⟨f, d, c, O, rfl, f0, f1, hO, hs, hl, hb⟩
    have wff : (Lit.int .i64 f).wf = true := wfo ⟨by omega, by omega⟩
    have K0 := hide (kept_below hb)
    have HL := hide hl
    have HS := hide (small_flat hs)
    have HN := hide (Pl.flatF_len O)
    obtain ⟨ys, hys⟩ : ∃ ys, Pl.flatF O = ys := ⟨_, rfl⟩
    rw [hys] at HL HS HN
    obtain ⟨m, hm⟩ : ∃ m, O.length = m := ⟨_, rfl⟩
    rw [hm] at HN hO
    rw [hm]
    have bn : m ≤ 2000000 := by omega
    clear hb hl hs hys hm hbig h
    cases G : Pl.frOk ys f m
    · have E1 : Hid (Pl.lazV ys f m = Pl.lzNo) := hide (by simp [Pl.lazV, G])
      have E2 : Hid (Pl.eagV ys f m = 0) := hide (by simp [Pl.eagV, G])
      go_wp2_with fail
      refine (implLazy _ f d c m ys (came_small HL.out.row HS.out) HN.out bn).mono ?_
      rw [E1.out, G]
      rintro e9 w2 ⟨rfl, k9⟩
      replace K0 := hide (K0.out.trans k9)
      replace HL := hide (HL.out.kept k9 (by omega))
      clear k9
      go_wp2_with fail
      have k9 := kept_alloc w2 (.cells (lzA (Pl.lzNo)) 49)
      replace K0 := hide (K0.out.trans k9)
      replace HL := hide (HL.out.kept k9 (by omega))
      clear k9
      have B1 := hide (Blk.new w2 (lzA (Pl.lzNo)) 49)
      obtain ⟨X2, hX2⟩ : ∃ X : World, w2.alloc (.cells (lzA (Pl.lzNo)) 49) = X := ⟨_, rfl⟩
      rw [hX2] at B1 K0 HL
      obtain ⟨g1, hg1⟩ : ∃ g : Nat, w2.heap.size = g := ⟨_, rfl⟩
      rw [hg1] at B1
      replace hX2 := hide hX2
      replace hg1 := hide hg1
      rw [hX2.out, hg1.out]
      clear hX2 hg1
      refine (specLazy _ f d c m ys HL.out.row HN.out bn).mono ?_
      rw [E1.out, G]
      rintro e9 w3 ⟨rfl, k9⟩
      replace K0 := hide (K0.out.trans k9)
      replace HL := hide (HL.out.kept k9 (by omega))
      replace B1 := hide (B1.out.kept0 k9)
      clear k9
      go_wp2_with fail
      have k9 := kept_alloc w3 (.cells (lzA (Pl.lzNo)) 49)
      replace K0 := hide (K0.out.trans k9)
      replace HL := hide (HL.out.kept k9 (by omega))
      replace B1 := hide (B1.out.kept0 k9)
      clear k9
      have B2 := hide (Blk.new w3 (lzA (Pl.lzNo)) 49)
      obtain ⟨X3, hX3⟩ : ∃ X : World, w3.alloc (.cells (lzA (Pl.lzNo)) 49) = X := ⟨_, rfl⟩
      rw [hX3] at B2 K0 HL B1
      obtain ⟨g2, hg2⟩ : ∃ g : Nat, w3.heap.size = g := ⟨_, rfl⟩
      rw [hg2] at B2
      replace hX3 := hide hX3
      replace hg2 := hide hg2
      rw [hX3.out, hg2.out]
      clear hX3 hg2
      refine (implEager _ f d c m ys (came_small HL.out.row HS.out) HN.out bn).mono ?_
      rw [E2.out, G]
      rintro e9 w4 ⟨rfl, k9⟩
      replace K0 := hide (K0.out.trans k9)
      replace HL := hide (HL.out.kept k9 (by omega))
      replace B1 := hide (B1.out.kept0 k9)
      replace B2 := hide (B2.out.kept0 k9)
      clear k9
      go_wp2_with fail
      refine (specEager _ f d c m ys HL.out.row HN.out bn).mono ?_
      rw [E2.out, G]
      rintro e9 w5 ⟨rfl, k9⟩
      replace K0 := hide (K0.out.trans k9)
      replace HL := hide (HL.out.kept k9 (by omega))
      replace B1 := hide (B1.out.kept0 k9)
      replace B2 := hide (B2.out.kept0 k9)
      clear k9
      have r1 := B1.out.all
      have r2 := B2.out.all
      have hev := eqLv (Pl.lzNo)
      go_wp2_with fail
      clear r1 r2 hev
      go_wp2_with fail
      go_ret
      exact ⟨rfl, K0.out.below⟩
    · have E1 : Hid (Pl.lazV ys f m = Pl.laz ys f m) := hide (by simp [Pl.lazV, G])
      have E2 : Hid (Pl.eagV ys f m = Pl.eag ys f m) := hide (by simp [Pl.eagV, G])
      obtain ⟨F, n40, hall⟩ := fr_ok G
      obtain ⟨hz, hzf⟩ := Pl.laz_ok F m hall
      obtain ⟨j, hj, ej⟩ := Pl.flags_nat (Pl.eag_ok F m hall)
      rw [ej] at hzf
      obtain ⟨N, hN⟩ : ∃ N, Pl.laz ys f m = N := ⟨_, rfl⟩
      rw [hN] at E1 hz hzf
      rw [ej] at E2
      have wz := hide (lzW_ok hz)
      have V1 : Hid (Pl.lzV N = (j : Int)) := hide (by simp [Pl.lzV, hz, hzf])
      have V2 : Hid (Pl.crC N = (j : Int) % 2) := hide (by simp [Pl.crC, hz, hzf])
      have V3 : Hid (Pl.crX N = (j : Int) / 16) := hide (by simp [Pl.crX, hz, hzf])
      have HZ := hide hz
      have HF := hide hzf
      have ha1 := Pl.and1 (j : Int)
      clear F n40 hall hz hzf ej hN
      go_wp2_with fail
      refine (implLazy _ f d c m ys (came_small HL.out.row HS.out) HN.out bn).mono ?_
      rw [E1.out, G]
      rintro e9 w2 ⟨rfl, k9⟩
      replace K0 := hide (K0.out.trans k9)
      replace HL := hide (HL.out.kept k9 (by omega))
      clear k9
      go_wp2_with fail
      have k9 := kept_alloc w2 (.cells (lzA (N)) 49)
      replace K0 := hide (K0.out.trans k9)
      replace HL := hide (HL.out.kept k9 (by omega))
      clear k9
      have B1 := hide (Blk.new w2 (lzA (N)) 49)
      obtain ⟨X2, hX2⟩ : ∃ X : World, w2.alloc (.cells (lzA (N)) 49) = X := ⟨_, rfl⟩
      rw [hX2] at B1 K0 HL
      obtain ⟨g1, hg1⟩ : ∃ g : Nat, w2.heap.size = g := ⟨_, rfl⟩
      rw [hg1] at B1
      replace hX2 := hide hX2
      replace hg1 := hide hg1
      rw [hX2.out, hg1.out]
      clear hX2 hg1
      refine (specLazy _ f d c m ys HL.out.row HN.out bn).mono ?_
      rw [E1.out, G]
      rintro e9 w3 ⟨rfl, k9⟩
      replace K0 := hide (K0.out.trans k9)
      replace HL := hide (HL.out.kept k9 (by omega))
      replace B1 := hide (B1.out.kept0 k9)
      clear k9
      go_wp2_with fail
      have k9 := kept_alloc w3 (.cells (lzA (N)) 49)
      replace K0 := hide (K0.out.trans k9)
      replace HL := hide (HL.out.kept k9 (by omega))
      replace B1 := hide (B1.out.kept0 k9)
      clear k9
      have B2 := hide (Blk.new w3 (lzA (N)) 49)
      obtain ⟨X3, hX3⟩ : ∃ X : World, w3.alloc (.cells (lzA (N)) 49) = X := ⟨_, rfl⟩
      rw [hX3] at B2 K0 HL B1
      obtain ⟨g2, hg2⟩ : ∃ g : Nat, w3.heap.size = g := ⟨_, rfl⟩
      rw [hg2] at B2
      replace hX3 := hide hX3
      replace hg2 := hide hg2
      rw [hX3.out, hg2.out]
      clear hX3 hg2
      refine (implEager _ f d c m ys (came_small HL.out.row HS.out) HN.out bn).mono ?_
      rw [E2.out, G]
      rintro e9 w4 ⟨rfl, k9⟩
      replace K0 := hide (K0.out.trans k9)
      replace HL := hide (HL.out.kept k9 (by omega))
      replace B1 := hide (B1.out.kept0 k9)
      replace B2 := hide (B2.out.kept0 k9)
      clear k9
      go_wp2_with fail
      refine (specEager _ f d c m ys HL.out.row HN.out bn).mono ?_
      rw [E2.out, G]
      rintro e9 w5 ⟨rfl, k9⟩
      replace K0 := hide (K0.out.trans k9)
      replace HL := hide (HL.out.kept k9 (by omega))
      replace B1 := hide (B1.out.kept0 k9)
      replace B2 := hide (B2.out.kept0 k9)
      clear k9
      have r1 := B1.out.all
      have r2 := B2.out.all
      have hev := eqLv (N)
      go_wp2_with fail
      clear r1 r2 hev
      have q1 := B1.out.all
      go_wp2_with fail
      have K9 := K0
      refine (implFlagsOf _ N wz.out).mono ?_
      rw [V1.out, HZ.out]
      rintro e9 u1 ⟨rfl, k9⟩
      replace K0 := hide (K0.out.trans k9)
      replace HL := hide (HL.out.kept k9 (by omega))
      replace B1 := hide (B1.out.kept0 k9)
      replace B2 := hide (B2.out.kept0 k9)
      clear k9 q1
      have q1 := B1.out.all
      go_wp2_with fail
      refine (implCarryOf _ N wz.out).mono ?_
      rw [V2.out, V3.out, HZ.out]
      rintro e9 u2 ⟨rfl, k9⟩
      replace K0 := hide (K0.out.trans k9)
      replace HL := hide (HL.out.kept k9 (by omega))
      replace B1 := hide (B1.out.kept0 k9)
      replace B2 := hide (B2.out.kept0 k9)
      clear k9 q1
      have q1 := B1.out.all
      go_wp2_with fail
      refine (implGoodLazy _ N wz.out).mono ?_
      rw [HZ.out]
      rintro e9 u3 ⟨rfl, k9⟩
      replace K0 := hide (K0.out.trans k9)
      replace HL := hide (HL.out.kept k9 (by omega))
      replace B1 := hide (B1.out.kept0 k9)
      replace B2 := hide (B2.out.kept0 k9)
      clear k9 q1
      have q1 := B1.out.all
      go_wp2_with fail
      clear q1
      go_loopw [18] (fun v wr => ∃ k : Nat, k ≤ 16 ∧ v = iv k ∧ Kept 0 0 w wr ∧ Blk wr g1 (lzA N) 49) (fun v _ => 16 - (intOf v).toNat)
      case atStart => exact ⟨0, by omega, rfl, K0.out, B1.out⟩
      case round =>
        obtain ⟨k, hk, rfl, hkk, hbb⟩ := hrel
        have KR := hide hkk
        have BR := hide hbb
        clear hkk hbb K0 B1 B2
        by_cases hlt : k < 16
        · have wfk : (Lit.int .i64 (k : Int)).wf = true := wfo ⟨by omega, by omega⟩
          have wfj : (Lit.int .i64 (j : Int)).wf = true := wfo ⟨by omega, by omega⟩
          have hc : Pl.cOk (k : Int) = true := by simp [Pl.cOk]; omega
          have hf : Pl.flags (j : Int) = true := by simp [Pl.flags]; omega
          obtain ⟨t, ht⟩ : ∃ t, Pl.tst (k : Int) (j : Int) = t := ⟨_, rfl⟩
          have C1 : Hid (Pl.cdV N k = t) := hide (by simp [Pl.cdV, Pl.cdOk, HZ.out, HF.out, hc, ht])
          have C2 : Hid (Pl.cdOk N k = true) := hide (by simp [Pl.cdOk, HZ.out, hc])
          have C3 : Hid (((Pl.cOk (k : Int) && Pl.flags (j : Int)) && Pl.tst (k : Int) (j : Int)) = t) := hide (by rw [hc, hf, ht]; rfl)
          have C4 : Hid ((Pl.cOk (k : Int) && Pl.flags (j : Int)) = true) := hide (by rw [hc, hf]; rfl)
          clear hc hf ht
          have q1 := BR.out.all
          go_wp2_with fail
          refine (implCondOf _ N k wz.out wfk).mono ?_
          rw [C1.out, C2.out]
          rintro e9 u4 ⟨rfl, k9⟩
          replace KR := hide (KR.out.trans k9)
          replace BR := hide (BR.out.kept0 k9)
          clear k9 q1
          go_wp2_with fail
          refine (implTestCond _ k j wfk wfj).mono ?_
          rw [C3.out, C4.out]
          rintro e9 u5 ⟨rfl, k9⟩
          replace KR := hide (KR.out.trans k9)
          replace BR := hide (BR.out.kept0 k9)
          clear k9
          go_wp2_with fail
          go_roundw
          case rel => exact ⟨k + 1, by omega, by go_num, KR.out, BR.out⟩
          case measure => simp [intOf]; omega
        · obtain rfl : k = 16 := by omega
          go_wp2_with fail
          go_ret
          exact ⟨rfl, KR.out.below⟩
end Go.Proofs.Ytnmddmmmgdfknaa

