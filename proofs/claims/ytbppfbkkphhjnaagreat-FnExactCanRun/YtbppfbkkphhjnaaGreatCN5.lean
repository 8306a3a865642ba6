/- The region of the program's GoodOperand, drawn and guarded: every way to name an operand, every order at once. What the model says that OpFlow 1 sets. What the model tells of flags that nobody reads: one contract a function. An instruction whose fields fit into its words: plain arithmetic; no Go text is spoken of here. What the program's GoodOperand answers, for every argument. The ways to name an operand, as the program holds them: told apart. What the program's NeedsExt answers, for every argument. What the program's wrapWord answers. -/
import Derived.Test.YtbppfbkkphhjnaaGreatCN4
import Derived.RegionTactic
import Derived.Test.YtbppfbkkphhjnaaGreatCN1
import Derived.Deep.RegionHeld3
import Derived.BigQuiet
import Derived.Deep.QuietTactic
namespace Go.Proofs.YtbppfbkkphhjnaaGreat
open Go.RowKit
set_option linter.unusedVariables false
theorem bfe (b : Bool) : b = false ∨ b = true := by cases b <;> simp
theorem wpOp_on {P : Program} {ops : Array Oper} {Q : Exit → Act → World → Prop} {i : Nat} {o : Oper} {K : Act → World → Prop} {a : Act} {w : World} (ho : ops[i]? = some o) {j s : Nat} {b : Bool} (hg : o.guard = some (j, b)) (hd : (ops[j]?).bind (·.dst) = some s) (hv : a.tmps[s]? = some (.bool b))
    (h : ∀ K' : Act → World → Prop, (∀ a w, K a w → K' a w) → Oper.wp P o a w K' Q) : wpOp P ops Q i K a w := by
  refine wpOp_step ho (fun K' hK => ?_)
  rw [if_pos]
  · exact h K' hK
  · unfold Region.wanted yielded
    rw [hg]
    simp only [hd, Option.bind_some, hv]
    simp
theorem wpOp_off {P : Program} {ops : Array Oper} {Q : Exit → Act → World → Prop} {i : Nat} {o : Oper} {K : Act → World → Prop} {a : Act} {w : World} (ho : ops[i]? = some o) {j s : Nat} {b c : Bool} (hg : o.guard = some (j, b)) (hd : (ops[j]?).bind (·.dst) = some s) (hv : a.tmps[s]? = some (.bool c)) (hn : c ≠ b)
    (h : K (a.put o.dst undef) w) : wpOp P ops Q i K a w := by
  refine wpOp_step ho (fun K' hK => ?_)
  rw [if_neg]
  · exact hK _ _ h
  · unfold Region.wanted yielded
    rw [hg]
    simp only [hd, Option.bind_some, hv]
    simpa using hn
set_option maxRecDepth 20000 in
set_option maxHeartbeats 16000000 in
theorem goodOp (m k e : Int) (w : World) (T N : Nat) (v : Value) (R : Array Value) (E : Bool) (lo : -9223372036854775808 ≤ e) (hi : e ≤ 9223372036854775807)
    (hw : ∀ w : World, Calls Tryz.prog 165 #[.agg #[iv m, iv k, iv e]] w fun r w' => r = .returned (.iface T v) ∧ Kept 0 0 w w')
    (hme : ∀ w : World, (method 311 T v "loop.example/g00389/impl.operand").run Tryz.prog w = .ok (N, v) w)
    (hc : ∀ w : World, Calls Tryz.prog N #[v] w fun r w' => r = .returned (.agg R) ∧ Kept 0 0 w w')
    (hfn : ∀ (a : Array Value) (w : World), (callFunc N a).run Tryz.prog w = .ok (.enter N a) w)
    (he : ∀ w : World, (binOp .eql 102 (.agg R) (.agg #[iv m, iv k, iv e])).run Tryz.prog w = .ok (.bool E) w) :
    Calls Tryz.prog 149 #[.agg #[iv m, iv k, iv e]] w fun r w' => r = .returned (.bool (E && (Pl.within k 0 3 && Pl.wordOk e))) ∧ Kept 0 0 w w' := by
  have B0 := hide (Blk.new w #[iv m, iv k, iv e] 102)
  have K0 := hide (kept_alloc w (.cells #[iv m, iv k, iv e] 102))
  obtain ⟨B, hBB⟩ : ∃ B, Pl.within k 0 3 = B := ⟨_, rfl⟩
  obtain ⟨C, hCC⟩ : ∃ C, Pl.wordOk e = C := ⟨_, rfl⟩
  go_enter Tryz.func149, Tryz.ntmps149
  go_wp2_with fail
  refine (hw _).mono ?_
  rintro r w1 ⟨rfl, k1⟩
  have B1 := hide (B0.out.kept0 k1)
  have K1 := hide (K0.out.trans k1)
  clear k1 hw
  go_wp2_with fail
  refine wp_region_inv2 (fun A0 l A W => FR [6, 7, 8, 9, 10, 11, 12, 13, 14, 15, 16, 17, 18, 19, 20, 21, 22, 23, 2] A0 A ∧ Once l 0 (A.tmps[6]? = some (.iface T v)) ∧ Once l 1 (A.tmps[7]? = some (.bool true)) ∧ Once l 2 (A.tmps[8]? = some (.bool true)) ∧ Once l 3 (A.tmps[9]? = some (.iface T v)) ∧ Once l 4 (A.tmps[10]? = some (.agg R)) ∧ Once l 5 (A.tmps[11]? = some (.agg #[iv m, iv k, iv e])) ∧ Once l 6 (A.tmps[12]? = some (.bool E)) ∧ Once l 7 (A.tmps[13]? = some (.bool E)) ∧ Once l 8 (A.tmps[14]? = some (.bool E)) ∧ Once l 9 (A.tmps[15]? = some (bif E then .pointer (some ⟨w.heap.size, 1, none⟩) else undef)) ∧ Once l 10 (A.tmps[16]? = some (bif E then iv k else undef)) ∧ Once l 11 (A.tmps[17]? = some (bif E then .bool B else undef)) ∧ Once l 12 (A.tmps[18]? = some (.bool (E && B))) ∧ Once l 13 (A.tmps[19]? = some (.bool (E && B))) ∧ Once l 14 (A.tmps[20]? = some (bif (E && B) then .pointer (some ⟨w.heap.size, 2, none⟩) else undef)) ∧ Once l 15 (A.tmps[21]? = some (bif (E && B) then iv e else undef)) ∧ Once l 16 (A.tmps[22]? = some (bif (E && B) then .bool C else undef)) ∧ Once l 17 (A.tmps[23]? = some (.bool ((E && B) && C))) ∧ Once l 18 (A.tmps[2]? = some (.bool ((E && B) && C))) ∧ Kept 0 0 w1 W) (by kernel_rfl) (by kernel_rfl) ?start ?fin ?step
  case start => exact ⟨FR.refl _ _, once_start (by decide), once_start (by decide), once_start (by decide), once_start (by decide), once_start (by decide), once_start (by decide), once_start (by decide), once_start (by decide), once_start (by decide), once_start (by decide), once_start (by decide), once_start (by decide), once_start (by decide), once_start (by decide), once_start (by decide), once_start (by decide), once_start (by decide), once_start (by decide), once_start (by decide), kept_drew (Kept.refl _ _ _)⟩
  case fin =>
    intro l A W h hl
    obtain ⟨hFR, o0, o1, o2, o3, o4, o5, o6, o7, o8, o9, o10, o11, o12, o13, o14, o15, o16, o17, o18, hK⟩ := h
    have g := o18 (hl 18 (by decide))
    have QQ := hide (K1.out.trans hK)
    have hc9 := hFR.chain
    simp only [List.foldl] at hc9
    rw [getD_of g] at hc9
    clear hl hK hFR g o0 o1 o2 o3 o4 o5 o6 o7 o8 o9 o10 o11 o12 o13 o14 o15 o16 o17 o18
    generalize A.tmps.getD 6 undef = s6 at hc9
    generalize A.tmps.getD 7 undef = s7 at hc9
    generalize A.tmps.getD 8 undef = s8 at hc9
    generalize A.tmps.getD 9 undef = s9 at hc9
    generalize A.tmps.getD 10 undef = s10 at hc9
    generalize A.tmps.getD 11 undef = s11 at hc9
    generalize A.tmps.getD 12 undef = s12 at hc9
    generalize A.tmps.getD 13 undef = s13 at hc9
    generalize A.tmps.getD 14 undef = s14 at hc9
    generalize A.tmps.getD 15 undef = s15 at hc9
    generalize A.tmps.getD 16 undef = s16 at hc9
    generalize A.tmps.getD 17 undef = s17 at hc9
    generalize A.tmps.getD 18 undef = s18 at hc9
    generalize A.tmps.getD 19 undef = s19 at hc9
    generalize A.tmps.getD 20 undef = s20 at hc9
    generalize A.tmps.getD 21 undef = s21 at hc9
    generalize A.tmps.getD 22 undef = s22 at hc9
    generalize A.tmps.getD 23 undef = s23 at hc9
    subst hc9
    go_simp
    go_wp2_with fail
    go_ret
    exact ⟨rB (by rw [← hBB, ← hCC, Bool.and_assoc]), QQ.out⟩
  case step =>
    intro l A W i hI hm
    obtain ⟨hFR, o0, o1, o2, o3, o4, o5, o6, o7, o8, o9, o10, o11, o12, o13, o14, o15, o16, o17, o18, hK⟩ := hI
    obtain ⟨hi1, hi2⟩ := ready_new hm
    have hsz : Hid (23 < A.tmps.size) := hide (by rw [hFR.size]; simp)
    have m1 : A.tmps[1]? = some (.pointer (some ⟨w.heap.size, 0, none⟩)) := (hFR.out 1 (by decide)).trans rfl
    have m3 : A.tmps[3]? = some (.iface T v) := (hFR.out 3 (by decide)).trans rfl
    rcases i with _ | _ | _ | _ | _ | _ | _ | _ | _ | _ | _ | _ | _ | _ | _ | _ | _ | _ | _ | i
    · refine wpOp_step rfl (fun KK hK2 => ?_)
      go_simp
      exact hK2 (A.put (some 6) (.iface T v)) _ ⟨hFR.put (by decide) _, .now (put_eq (by have hz := hsz.out; omega)), o1.q, o2.q, o3.q, o4.q, o5.q, o6.q, o7.q, o8.q, o9.q, o10.q, o11.q, o12.q, o13.q, o14.q, o15.q, o16.q, o17.q, o18.q, hK⟩
    · have e1 := o0 (ready_dep hm 0 (by kernel_rfl))
      refine wpOp_step rfl (fun KK hK2 => ?_)
      go_simp
      exact hK2 (A.put (some 7) (.bool true)) _ ⟨hFR.put (by decide) _, o0.q, .now (put_eq (by have hz := hsz.out; omega)), o2.q, o3.q, o4.q, o5.q, o6.q, o7.q, o8.q, o9.q, o10.q, o11.q, o12.q, o13.q, o14.q, o15.q, o16.q, o17.q, o18.q, hK⟩
    · have e1 := o1 (ready_dep hm 1 (by kernel_rfl))
      refine wpOp_step rfl (fun KK hK2 => ?_)
      go_simp
      exact hK2 (A.put (some 8) (.bool true)) _ ⟨hFR.put (by decide) _, o0.q, o1.q, .now (put_eq (by have hz := hsz.out; omega)), o3.q, o4.q, o5.q, o6.q, o7.q, o8.q, o9.q, o10.q, o11.q, o12.q, o13.q, o14.q, o15.q, o16.q, o17.q, o18.q, hK⟩
    · have g := o2 (ready_dep hm 2 (by kernel_rfl))
      refine wpOp_on (b := true) rfl rfl rfl g (fun KK hK2 => ?_)
      go_simp
      exact hK2 (A.put (some 9) (.iface T v)) _ ⟨hFR.put (by decide) _, o0.q, o1.q, o2.q, .now (put_eq (by have hz := hsz.out; omega)), o4.q, o5.q, o6.q, o7.q, o8.q, o9.q, o10.q, o11.q, o12.q, o13.q, o14.q, o15.q, o16.q, o17.q, o18.q, hK⟩
    · have g := o2 (ready_dep hm 2 (by kernel_rfl))
      have e1 := o3 (ready_dep hm 3 (by kernel_rfl))
      refine wpOp_on (b := true) rfl rfl rfl g (fun KK hK2 => ?_)
      go_simp
      refine (hc W).mono ?_
      rintro r y ⟨rfl, kd⟩
      go_simp
      exact hK2 (A.put (some 10) (.agg R)) _ ⟨hFR.put (by decide) _, o0.q, o1.q, o2.q, o3.q, .now (put_eq (by have hz := hsz.out; omega)), o5.q, o6.q, o7.q, o8.q, o9.q, o10.q, o11.q, o12.q, o13.q, o14.q, o15.q, o16.q, o17.q, o18.q, (hK.trans kd)⟩
    · have g := o2 (ready_dep hm 2 (by kernel_rfl))
      have BL := B1.out.kept0 hK
      have x0 := BL.all
      clear BL
      refine wpOp_on (b := true) rfl rfl rfl g (fun KK hK2 => ?_)
      go_simp
      exact hK2 (A.put (some 11) (.agg #[iv m, iv k, iv e])) _ ⟨hFR.put (by decide) _, o0.q, o1.q, o2.q, o3.q, o4.q, .now (put_eq (by have hz := hsz.out; omega)), o6.q, o7.q, o8.q, o9.q, o10.q, o11.q, o12.q, o13.q, o14.q, o15.q, o16.q, o17.q, o18.q, hK⟩
    · have g := o2 (ready_dep hm 2 (by kernel_rfl))
      have e1 := o4 (ready_dep hm 4 (by kernel_rfl))
      have e2 := o5 (ready_dep hm 5 (by kernel_rfl))
      refine wpOp_on (b := true) rfl rfl rfl g (fun KK hK2 => ?_)
      go_simp
      exact hK2 (A.put (some 12) (.bool E)) _ ⟨hFR.put (by decide) _, o0.q, o1.q, o2.q, o3.q, o4.q, o5.q, .now (put_eq (by have hz := hsz.out; omega)), o7.q, o8.q, o9.q, o10.q, o11.q, o12.q, o13.q, o14.q, o15.q, o16.q, o17.q, o18.q, hK⟩
    · have e1 := o2 (ready_dep hm 2 (by kernel_rfl))
      have e2 := o6 (ready_dep hm 6 (by kernel_rfl))
      refine wpOp_step rfl (fun KK hK2 => ?_)
      go_simp
      exact hK2 (A.put (some 13) (.bool E)) _ ⟨hFR.put (by decide) _, o0.q, o1.q, o2.q, o3.q, o4.q, o5.q, o6.q, .now (put_eq (by have hz := hsz.out; omega)), o8.q, o9.q, o10.q, o11.q, o12.q, o13.q, o14.q, o15.q, o16.q, o17.q, o18.q, hK⟩
    · have e1 := o7 (ready_dep hm 7 (by kernel_rfl))
      refine wpOp_step rfl (fun KK hK2 => ?_)
      go_simp
      exact hK2 (A.put (some 14) (.bool E)) _ ⟨hFR.put (by decide) _, o0.q, o1.q, o2.q, o3.q, o4.q, o5.q, o6.q, o7.q, .now (put_eq (by have hz := hsz.out; omega)), o9.q, o10.q, o11.q, o12.q, o13.q, o14.q, o15.q, o16.q, o17.q, o18.q, hK⟩
    · have g := o8 (ready_dep hm 8 (by kernel_rfl))
      rcases bfe E with hE | hE
      · rw [hE] at g
        refine wpOp_off (b := true) (c := false) rfl rfl rfl g (by decide) ?_
        exact ⟨hFR.put (by decide) _, o0.q, o1.q, o2.q, o3.q, o4.q, o5.q, o6.q, o7.q, o8.q, .now (by rw [hE]; exact put_eq (by have hz := hsz.out; omega)), o10.q, o11.q, o12.q, o13.q, o14.q, o15.q, o16.q, o17.q, o18.q, hK⟩
      · rw [hE] at g
        refine wpOp_on (b := true) rfl rfl rfl g (fun KK hK2 => ?_)
        go_simp
        exact hK2 (A.put (some 15) (.pointer (some ⟨w.heap.size, 1, none⟩))) _ ⟨hFR.put (by decide) _, o0.q, o1.q, o2.q, o3.q, o4.q, o5.q, o6.q, o7.q, o8.q, .now (by rw [hE]; exact put_eq (by have hz := hsz.out; omega)), o10.q, o11.q, o12.q, o13.q, o14.q, o15.q, o16.q, o17.q, o18.q, hK⟩
    · have g := o8 (ready_dep hm 8 (by kernel_rfl))
      have e1 := o9 (ready_dep hm 9 (by kernel_rfl))
      rcases bfe E with hE | hE
      · rw [hE] at g
        refine wpOp_off (b := true) (c := false) rfl rfl rfl g (by decide) ?_
        exact ⟨hFR.put (by decide) _, o0.q, o1.q, o2.q, o3.q, o4.q, o5.q, o6.q, o7.q, o8.q, o9.q, .now (by rw [hE]; exact put_eq (by have hz := hsz.out; omega)), o11.q, o12.q, o13.q, o14.q, o15.q, o16.q, o17.q, o18.q, hK⟩
      · rw [hE] at g e1
        simp only [cond_true] at e1
        have BL := B1.out.kept0 hK
        have x0 := BL.all
        clear BL
        refine wpOp_on (b := true) rfl rfl rfl g (fun KK hK2 => ?_)
        go_simp
        exact hK2 (A.put (some 16) (iv k)) _ ⟨hFR.put (by decide) _, o0.q, o1.q, o2.q, o3.q, o4.q, o5.q, o6.q, o7.q, o8.q, o9.q, .now (by rw [hE]; exact put_eq (by have hz := hsz.out; omega)), o11.q, o12.q, o13.q, o14.q, o15.q, o16.q, o17.q, o18.q, hK⟩
    · have g := o8 (ready_dep hm 8 (by kernel_rfl))
      have e1 := o10 (ready_dep hm 10 (by kernel_rfl))
      rcases bfe E with hE | hE
      · rw [hE] at g
        refine wpOp_off (b := true) (c := false) rfl rfl rfl g (by decide) ?_
        exact ⟨hFR.put (by decide) _, o0.q, o1.q, o2.q, o3.q, o4.q, o5.q, o6.q, o7.q, o8.q, o9.q, o10.q, .now (by rw [hE]; exact put_eq (by have hz := hsz.out; omega)), o12.q, o13.q, o14.q, o15.q, o16.q, o17.q, o18.q, hK⟩
      · rw [hE] at g e1
        simp only [cond_true] at e1
        refine wpOp_on (b := true) rfl rfl rfl g (fun KK hK2 => ?_)
        go_simp
        refine st (isReg k _) ?_
        rw [hBB]
        go_simp
        exact hK2 (A.put (some 17) (.bool B)) _ ⟨hFR.put (by decide) _, o0.q, o1.q, o2.q, o3.q, o4.q, o5.q, o6.q, o7.q, o8.q, o9.q, o10.q, .now (by rw [hE]; exact put_eq (by have hz := hsz.out; omega)), o12.q, o13.q, o14.q, o15.q, o16.q, o17.q, o18.q, hK⟩
    · have e1 := o8 (ready_dep hm 8 (by kernel_rfl))
      have e2 := o11 (ready_dep hm 11 (by kernel_rfl))
      rcases bfe E with hE | hE
      · rw [hE] at e1 e2
        simp only [cond_false] at e2
        refine wpOp_step rfl (fun KK hK2 => ?_)
        go_simp
        exact hK2 (A.put (some 18) (.bool false)) _ ⟨hFR.put (by decide) _, o0.q, o1.q, o2.q, o3.q, o4.q, o5.q, o6.q, o7.q, o8.q, o9.q, o10.q, o11.q, .now (by rw [hE]; exact put_eq (by have hz := hsz.out; omega)), o13.q, o14.q, o15.q, o16.q, o17.q, o18.q, hK⟩
      · rw [hE] at e1 e2
        simp only [cond_true] at e2
        refine wpOp_step rfl (fun KK hK2 => ?_)
        go_simp
        exact hK2 (A.put (some 18) (.bool B)) _ ⟨hFR.put (by decide) _, o0.q, o1.q, o2.q, o3.q, o4.q, o5.q, o6.q, o7.q, o8.q, o9.q, o10.q, o11.q, .now (by rw [hE]; exact put_eq (by have hz := hsz.out; omega)), o13.q, o14.q, o15.q, o16.q, o17.q, o18.q, hK⟩
    · have e1 := o12 (ready_dep hm 12 (by kernel_rfl))
      refine wpOp_step rfl (fun KK hK2 => ?_)
      go_simp
      exact hK2 (A.put (some 19) (.bool (E && B))) _ ⟨hFR.put (by decide) _, o0.q, o1.q, o2.q, o3.q, o4.q, o5.q, o6.q, o7.q, o8.q, o9.q, o10.q, o11.q, o12.q, .now (put_eq (by have hz := hsz.out; omega)), o14.q, o15.q, o16.q, o17.q, o18.q, hK⟩
    · have g := o13 (ready_dep hm 13 (by kernel_rfl))
      rcases bfe (E && B) with hE | hE
      · rw [hE] at g
        refine wpOp_off (b := true) (c := false) rfl rfl rfl g (by decide) ?_
        exact ⟨hFR.put (by decide) _, o0.q, o1.q, o2.q, o3.q, o4.q, o5.q, o6.q, o7.q, o8.q, o9.q, o10.q, o11.q, o12.q, o13.q, .now (by rw [hE]; exact put_eq (by have hz := hsz.out; omega)), o15.q, o16.q, o17.q, o18.q, hK⟩
      · rw [hE] at g
        refine wpOp_on (b := true) rfl rfl rfl g (fun KK hK2 => ?_)
        go_simp
        exact hK2 (A.put (some 20) (.pointer (some ⟨w.heap.size, 2, none⟩))) _ ⟨hFR.put (by decide) _, o0.q, o1.q, o2.q, o3.q, o4.q, o5.q, o6.q, o7.q, o8.q, o9.q, o10.q, o11.q, o12.q, o13.q, .now (by rw [hE]; exact put_eq (by have hz := hsz.out; omega)), o15.q, o16.q, o17.q, o18.q, hK⟩
    · have g := o13 (ready_dep hm 13 (by kernel_rfl))
      have e1 := o14 (ready_dep hm 14 (by kernel_rfl))
      rcases bfe (E && B) with hE | hE
      · rw [hE] at g
        refine wpOp_off (b := true) (c := false) rfl rfl rfl g (by decide) ?_
        exact ⟨hFR.put (by decide) _, o0.q, o1.q, o2.q, o3.q, o4.q, o5.q, o6.q, o7.q, o8.q, o9.q, o10.q, o11.q, o12.q, o13.q, o14.q, .now (by rw [hE]; exact put_eq (by have hz := hsz.out; omega)), o16.q, o17.q, o18.q, hK⟩
      · rw [hE] at g e1
        simp only [cond_true] at e1
        have BL := B1.out.kept0 hK
        have x0 := BL.all
        clear BL
        refine wpOp_on (b := true) rfl rfl rfl g (fun KK hK2 => ?_)
        go_simp
        exact hK2 (A.put (some 21) (iv e)) _ ⟨hFR.put (by decide) _, o0.q, o1.q, o2.q, o3.q, o4.q, o5.q, o6.q, o7.q, o8.q, o9.q, o10.q, o11.q, o12.q, o13.q, o14.q, .now (by rw [hE]; exact put_eq (by have hz := hsz.out; omega)), o16.q, o17.q, o18.q, hK⟩
    · have g := o13 (ready_dep hm 13 (by kernel_rfl))
      have e1 := o15 (ready_dep hm 15 (by kernel_rfl))
      rcases bfe (E && B) with hE | hE
      · rw [hE] at g
        refine wpOp_off (b := true) (c := false) rfl rfl rfl g (by decide) ?_
        exact ⟨hFR.put (by decide) _, o0.q, o1.q, o2.q, o3.q, o4.q, o5.q, o6.q, o7.q, o8.q, o9.q, o10.q, o11.q, o12.q, o13.q, o14.q, o15.q, .now (by rw [hE]; exact put_eq (by have hz := hsz.out; omega)), o17.q, o18.q, hK⟩
      · rw [hE] at g e1
        simp only [cond_true] at e1
        refine wpOp_on (b := true) rfl rfl rfl g (fun KK hK2 => ?_)
        go_simp
        refine st (isWord e _ lo hi) ?_
        rw [hCC]
        go_simp
        exact hK2 (A.put (some 22) (.bool C)) _ ⟨hFR.put (by decide) _, o0.q, o1.q, o2.q, o3.q, o4.q, o5.q, o6.q, o7.q, o8.q, o9.q, o10.q, o11.q, o12.q, o13.q, o14.q, o15.q, .now (by rw [hE]; exact put_eq (by have hz := hsz.out; omega)), o17.q, o18.q, hK⟩
    · have e1 := o13 (ready_dep hm 13 (by kernel_rfl))
      have e2 := o16 (ready_dep hm 16 (by kernel_rfl))
      rcases bfe (E && B) with hE | hE
      · rw [hE] at e1 e2
        simp only [cond_false] at e2
        refine wpOp_step rfl (fun KK hK2 => ?_)
        go_simp
        exact hK2 (A.put (some 23) (.bool false)) _ ⟨hFR.put (by decide) _, o0.q, o1.q, o2.q, o3.q, o4.q, o5.q, o6.q, o7.q, o8.q, o9.q, o10.q, o11.q, o12.q, o13.q, o14.q, o15.q, o16.q, .now (by rw [hE]; exact put_eq (by have hz := hsz.out; omega)), o18.q, hK⟩
      · rw [hE] at e1 e2
        simp only [cond_true] at e2
        refine wpOp_step rfl (fun KK hK2 => ?_)
        go_simp
        exact hK2 (A.put (some 23) (.bool C)) _ ⟨hFR.put (by decide) _, o0.q, o1.q, o2.q, o3.q, o4.q, o5.q, o6.q, o7.q, o8.q, o9.q, o10.q, o11.q, o12.q, o13.q, o14.q, o15.q, o16.q, .now (by rw [hE]; exact put_eq (by have hz := hsz.out; omega)), o18.q, hK⟩
    · have e1 := o17 (ready_dep hm 17 (by kernel_rfl))
      refine wpOp_step rfl (fun KK hK2 => ?_)
      go_simp
      exact hK2 (A.put (some 2) (.bool ((E && B) && C))) _ ⟨hFR.put (by decide) _, o0.q, o1.q, o2.q, o3.q, o4.q, o5.q, o6.q, o7.q, o8.q, o9.q, o10.q, o11.q, o12.q, o13.q, o14.q, o15.q, o16.q, o17.q, .now (put_eq (by have hz := hsz.out; omega)), hK⟩
    · simp at hi1
      omega
end Go.Proofs.YtbppfbkkphhjnaaGreat

namespace Go.Proofs.YtbppfbkkphhjnaaGreat
open Go.RowKit
set_option linter.unusedVariables false
set_option maxRecDepth 20000 in
set_option maxHeartbeats 4000000 in
theorem specSets151 (w : World) (z r m k e : Int) : Calls Tryz.prog 131 #[.agg (inA 15 z r m k e 1)] w fun e' w' => e' = .returned (iv (Pl.sets ⟨15, z, r, m, k, e, 1⟩)) ∧ Kept 0 0 w w' := by
  have K0 := hide (kept_alloc w (.cells (inA 15 z r m k e 1) 104))
  have B0 := hide (Blk.new w (inA 15 z r m k e 1) 104)
  go_enter Tryz.func131, Tryz.ntmps131
  go_wp2_with fail
  refine wp_region_inv2 (fun A0 l A W => FR [40, 41, 42, 43, 44, 45, 46, 47, 48, 49, 50, 51, 52, 53, 2] A0 A ∧ Once l 0 (A.tmps[40]? = some (.pointer (some ⟨w.heap.size, 6, none⟩))) ∧ Once l 1 (A.tmps[41]? = some (iv 1)) ∧ Once l 2 (A.tmps[42]? = some (.bool true)) ∧ Once l 3 (A.tmps[43]? = some (.bool true)) ∧ Once l 4 (A.tmps[44]? = some (undef)) ∧ Once l 5 (A.tmps[45]? = some (undef)) ∧ Once l 6 (A.tmps[46]? = some (undef)) ∧ Once l 7 (A.tmps[47]? = some (.bool true)) ∧ Once l 8 (A.tmps[48]? = some (iv (Pl.fl true 31))) ∧ Once l 9 (A.tmps[49]? = some (.pointer (some ⟨w.heap.size, 6, none⟩))) ∧ Once l 10 (A.tmps[50]? = some (iv 1)) ∧ Once l 11 (A.tmps[51]? = some (.bool false)) ∧ Once l 12 (A.tmps[52]? = some (iv (Pl.fl false 15))) ∧ Once l 13 (A.tmps[53]? = some (iv (bits .or .i64 (Pl.fl true 31) (Pl.fl false 15)))) ∧ Once l 14 (A.tmps[2]? = some (iv (bits .or .i64 (Pl.fl true 31) (Pl.fl false 15)))) ∧ Kept 0 0 (w.alloc (.cells (inA 15 z r m k e 1) 104)) W) (by kernel_rfl) (by kernel_rfl) ?start ?fin ?step
  case start => exact ⟨FR.refl _ _, once_start (by decide), once_start (by decide), once_start (by decide), once_start (by decide), once_start (by decide), once_start (by decide), once_start (by decide), once_start (by decide), once_start (by decide), once_start (by decide), once_start (by decide), once_start (by decide), once_start (by decide), once_start (by decide), once_start (by decide), kept_drew (Kept.refl _ _ _)⟩
  case fin =>
    intro l A W h hl
    obtain ⟨hFR, o0, o1, o2, o3, o4, o5, o6, o7, o8, o9, o10, o11, o12, o13, o14, hK⟩ := h
    have g14 := o14 (hl 14 (by decide))
    have QQ := hide hK
    have hc9 := hFR.chain
    simp only [List.foldl] at hc9
    rw [getD_of g14] at hc9
    clear hl hK hFR g14 o0 o1 o2 o3 o4 o5 o6 o7 o8 o9 o10 o11 o12 o13 o14
    generalize A.tmps.getD 40 undef = s40 at hc9
    generalize A.tmps.getD 41 undef = s41 at hc9
    generalize A.tmps.getD 42 undef = s42 at hc9
    generalize A.tmps.getD 43 undef = s43 at hc9
    generalize A.tmps.getD 44 undef = s44 at hc9
    generalize A.tmps.getD 45 undef = s45 at hc9
    generalize A.tmps.getD 46 undef = s46 at hc9
    generalize A.tmps.getD 47 undef = s47 at hc9
    generalize A.tmps.getD 48 undef = s48 at hc9
    generalize A.tmps.getD 49 undef = s49 at hc9
    generalize A.tmps.getD 50 undef = s50 at hc9
    generalize A.tmps.getD 51 undef = s51 at hc9
    generalize A.tmps.getD 52 undef = s52 at hc9
    generalize A.tmps.getD 53 undef = s53 at hc9
    subst hc9
    go_simp
    go_wp2_with fail
    go_ret
    exact ⟨rI (by rfl), K0.out.trans QQ.out⟩
  case step =>
    intro l A W i hI hm
    obtain ⟨hFR, o0, o1, o2, o3, o4, o5, o6, o7, o8, o9, o10, o11, o12, o13, o14, hK⟩ := hI
    obtain ⟨hi1, hi2⟩ := ready_new hm
    have hsz : Hid (53 < A.tmps.size) := hide (by rw [hFR.size]; simp)
    have m1 : A.tmps[1]? = some (.pointer (some ⟨w.heap.size, 0, none⟩)) := (hFR.out 1 (by decide)).trans rfl
    rcases i with _ | _ | _ | _ | _ | _ | _ | _ | _ | _ | _ | _ | _ | _ | _ | i
    · refine wpOp_step rfl (fun KK hK2 => ?_)
      go_simp
      exact hK2 (A.put (some 40) (.pointer (some ⟨w.heap.size, 6, none⟩))) _ ⟨hFR.put (by decide) _, .now (put_eq (by have hz := hsz.out; omega)), o1.past (by decide) (fun h => (put_ne (by decide)).trans h), o2.past (by decide) (fun h => (put_ne (by decide)).trans h), o3.past (by decide) (fun h => (put_ne (by decide)).trans h), o4.past (by decide) (fun h => (put_ne (by decide)).trans h), o5.past (by decide) (fun h => (put_ne (by decide)).trans h), o6.past (by decide) (fun h => (put_ne (by decide)).trans h), o7.past (by decide) (fun h => (put_ne (by decide)).trans h), o8.past (by decide) (fun h => (put_ne (by decide)).trans h), o9.past (by decide) (fun h => (put_ne (by decide)).trans h), o10.past (by decide) (fun h => (put_ne (by decide)).trans h), o11.past (by decide) (fun h => (put_ne (by decide)).trans h), o12.past (by decide) (fun h => (put_ne (by decide)).trans h), o13.past (by decide) (fun h => (put_ne (by decide)).trans h), o14.past (by decide) (fun h => (put_ne (by decide)).trans h), hK⟩
    · have e0 := o0 (ready_dep hm 0 (by kernel_rfl))
      have BL := B0.out.kept0 hK
      have x6 := BL.cell (i := 6) rfl
      clear BL
      refine wpOp_step rfl (fun KK hK2 => ?_)
      go_simp
      exact hK2 (A.put (some 41) (iv 1)) _ ⟨hFR.put (by decide) _, o0.past (by decide) (fun h => (put_ne (by decide)).trans h), .now (put_eq (by have hz := hsz.out; omega)), o2.past (by decide) (fun h => (put_ne (by decide)).trans h), o3.past (by decide) (fun h => (put_ne (by decide)).trans h), o4.past (by decide) (fun h => (put_ne (by decide)).trans h), o5.past (by decide) (fun h => (put_ne (by decide)).trans h), o6.past (by decide) (fun h => (put_ne (by decide)).trans h), o7.past (by decide) (fun h => (put_ne (by decide)).trans h), o8.past (by decide) (fun h => (put_ne (by decide)).trans h), o9.past (by decide) (fun h => (put_ne (by decide)).trans h), o10.past (by decide) (fun h => (put_ne (by decide)).trans h), o11.past (by decide) (fun h => (put_ne (by decide)).trans h), o12.past (by decide) (fun h => (put_ne (by decide)).trans h), o13.past (by decide) (fun h => (put_ne (by decide)).trans h), o14.past (by decide) (fun h => (put_ne (by decide)).trans h), hK⟩
    · have e1 := o1 (ready_dep hm 1 (by kernel_rfl))
      refine wpOp_step rfl (fun KK hK2 => ?_)
      go_simp
      exact hK2 (A.put (some 42) (.bool true)) _ ⟨hFR.put (by decide) _, o0.past (by decide) (fun h => (put_ne (by decide)).trans h), o1.past (by decide) (fun h => (put_ne (by decide)).trans h), .now (put_eq (by have hz := hsz.out; omega)), o3.past (by decide) (fun h => (put_ne (by decide)).trans h), o4.past (by decide) (fun h => (put_ne (by decide)).trans h), o5.past (by decide) (fun h => (put_ne (by decide)).trans h), o6.past (by decide) (fun h => (put_ne (by decide)).trans h), o7.past (by decide) (fun h => (put_ne (by decide)).trans h), o8.past (by decide) (fun h => (put_ne (by decide)).trans h), o9.past (by decide) (fun h => (put_ne (by decide)).trans h), o10.past (by decide) (fun h => (put_ne (by decide)).trans h), o11.past (by decide) (fun h => (put_ne (by decide)).trans h), o12.past (by decide) (fun h => (put_ne (by decide)).trans h), o13.past (by decide) (fun h => (put_ne (by decide)).trans h), o14.past (by decide) (fun h => (put_ne (by decide)).trans h), hK⟩
    · have e2 := o2 (ready_dep hm 2 (by kernel_rfl))
      refine wpOp_step rfl (fun KK hK2 => ?_)
      go_simp
      exact hK2 (A.put (some 43) (.bool true)) _ ⟨hFR.put (by decide) _, o0.past (by decide) (fun h => (put_ne (by decide)).trans h), o1.past (by decide) (fun h => (put_ne (by decide)).trans h), o2.past (by decide) (fun h => (put_ne (by decide)).trans h), .now (put_eq (by have hz := hsz.out; omega)), o4.past (by decide) (fun h => (put_ne (by decide)).trans h), o5.past (by decide) (fun h => (put_ne (by decide)).trans h), o6.past (by decide) (fun h => (put_ne (by decide)).trans h), o7.past (by decide) (fun h => (put_ne (by decide)).trans h), o8.past (by decide) (fun h => (put_ne (by decide)).trans h), o9.past (by decide) (fun h => (put_ne (by decide)).trans h), o10.past (by decide) (fun h => (put_ne (by decide)).trans h), o11.past (by decide) (fun h => (put_ne (by decide)).trans h), o12.past (by decide) (fun h => (put_ne (by decide)).trans h), o13.past (by decide) (fun h => (put_ne (by decide)).trans h), o14.past (by decide) (fun h => (put_ne (by decide)).trans h), hK⟩
    · have g := o3 (ready_dep hm 3 (by kernel_rfl))
      refine wpOp_off (b := false) (c := true) rfl rfl rfl g (by decide) ?_
      exact ⟨hFR.put (by decide) _, o0.past (by decide) (fun h => (put_ne (by decide)).trans h), o1.past (by decide) (fun h => (put_ne (by decide)).trans h), o2.past (by decide) (fun h => (put_ne (by decide)).trans h), o3.past (by decide) (fun h => (put_ne (by decide)).trans h), .now (put_eq (by have hz := hsz.out; omega)), o5.past (by decide) (fun h => (put_ne (by decide)).trans h), o6.past (by decide) (fun h => (put_ne (by decide)).trans h), o7.past (by decide) (fun h => (put_ne (by decide)).trans h), o8.past (by decide) (fun h => (put_ne (by decide)).trans h), o9.past (by decide) (fun h => (put_ne (by decide)).trans h), o10.past (by decide) (fun h => (put_ne (by decide)).trans h), o11.past (by decide) (fun h => (put_ne (by decide)).trans h), o12.past (by decide) (fun h => (put_ne (by decide)).trans h), o13.past (by decide) (fun h => (put_ne (by decide)).trans h), o14.past (by decide) (fun h => (put_ne (by decide)).trans h), hK⟩
    · have e4 := o4 (ready_dep hm 4 (by kernel_rfl))
      have g := o3 (ready_dep hm 3 (by kernel_rfl))
      refine wpOp_off (b := false) (c := true) rfl rfl rfl g (by decide) ?_
      exact ⟨hFR.put (by decide) _, o0.past (by decide) (fun h => (put_ne (by decide)).trans h), o1.past (by decide) (fun h => (put_ne (by decide)).trans h), o2.past (by decide) (fun h => (put_ne (by decide)).trans h), o3.past (by decide) (fun h => (put_ne (by decide)).trans h), o4.past (by decide) (fun h => (put_ne (by decide)).trans h), .now (put_eq (by have hz := hsz.out; omega)), o6.past (by decide) (fun h => (put_ne (by decide)).trans h), o7.past (by decide) (fun h => (put_ne (by decide)).trans h), o8.past (by decide) (fun h => (put_ne (by decide)).trans h), o9.past (by decide) (fun h => (put_ne (by decide)).trans h), o10.past (by decide) (fun h => (put_ne (by decide)).trans h), o11.past (by decide) (fun h => (put_ne (by decide)).trans h), o12.past (by decide) (fun h => (put_ne (by decide)).trans h), o13.past (by decide) (fun h => (put_ne (by decide)).trans h), o14.past (by decide) (fun h => (put_ne (by decide)).trans h), hK⟩
    · have e5 := o5 (ready_dep hm 5 (by kernel_rfl))
      have g := o3 (ready_dep hm 3 (by kernel_rfl))
      refine wpOp_off (b := false) (c := true) rfl rfl rfl g (by decide) ?_
      exact ⟨hFR.put (by decide) _, o0.past (by decide) (fun h => (put_ne (by decide)).trans h), o1.past (by decide) (fun h => (put_ne (by decide)).trans h), o2.past (by decide) (fun h => (put_ne (by decide)).trans h), o3.past (by decide) (fun h => (put_ne (by decide)).trans h), o4.past (by decide) (fun h => (put_ne (by decide)).trans h), o5.past (by decide) (fun h => (put_ne (by decide)).trans h), .now (put_eq (by have hz := hsz.out; omega)), o7.past (by decide) (fun h => (put_ne (by decide)).trans h), o8.past (by decide) (fun h => (put_ne (by decide)).trans h), o9.past (by decide) (fun h => (put_ne (by decide)).trans h), o10.past (by decide) (fun h => (put_ne (by decide)).trans h), o11.past (by decide) (fun h => (put_ne (by decide)).trans h), o12.past (by decide) (fun h => (put_ne (by decide)).trans h), o13.past (by decide) (fun h => (put_ne (by decide)).trans h), o14.past (by decide) (fun h => (put_ne (by decide)).trans h), hK⟩
    · have e3 := o3 (ready_dep hm 3 (by kernel_rfl))
      have e6 := o6 (ready_dep hm 6 (by kernel_rfl))
      refine wpOp_step rfl (fun KK hK2 => ?_)
      go_simp
      exact hK2 (A.put (some 47) (.bool true)) _ ⟨hFR.put (by decide) _, o0.past (by decide) (fun h => (put_ne (by decide)).trans h), o1.past (by decide) (fun h => (put_ne (by decide)).trans h), o2.past (by decide) (fun h => (put_ne (by decide)).trans h), o3.past (by decide) (fun h => (put_ne (by decide)).trans h), o4.past (by decide) (fun h => (put_ne (by decide)).trans h), o5.past (by decide) (fun h => (put_ne (by decide)).trans h), o6.past (by decide) (fun h => (put_ne (by decide)).trans h), .now (put_eq (by have hz := hsz.out; omega)), o8.past (by decide) (fun h => (put_ne (by decide)).trans h), o9.past (by decide) (fun h => (put_ne (by decide)).trans h), o10.past (by decide) (fun h => (put_ne (by decide)).trans h), o11.past (by decide) (fun h => (put_ne (by decide)).trans h), o12.past (by decide) (fun h => (put_ne (by decide)).trans h), o13.past (by decide) (fun h => (put_ne (by decide)).trans h), o14.past (by decide) (fun h => (put_ne (by decide)).trans h), hK⟩
    · have e7 := o7 (ready_dep hm 7 (by kernel_rfl))
      refine wpOp_step rfl (fun KK hK2 => ?_)
      go_simp
      refine st (l1Flag _ _ _) ?_
      go_simp
      exact hK2 (A.put (some 48) (iv (Pl.fl true 31))) _ ⟨hFR.put (by decide) _, o0.past (by decide) (fun h => (put_ne (by decide)).trans h), o1.past (by decide) (fun h => (put_ne (by decide)).trans h), o2.past (by decide) (fun h => (put_ne (by decide)).trans h), o3.past (by decide) (fun h => (put_ne (by decide)).trans h), o4.past (by decide) (fun h => (put_ne (by decide)).trans h), o5.past (by decide) (fun h => (put_ne (by decide)).trans h), o6.past (by decide) (fun h => (put_ne (by decide)).trans h), o7.past (by decide) (fun h => (put_ne (by decide)).trans h), .now (put_eq (by have hz := hsz.out; omega)), o9.past (by decide) (fun h => (put_ne (by decide)).trans h), o10.past (by decide) (fun h => (put_ne (by decide)).trans h), o11.past (by decide) (fun h => (put_ne (by decide)).trans h), o12.past (by decide) (fun h => (put_ne (by decide)).trans h), o13.past (by decide) (fun h => (put_ne (by decide)).trans h), o14.past (by decide) (fun h => (put_ne (by decide)).trans h), hK⟩
    · refine wpOp_step rfl (fun KK hK2 => ?_)
      go_simp
      exact hK2 (A.put (some 49) (.pointer (some ⟨w.heap.size, 6, none⟩))) _ ⟨hFR.put (by decide) _, o0.past (by decide) (fun h => (put_ne (by decide)).trans h), o1.past (by decide) (fun h => (put_ne (by decide)).trans h), o2.past (by decide) (fun h => (put_ne (by decide)).trans h), o3.past (by decide) (fun h => (put_ne (by decide)).trans h), o4.past (by decide) (fun h => (put_ne (by decide)).trans h), o5.past (by decide) (fun h => (put_ne (by decide)).trans h), o6.past (by decide) (fun h => (put_ne (by decide)).trans h), o7.past (by decide) (fun h => (put_ne (by decide)).trans h), o8.past (by decide) (fun h => (put_ne (by decide)).trans h), .now (put_eq (by have hz := hsz.out; omega)), o10.past (by decide) (fun h => (put_ne (by decide)).trans h), o11.past (by decide) (fun h => (put_ne (by decide)).trans h), o12.past (by decide) (fun h => (put_ne (by decide)).trans h), o13.past (by decide) (fun h => (put_ne (by decide)).trans h), o14.past (by decide) (fun h => (put_ne (by decide)).trans h), hK⟩
    · have e9 := o9 (ready_dep hm 9 (by kernel_rfl))
      have BL := B0.out.kept0 hK
      have x6 := BL.cell (i := 6) rfl
      clear BL
      refine wpOp_step rfl (fun KK hK2 => ?_)
      go_simp
      exact hK2 (A.put (some 50) (iv 1)) _ ⟨hFR.put (by decide) _, o0.past (by decide) (fun h => (put_ne (by decide)).trans h), o1.past (by decide) (fun h => (put_ne (by decide)).trans h), o2.past (by decide) (fun h => (put_ne (by decide)).trans h), o3.past (by decide) (fun h => (put_ne (by decide)).trans h), o4.past (by decide) (fun h => (put_ne (by decide)).trans h), o5.past (by decide) (fun h => (put_ne (by decide)).trans h), o6.past (by decide) (fun h => (put_ne (by decide)).trans h), o7.past (by decide) (fun h => (put_ne (by decide)).trans h), o8.past (by decide) (fun h => (put_ne (by decide)).trans h), o9.past (by decide) (fun h => (put_ne (by decide)).trans h), .now (put_eq (by have hz := hsz.out; omega)), o11.past (by decide) (fun h => (put_ne (by decide)).trans h), o12.past (by decide) (fun h => (put_ne (by decide)).trans h), o13.past (by decide) (fun h => (put_ne (by decide)).trans h), o14.past (by decide) (fun h => (put_ne (by decide)).trans h), hK⟩
    · have e10 := o10 (ready_dep hm 10 (by kernel_rfl))
      refine wpOp_step rfl (fun KK hK2 => ?_)
      go_simp
      exact hK2 (A.put (some 51) (.bool false)) _ ⟨hFR.put (by decide) _, o0.past (by decide) (fun h => (put_ne (by decide)).trans h), o1.past (by decide) (fun h => (put_ne (by decide)).trans h), o2.past (by decide) (fun h => (put_ne (by decide)).trans h), o3.past (by decide) (fun h => (put_ne (by decide)).trans h), o4.past (by decide) (fun h => (put_ne (by decide)).trans h), o5.past (by decide) (fun h => (put_ne (by decide)).trans h), o6.past (by decide) (fun h => (put_ne (by decide)).trans h), o7.past (by decide) (fun h => (put_ne (by decide)).trans h), o8.past (by decide) (fun h => (put_ne (by decide)).trans h), o9.past (by decide) (fun h => (put_ne (by decide)).trans h), o10.past (by decide) (fun h => (put_ne (by decide)).trans h), .now (put_eq (by have hz := hsz.out; omega)), o12.past (by decide) (fun h => (put_ne (by decide)).trans h), o13.past (by decide) (fun h => (put_ne (by decide)).trans h), o14.past (by decide) (fun h => (put_ne (by decide)).trans h), hK⟩
    · have e11 := o11 (ready_dep hm 11 (by kernel_rfl))
      refine wpOp_step rfl (fun KK hK2 => ?_)
      go_simp
      refine st (l1Flag _ _ _) ?_
      go_simp
      exact hK2 (A.put (some 52) (iv (Pl.fl false 15))) _ ⟨hFR.put (by decide) _, o0.past (by decide) (fun h => (put_ne (by decide)).trans h), o1.past (by decide) (fun h => (put_ne (by decide)).trans h), o2.past (by decide) (fun h => (put_ne (by decide)).trans h), o3.past (by decide) (fun h => (put_ne (by decide)).trans h), o4.past (by decide) (fun h => (put_ne (by decide)).trans h), o5.past (by decide) (fun h => (put_ne (by decide)).trans h), o6.past (by decide) (fun h => (put_ne (by decide)).trans h), o7.past (by decide) (fun h => (put_ne (by decide)).trans h), o8.past (by decide) (fun h => (put_ne (by decide)).trans h), o9.past (by decide) (fun h => (put_ne (by decide)).trans h), o10.past (by decide) (fun h => (put_ne (by decide)).trans h), o11.past (by decide) (fun h => (put_ne (by decide)).trans h), .now (put_eq (by have hz := hsz.out; omega)), o13.past (by decide) (fun h => (put_ne (by decide)).trans h), o14.past (by decide) (fun h => (put_ne (by decide)).trans h), hK⟩
    · have e8 := o8 (ready_dep hm 8 (by kernel_rfl))
      have e12 := o12 (ready_dep hm 12 (by kernel_rfl))
      refine wpOp_step rfl (fun KK hK2 => ?_)
      go_simp
      exact hK2 (A.put (some 53) (iv (bits .or .i64 (Pl.fl true 31) (Pl.fl false 15)))) _ ⟨hFR.put (by decide) _, o0.past (by decide) (fun h => (put_ne (by decide)).trans h), o1.past (by decide) (fun h => (put_ne (by decide)).trans h), o2.past (by decide) (fun h => (put_ne (by decide)).trans h), o3.past (by decide) (fun h => (put_ne (by decide)).trans h), o4.past (by decide) (fun h => (put_ne (by decide)).trans h), o5.past (by decide) (fun h => (put_ne (by decide)).trans h), o6.past (by decide) (fun h => (put_ne (by decide)).trans h), o7.past (by decide) (fun h => (put_ne (by decide)).trans h), o8.past (by decide) (fun h => (put_ne (by decide)).trans h), o9.past (by decide) (fun h => (put_ne (by decide)).trans h), o10.past (by decide) (fun h => (put_ne (by decide)).trans h), o11.past (by decide) (fun h => (put_ne (by decide)).trans h), o12.past (by decide) (fun h => (put_ne (by decide)).trans h), .now (put_eq (by have hz := hsz.out; omega)), o14.past (by decide) (fun h => (put_ne (by decide)).trans h), hK⟩
    · have e13 := o13 (ready_dep hm 13 (by kernel_rfl))
      refine wpOp_step rfl (fun KK hK2 => ?_)
      go_simp
      exact hK2 (A.put (some 2) (iv (bits .or .i64 (Pl.fl true 31) (Pl.fl false 15)))) _ ⟨hFR.put (by decide) _, o0.past (by decide) (fun h => (put_ne (by decide)).trans h), o1.past (by decide) (fun h => (put_ne (by decide)).trans h), o2.past (by decide) (fun h => (put_ne (by decide)).trans h), o3.past (by decide) (fun h => (put_ne (by decide)).trans h), o4.past (by decide) (fun h => (put_ne (by decide)).trans h), o5.past (by decide) (fun h => (put_ne (by decide)).trans h), o6.past (by decide) (fun h => (put_ne (by decide)).trans h), o7.past (by decide) (fun h => (put_ne (by decide)).trans h), o8.past (by decide) (fun h => (put_ne (by decide)).trans h), o9.past (by decide) (fun h => (put_ne (by decide)).trans h), o10.past (by decide) (fun h => (put_ne (by decide)).trans h), o11.past (by decide) (fun h => (put_ne (by decide)).trans h), o12.past (by decide) (fun h => (put_ne (by decide)).trans h), o13.past (by decide) (fun h => (put_ne (by decide)).trans h), .now (put_eq (by have hz := hsz.out; omega)), hK⟩
    · simp at hi1
      omega
end Go.Proofs.YtbppfbkkphhjnaaGreat

namespace Go.Proofs.YtbppfbkkphhjnaaGreat
open Go.RowKit
set_option linter.unusedVariables false
set_option linter.unusedSimpArgs false
set_option maxHeartbeats 2000000
theorem specNeedI (k : Int) (w : World) (k0 : 0 ≤ k) (k1 : k ≤ 15) : Calls Tryz.prog 152 #[iv k] w fun e w' => e = .returned (iv (Pl.need k)) ∧ w' = w := by
  obtain ⟨j, hj, rfl⟩ := Pl.nat_of (n := 16) k0 (by omega)
  exact specNeed j hj w
theorem specSets (w : World) (op z r m k e s : Int) (D : Pl.InD ⟨op, z, r, m, k, e, s⟩) : Calls Tryz.prog 131 #[.agg (inA op z r m k e s)] w fun e' w' => e' = .returned (iv (Pl.sets ⟨op, z, r, m, k, e, s⟩)) ∧ Kept 0 0 w w' := by
  have K0 := hide (kept_alloc w (.cells (inA op z r m k e s) 104))
  have D0 := hide D
  obtain ⟨o0, o1, s0, s1, r0, r1, s6, s3, s2, r2⟩ := D
  simp only at o0 o1 s0 s1 r0 r1 s6 s3 s2 r2
  have B0 := hide (Blk.new w (inA op z r m k e s) 104)
  by_cases hS : op = 11 ∨ op = 12 ∨ op = 15 ∨ op = 19
  · obtain rfl | rfl | rfl | rfl | rfl | rfl | rfl | rfl : s = 0 ∨ s = 1 ∨ s = 2 ∨ s = 3 ∨ s = 4 ∨ s = 5 ∨ s = 6 ∨ s = 7 := by omega
    all_goals
      rcases hS with rfl | rfl | rfl | rfl
    all_goals
      first
      | (exfalso; clear D0 K0; omega)
      | skip
    all_goals
      clear s0 s1 s6 s3 s2 o0 o1
      first
      | with_reducible exact specSets151 w z r m k e
      | go_enter Tryz.func131, Tryz.ntmps131
        go_wp2_with (first | (go_at_call 134; refine st (l1Flag _ _ _) ?_))
        first
        | (go_ret; exact ⟨rI (by rfl), by first | exact K2.out | exact K1.out | exact K0.out | exact kept_drew K0.out⟩)
        | ((go_region_held3 (fun w' => w'.cell? ⟨w.heap.size, 6, none⟩ = some (iv 0)) (first | exact (show Blk _ _ _ _ from B0.out).cell (i := 6) rfl) (first | (go_at_call 134; refine st (l1Flag _ _ _) ?_))); go_wp2_with fail; go_ret; exact ⟨rI (by rfl), by first | exact K2.out | exact K1.out | exact K0.out | exact kept_drew K0.out⟩)
        | ((go_region_held3 (fun w' => w'.cell? ⟨w.heap.size, 6, none⟩ = some (iv 1)) (first | exact (show Blk _ _ _ _ from B0.out).cell (i := 6) rfl) (first | (go_at_call 134; refine st (l1Flag _ _ _) ?_))); go_wp2_with fail; go_ret; exact ⟨rI (by rfl), by first | exact K2.out | exact K1.out | exact K0.out | exact kept_drew K0.out⟩)
        | ((go_region_held3 (fun w' => w'.cell? ⟨w.heap.size, 6, none⟩ = some (iv 2)) (first | exact (show Blk _ _ _ _ from B0.out).cell (i := 6) rfl) (first | (go_at_call 134; refine st (l1Flag _ _ _) ?_))); go_wp2_with fail; go_ret; exact ⟨rI (by rfl), by first | exact K2.out | exact K1.out | exact K0.out | exact kept_drew K0.out⟩)
        | ((go_region_held3 (fun w' => w'.cell? ⟨w.heap.size, 6, none⟩ = some (iv 3)) (first | exact (show Blk _ _ _ _ from B0.out).cell (i := 6) rfl) (first | (go_at_call 134; refine st (l1Flag _ _ _) ?_))); go_wp2_with fail; go_ret; exact ⟨rI (by rfl), by first | exact K2.out | exact K1.out | exact K0.out | exact kept_drew K0.out⟩)
        | ((go_region_held3 (fun w' => w'.cell? ⟨w.heap.size, 6, none⟩ = some (iv 4)) (first | exact (show Blk _ _ _ _ from B0.out).cell (i := 6) rfl) (first | (go_at_call 134; refine st (l1Flag _ _ _) ?_))); go_wp2_with fail; go_ret; exact ⟨rI (by rfl), by first | exact K2.out | exact K1.out | exact K0.out | exact kept_drew K0.out⟩)
        | ((go_region_held3 (fun w' => w'.cell? ⟨w.heap.size, 6, none⟩ = some (iv 5)) (first | exact (show Blk _ _ _ _ from B0.out).cell (i := 6) rfl) (first | (go_at_call 134; refine st (l1Flag _ _ _) ?_))); go_wp2_with fail; go_ret; exact ⟨rI (by rfl), by first | exact K2.out | exact K1.out | exact K0.out | exact kept_drew K0.out⟩)
        | ((go_region_held3 (fun w' => w'.cell? ⟨w.heap.size, 6, none⟩ = some (iv 6)) (first | exact (show Blk _ _ _ _ from B0.out).cell (i := 6) rfl) (first | (go_at_call 134; refine st (l1Flag _ _ _) ?_))); go_wp2_with fail; go_ret; exact ⟨rI (by rfl), by first | exact K2.out | exact K1.out | exact K0.out | exact kept_drew K0.out⟩)
  · have hO : op = 1 ∨ op = 2 ∨ op = 3 ∨ op = 4 ∨ op = 5 ∨ op = 6 ∨ op = 7 ∨ op = 8 ∨ op = 9 ∨ op = 10 ∨ op = 11 ∨ op = 12 ∨ op = 13 ∨ op = 14 ∨ op = 15 ∨ op = 16 ∨ op = 17 ∨ op = 18 ∨ op = 19 := by omega
    clear o0 o1 s6 s3 s2
    rcases hO with rfl | rfl | rfl | rfl | rfl | rfl | rfl | rfl | rfl | rfl | rfl | rfl | rfl | rfl | rfl | rfl | rfl | rfl | rfl
    all_goals
      first
      | (exfalso; clear D0 K0; omega)
      | skip
    all_goals
      have r3 := hide r2
      clear hS r2
      go_enter Tryz.func131, Tryz.ntmps131
      go_wp2_with (first | (go_at_call 134; refine st (l1Flag _ _ _) ?_))
      first
      | (go_ret; exact ⟨rI (by rfl), by first | exact K2.out | exact K1.out | exact K0.out | exact kept_drew K0.out⟩)
      | ((go_region_held3 (fun w' => w'.cell? ⟨w.heap.size, 6, none⟩ = some (iv 0)) (first | exact (show Blk _ _ _ _ from B0.out).cell (i := 6) rfl) (first | (go_at_call 134; refine st (l1Flag _ _ _) ?_))); go_wp2_with fail; go_ret; exact ⟨rI (by rfl), by first | exact K2.out | exact K1.out | exact K0.out | exact kept_drew K0.out⟩)
      | ((go_region_held3 (fun w' => w'.cell? ⟨w.heap.size, 6, none⟩ = some (iv 1)) (first | exact (show Blk _ _ _ _ from B0.out).cell (i := 6) rfl) (first | (go_at_call 134; refine st (l1Flag _ _ _) ?_))); go_wp2_with fail; go_ret; exact ⟨rI (by rfl), by first | exact K2.out | exact K1.out | exact K0.out | exact kept_drew K0.out⟩)
      | ((go_region_held3 (fun w' => w'.cell? ⟨w.heap.size, 6, none⟩ = some (iv 2)) (first | exact (show Blk _ _ _ _ from B0.out).cell (i := 6) rfl) (first | (go_at_call 134; refine st (l1Flag _ _ _) ?_))); go_wp2_with fail; go_ret; exact ⟨rI (by rfl), by first | exact K2.out | exact K1.out | exact K0.out | exact kept_drew K0.out⟩)
      | ((go_region_held3 (fun w' => w'.cell? ⟨w.heap.size, 6, none⟩ = some (iv 3)) (first | exact (show Blk _ _ _ _ from B0.out).cell (i := 6) rfl) (first | (go_at_call 134; refine st (l1Flag _ _ _) ?_))); go_wp2_with fail; go_ret; exact ⟨rI (by rfl), by first | exact K2.out | exact K1.out | exact K0.out | exact kept_drew K0.out⟩)
      | ((go_region_held3 (fun w' => w'.cell? ⟨w.heap.size, 6, none⟩ = some (iv 4)) (first | exact (show Blk _ _ _ _ from B0.out).cell (i := 6) rfl) (first | (go_at_call 134; refine st (l1Flag _ _ _) ?_))); go_wp2_with fail; go_ret; exact ⟨rI (by rfl), by first | exact K2.out | exact K1.out | exact K0.out | exact kept_drew K0.out⟩)
      | ((go_region_held3 (fun w' => w'.cell? ⟨w.heap.size, 6, none⟩ = some (iv 5)) (first | exact (show Blk _ _ _ _ from B0.out).cell (i := 6) rfl) (first | (go_at_call 134; refine st (l1Flag _ _ _) ?_))); go_wp2_with fail; go_ret; exact ⟨rI (by rfl), by first | exact K2.out | exact K1.out | exact K0.out | exact kept_drew K0.out⟩)
      | ((go_region_held3 (fun w' => w'.cell? ⟨w.heap.size, 6, none⟩ = some (iv 6)) (first | exact (show Blk _ _ _ _ from B0.out).cell (i := 6) rfl) (first | (go_at_call 134; refine st (l1Flag _ _ _) ?_))); go_wp2_with fail; go_ret; exact ⟨rI (by rfl), by first | exact K2.out | exact K1.out | exact K0.out | exact kept_drew K0.out⟩)
theorem specReads (w : World) (op z r m k e s : Int) (D : Pl.InD ⟨op, z, r, m, k, e, s⟩) : Calls Tryz.prog 133 #[.agg (inA op z r m k e s)] w fun e' w' => e' = .returned (iv (Pl.reads ⟨op, z, r, m, k, e, s⟩)) ∧ Kept 0 0 w w' := by
  have K0 := hide (kept_alloc w (.cells (inA op z r m k e s) 104))
  have D0 := hide D
  obtain ⟨o0, o1, s0, s1, r0, r1, s6, s3, s2, r2⟩ := D
  simp only at o0 o1 s0 s1 r0 r1 s6 s3 s2 r2
  have ew1 : IntKind.i64.wrap (8 * r) = 8 * r := by rw [IntKind.wrap_i64]; omega
  have ew2 : IntKind.i64.wrap (s + 8 * r) = s + 8 * r := by rw [IntKind.wrap_i64]; omega
  by_cases hS : op = 12 ∨ op = 19
  · obtain rfl | rfl | rfl | rfl | rfl | rfl | rfl | rfl : s = 0 ∨ s = 1 ∨ s = 2 ∨ s = 3 ∨ s = 4 ∨ s = 5 ∨ s = 6 ∨ s = 7 := by omega
    all_goals
      rcases hS with rfl | rfl
    all_goals
      first
      | (exfalso; clear D0 K0; omega)
      | skip
    all_goals
      clear s0 s1 s6 s3 s2 o0 o1
      go_enter Tryz.func133, Tryz.ntmps133
      go_wp2_with (first | (go_at_call 134; refine st (l1Flag _ _ _) ?_) | (go_at_call 152; refine st (specNeedI (s + 8 * r) _ (by omega) (by have := r3.out (by trivial); omega)) ?_))
      go_ret
      exact ⟨rI (by rfl), by first | exact K2.out | exact K1.out | exact K0.out | exact kept_drew K0.out⟩
  · have hO : op = 1 ∨ op = 2 ∨ op = 3 ∨ op = 4 ∨ op = 5 ∨ op = 6 ∨ op = 7 ∨ op = 8 ∨ op = 9 ∨ op = 10 ∨ op = 11 ∨ op = 12 ∨ op = 13 ∨ op = 14 ∨ op = 15 ∨ op = 16 ∨ op = 17 ∨ op = 18 ∨ op = 19 := by omega
    clear o0 o1 s6 s3 s2
    rcases hO with rfl | rfl | rfl | rfl | rfl | rfl | rfl | rfl | rfl | rfl | rfl | rfl | rfl | rfl | rfl | rfl | rfl | rfl | rfl
    all_goals
      first
      | (exfalso; clear D0 K0; omega)
      | skip
    all_goals
      have r3 := hide r2
      clear hS r2
      go_enter Tryz.func133, Tryz.ntmps133
      go_wp2_with (first | (go_at_call 134; refine st (l1Flag _ _ _) ?_) | (go_at_call 152; refine st (specNeedI (s + 8 * r) _ (by omega) (by have := r3.out (by trivial); omega)) ?_))
      go_ret
      exact ⟨rI (by rfl), by first | exact K2.out | exact K1.out | exact K0.out | exact kept_drew K0.out⟩
theorem specMayW (w : World) (op z r m k e s : Int) (D : Pl.InD ⟨op, z, r, m, k, e, s⟩) : Calls Tryz.prog 132 #[.agg (inA op z r m k e s)] w fun e' w' => e' = .returned (.bool (Pl.mayW ⟨op, z, r, m, k, e, s⟩)) ∧ Kept 0 0 w w' := by
  have K0 := hide (kept_alloc w (.cells (inA op z r m k e s) 104))
  have D0 := hide D
  obtain ⟨o0, o1, s0, s1, r0, r1, s6, s3, s2, r2⟩ := D
  simp only at o0 o1 s0 s1 r0 r1 s6 s3 s2 r2
  by_cases hS : op = 11 ∨ op = 14
  · obtain rfl | rfl | rfl | rfl | rfl | rfl | rfl | rfl : s = 0 ∨ s = 1 ∨ s = 2 ∨ s = 3 ∨ s = 4 ∨ s = 5 ∨ s = 6 ∨ s = 7 := by omega
    all_goals
      rcases hS with rfl | rfl
    all_goals
      first
      | (exfalso; clear D0 K0; omega)
      | skip
    all_goals
      clear s0 s1 s6 s3 s2 o0 o1
      go_enter Tryz.func132, Tryz.ntmps132
      go_wp2_with (first | (go_at_call 101; refine st (specMem _ _) ?_))
      go_ret
      exact ⟨rB (by simp [Pl.mayW]), by first | exact K2.out | exact K1.out | exact K0.out | exact kept_drew K0.out⟩
  · have hO : op = 1 ∨ op = 2 ∨ op = 3 ∨ op = 4 ∨ op = 5 ∨ op = 6 ∨ op = 7 ∨ op = 8 ∨ op = 9 ∨ op = 10 ∨ op = 11 ∨ op = 12 ∨ op = 13 ∨ op = 14 ∨ op = 15 ∨ op = 16 ∨ op = 17 ∨ op = 18 ∨ op = 19 := by omega
    clear o0 o1 s6 s3 s2
    rcases hO with rfl | rfl | rfl | rfl | rfl | rfl | rfl | rfl | rfl | rfl | rfl | rfl | rfl | rfl | rfl | rfl | rfl | rfl | rfl
    all_goals
      first
      | (exfalso; clear D0 K0; omega)
      | skip
    all_goals
      have r3 := hide r2
      clear hS r2
      go_enter Tryz.func132, Tryz.ntmps132
      go_wp2_with (first | (go_at_call 101; refine st (specMem _ _) ?_))
      go_ret
      exact ⟨rB (by simp [Pl.mayW]), by first | exact K2.out | exact K1.out | exact K0.out | exact kept_drew K0.out⟩
theorem specMayF (w : World) (op z r m k e s : Int) (D : Pl.InD ⟨op, z, r, m, k, e, s⟩) : Calls Tryz.prog 135 #[.agg (inA op z r m k e s)] w fun e' w' => e' = .returned (.bool (Pl.mayF ⟨op, z, r, m, k, e, s⟩)) ∧ Kept 0 0 w w' := by
  have K0 := hide (kept_alloc w (.cells (inA op z r m k e s) 104))
  have D0 := hide D
  obtain ⟨o0, o1, s0, s1, r0, r1, s6, s3, s2, r2⟩ := D
  simp only at o0 o1 s0 s1 r0 r1 s6 s3 s2 r2
  by_cases hS : op = 14 ∨ op = 15 ∨ op = 19
  · obtain rfl | rfl | rfl | rfl | rfl | rfl | rfl | rfl : s = 0 ∨ s = 1 ∨ s = 2 ∨ s = 3 ∨ s = 4 ∨ s = 5 ∨ s = 6 ∨ s = 7 := by omega
    all_goals
      rcases hS with rfl | rfl | rfl
    all_goals
      first
      | (exfalso; clear D0 K0; omega)
      | skip
    all_goals
      clear s0 s1 s6 s3 s2 o0 o1
      go_enter Tryz.func135, Tryz.ntmps135
      go_wp2_with (first | (go_at_call 101; refine st (specMem _ _) ?_))
      go_ret
      exact ⟨rB (by simp [Pl.mayF]), by first | exact K2.out | exact K1.out | exact K0.out | exact kept_drew K0.out⟩
  · have hO : op = 1 ∨ op = 2 ∨ op = 3 ∨ op = 4 ∨ op = 5 ∨ op = 6 ∨ op = 7 ∨ op = 8 ∨ op = 9 ∨ op = 10 ∨ op = 11 ∨ op = 12 ∨ op = 13 ∨ op = 14 ∨ op = 15 ∨ op = 16 ∨ op = 17 ∨ op = 18 ∨ op = 19 := by omega
    clear o0 o1 s6 s3 s2
    rcases hO with rfl | rfl | rfl | rfl | rfl | rfl | rfl | rfl | rfl | rfl | rfl | rfl | rfl | rfl | rfl | rfl | rfl | rfl | rfl
    all_goals
      first
      | (exfalso; clear D0 K0; omega)
      | skip
    all_goals
      have r3 := hide r2
      clear hS r2
      go_enter Tryz.func135, Tryz.ntmps135
      go_wp2_with (first | (go_at_call 101; refine st (specMem _ _) ?_))
      go_ret
      exact ⟨rB (by simp [Pl.mayF]), by first | exact K2.out | exact K1.out | exact K0.out | exact kept_drew K0.out⟩
end Go.Proofs.YtbppfbkkphhjnaaGreat

namespace Go.Proofs.YtbppfbkkphhjnaaGreat.Pl
set_option linter.unusedVariables false
def sameIn (a b : In) : Bool := (a.op == b.op) && ((a.z == b.z) && ((a.r == b.r) && ((a.m == b.m) && ((a.k == b.k) && ((a.e == b.e) && (a.s == b.s))))))
/-- it comes back from its words -/
def fits (x : In) : Bool := sameIn (decode (word1 x % 65536) x.e) x
def fitZ (x : In) : Bool := !(x.m == 7) || (!(x.z == 1) || within x.e 0 255)
theorem decode_e (w v : Int) : (decode w v).e = bif extM (w / 32 % 8) then v else 0 := by
  show (if longW w = 2 then v else 0) = _
  unfold longW
  cases extM (w / 32 % 8) <;> simp
theorem fits_iff (x : In) : fits x = true ↔ (0 ≤ x.op ∧ x.op ≤ 31) ∧ (1 ≤ x.z ∧ x.z ≤ 2) ∧ (0 ≤ x.r ∧ x.r ≤ 3) ∧ (0 ≤ x.m ∧ x.m ≤ 7) ∧ (0 ≤ x.k ∧ x.k ≤ 3) ∧ (0 ≤ x.s ∧ x.s ≤ 7) ∧ (extM x.m = false → x.e = 0) := by
  obtain ⟨op, z, r, m, k, e, s⟩ := x
  unfold fits
  have hW : word1 ⟨op, z, r, m, k, e, s⟩ % 65536 = (op * 2048 + (z - 1) * 1024 + r * 256 + m * 32 + k * 8 + s) % 65536 := rfl
  generalize word1 ⟨op, z, r, m, k, e, s⟩ % 65536 = W at hW
  unfold sameIn
  rw [decode_e]
  simp only [decode, Bool.and_eq_true, beq_iff_eq]
  constructor
  · rintro ⟨h1, h2, h3, h4, h5, h6, h7⟩
    refine ⟨⟨by omega, by omega⟩, ⟨by omega, by omega⟩, ⟨by omega, by omega⟩, ⟨by omega, by omega⟩, ⟨by omega, by omega⟩, ⟨by omega, by omega⟩, fun q => ?_⟩
    rw [h4, q] at h6
    simpa using h6.symm
  · rintro ⟨⟨a1, a2⟩, ⟨b1, b2⟩, ⟨c1, c2⟩, ⟨d1, d2⟩, ⟨e1, e2⟩, ⟨f1, f2⟩, g⟩
    have hm : W / 32 % 8 = m := by omega
    refine ⟨by omega, by omega, by omega, hm, by omega, ?_, by omega⟩
    rw [hm]
    cases q : extM m
    · rw [g q]; rfl
    · rfl
/-- what is asked one behind the other is what makes a good one -/
theorem ok_of_fits (x : In) : inOk x = (fits x && (opOk x.m x.k x.e && (fitZ x && inKind x))) := by
  cases hf : fits x
  · cases hq : inOk x
    · rfl
    · exfalso
      have h := modeR hq
      have : fits x = true := (fits_iff x).2 ⟨by omega, by omega, by omega, by omega, by omega, by omega, h.2.2.2.2.2.2.2.2.2.2.2.2.2⟩
      rw [hf] at this; cases this
  · obtain ⟨a, b, c, d, e, f, g⟩ := (fits_iff x).1 hf
    obtain ⟨op, z, r, m, k, e', s⟩ := x
    simp only at a b c d e f g
    unfold inOk inBase fitZ byteNow
    simp only
    have w1 : within r 0 3 = true := by simp [within]; omega
    have w2 : within s 0 7 = true := by simp [within]; omega
    have w3 : (decide (z = 1) || decide (z = 2)) = true := by simp; omega
    rw [w1, w2, w3]
    cases ho : opOk m k e'
    · simp
    · have : 0 ≤ e' := by simp [opOk, wordOk, within] at ho; omega
      have w4 : (!((m == 7) && (z == 1) && decide (255 < e'))) = (!(m == 7) || (!(z == 1) || within e' 0 255)) := by
        rw [Bool.eq_iff_iff]; simp [within]; omega
      rw [w4]
      simp
end Go.Proofs.YtbppfbkkphhjnaaGreat.Pl

namespace Go.Proofs.YtbppfbkkphhjnaaGreat
open Go.RowKit
set_option linter.unusedVariables false
theorem modes {m : Int} (h : Pl.modeOk m = true) : m = 0 ∨ m = 1 ∨ m = 2 ∨ m = 3 ∨ m = 4 ∨ m = 5 ∨ m = 6 ∨ m = 7 := by
  simp [Pl.modeOk, Pl.within] at h
  omega
theorem eqOp (m k e k' e' : Int) (w : World) : (binOp .eql 102 (.agg #[iv m, iv k', iv e']) (.agg #[iv m, iv k, iv e])).run Tryz.prog w = .ok (.bool ((k' == k) && (e' == e))) w := by
  go_simp
  by_cases h1 : k' = k <;> by_cases h2 : e' = e <;> simp [h1, h2]
theorem implGoodOperand (w : World) (m k e : Int) (wfm : (Lit.int .i64 m).wf = true) (wfk : (Lit.int .i64 k).wf = true) (wfe : (Lit.int .i64 e).wf = true) :
    Calls Tryz.prog 149 #[.agg #[iv m, iv k, iv e]] w fun r w' => r = .returned (.bool (Pl.opOk m k e)) ∧ Kept 0 0 w w' := by
  obtain ⟨lo, hi⟩ := wfB wfe
  cases h : Pl.modeOk m
  · have G : Hid (Pl.opOk m k e = false) := hide (by unfold Pl.opOk; rw [h]; rfl)
    have K0 := hide (kept_alloc w (.cells #[iv m, iv k, iv e] 102))
    go_enter Tryz.func149, Tryz.ntmps149
    go_wp2_with fail
    refine (wayOfNo m k e _ h).mono ?_
    rintro r w1 ⟨rfl, k1⟩
    have K1 := hide (K0.out.trans k1)
    clear k1
    go_wp2_with fail
    go_quiet (fail)
    go_wp2_with fail
    go_ret
    exact ⟨rB (by rw [G.out]), kept_drewN K1.out _⟩
  · rcases modes h with rfl | rfl | rfl | rfl | rfl | rfl | rfl | rfl
    · have q := goodOp 0 k e w 183 194 (.agg #[iv k]) _ _ lo hi (fun w => wayOf0 k e w) (fun w => meth0 _ w) (fun w => operand0 k e w) fn0 (fun w => eqOp 0 k e k 0 w)
      have G : (((k : Int) == k) && ((0 : Int) == e) && (Pl.within k 0 3 && Pl.wordOk e)) = Pl.opOk 0 k e := by
        unfold Pl.opOk
        rw [show Pl.modeOk 0 = true from by decide, show decide ((0 : Int) < 6) = true from by decide, show Pl.extM 0 = false from by decide, Bool.eq_iff_iff]
        simp
        grind
      rw [G] at q
      exact q
    · have q := goodOp 1 k e w 184 195 (.agg #[iv k]) _ _ lo hi (fun w => wayOf1 k e w) (fun w => meth1 _ w) (fun w => operand1 k e w) fn1 (fun w => eqOp 1 k e k 0 w)
      have G : (((k : Int) == k) && ((0 : Int) == e) && (Pl.within k 0 3 && Pl.wordOk e)) = Pl.opOk 1 k e := by
        unfold Pl.opOk
        rw [show Pl.modeOk 1 = true from by decide, show decide ((1 : Int) < 6) = true from by decide, show Pl.extM 1 = false from by decide, Bool.eq_iff_iff]
        simp
        grind
      rw [G] at q
      exact q
    · have q := goodOp 2 k e w 185 196 (.agg #[iv k]) _ _ lo hi (fun w => wayOf2 k e w) (fun w => meth2 _ w) (fun w => operand2 k e w) fn2 (fun w => eqOp 2 k e k 0 w)
      have G : (((k : Int) == k) && ((0 : Int) == e) && (Pl.within k 0 3 && Pl.wordOk e)) = Pl.opOk 2 k e := by
        unfold Pl.opOk
        rw [show Pl.modeOk 2 = true from by decide, show decide ((2 : Int) < 6) = true from by decide, show Pl.extM 2 = false from by decide, Bool.eq_iff_iff]
        simp
        grind
      rw [G] at q
      exact q
    · have q := goodOp 3 k e w 186 197 (.agg #[iv k]) _ _ lo hi (fun w => wayOf3 k e w) (fun w => meth3 _ w) (fun w => operand3 k e w) fn3 (fun w => eqOp 3 k e k 0 w)
      have G : (((k : Int) == k) && ((0 : Int) == e) && (Pl.within k 0 3 && Pl.wordOk e)) = Pl.opOk 3 k e := by
        unfold Pl.opOk
        rw [show Pl.modeOk 3 = true from by decide, show decide ((3 : Int) < 6) = true from by decide, show Pl.extM 3 = false from by decide, Bool.eq_iff_iff]
        simp
        grind
      rw [G] at q
      exact q
    · have q := goodOp 4 k e w 187 198 (.agg #[iv k]) _ _ lo hi (fun w => wayOf4 k e w) (fun w => meth4 _ w) (fun w => operand4 k e w) fn4 (fun w => eqOp 4 k e k 0 w)
      have G : (((k : Int) == k) && ((0 : Int) == e) && (Pl.within k 0 3 && Pl.wordOk e)) = Pl.opOk 4 k e := by
        unfold Pl.opOk
        rw [show Pl.modeOk 4 = true from by decide, show decide ((4 : Int) < 6) = true from by decide, show Pl.extM 4 = false from by decide, Bool.eq_iff_iff]
        simp
        grind
      rw [G] at q
      exact q
    · have q := goodOp 5 k e w 189 199 (.agg #[iv k, iv e]) _ _ lo hi (fun w => wayOf5 k e w) (fun w => meth5 _ w) (fun w => operand5 k e w) fn5 (fun w => eqOp 5 k e k e w)
      have G : (((k : Int) == k) && ((e : Int) == e) && (Pl.within k 0 3 && Pl.wordOk e)) = Pl.opOk 5 k e := by
        unfold Pl.opOk
        rw [show Pl.modeOk 5 = true from by decide, show decide ((5 : Int) < 6) = true from by decide, show Pl.extM 5 = true from by decide, Bool.eq_iff_iff]
        simp
        skip
      rw [G] at q
      exact q
    · have q := goodOp 6 k e w 191 200 (.agg #[iv e]) _ _ lo hi (fun w => wayOf6 k e w) (fun w => meth6 _ w) (fun w => operand6 k e w) fn6 (fun w => eqOp 6 k e 0 e w)
      have G : (((0 : Int) == k) && ((e : Int) == e) && (Pl.within k 0 3 && Pl.wordOk e)) = Pl.opOk 6 k e := by
        unfold Pl.opOk
        rw [show Pl.modeOk 6 = true from by decide, show decide ((6 : Int) < 6) = false from by decide, show Pl.extM 6 = true from by decide, Bool.eq_iff_iff]
        simp
        grind
      rw [G] at q
      exact q
    · have q := goodOp 7 k e w 192 201 (.agg #[iv e]) _ _ lo hi (fun w => wayOf7 k e w) (fun w => meth7 _ w) (fun w => operand7 k e w) fn7 (fun w => eqOp 7 k e 0 e w)
      have G : (((0 : Int) == k) && ((e : Int) == e) && (Pl.within k 0 3 && Pl.wordOk e)) = Pl.opOk 7 k e := by
        unfold Pl.opOk
        rw [show Pl.modeOk 7 = true from by decide, show decide ((7 : Int) < 6) = false from by decide, show Pl.extM 7 = true from by decide, Bool.eq_iff_iff]
        simp
        grind
      rw [G] at q
      exact q
end Go.Proofs.YtbppfbkkphhjnaaGreat

namespace Go.Proofs.YtbppfbkkphhjnaaGreat
open Go.RowKit
set_option linter.unusedVariables false
theorem ta05 (v : Value) (w : World) : (Instr.typeAssert (.iface 183 v) 177 189 true).run Tryz.prog w = .ok (.tuple #[.agg #[iv 0, iv 0], .bool false]) w := by kernel_rfl
theorem ta06 (v : Value) (w : World) : (Instr.typeAssert (.iface 183 v) 177 191 true).run Tryz.prog w = .ok (.tuple #[.agg #[iv 0], .bool false]) w := by kernel_rfl
theorem ta07 (v : Value) (w : World) : (Instr.typeAssert (.iface 183 v) 177 192 true).run Tryz.prog w = .ok (.tuple #[.agg #[iv 0], .bool false]) w := by kernel_rfl
theorem ta15 (v : Value) (w : World) : (Instr.typeAssert (.iface 184 v) 177 189 true).run Tryz.prog w = .ok (.tuple #[.agg #[iv 0, iv 0], .bool false]) w := by kernel_rfl
theorem ta16 (v : Value) (w : World) : (Instr.typeAssert (.iface 184 v) 177 191 true).run Tryz.prog w = .ok (.tuple #[.agg #[iv 0], .bool false]) w := by kernel_rfl
theorem ta17 (v : Value) (w : World) : (Instr.typeAssert (.iface 184 v) 177 192 true).run Tryz.prog w = .ok (.tuple #[.agg #[iv 0], .bool false]) w := by kernel_rfl
theorem ta25 (v : Value) (w : World) : (Instr.typeAssert (.iface 185 v) 177 189 true).run Tryz.prog w = .ok (.tuple #[.agg #[iv 0, iv 0], .bool false]) w := by kernel_rfl
theorem ta26 (v : Value) (w : World) : (Instr.typeAssert (.iface 185 v) 177 191 true).run Tryz.prog w = .ok (.tuple #[.agg #[iv 0], .bool false]) w := by kernel_rfl
theorem ta27 (v : Value) (w : World) : (Instr.typeAssert (.iface 185 v) 177 192 true).run Tryz.prog w = .ok (.tuple #[.agg #[iv 0], .bool false]) w := by kernel_rfl
theorem ta35 (v : Value) (w : World) : (Instr.typeAssert (.iface 186 v) 177 189 true).run Tryz.prog w = .ok (.tuple #[.agg #[iv 0, iv 0], .bool false]) w := by kernel_rfl
theorem ta36 (v : Value) (w : World) : (Instr.typeAssert (.iface 186 v) 177 191 true).run Tryz.prog w = .ok (.tuple #[.agg #[iv 0], .bool false]) w := by kernel_rfl
theorem ta37 (v : Value) (w : World) : (Instr.typeAssert (.iface 186 v) 177 192 true).run Tryz.prog w = .ok (.tuple #[.agg #[iv 0], .bool false]) w := by kernel_rfl
theorem ta45 (v : Value) (w : World) : (Instr.typeAssert (.iface 187 v) 177 189 true).run Tryz.prog w = .ok (.tuple #[.agg #[iv 0, iv 0], .bool false]) w := by kernel_rfl
theorem ta46 (v : Value) (w : World) : (Instr.typeAssert (.iface 187 v) 177 191 true).run Tryz.prog w = .ok (.tuple #[.agg #[iv 0], .bool false]) w := by kernel_rfl
theorem ta47 (v : Value) (w : World) : (Instr.typeAssert (.iface 187 v) 177 192 true).run Tryz.prog w = .ok (.tuple #[.agg #[iv 0], .bool false]) w := by kernel_rfl
theorem ta55 (v : Value) (w : World) : (Instr.typeAssert (.iface 189 v) 177 189 true).run Tryz.prog w = .ok (.tuple #[v, .bool true]) w := by kernel_rfl
theorem ta56 (v : Value) (w : World) : (Instr.typeAssert (.iface 189 v) 177 191 true).run Tryz.prog w = .ok (.tuple #[.agg #[iv 0], .bool false]) w := by kernel_rfl
theorem ta57 (v : Value) (w : World) : (Instr.typeAssert (.iface 189 v) 177 192 true).run Tryz.prog w = .ok (.tuple #[.agg #[iv 0], .bool false]) w := by kernel_rfl
theorem ta65 (v : Value) (w : World) : (Instr.typeAssert (.iface 191 v) 177 189 true).run Tryz.prog w = .ok (.tuple #[.agg #[iv 0, iv 0], .bool false]) w := by kernel_rfl
theorem ta66 (v : Value) (w : World) : (Instr.typeAssert (.iface 191 v) 177 191 true).run Tryz.prog w = .ok (.tuple #[v, .bool true]) w := by kernel_rfl
theorem ta67 (v : Value) (w : World) : (Instr.typeAssert (.iface 191 v) 177 192 true).run Tryz.prog w = .ok (.tuple #[.agg #[iv 0], .bool false]) w := by kernel_rfl
theorem ta75 (v : Value) (w : World) : (Instr.typeAssert (.iface 192 v) 177 189 true).run Tryz.prog w = .ok (.tuple #[.agg #[iv 0, iv 0], .bool false]) w := by kernel_rfl
theorem ta76 (v : Value) (w : World) : (Instr.typeAssert (.iface 192 v) 177 191 true).run Tryz.prog w = .ok (.tuple #[.agg #[iv 0], .bool false]) w := by kernel_rfl
theorem ta77 (v : Value) (w : World) : (Instr.typeAssert (.iface 192 v) 177 192 true).run Tryz.prog w = .ok (.tuple #[v, .bool true]) w := by kernel_rfl
theorem hasExt0 (v : Value) (w : World) : Calls Tryz.prog 166 #[.iface 183 v] w fun r w' => r = .returned (.bool false) ∧ w' = w := by
  have t5 := ta05
  have t6 := ta06
  have t7 := ta07
  go_enter Tryz.func166, Tryz.ntmps166
  go_wp2
  go_ret
  exact ⟨rfl, rfl⟩
theorem hasExt1 (v : Value) (w : World) : Calls Tryz.prog 166 #[.iface 184 v] w fun r w' => r = .returned (.bool false) ∧ w' = w := by
  have t5 := ta15
  have t6 := ta16
  have t7 := ta17
  go_enter Tryz.func166, Tryz.ntmps166
  go_wp2
  go_ret
  exact ⟨rfl, rfl⟩
theorem hasExt2 (v : Value) (w : World) : Calls Tryz.prog 166 #[.iface 185 v] w fun r w' => r = .returned (.bool false) ∧ w' = w := by
  have t5 := ta25
  have t6 := ta26
  have t7 := ta27
  go_enter Tryz.func166, Tryz.ntmps166
  go_wp2
  go_ret
  exact ⟨rfl, rfl⟩
theorem hasExt3 (v : Value) (w : World) : Calls Tryz.prog 166 #[.iface 186 v] w fun r w' => r = .returned (.bool false) ∧ w' = w := by
  have t5 := ta35
  have t6 := ta36
  have t7 := ta37
  go_enter Tryz.func166, Tryz.ntmps166
  go_wp2
  go_ret
  exact ⟨rfl, rfl⟩
theorem hasExt4 (v : Value) (w : World) : Calls Tryz.prog 166 #[.iface 187 v] w fun r w' => r = .returned (.bool false) ∧ w' = w := by
  have t5 := ta45
  have t6 := ta46
  have t7 := ta47
  go_enter Tryz.func166, Tryz.ntmps166
  go_wp2
  go_ret
  exact ⟨rfl, rfl⟩
theorem hasExt5 (v : Value) (w : World) : Calls Tryz.prog 166 #[.iface 189 v] w fun r w' => r = .returned (.bool true) ∧ w' = w := by
  have t5 := ta55
  have t6 := ta56
  have t7 := ta57
  go_enter Tryz.func166, Tryz.ntmps166
  go_wp2
  go_ret
  exact ⟨rfl, rfl⟩
theorem hasExt6 (v : Value) (w : World) : Calls Tryz.prog 166 #[.iface 191 v] w fun r w' => r = .returned (.bool true) ∧ w' = w := by
  have t5 := ta65
  have t6 := ta66
  have t7 := ta67
  go_enter Tryz.func166, Tryz.ntmps166
  go_wp2
  go_ret
  exact ⟨rfl, rfl⟩
theorem hasExt7 (v : Value) (w : World) : Calls Tryz.prog 166 #[.iface 192 v] w fun r w' => r = .returned (.bool true) ∧ w' = w := by
  have t5 := ta75
  have t6 := ta76
  have t7 := ta77
  go_enter Tryz.func166, Tryz.ntmps166
  go_wp2
  go_ret
  exact ⟨rfl, rfl⟩
end Go.Proofs.YtbppfbkkphhjnaaGreat

namespace Go.Proofs.YtbppfbkkphhjnaaGreat
open Go.RowKit
set_option linter.unusedVariables false
theorem implNeedsExt (w : World) (m : Int) (wfm : (Lit.int .i64 m).wf = true) :
    Calls Tryz.prog 145 #[iv m] w fun r w' => r = .returned (.tuple #[.bool (Pl.modeOk m && Pl.extM m), .bool (Pl.modeOk m)]) ∧ Kept 0 0 w w' := by
  cases h : Pl.modeOk m
  · go_enter Tryz.func145, Tryz.ntmps145
    go_wp2_with (first | (go_at_call 165; refine (wayOfNo m 0 0 _ h).mono ?_; rintro r w1 ⟨rfl, k1⟩))
    go_quiet (fail)
    go_wp2_with fail
    go_ret2
    exact ⟨by simp, kept_drewN k1 _⟩
  · rcases modes h with rfl | rfl | rfl | rfl | rfl | rfl | rfl | rfl
    · go_enter Tryz.func145, Tryz.ntmps145
      go_wp2_with (first | (go_at_call 165; refine (wayOf0 0 0 _).mono ?_; rintro r w1 ⟨rfl, k1⟩))
      go_quiet (first | (go_at_call 166; exact Calls.quiet_of_same (hasExt0 _ _)) | fail)
      go_wp2_with fail
      go_ret2
      exact ⟨rfl, kept_drewN k1 _⟩
    · go_enter Tryz.func145, Tryz.ntmps145
      go_wp2_with (first | (go_at_call 165; refine (wayOf1 0 0 _).mono ?_; rintro r w1 ⟨rfl, k1⟩))
      go_quiet (first | (go_at_call 166; exact Calls.quiet_of_same (hasExt1 _ _)) | fail)
      go_wp2_with fail
      go_ret2
      exact ⟨rfl, kept_drewN k1 _⟩
    · go_enter Tryz.func145, Tryz.ntmps145
      go_wp2_with (first | (go_at_call 165; refine (wayOf2 0 0 _).mono ?_; rintro r w1 ⟨rfl, k1⟩))
      go_quiet (first | (go_at_call 166; exact Calls.quiet_of_same (hasExt2 _ _)) | fail)
      go_wp2_with fail
      go_ret2
      exact ⟨rfl, kept_drewN k1 _⟩
    · go_enter Tryz.func145, Tryz.ntmps145
      go_wp2_with (first | (go_at_call 165; refine (wayOf3 0 0 _).mono ?_; rintro r w1 ⟨rfl, k1⟩))
      go_quiet (first | (go_at_call 166; exact Calls.quiet_of_same (hasExt3 _ _)) | fail)
      go_wp2_with fail
      go_ret2
      exact ⟨rfl, kept_drewN k1 _⟩
    · go_enter Tryz.func145, Tryz.ntmps145
      go_wp2_with (first | (go_at_call 165; refine (wayOf4 0 0 _).mono ?_; rintro r w1 ⟨rfl, k1⟩))
      go_quiet (first | (go_at_call 166; exact Calls.quiet_of_same (hasExt4 _ _)) | fail)
      go_wp2_with fail
      go_ret2
      exact ⟨rfl, kept_drewN k1 _⟩
    · go_enter Tryz.func145, Tryz.ntmps145
      go_wp2_with (first | (go_at_call 165; refine (wayOf5 0 0 _).mono ?_; rintro r w1 ⟨rfl, k1⟩))
      go_quiet (first | (go_at_call 166; exact Calls.quiet_of_same (hasExt5 _ _)) | fail)
      go_wp2_with fail
      go_ret2
      exact ⟨rfl, kept_drewN k1 _⟩
    · go_enter Tryz.func145, Tryz.ntmps145
      go_wp2_with (first | (go_at_call 165; refine (wayOf6 0 0 _).mono ?_; rintro r w1 ⟨rfl, k1⟩))
      go_quiet (first | (go_at_call 166; exact Calls.quiet_of_same (hasExt6 _ _)) | fail)
      go_wp2_with fail
      go_ret2
      exact ⟨rfl, kept_drewN k1 _⟩
    · go_enter Tryz.func145, Tryz.ntmps145
      go_wp2_with (first | (go_at_call 165; refine (wayOf7 0 0 _).mono ?_; rintro r w1 ⟨rfl, k1⟩))
      go_quiet (first | (go_at_call 166; exact Calls.quiet_of_same (hasExt7 _ _)) | fail)
      go_wp2_with fail
      go_ret2
      exact ⟨rfl, kept_drewN k1 _⟩
end Go.Proofs.YtbppfbkkphhjnaaGreat

namespace Go.Proofs.YtbppfbkkphhjnaaGreat
open Go.RowKit
set_option linter.unusedVariables false
theorem wrapWord (v : Int) (w : World) : Calls Tryz.prog 109 #[iv v] w fun e w' => e = .returned (iv (v % 65536)) ∧ w' = w := by
  have hW := IntKind.wrap_u16 v
  go_enter Tryz.func109, Tryz.ntmps109
  go_wp2
  go_ret
  exact ⟨rfl, rfl⟩
end Go.Proofs.YtbppfbkkphhjnaaGreat

