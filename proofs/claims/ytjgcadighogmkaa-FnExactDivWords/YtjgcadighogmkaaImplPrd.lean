/- What the program's three products answer. -/
import Derived.Test.YtjgcadighogmkaaImplSum
import Derived.Test.YtjgcadighogmkaaSpecSteps
import Derived.Test.YtjgcadighogmkaaImplWrap
namespace Go.Proofs.Ytjgcadighogmkaa
open Go.RowKit Go.Shelf
set_option linter.unusedVariables false
set_option linter.unusedSimpArgs false
theorem okv_w (v : Int) : Pl.okv 2 v = Pl.wOk v := by
  unfold Pl.okv Pl.wOk Pl.top
  rw [Bool.eq_iff_iff]; simp; omega
theorem isWordM (v : Int) (w : World) (hw : (Lit.int .i64 v).wf = true) :
    Calls Try.prog 45 #[.int .i64 v] w fun e w' => e = .returned (.bool (Pl.wOk v)) ∧ w' = w := by
  have hb := bounds_i64 hw
  go_enter Try.func45, Try.ntmps45
  go_wp2_with (go_at_call 23; refine (signedOf _ _ _ hb.1 hb.2).mono ?_; rintro e w' ⟨rfl, hw⟩; have hw2 := hw.symm; clear hw; subst hw2; rw [okv_w])
  go_ret
  exact ⟨rfl, rfl⟩
theorem signedPairM (a b : Int) (w : World) (hwa : (Lit.int .i64 a).wf = true) (hwb : (Lit.int .i64 b).wf = true) :
    Calls Try.prog 61 #[.int .i64 2, .int .i64 a, .int .i64 b] w fun e w' => e = .returned (.tuple #[.int .i64 (Pl.sgnV 2 a), .int .i64 (Pl.sgnV 2 b), .bool (Pl.ok2 a b)]) ∧ w' = w := by
  have ha := bounds_i64 hwa
  have hb := bounds_i64 hwb
  unfold Pl.ok2
  rw [← okv_w, ← okv_w]
  cases ka : Pl.okv 2 a
  all_goals
    cases kb : Pl.okv 2 b
    all_goals
      go_enter Try.func61, Try.ntmps61
      go_wp2_with fail
      refine (signedOf 2 a _ ha.1 ha.2).mono ?_
      rintro e w' ⟨rfl, rfl⟩
      go_wp2_with fail
      refine (signedOf 2 b _ hb.1 hb.2).mono ?_
      rintro e w' ⟨rfl, rfl⟩
      go_wp2_with fail
      go_ret3
      exact ⟨rIIB rfl rfl rfl, rfl⟩
theorem wordPair (n : Int) (w : World) (h1 : -9223372036854775808 ≤ n) (h2 : n ≤ 9223372036854775807) : Calls Try.prog 46 #[.int .i64 n] w fun e w' => e = .returned (.tuple #[.int .i64 (Pl.hiW n), .int .i64 (Pl.loW n)]) ∧ w' = w := by
  go_enter Try.func46, Try.ntmps46
  go_wp2_with (go_at_call 65; refine (wrapWord _ _).mono ?_; rintro e9 w9 ⟨rfl, hw⟩; have hw2 := hw.symm; clear hw; subst hw2)
  go_ret2
  exact ⟨rfl, rfl⟩
theorem dsm_booth (v : Int) : ∀ k, Pl.dsm (Pl.bdig v) k = Pl.bsum v k
  | 0 => rfl
  | k + 1 => by show Pl.dsm (Pl.bdig v) k + _ = Pl.bsum v k + _; rw [dsm_booth v k]
theorem dsm_plain (v : Int) : ∀ k, Pl.dsm (Pl.wbit v) k = v % Pl.p2 k
  | 0 => by rw [Pl.p2_zero]; show 0 = v % 1; omega
  | k + 1 => by rw [Pl.mod_succ]; show Pl.dsm (Pl.wbit v) k + _ = _; rw [dsm_plain v k]
theorem dsm_same {d d' : Nat → Int} : ∀ k, (∀ j, j < k → d j = d' j) → Pl.dsm d k = Pl.dsm d' k
  | 0, _ => rfl
  | k + 1, h => by show Pl.dsm d k + d k * _ = Pl.dsm d' k + d' k * _; rw [dsm_same k (fun j hj => h j (by omega)), h k (by omega)]
theorem dsm_word {v : Int} (h : Pl.wOk v = true) : Pl.dsm (Pl.wbit v) 16 = v := by
  have := Pl.wOk_ok h
  rw [dsm_plain, Pl.p2_16]; omega
theorem dsm_signed {v : Int} (h : Pl.wOk v = true) : Pl.dsm (Pl.sdig v) 16 = Pl.sg 2 v := by
  obtain ⟨h0, h1⟩ := Pl.wOk_ok h
  show Pl.dsm (Pl.sdig v) 15 + Pl.sdig v 15 * Pl.p2 15 = _
  rw [dsm_same (d := Pl.sdig v) (d' := Pl.wbit v) 15 (fun j hj => if_neg (show ¬ j = 15 by omega)), dsm_plain]
  have e1 : Pl.sdig v 15 = -(Pl.wbit v 15) := rfl
  have e2 : Pl.p2 15 = 32768 := by decide
  have e3 : Pl.wbit v 15 = v / 32768 % 2 := rfl
  rw [e1, e2, e3]
  unfold Pl.sg Pl.top
  simp
  split <;> omega
theorem wbit_in (v : Int) (k : Nat) : -1 ≤ Pl.wbit v k ∧ Pl.wbit v k ≤ 1 := by have := Pl.wbit_bd v k; omega
theorem sdig_in (v : Int) (k : Nat) : -1 ≤ Pl.sdig v k ∧ Pl.sdig v k ≤ 1 := by
  have := Pl.wbit_bd v k
  unfold Pl.sdig
  split <;> omega
theorem signedProduct (a b : Int) (w : World) (hwa : (Lit.int .i64 a).wf = true) (hwb : (Lit.int .i64 b).wf = true) {gf : Nat} {lb : Array Value} {c : Nat} {o : Obj} {d : Nat → Int} (hd : ∀ k, -1 ≤ d k ∧ d k ≤ 1)
    (hG : Pl.wOk b = true → Gives Try.prog gf lb c o (encP d) 16) (eg : ∀ args w, (callFunc gf args).run Try.prog w = .ok (.enter gf args) w) (hc : w.heap[c]? = some o) (hs : Pl.wOk b = true → Pl.dsm d 16 = Pl.sg 2 b) :
    Calls Try.prog 38 #[.int .i64 a, .int .i64 b, .func (.func gf) #[] lb] w fun e w' => e = .returned (.tuple #[.int .i64 (Pl.smH a b), .int .i64 (Pl.smL a b), .bool (Pl.ok2 a b)]) ∧ Kept 0 0 w w' := by
  unfold Pl.smH Pl.smL
  cases ok : Pl.ok2 a b
  · go_enter Try.func38, Try.ntmps38
    go_wp2_with (go_at_call 61; refine (signedPairM a b _ hwa hwb).mono ?_; rintro e9 w9 ⟨rfl, hw⟩; have hw2 := hw.symm; clear hw; subst hw2; rw [ok])
    go_ret3
    exact ⟨rfl, Kept.refl _ _ _⟩
  · obtain ⟨oa, ob⟩ : Pl.wOk a = true ∧ Pl.wOk b = true := by unfold Pl.ok2 at ok; simpa using ok
    obtain ⟨a0, a1⟩ := Pl.wOk_ok oa
    obtain ⟨b0, b1⟩ := Pl.wOk_ok ob
    obtain ⟨s0, s1⟩ := Pl.sg_bd2 a0 (by omega)
    obtain ⟨t0, t1⟩ := Pl.sg_bd2 b0 (by omega)
    have ea : Pl.sgnV 2 a = Pl.sg 2 a := by unfold Pl.sgnV; rw [okv_w, oa]; rfl
    obtain ⟨m0, m1⟩ := smul_bd s0 s1 (show -65536 ≤ Pl.sg 2 b by omega) (by omega)
    go_enter Try.func38, Try.ntmps38
    go_wp2_with (first | (go_at_call 61; refine (signedPairM a b _ hwa hwb).mono ?_; rintro e9 w9 ⟨rfl, hw⟩; have hw2 := hw.symm; clear hw; subst hw2; rw [ok, ea]) | (go_at_call 47; refine (sumOfShifts (show -65536 ≤ Pl.sg 2 a ∧ Pl.sg 2 a ≤ 65536 by omega) hd _ (hG ob) eg hc).mono ?_; rintro e9 w2 ⟨rfl, k2⟩; rw [hs ob]) | (go_at_call 46; refine (wordPair _ _ (by omega) (by omega)).mono ?_; rintro e9 w9 ⟨rfl, hw⟩; have hw2 := hw.symm; clear hw; subst hw2))
    go_ret3
    exact ⟨rfl, k2⟩
theorem implMulWords (w : World) (a b : Int) (wfa : (Lit.int .i64 a).wf = true) (wfb : (Lit.int .i64 b).wf = true) : Calls Try.prog 17 #[.int .i64 a, .int .i64 b] w fun e w' => e = .returned (.tuple #[.int .i64 (Pl.mulH a b), .int .i64 (Pl.mulL a b), .bool (Pl.ok2 a b)]) ∧ Kept 0 0 w w' := by
  unfold Pl.mulH Pl.mulL Pl.ok2
  cases ha : Pl.wOk a
  · go_enter Try.func17, Try.ntmps17
    go_wp2_with (go_at_call 45; refine (isWordM _ _ wfa).mono ?_; rintro e9 w9 ⟨rfl, hw⟩; have hw2 := hw.symm; clear hw; subst hw2; rw [ha])
    go_ret3
    exact ⟨rfl, Kept.refl _ _ _⟩
  · cases hb : Pl.wOk b
    · go_enter Try.func17, Try.ntmps17
      go_wp2_with (first | (go_at_call 45; have z9 := Z1; refine (isWordM b _ wfb).mono ?_; rintro e9 w9 ⟨rfl, hw⟩; have hw2 := hw.symm; clear hw; subst hw2; rw [hb]) | (go_at_call 45; refine (isWordM a _ wfa).mono ?_; rintro e9 w9 ⟨rfl, hw⟩; have hw2 := hw.symm; clear hw; subst hw2; rw [ha]; have Z1 : True := trivial))
      go_ret3
      exact ⟨rfl, Kept.refl _ _ _⟩
    · obtain ⟨a0, a1⟩ := Pl.wOk_ok ha
      obtain ⟨b0, b1⟩ := Pl.wOk_ok hb
      obtain ⟨m0, m1⟩ := mul_bd a0 a1 b0 b1
      have EH : Hid (Pl.hiW (a * b) = a * b / 65536) := hide (by unfold Pl.hiW; omega)
      go_enter Try.func17, Try.ntmps17
      go_wp2_with (first | (go_at_call 45; have z9 := Z1; refine (isWordM b _ wfb).mono ?_; rintro e9 w9 ⟨rfl, hw⟩; have hw2 := hw.symm; clear hw; subst hw2; rw [hb]) | (go_at_call 45; refine (isWordM a _ wfa).mono ?_; rintro e9 w9 ⟨rfl, hw⟩; have hw2 := hw.symm; clear hw; subst hw2; rw [ha]; have Z1 : True := trivial) | (go_at_call 48; refine (plainDigits b _).mono ?_; rintro e9 w9 ⟨rfl, hw⟩; have hw2 := hw.symm; clear hw; subst hw2) | (go_at_call 47; refine (sumOfShifts (show -65536 ≤ a ∧ a ≤ 65536 by omega) (wbit_in b) _ (plainGives hb w.heap.size) (enters_of Try.func66 (by kernel_rfl) rfl) (World.alloc_heap_new w _)).mono ?_; rintro e9 w2 ⟨rfl, k2⟩; rw [dsm_word hb]) | (go_at_call 46; refine (wordPair _ _ (by omega) (by omega)).mono ?_; rintro e9 w9 ⟨rfl, hw⟩; have hw2 := hw.symm; clear hw; subst hw2; rw [EH.out]))
      go_ret3
      exact ⟨rfl, (kept_alloc w _).trans k2⟩
theorem implMulBooth (w : World) (a b : Int) (wfa : (Lit.int .i64 a).wf = true) (wfb : (Lit.int .i64 b).wf = true) : Calls Try.prog 13 #[.int .i64 a, .int .i64 b] w fun e w' => e = .returned (.tuple #[.int .i64 (Pl.smH a b), .int .i64 (Pl.smL a b), .bool (Pl.ok2 a b)]) ∧ Kept 0 0 w w' := by
  go_enter Try.func13, Try.ntmps13
  go_wp2_with (first | (go_at_call 39; refine (boothDigits b _).mono ?_; rintro e9 w9 ⟨rfl, hw⟩; have hw2 := hw.symm; clear hw; subst hw2) | (go_at_call 38; refine (signedProduct a b _ wfa wfb (Pl.bdig_bd b) (fun ob => boothGives ob w.heap.size) (enters_of Try.func62 (by kernel_rfl) rfl) (World.alloc_heap_new w _) (fun ob => (dsm_booth b 16).trans (Pl.bsum_16 ob))).mono ?_; rintro e9 w2 ⟨rfl, k2⟩))
  go_ret3
  exact ⟨rfl, (kept_alloc w _).trans k2⟩
theorem implMulSigned (w : World) (a b : Int) (wfa : (Lit.int .i64 a).wf = true) (wfb : (Lit.int .i64 b).wf = true) : Calls Try.prog 15 #[.int .i64 a, .int .i64 b] w fun e w' => e = .returned (.tuple #[.int .i64 (Pl.smH a b), .int .i64 (Pl.smL a b), .bool (Pl.ok2 a b)]) ∧ Kept 0 0 w w' := by
  go_enter Try.func15, Try.ntmps15
  go_wp2_with (first | (go_at_call 44; refine (signedDigits b _).mono ?_; rintro e9 w9 ⟨rfl, hw⟩; have hw2 := hw.symm; clear hw; subst hw2) | (go_at_call 38; refine (signedProduct a b _ wfa wfb (sdig_in b) (fun ob => signedGives ob w.heap.size) (enters_of Try.func64 (by kernel_rfl) rfl) (World.alloc_heap_new w _) (fun ob => dsm_signed ob)).mono ?_; rintro e9 w2 ⟨rfl, k2⟩))
  go_ret3
  exact ⟨rfl, (kept_alloc w _).trans k2⟩
end Go.Proofs.Ytjgcadighogmkaa
