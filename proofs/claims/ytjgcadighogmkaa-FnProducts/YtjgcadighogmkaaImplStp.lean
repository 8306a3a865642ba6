/- What the program's DivSteps answers. -/
import Derived.Test.YtjgcadighogmkaaImplDiv
import Derived.Test.YtjgcadighogmkaaImplBoo
namespace Go.Proofs.Ytjgcadighogmkaa
open Go.RowKit Go.Shelf
attribute [local go_sem] Oper.semAt_some
set_option linter.unusedVariables false
set_option linter.unusedSimpArgs false
theorem stepOn (r t b : Int) (w : World) (hr : -32767 ≤ r ∧ r ≤ 32767) (ht : 0 ≤ t ∧ t ≤ 1) (hb : 1 ≤ b ∧ b ≤ 32767) :
    Calls Try.prog 58 #[.int .i64 r, .int .i64 t, .int .i64 b] w fun e w' => e = .returned (.int .i64 (if 0 ≤ r then r * 2 + t - b else r * 2 + t + b)) ∧ w' = w := by
  by_cases h : 0 ≤ r
  · rw [if_pos h]
    go_enter Try.func58, Try.ntmps58
    go_wp2
    go_ret
    exact ⟨rfl, rfl⟩
  · rw [if_neg h]
    go_enter Try.func58, Try.ntmps58
    go_wp2
    go_ret
    exact ⟨rfl, rfl⟩
theorem signDigit (n : Int) (w : World) : Calls Try.prog 59 #[.int .i64 n] w fun e w' => e = .returned (.int .i64 (if 0 ≤ n then 1 else -1)) ∧ w' = w := by
  by_cases h : 0 ≤ n
  · rw [if_pos h]
    go_enter Try.func59, Try.ntmps59
    go_wp2
    go_ret
    exact ⟨rfl, rfl⟩
  · rw [if_neg h]
    go_enter Try.func59, Try.ntmps59
    go_wp2
    go_ret
    exact ⟨rfl, rfl⟩
/-- between two rounds: by, the row of digits, the box that names it, what is left -/
structure StAt (w X : World) (b r : Int) (xs : List Int) : Prop where
  bl : Below w.heap.size w X
  y : Boxed X w.heap.size 3 (.int .i64 b)
  row : Own X (w.heap.size + 1) (xs ++ List.replicate (16 - xs.length) 0)
  d : Boxed X (w.heap.size + 2) 28 (.slice (some ⟨w.heap.size + 1, 0, none⟩) xs.length 16)
  r : Boxed X (w.heap.size + 3) 3 (.int .i64 r)
theorem own_setOther {X : World} {g i : Nat} {xs : List Int} (h : Own X g xs) (hn : g ≠ i) (u : Value) : Own (X.setCell ⟨i, 0, none⟩ u) g xs := h.setOther i 0 u hn
theorem StAt.setR {w X : World} {b r : Int} {xs : List Int} (h : StAt w X b r xs) (z : Int) : StAt w (X.setCell ⟨w.heap.size + 3, 0, none⟩ (.int .i64 z)) b z xs :=
  ⟨h.bl.setCell (p := ⟨w.heap.size + 3, 0, none⟩) (Nat.le_add_right _ _) _, h.y.other (by omega) _, own_setOther h.row (by omega) _, h.d.other (by omega) _, h.r.set _⟩
theorem StAt.below {w X Y : World} {b r : Int} {xs : List Int} {B : Nat} (h : StAt w X b r xs) (k : Below B X Y) (hB : w.heap.size + 4 ≤ B) : StAt w Y b r xs :=
  ⟨h.bl.trans (k.mono (by omega)), boxed_below h.y k (by omega), own_below h.row k (by omega), boxed_below h.d k (by omega), boxed_below h.r k (by omega)⟩
theorem boxed_setAt {X : World} {B B' i : Nat} {t : TypeId} {v u : Value} (h : Boxed X B t v) (hn : B ≠ B') : Boxed (X.setCell ⟨B', i, none⟩ u) B t v := (Below.heap_setCell _ _ _ _ hn).trans h
theorem StAt.app {w X : World} {b r : Int} {xs : List Int} (h : StAt w X b r xs) (z : Int) (hl : xs.length < 16) :
    StAt w (((X.alloc (.cells #[.int .i64 z] 3)).setCell ⟨w.heap.size + 1, xs.length, none⟩ (.int .i64 z)).setCell ⟨w.heap.size + 2, 0, none⟩ (.slice (some ⟨w.heap.size + 1, 0, none⟩) (xs.length + 1) 16)).drew b r (xs ++ [z]) := by
  have hlt := h.r.lt
  have hA := h.below ((Below.refl (w.heap.size + 4) X).alloc (by omega) (.cells #[.int .i64 z] 3)) (Nat.le_refl _)
  revert hA
  generalize X.alloc (.cells #[.int .i64 z] 3) = A
  intro hA
  have hrow := hA.row.set (k := xs.length) z
  rw [set_next z rfl (by omega)] at hrow
  refine ⟨((hA.bl.setCell (p := ⟨w.heap.size + 1, xs.length, none⟩) (Nat.le_add_right _ _) _).setCell (p := ⟨w.heap.size + 2, 0, none⟩) (Nat.le_add_right _ _) _).drew, boxed_setAt (boxed_setAt hA.y (by omega)) (by omega), ?_, ?_, boxed_setAt (boxed_setAt hA.r (by omega)) (by omega)⟩
  · have e : 16 - (xs ++ [z]).length = 16 - xs.length - 1 := by simp; omega
    rw [e]
    exact own_setOther hrow (by omega) _
  · rw [List.length_append]
    exact (boxed_setAt hA.d (by omega)).set _
theorem keep_app {w X : World} {B c n : Nat} {z : Int} {u v : Value} (h1 : w.heap.size + 2 < B) (h2 : w.heap.size + 2 < c) :
    Keep B c X (((X.alloc (.cells #[.int .i64 z] 3)).setCell ⟨w.heap.size + 1, n, none⟩ v).setCell ⟨w.heap.size + 2, 0, none⟩ u).drew :=
  ((((Keep.refl B c X).alloc _).setCell (p := ⟨w.heap.size + 1, n, none⟩) (show w.heap.size + 1 < B by omega) (show w.heap.size + 1 ≠ c by omega) v).setCell (p := ⟨w.heap.size + 2, 0, none⟩) (show w.heap.size + 2 < B by omega) (show w.heap.size + 2 ≠ c by omega) u).drew
theorem mk0i (w : World) : (Instr.makeSlice 28 (.int .i64 0) (.int .i64 16)).run Try.prog w = .ok (.slice (some ⟨w.heap.size, 0, none⟩) 0 16) (w.alloc (.cells (Array.replicate 16 (.int .i64 0)) 3)) := by kernel_rfl
set_option maxHeartbeats 4000000 in
set_option maxRecDepth 20000 in
theorem implDivSteps (w : World) (l b : Int) (wfl : (Lit.int .i64 l).wf = true) (wfb : (Lit.int .i64 b).wf = true) : Calls Try.prog 29 #[.int .i64 l, .int .i64 b] w fun e w' => StepsRet w l b e w' := by
  have no : Pl.sOk l b = false → Hid (Pl.sOk l b = false ∧ Pl.stV l b = [] ∧ Pl.stR l b = 0) := fun q => hide ⟨q, by simp [Pl.stV, q], by simp [Pl.stR, q]⟩
  cases hl : Pl.wOk l
  · have E := no (by simp [Pl.sOk, hl])
    clear no
    go_enter Try.func29, Try.ntmps29
    go_wp2_with (go_at_call 45; refine (isWordM _ _ (by assumption)).mono ?_; rintro e9 w9 ⟨rfl, hw⟩; have hw2 := hw.symm; clear hw; subst hw2; rw [hl])
    go_ret3
    exact ⟨none, 0, by rw [E.out.1, E.out.2.1, E.out.2.2]; rfl, .inl ⟨rfl, E.out.2.1⟩, kept_alloc _ _⟩
  · by_cases h1 : b < 1
    · have E := no (by simp [Pl.sOk]; omega)
      clear no
      go_enter Try.func29, Try.ntmps29
      go_wp2_with (go_at_call 45; refine (isWordM _ _ (by assumption)).mono ?_; rintro e9 w9 ⟨rfl, hw⟩; have hw2 := hw.symm; clear hw; subst hw2; rw [hl])
      go_ret3
      exact ⟨none, 0, by rw [E.out.1, E.out.2.1, E.out.2.2]; rfl, .inl ⟨rfl, E.out.2.1⟩, kept_alloc _ _⟩
    · by_cases h2 : 32767 < b
      · have E := no (by simp [Pl.sOk]; omega)
        clear no
        go_enter Try.func29, Try.ntmps29
        go_wp2_with (go_at_call 45; refine (isWordM _ _ (by assumption)).mono ?_; rintro e9 w9 ⟨rfl, hw⟩; have hw2 := hw.symm; clear hw; subst hw2; rw [hl])
        go_ret3
        exact ⟨none, 0, by rw [E.out.1, E.out.2.1, E.out.2.2]; rfl, .inl ⟨rfl, E.out.2.1⟩, kept_alloc _ _⟩
      · clear no
        have b0 : 1 ≤ b := by omega
        have b1 : b ≤ 32767 := by omega
        clear h1 h2
        obtain ⟨l0, l1⟩ := Pl.wOk_ok hl
        have ok : Pl.sOk l b = true := by simp [Pl.sOk, hl, b0, b1]
        have E : Hid (Pl.sOk l b = true ∧ Pl.stV l b = Pl.steps l b 16 ∧ Pl.stR l b = Pl.sRest l b) := hide ⟨ok, by simp [Pl.stV, ok], by simp [Pl.stR, ok]⟩
        clear ok
        have HI := hide (fun m hm => sL_bd b0 b1 l0 m hm)
        have mk := mk0i
        refine (callsIn_wide (n := 9)).1 (callsIn_of_wp_marks Try.func29 rfl trivial ?_ rfl)
        simp only [Try.ntmps29, List.size_toArray, List.length_cons, List.length_nil, Nat.reduceAdd, Nat.reduceSub, Array.replicate_succ, Array.replicate_zero, List.push_toArray, List.append_toArray, List.nil_append, List.cons_append]
        gi_wp2_with (first | (refine ⟨trivial, ?_⟩; gi_at_call 45; refine (callsIn_wide.2 (isWordM _ _ (by assumption))).mono ?_; rintro e9 w9 ⟨rfl, hw⟩; have hw2 := hw.symm; clear hw; subst hw2; rw [hl]) | (refine ⟨trivial, ?_⟩; gi_at_call 55; refine (callsIn_wide.2 (bitsDown l _)).mono ?_; rintro e9 w9 ⟨rfl, hw⟩; have hw2 := hw.symm; clear hw; subst hw2))
        clear mk
        have hY : Boxed (((((w.alloc (.cells #[.int .i64 b] 3)).alloc (.cells (Array.replicate 16 (.int .i64 0)) 3)).alloc (.cells #[.slice (some ⟨w.heap.size + 1, 0, none⟩) 0 16] 28)).alloc (.cells #[.int .i64 0] 3)).alloc (.cells #[.int .i64 l] 3)) (w.heap.size + 0) 3 (.int .i64 b) := by
          have := (((((Boxed.new w 3 (.int .i64 b)).alloc (.cells (Array.replicate 16 (.int .i64 0)) 3)).alloc (.cells #[.slice (some ⟨w.heap.size + 1, 0, none⟩) 0 16] 28)).alloc (.cells #[.int .i64 0] 3)).alloc (.cells #[.int .i64 l] 3))
          simpa using this
        have hRow : Own (((((w.alloc (.cells #[.int .i64 b] 3)).alloc (.cells (Array.replicate 16 (.int .i64 0)) 3)).alloc (.cells #[.slice (some ⟨w.heap.size + 1, 0, none⟩) 0 16] 28)).alloc (.cells #[.int .i64 0] 3)).alloc (.cells #[.int .i64 l] 3)) (w.heap.size + 1) (Pl.steps l b 0 ++ List.replicate (16 - (Pl.steps l b 0).length) 0) := by
          have h1 := own_new16 (w.alloc (.cells #[.int .i64 b] 3))
          rw [World.size_alloc] at h1
          exact own_below h1 ((((Below.refl (w.heap.size + 2) _).alloc (by simp) _).alloc (by simp) _).alloc (by simp) _) (by omega)
        have hD : Boxed (((((w.alloc (.cells #[.int .i64 b] 3)).alloc (.cells (Array.replicate 16 (.int .i64 0)) 3)).alloc (.cells #[.slice (some ⟨w.heap.size + 1, 0, none⟩) 0 16] 28)).alloc (.cells #[.int .i64 0] 3)).alloc (.cells #[.int .i64 l] 3)) (w.heap.size + 2) 28 (.slice (some ⟨w.heap.size + 1, 0, none⟩) 0 16) := by
          have := (((Boxed.new ((w.alloc (.cells #[.int .i64 b] 3)).alloc (.cells (Array.replicate 16 (.int .i64 0)) 3)) 28 (.slice (some ⟨w.heap.size + 1, 0, none⟩) 0 16)).alloc (.cells #[.int .i64 0] 3)).alloc (.cells #[.int .i64 l] 3))
          simpa using this
        have hR : Boxed (((((w.alloc (.cells #[.int .i64 b] 3)).alloc (.cells (Array.replicate 16 (.int .i64 0)) 3)).alloc (.cells #[.slice (some ⟨w.heap.size + 1, 0, none⟩) 0 16] 28)).alloc (.cells #[.int .i64 0] 3)).alloc (.cells #[.int .i64 l] 3)) (w.heap.size + 3) 3 (.int .i64 0) := by
          have := ((Boxed.new (((w.alloc (.cells #[.int .i64 b] 3)).alloc (.cells (Array.replicate 16 (.int .i64 0)) 3)).alloc (.cells #[.slice (some ⟨w.heap.size + 1, 0, none⟩) 0 16] 28)) 3 (.int .i64 0)).alloc (.cells #[.int .i64 l] 3))
          simpa using this
        have hC : Boxed (((((w.alloc (.cells #[.int .i64 b] 3)).alloc (.cells (Array.replicate 16 (.int .i64 0)) 3)).alloc (.cells #[.slice (some ⟨w.heap.size + 1, 0, none⟩) 0 16] 28)).alloc (.cells #[.int .i64 0] 3)).alloc (.cells #[.int .i64 l] 3)) (w.heap.size + 4) 3 (.int .i64 l) := by
          have := (Boxed.new ((((w.alloc (.cells #[.int .i64 b] 3)).alloc (.cells (Array.replicate 16 (.int .i64 0)) 3)).alloc (.cells #[.slice (some ⟨w.heap.size + 1, 0, none⟩) 0 16] 28)).alloc (.cells #[.int .i64 0] 3)) 3 (.int .i64 l))
          simpa using this
        have hBW : Below w.heap.size w (((((w.alloc (.cells #[.int .i64 b] 3)).alloc (.cells (Array.replicate 16 (.int .i64 0)) 3)).alloc (.cells #[.slice (some ⟨w.heap.size + 1, 0, none⟩) 0 16] 28)).alloc (.cells #[.int .i64 0] 3)).alloc (.cells #[.int .i64 l] 3)) := (((((Below.refl _ w).alloc (Nat.le_refl _) _).alloc (by simp) _).alloc (by simp; omega) _).alloc (by simp; omega) _).alloc (by simp; omega) _
        have hSz : (((((w.alloc (.cells #[.int .i64 b] 3)).alloc (.cells (Array.replicate 16 (.int .i64 0)) 3)).alloc (.cells #[.slice (some ⟨w.heap.size + 1, 0, none⟩) 0 16] 28)).alloc (.cells #[.int .i64 0] 3)).alloc (.cells #[.int .i64 l] 3)).heap.size = w.heap.size + 5 := by simp
        revert hY hRow hD hR hC hBW hSz
        generalize (((((w.alloc (.cells #[.int .i64 b] 3)).alloc (.cells (Array.replicate 16 (.int .i64 0)) 3)).alloc (.cells #[.slice (some ⟨w.heap.size + 1, 0, none⟩) 0 16] 28)).alloc (.cells #[.int .i64 0] 3)).alloc (.cells #[.int .i64 l] 3)) = w0
        intro hY hRow hD hR hC hBW hSz
        refine wp_range (downGives hl (w.heap.size + 4)) rfl (enters_of Try.func68 (by kernel_rfl) rfl) hC (fun _ => rfl)
          (fun k X => StAt w X b (Pl.sL l b k) (Pl.steps l b k))
          (fun k X Y hs hb => hs.below hb (by omega))
          ⟨hBW, hY, hRow, hD, hR⟩
          (fun k => { tmps := #[.int .i64 l, .int .i64 b, undef, .pointer (some ⟨w.heap.size, 0, none⟩), .slice none 0 0, .int .i64 0, .bool false, .pointer (some ⟨w.heap.size + 2, 0, none⟩), .pointer (some ⟨w.heap.size + 3, 0, none⟩), .int .i64 (Pl.wbit l (15 - k)), .int .i64 l, .bool true, .bool false, .bool false, .int .i64 b, .bool (decide (b < 1)), .bool (decide (b < 1)), .bool (decide (b < 1)), .int .i64 b, .bool (decide (32767 < b)), .bool (decide (b < 1) || decide (32767 < b)), .slice (some ⟨w.heap.size + 1, 0, none⟩) 0 16, .int .i64 l, .func (.func 68) #[] #[.pointer (some ⟨w.heap.size + 4, 0, none⟩)], .int .i64 (Pl.wbit l (15 - k)), undef, undef, undef, undef, undef, undef, undef, undef, undef, undef, undef, undef, undef, undef, undef, undef], defers := [] }) ?assign ?body ?done
        case assign =>
          intro l' k X K hK
          gi_wp2
          exact hK
        case body =>
          intro l' k X hk hS hs
          rw [hSz] at hs ⊢
          have r1 := HI.out k (by omega)
          have t1 : 0 ≤ Pl.wbit l (15 - k) ∧ Pl.wbit l (15 - k) ≤ 1 := by have := Pl.wbit_bd l (15 - k); omega
          have ER : Hid (Pl.sL l b (k + 1) = if 0 ≤ Pl.sL l b k then Pl.sL l b k * 2 + Pl.wbit l (15 - k) - b else Pl.sL l b k * 2 + Pl.wbit l (15 - k) + b) := hide (by show (if _ then _ else _) = _; rw [Int.mul_comm])
          have ED : Hid (Pl.sD l b k = if 0 ≤ Pl.sL l b (k + 1) then 1 else -1) := hide rfl
          have EL := hide (Pl.steps_len l b k)
          rw [Pl.steps_snoc]
          revert hS r1 t1 ER ED EL
          generalize Pl.sL l b (k + 1) = r'
          generalize Pl.sL l b k = r
          generalize Pl.wbit l (15 - k) = t
          generalize Pl.sD l b k = z
          generalize Pl.steps l b k = xs
          intro hS r1 t1 ER ED EL
          have hcY := hS.y.cell
          have hcR := hS.r.cell
          have hfR := hS.r.frozen
          gi_wp2_with (refine ⟨trivial, ?_⟩; gi_at_call 58; refine (CallsIn.inRound l' (callsIn_wide.2 (stepOn r t b _ r1 t1 ⟨b0, b1⟩))).mono ?_; rintro e9 w9 ⟨rfl, hw⟩; have hw2 := hw.symm; clear hw; subst hw2; rw [← ER.out])
          have hS2 := hS.setR r'
          have hk2 : Keep (w.heap.size + 5) (w.heap.size + 4) X (X.setCell ⟨w.heap.size + 3, 0, none⟩ (.int .i64 r')) := keep_set (Keep.refl _ _ _) (by omega) (by omega) _
          clear hcY hcR hfR
          revert hS2 hk2
          generalize X.setCell ⟨w.heap.size + 3, 0, none⟩ (.int .i64 r') = X1
          intro hS2 hk2
          have hcD := hS2.d.cell
          have hfD := hS2.d.frozen
          have hcR2 := hS2.r.cell
          have hlt1 := hS2.r.lt
          have hL : xs.length ≤ 15 := by rw [EL.out]; omega
          have hA := hS2.below ((Below.refl (w.heap.size + 4) X1).alloc (by omega) (.cells #[.int .i64 z] 3)) (Nat.le_refl _)
          obtain ⟨hcE, hfE⟩ := hA.row xs.length (by simp; omega)
          have hcD2 := hA.d.cell
          have hfD2 := hA.d.frozen
          have HS := hide hS2
          have hmx : Try.prog.follows .mixedOrders = true := by kernel_rfl
          clear hS2 hS hA
          gi_region_with_o (refine ⟨trivial, ?_⟩; gi_at_call 59; refine (CallsIn.inRound l' (callsIn_wide.2 (signDigit r' _))).mono ?_; rintro e9 w9 ⟨rfl, hw⟩; have hw2 := hw.symm; clear hw; subst hw2; rw [← ED.out])
          all_goals gi_wp2
          all_goals exact ⟨HS.out.app z (by omega), hk2.trans (keep_app (by omega) (by omega))⟩
        case done =>
          intro X hS hK
          rw [hSz] at hK ⊢
          have r1 := HI.out 16 (Nat.le_refl _)
          have fin : ∀ (Z : World) (q : Int), StAt w Z b q (Pl.steps l b 16) → q = Pl.sRest l b → Z.heap[(w.heap.size + 5)]? = some (.deferred (some [])) → (w.heap.size + 5) < Z.heap.size →
              StepsRet w l b (.returned (.tuple #[.slice (some ⟨w.heap.size + 1, 0, none⟩) 16 16, .int .i64 q, .bool true])) (Z.putObj (w.heap.size + 5) (.deferred none)) := by
            intro Z q hZ hq _ hzl
            refine ⟨some ⟨w.heap.size + 1, 0, none⟩, 16, by rw [E.out.1, E.out.2.1, E.out.2.2, Pl.steps_len, hq], .inr ⟨w.heap.size + 1, rfl, by omega, by simp; omega, ?_⟩, kept_below (hZ.bl.trans (below_put (by omega) _))⟩
            rw [E.out.2.1]
            have := own_below hZ.row (below_put (B := w.heap.size + 2) (l := (w.heap.size + 5)) (W := Z) (by omega) (.deferred none)) (by omega)
            rw [Pl.steps_len] at this
            simpa using this
          have hKl := (Array.getElem?_eq_some_iff.1 hK).1
          have ES : Hid (Pl.sRest l b = if Pl.sL l b 16 < 0 then Pl.sL l b 16 + b else Pl.sL l b 16) := hide rfl
          have hcY := hS.y.cell
          have hcR := hS.r.cell
          have hfR := hS.r.frozen
          have hcD := hS.d.cell
          rw [Pl.steps_len] at hcD
          have HF := hide fin
          clear fin
          have HS := hide hS
          clear hS
          revert HF ES HS hcR r1
          generalize Pl.sL l b 16 = r
          generalize Pl.sRest l b = s
          intro r1 ES hcR HF HS
          by_cases hneg : r < 0
          · have es : Hid (r + b = s) := hide (by have := ES.out; rw [if_pos hneg] at this; exact this.symm)
            have hS2 := HS.out.setR (r + b)
            have hK2 : (X.setCell ⟨w.heap.size + 3, 0, none⟩ (.int .i64 (r + b))).heap[(w.heap.size + 5)]? = some (.deferred (some [])) := (Below.heap_setCell _ _ _ _ (by simp)).trans hK
            have hcR2 := hS2.r.cell
            have hcD2 := hS2.d.cell
            rw [Pl.steps_len] at hcD2
            have HS2 := hide hS2
            clear hS2
            gi_wp2
            gi_region
            all_goals gi_wp2
            all_goals
              refine ⟨by simp, .inl ⟨_, _, rfl, run_takeDeferred (w := (X.setCell ⟨w.heap.size + 3, 0, none⟩ (.int .i64 (r + b))).drew) (b := w.heap.size + 5) (ds := []) hK2, ?_⟩⟩
              refine ⟨_, results_tmp3 rfl _ _ _, ?_⟩
              exact HF.out _ _ (HS2.out.below (Below.refl (w.heap.size + 4) _).drew (Nat.le_refl _)) es.out hK2 ((Array.getElem?_eq_some_iff.1 hK2).1)
          · have es : Hid (r = s) := hide (by have := ES.out; rw [if_neg hneg] at this; exact this.symm)
            gi_wp2
            gi_region
            all_goals gi_wp2
            all_goals
              refine ⟨by simp, .inl ⟨_, _, rfl, run_takeDeferred (w := X.drew) (b := w.heap.size + 5) (ds := []) hK, ?_⟩⟩
              refine ⟨_, results_tmp3 rfl _ _ _, ?_⟩
              exact HF.out _ _ (HS.out.below (Below.refl (w.heap.size + 4) _).drew (Nat.le_refl _)) es.out hK hKl
end Go.Proofs.Ytjgcadighogmkaa
