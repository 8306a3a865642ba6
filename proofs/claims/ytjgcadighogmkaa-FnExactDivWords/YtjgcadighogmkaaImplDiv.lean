/- What the program's DivWords answers. -/
import Derived.Test.YtjgcadighogmkaaImplPrd
namespace Go.Proofs.Ytjgcadighogmkaa
open Go.RowKit Go.Shelf
attribute [local go_sem] Oper.semAt_some
set_option linter.unusedVariables false
set_option linter.unusedSimpArgs false
/-- between two rounds: by, the quotient, what is left, how often it was taken away -/
structure DvAt (w X : World) (b q r n : Int) : Prop where
  bl : Below w.heap.size w X
  y : Boxed X w.heap.size 3 (.int .i64 b)
  q : Boxed X (w.heap.size + 1) 3 (.int .i64 q)
  r : Boxed X (w.heap.size + 2) 3 (.int .i64 r)
  n : Boxed X (w.heap.size + 3) 3 (.int .i64 n)
theorem DvAt.setQ {w X : World} {b q r n : Int} (h : DvAt w X b q r n) (z : Int) : DvAt w (X.setCell ⟨w.heap.size + 1, 0, none⟩ (.int .i64 z)) b z r n :=
  ⟨h.bl.setCell (p := ⟨w.heap.size + 1, 0, none⟩) (Nat.le_add_right _ _) _, h.y.other (by omega) _, h.q.set _, h.r.other (by omega) _, h.n.other (by omega) _⟩
theorem DvAt.setR {w X : World} {b q r n : Int} (h : DvAt w X b q r n) (z : Int) : DvAt w (X.setCell ⟨w.heap.size + 2, 0, none⟩ (.int .i64 z)) b q z n :=
  ⟨h.bl.setCell (p := ⟨w.heap.size + 2, 0, none⟩) (Nat.le_add_right _ _) _, h.y.other (by omega) _, h.q.other (by omega) _, h.r.set _, h.n.other (by omega) _⟩
theorem DvAt.setN {w X : World} {b q r n : Int} (h : DvAt w X b q r n) (z : Int) : DvAt w (X.setCell ⟨w.heap.size + 3, 0, none⟩ (.int .i64 z)) b q r z :=
  ⟨h.bl.setCell (p := ⟨w.heap.size + 3, 0, none⟩) (Nat.le_add_right _ _) _, h.y.other (by omega) _, h.q.other (by omega) _, h.r.other (by omega) _, h.n.set _⟩
theorem DvAt.below {w X Y : World} {b q r n : Int} {B : Nat} (h : DvAt w X b q r n) (k : Below B X Y) (hB : w.heap.size + 4 ≤ B) : DvAt w Y b q r n :=
  ⟨h.bl.trans (k.mono (by omega)), boxed_below h.y k (by omega), boxed_below h.q k (by omega), boxed_below h.r k (by omega), boxed_below h.n k (by omega)⟩
theorem keep_set {B c i : Nat} {X Y : World} (h : Keep B c X Y) (h1 : i < B) (h2 : i ≠ c) (u : Value) : Keep B c X (Y.setCell ⟨i, 0, none⟩ u) := h.setCell (p := ⟨i, 0, none⟩) h1 h2 u
set_option maxHeartbeats 4000000 in
set_option maxRecDepth 20000 in
theorem implDivWords (w : World) (h l b : Int) (wfh : (Lit.int .i64 h).wf = true) (wfl : (Lit.int .i64 l).wf = true) (wfb : (Lit.int .i64 b).wf = true) : Calls Try.prog 25 #[.int .i64 h, .int .i64 l, .int .i64 b] w fun e w' => e = .returned (.tuple #[.int .i64 (Pl.dvQ h l b), .int .i64 (Pl.dvR h l b), .int .i64 (Pl.dvN h l b), .bool (Pl.dOk h l b)]) ∧ Kept 0 0 w w' := by
  have no : Pl.dOk h l b = false → Hid (Pl.dvQ h l b = 0 ∧ Pl.dvR h l b = 0 ∧ Pl.dvN h l b = 0 ∧ Pl.dOk h l b = false) := fun q => by
    refine hide ⟨?_, ?_, ?_, q⟩ <;> simp [Pl.dvQ, Pl.dvR, Pl.dvN, q]
  cases hh : Pl.wOk h
  · have E := no (by simp [Pl.dOk, hh])
    clear no
    go_enter Try.func25, Try.ntmps25
    go_wp2_with (go_at_call 45; refine (isWordM _ _ (by assumption)).mono ?_; rintro e9 w9 ⟨rfl, hw⟩; have hw2 := hw.symm; clear hw; subst hw2; rw [hh])
    exact bodyPost_ret (v := .tuple #[.int .i64 0, .int .i64 0, .int .i64 0, .bool false]) (by simp [results, Try.results25, go_sem]) rfl ⟨by rw [E.out.1, E.out.2.1, E.out.2.2.1, E.out.2.2.2], kept_alloc _ _⟩
  · cases hl : Pl.wOk l
    · have E := no (by simp [Pl.dOk, hl])
      clear no
      go_enter Try.func25, Try.ntmps25
      go_wp2_with (go_at_call 45; refine (isWordM _ _ (by assumption)).mono ?_; rintro e9 w9 ⟨rfl, hw⟩; have hw2 := hw.symm; clear hw; subst hw2; first | rw [hh] | rw [hl])
      exact bodyPost_ret (v := .tuple #[.int .i64 0, .int .i64 0, .int .i64 0, .bool false]) (by simp [results, Try.results25, go_sem]) rfl ⟨by rw [E.out.1, E.out.2.1, E.out.2.2.1, E.out.2.2.2], kept_alloc _ _⟩
    · cases hb : Pl.wOk b
      · have E := no (by have : ¬ (1 ≤ b ∧ b ≤ 65535) := by intro q; simp [Pl.wOk] at hb; omega
                         simp [Pl.dOk]; omega)
        clear no
        go_enter Try.func25, Try.ntmps25
        go_wp2_with (go_at_call 45; refine (isWordM _ _ (by assumption)).mono ?_; rintro e9 w9 ⟨rfl, hw⟩; have hw2 := hw.symm; clear hw; subst hw2; first | rw [hh] | rw [hl] | rw [hb])
        exact bodyPost_ret (v := .tuple #[.int .i64 0, .int .i64 0, .int .i64 0, .bool false]) (by simp [results, Try.results25, go_sem]) rfl ⟨by rw [E.out.1, E.out.2.1, E.out.2.2.1, E.out.2.2.2], kept_alloc _ _⟩
      · obtain ⟨h0, h1⟩ := Pl.wOk_ok hh
        obtain ⟨l0, l1⟩ := Pl.wOk_ok hl
        obtain ⟨b0, b1⟩ := Pl.wOk_ok hb
        by_cases hc : b ≤ h
        · have E := no (by simp [Pl.dOk]; omega)
          clear no
          go_enter Try.func25, Try.ntmps25
          go_wp2_with (go_at_call 45; refine (isWordM _ _ (by assumption)).mono ?_; rintro e9 w9 ⟨rfl, hw⟩; have hw2 := hw.symm; clear hw; subst hw2; first | rw [hh] | rw [hl] | rw [hb])
          exact bodyPost_ret (v := .tuple #[.int .i64 0, .int .i64 0, .int .i64 0, .bool false]) (by simp [results, Try.results25, go_sem]) rfl ⟨by rw [E.out.1, E.out.2.1, E.out.2.2.1, E.out.2.2.2], kept_alloc _ _⟩
        · clear no
          have ok : Pl.dOk h l b = true := by simp [Pl.dOk, hh, hl]; omega
          have E : Hid (Pl.dvQ h l b = Pl.dQ h l b 16 ∧ Pl.dvR h l b = Pl.dR h l b 16 ∧ Pl.dvN h l b = Pl.dN h l b 16 ∧ Pl.dOk h l b = true) := by
            refine hide ⟨?_, ?_, ?_, ok⟩ <;> simp [Pl.dvQ, Pl.dvR, Pl.dvN, ok]
          clear ok
          refine (callsIn_wide (n := 9)).1 (callsIn_of_wp_marks Try.func25 rfl trivial ?_ rfl)
          simp only [Try.ntmps25, List.size_toArray, List.length_cons, List.length_nil, Nat.reduceAdd, Nat.reduceSub, Array.replicate_succ, Array.replicate_zero, List.push_toArray, List.append_toArray, List.nil_append, List.cons_append]
          gi_wp2_with (first | (refine ⟨trivial, ?_⟩; gi_at_call 45; refine (callsIn_wide.2 (isWordM _ _ (by assumption))).mono ?_; rintro e9 w9 ⟨rfl, hw⟩; have hw2 := hw.symm; clear hw; subst hw2; first | rw [hh] | rw [hl] | rw [hb]) | (refine ⟨trivial, ?_⟩; gi_at_call 55; refine (callsIn_wide.2 (bitsDown l _)).mono ?_; rintro e9 w9 ⟨rfl, hw⟩; have hw2 := hw.symm; clear hw; subst hw2))
          have hY : Boxed (((((w.alloc (.cells #[.int .i64 b] 3)).alloc (.cells #[.int .i64 0] 3)).alloc (.cells #[.int .i64 h] 3)).alloc (.cells #[.int .i64 0] 3)).alloc (.cells #[.int .i64 l] 3)) (w.heap.size + 0) 3 (.int .i64 b) := by
            have := (((((Boxed.new w 3 (.int .i64 b)).alloc (.cells #[.int .i64 0] 3)).alloc (.cells #[.int .i64 h] 3)).alloc (.cells #[.int .i64 0] 3)).alloc (.cells #[.int .i64 l] 3))
            simpa using this
          have hQ : Boxed (((((w.alloc (.cells #[.int .i64 b] 3)).alloc (.cells #[.int .i64 0] 3)).alloc (.cells #[.int .i64 h] 3)).alloc (.cells #[.int .i64 0] 3)).alloc (.cells #[.int .i64 l] 3)) (w.heap.size + 1) 3 (.int .i64 0) := by
            have := ((((Boxed.new (w.alloc (.cells #[.int .i64 b] 3)) 3 (.int .i64 0)).alloc (.cells #[.int .i64 h] 3)).alloc (.cells #[.int .i64 0] 3)).alloc (.cells #[.int .i64 l] 3))
            simpa using this
          have hR : Boxed (((((w.alloc (.cells #[.int .i64 b] 3)).alloc (.cells #[.int .i64 0] 3)).alloc (.cells #[.int .i64 h] 3)).alloc (.cells #[.int .i64 0] 3)).alloc (.cells #[.int .i64 l] 3)) (w.heap.size + 2) 3 (.int .i64 h) := by
            have := (((Boxed.new ((w.alloc (.cells #[.int .i64 b] 3)).alloc (.cells #[.int .i64 0] 3)) 3 (.int .i64 h)).alloc (.cells #[.int .i64 0] 3)).alloc (.cells #[.int .i64 l] 3))
            simpa using this
          have hN : Boxed (((((w.alloc (.cells #[.int .i64 b] 3)).alloc (.cells #[.int .i64 0] 3)).alloc (.cells #[.int .i64 h] 3)).alloc (.cells #[.int .i64 0] 3)).alloc (.cells #[.int .i64 l] 3)) (w.heap.size + 3) 3 (.int .i64 0) := by
            have := ((Boxed.new (((w.alloc (.cells #[.int .i64 b] 3)).alloc (.cells #[.int .i64 0] 3)).alloc (.cells #[.int .i64 h] 3)) 3 (.int .i64 0)).alloc (.cells #[.int .i64 l] 3))
            simpa using this
          have hC : Boxed (((((w.alloc (.cells #[.int .i64 b] 3)).alloc (.cells #[.int .i64 0] 3)).alloc (.cells #[.int .i64 h] 3)).alloc (.cells #[.int .i64 0] 3)).alloc (.cells #[.int .i64 l] 3)) (w.heap.size + 4) 3 (.int .i64 l) := by
            have := (Boxed.new ((((w.alloc (.cells #[.int .i64 b] 3)).alloc (.cells #[.int .i64 0] 3)).alloc (.cells #[.int .i64 h] 3)).alloc (.cells #[.int .i64 0] 3)) 3 (.int .i64 l))
            simpa using this
          have hBW : Below w.heap.size w (((((w.alloc (.cells #[.int .i64 b] 3)).alloc (.cells #[.int .i64 0] 3)).alloc (.cells #[.int .i64 h] 3)).alloc (.cells #[.int .i64 0] 3)).alloc (.cells #[.int .i64 l] 3)) := (((((Below.refl _ w).alloc (Nat.le_refl _) _).alloc (by simp) _).alloc (by simp; omega) _).alloc (by simp; omega) _).alloc (by simp; omega) _
          have hSz : (((((w.alloc (.cells #[.int .i64 b] 3)).alloc (.cells #[.int .i64 0] 3)).alloc (.cells #[.int .i64 h] 3)).alloc (.cells #[.int .i64 0] 3)).alloc (.cells #[.int .i64 l] 3)).heap.size = w.heap.size + 5 := by simp
          revert hY hQ hR hN hC hBW hSz
          generalize (((((w.alloc (.cells #[.int .i64 b] 3)).alloc (.cells #[.int .i64 0] 3)).alloc (.cells #[.int .i64 h] 3)).alloc (.cells #[.int .i64 0] 3)).alloc (.cells #[.int .i64 l] 3)) = w0
          intro hY hQ hR hN hC hBW hSz
          have HI := hide (fun m hm => Pl.div_inv h0 (show h < b by omega) l0 m hm)
          refine wp_range (downGives hl (w.heap.size + 4)) rfl (enters_of Try.func68 (by kernel_rfl) rfl) hC (fun _ => rfl)
            (fun k X => DvAt w X b (Pl.dQ h l b k) (Pl.dR h l b k) (Pl.dN h l b k))
            (fun k X Y hs hb => hs.below hb (by omega))
            ⟨hBW, hY, hQ, hR, hN⟩
            (fun k => { tmps := #[.int .i64 h, .int .i64 l, .int .i64 b, undef, undef, .pointer (some ⟨w.heap.size, 0, none⟩), .int .i64 0, .int .i64 0, .int .i64 0, .bool false, .pointer (some ⟨w.heap.size + 1, 0, none⟩), .pointer (some ⟨w.heap.size + 2, 0, none⟩), .pointer (some ⟨w.heap.size + 3, 0, none⟩), .int .i64 (Pl.wbit l (15 - k)), .int .i64 h, .bool true, .bool false, .bool false, .int .i64 l, .bool true, .bool false, .bool false, .bool false, .int .i64 b, .bool true, .bool false, .bool false, .bool false, .int .i64 h, .int .i64 b, .bool (decide (b ≤ h)), .bool (decide (b ≤ h)), .int .i64 h, .int .i64 l, .func (.func 68) #[] #[.pointer (some ⟨w.heap.size + 4, 0, none⟩)], .int .i64 (Pl.wbit l (15 - k)), undef, undef, undef, undef, undef, undef, undef, undef, undef, undef, undef, undef, undef, undef, undef, undef, undef, undef, undef], defers := [] }) ?assign ?body ?done
          case assign =>
            intro l' k X K hK
            gi_wp2
            exact hK
          case body =>
            intro l' k X hk hD hs
            rw [hSz] at hs ⊢
            have hcY := hD.y.cell
            have hcQ := hD.q.cell
            have hcR := hD.r.cell
            have hcN := hD.n.cell
            have hfQ := hD.q.frozen
            have hfR := hD.r.frozen
            have hfN := hD.n.frozen
            obtain ⟨⟨r0, r1⟩, _, q0, q1⟩ := HI.out k (by omega)
            have q2 := Pl.p2_le (show k ≤ 16 by omega)
            replace q1 : Pl.dQ h l b k ≤ 65536 := by omega
            clear q2
            obtain ⟨n0, n1⟩ := dN_bd h l b k
            replace n1 : Pl.dN h l b k ≤ 16 := by omega
            have t1 : 0 ≤ Pl.wbit l (15 - k) ∧ Pl.wbit l (15 - k) ≤ 1 := by have := Pl.wbit_bd l (15 - k); omega
            have EQ : Hid (Pl.dQ h l b (k + 1) = 2 * Pl.dQ h l b k + (if b ≤ 2 * Pl.dR h l b k + Pl.wbit l (15 - k) then 1 else 0)) := hide rfl
            have ER : Hid (Pl.dR h l b (k + 1) = if b ≤ 2 * Pl.dR h l b k + Pl.wbit l (15 - k) then 2 * Pl.dR h l b k + Pl.wbit l (15 - k) - b else 2 * Pl.dR h l b k + Pl.wbit l (15 - k)) := hide rfl
            have EN : Hid (Pl.dN h l b (k + 1) = Pl.dN h l b k + (if b ≤ 2 * Pl.dR h l b k + Pl.wbit l (15 - k) then 1 else 0)) := hide rfl
            revert EQ ER EN
            generalize Pl.dQ h l b (k + 1) = q'
            generalize Pl.dR h l b (k + 1) = r'
            generalize Pl.dN h l b (k + 1) = n'
            revert hD hcQ hcR hcN r0 r1 q0 q1 n0 n1 t1
            generalize Pl.dQ h l b k = q
            generalize Pl.dR h l b k = r
            generalize Pl.dN h l b k = n
            generalize Pl.wbit l (15 - k) = t
            intro hD hcQ hcR hcN r0 r1 q0 q1 n0 n1 t1 EQ ER EN
            clear HI E
            by_cases hcmp : b ≤ r * 2 + t
            · have e1 : q' = q * 2 + 1 := by have := EQ.out; rw [if_pos (by omega)] at this; omega
              have e2 : r' = r * 2 + t - b := by have := ER.out; rw [if_pos (by omega)] at this; omega
              have e3 : n' = n + 1 := by have := EN.out; rw [if_pos (by omega)] at this; omega
              subst e1 e2 e3
              clear EQ ER EN
              gi_wp2
              exact ⟨((((hD.setQ _).setR _).setR _).setQ _).setN _, keep_set (keep_set (keep_set (keep_set (keep_set (Keep.refl _ _ _) (by omega) (by omega) _) (by omega) (by omega) _) (by omega) (by omega) _) (by omega) (by omega) _) (by omega) (by omega) _⟩
            · have e1 : q' = q * 2 := by have := EQ.out; rw [if_neg (by omega)] at this; omega
              have e2 : r' = r * 2 + t := by have := ER.out; rw [if_neg (by omega)] at this; omega
              have e3 : n' = n := by have := EN.out; rw [if_neg (by omega)] at this; omega
              subst e1 e2 e3
              clear EQ ER EN
              gi_wp2
              exact ⟨(hD.setQ _).setR _, keep_set (keep_set (Keep.refl _ _ _) (by omega) (by omega) _) (by omega) (by omega) _⟩
          case done =>
            rintro X ⟨hB, hY, hQ, hR, hN⟩ hK
            have hcQ := hQ.cell
            have hcR := hR.cell
            have hcN := hN.cell
            gi_wp2
            gi_region
            all_goals gi_wp2
            all_goals
              refine ⟨by simp, .inl ⟨_, _, rfl, run_takeDeferred hK, ?_⟩⟩
              refine ⟨.tuple #[.int .i64 (Pl.dQ h l b 16), .int .i64 (Pl.dR h l b 16), .int .i64 (Pl.dN h l b 16), .bool true], by simp [results, Try.results25, go_sem], by rw [E.out.1, E.out.2.1, E.out.2.2.1, E.out.2.2.2], kept_below (hB.drew.trans (below_put (by omega) _))⟩
end Go.Proofs.Ytjgcadighogmkaa
