/- What the program's BoothDigits answers. -/
import Derived.Test.YtjgcadighogmkaaImplPrd
namespace Go.Proofs.Ytjgcadighogmkaa
open Go.RowKit Go.Shelf
attribute [local go_sem] Oper.semAt_some
set_option linter.unusedVariables false
set_option linter.unusedSimpArgs false
theorem mk16i (w : World) : (Instr.makeSlice 28 (.int .i64 16) (.int .i64 16)).run Try.prog w = .ok (.slice (some ⟨w.heap.size, 0, none⟩) 16 16) (w.alloc (.cells (Array.replicate 16 (.int .i64 0)) 3)) := by kernel_rfl
theorem own_new16 (w : World) : Own (w.alloc (.cells (Array.replicate 16 (.int .i64 0)) 3)) w.heap.size (List.replicate 16 0) := by
  have e : (w.alloc (.cells (Array.replicate 16 (.int .i64 0)) 3)).heap[w.heap.size]? = some (.cells (Array.replicate 16 (.int .i64 0)) 3 (0, 0)) := World.alloc_heap_new w _
  intro i hi
  have hi2 : i < 16 := by simpa using hi
  constructor
  · rw [List.getElem?_replicate, if_pos hi2]
    unfold World.cell?
    dsimp only
    rw [e]
    simp [hi2]
  · unfold World.frozen?
    dsimp only
    rw [e]
    simp
theorem set_next {xs : List Int} {k m : Nat} (z : Int) (h : k = xs.length) (hm : 0 < m) : (xs ++ List.replicate m 0).set k z = (xs ++ [z]) ++ List.replicate (m - 1) 0 := by
  subst h
  obtain ⟨j, rfl⟩ : ∃ j, m = j + 1 := ⟨m - 1, by omega⟩
  rw [List.set_append_right _ _ (Nat.le_refl _)]
  simp [List.replicate_succ]
theorem own_below {w w' : World} {g B : Nat} {xs : List Int} (h : Own w g xs) (k : Below B w w') (hg : g < B) : Own w' g xs := by
  intro i hi
  obtain ⟨hc, hf⟩ := h i hi
  exact ⟨(k.cell (p := ⟨g, i, none⟩) hg).trans hc, (k.frozen (p := ⟨g, i, none⟩) hg).trans hf⟩
set_option maxHeartbeats 4000000 in
theorem implBoothDigits (w : World) (v : Int) (wfv : (Lit.int .i64 v).wf = true) : Calls Try.prog 20 #[.int .i64 v] w fun e w' => ∃ (d : Option Addr) (c : Nat), e = .returned (.tuple #[.slice d (Pl.bdV v).length c, .bool (Pl.wOk v)]) ∧ SlotIn w' w.heap.size w'.heap.size d (Pl.bdV v) ∧ Kept 0 0 w w' := by
  cases h : Pl.wOk v
  · have E : Hid (Pl.bdV v = []) := hide (by simp [Pl.bdV, h])
    go_enter Try.func20, Try.ntmps20
    go_wp2_with (go_at_call 45; refine (isWordM _ _ wfv).mono ?_; rintro e9 w9 ⟨rfl, hw⟩; have hw2 := hw.symm; clear hw; subst hw2; rw [h])
    go_ret2
    exact ⟨none, 0, by rw [E.out]; rfl, .inl ⟨rfl, E.out⟩, Kept.refl _ _ _⟩
  · have E : Hid (Pl.bdV v = Pl.booth v 16) := hide (by simp [Pl.bdV, h])
    have mk := mk16i
    refine (callsIn_wide (n := 9)).1 (callsIn_of_wp_marks Try.func20 rfl trivial ?_ rfl)
    simp only [Try.ntmps20, List.size_toArray, List.length_cons, List.length_nil, Nat.reduceAdd, Nat.reduceSub, Array.replicate_succ, Array.replicate_zero, List.push_toArray, List.append_toArray, List.nil_append, List.cons_append]
    gi_wp2_with (first | (refine ⟨trivial, ?_⟩; gi_at_call 45; refine (callsIn_wide.2 (isWordM _ _ wfv)).mono ?_; rintro e9 w9 ⟨rfl, hw⟩; have hw2 := hw.symm; clear hw; subst hw2; rw [h]) | (refine ⟨trivial, ?_⟩; gi_at_call 39; refine (callsIn_wide.2 (boothDigits v _)).mono ?_; rintro e9 w9 ⟨rfl, hw⟩; have hw2 := hw.symm; clear hw; subst hw2))
    have hO : Own (((w.alloc (.cells (Array.replicate 16 (.int .i64 0)) 3)).alloc (.cells #[.slice (some ⟨w.heap.size, 0, none⟩) 16 16] 28)).alloc (.cells #[.int .i64 v] 3)) w.heap.size (Pl.booth v 0 ++ List.replicate (16 - 0) 0) :=
      own_below (own_new16 w) (((Below.refl (w.heap.size + 1) _).alloc (by simp) _).alloc (by simp) _) (by omega)
    have hL : Boxed (((w.alloc (.cells (Array.replicate 16 (.int .i64 0)) 3)).alloc (.cells #[.slice (some ⟨w.heap.size, 0, none⟩) 16 16] 28)).alloc (.cells #[.int .i64 v] 3)) (w.heap.size + 1) 28 (.slice (some ⟨w.heap.size, 0, none⟩) 16 16) := by
      have := (Boxed.new (w.alloc (.cells (Array.replicate 16 (.int .i64 0)) 3)) 28 (.slice (some ⟨w.heap.size, 0, none⟩) 16 16)).alloc (.cells #[.int .i64 v] 3)
      rwa [World.size_alloc] at this
    have hC : Boxed (((w.alloc (.cells (Array.replicate 16 (.int .i64 0)) 3)).alloc (.cells #[.slice (some ⟨w.heap.size, 0, none⟩) 16 16] 28)).alloc (.cells #[.int .i64 v] 3)) (w.heap.size + 2) 3 (.int .i64 v) := by
      have := Boxed.new ((w.alloc (.cells (Array.replicate 16 (.int .i64 0)) 3)).alloc (.cells #[.slice (some ⟨w.heap.size, 0, none⟩) 16 16] 28)) 3 (.int .i64 v)
      rwa [World.size_alloc, World.size_alloc] at this
    have hBW : Below w.heap.size w (((w.alloc (.cells (Array.replicate 16 (.int .i64 0)) 3)).alloc (.cells #[.slice (some ⟨w.heap.size, 0, none⟩) 16 16] 28)).alloc (.cells #[.int .i64 v] 3)) := (((Below.refl _ w).alloc (Nat.le_refl _) _).alloc (by simp) _).alloc (by simp; omega) _
    have hSz : (((w.alloc (.cells (Array.replicate 16 (.int .i64 0)) 3)).alloc (.cells #[.slice (some ⟨w.heap.size, 0, none⟩) 16 16] 28)).alloc (.cells #[.int .i64 v] 3)).heap.size = w.heap.size + 3 := by simp
    clear mk
    revert hO hL hC hBW hSz
    generalize ((w.alloc (.cells (Array.replicate 16 (.int .i64 0)) 3)).alloc (.cells #[.slice (some ⟨w.heap.size, 0, none⟩) 16 16] 28)).alloc (.cells #[.int .i64 v] 3) = w0
    intro hO hL hC hBW hSz
    refine wp_range (boothGives h (w.heap.size + 2)) rfl (enters_of Try.func62 (by kernel_rfl) rfl) hC (fun _ => rfl)
      (fun k X => Below w.heap.size w X ∧ Own X w.heap.size (Pl.booth v k ++ List.replicate (16 - k) 0) ∧ Boxed X (w.heap.size + 1) 28 (.slice (some ⟨w.heap.size, 0, none⟩) 16 16))
      (fun k X Y hs hb => ⟨hs.1.trans (hb.mono (by omega)), own_below hs.2.1 hb (by omega), boxed_below hs.2.2 hb (by omega)⟩)
      ⟨hBW, hO, hL⟩
      (fun k => { tmps := #[.int .i64 v, undef, .slice none 0 0, .bool false, .pointer (some ⟨w.heap.size + 1, 0, none⟩), .int .i64 (k : Int), .int .i64 (Pl.bdig v k), .int .i64 v, .bool true, .bool false, .slice (some ⟨w.heap.size, 0, none⟩) 16 16, .int .i64 v, .func (.func 62) #[] #[.pointer (some ⟨w.heap.size + 2, 0, none⟩)], .int .i64 (k : Int), .int .i64 (Pl.bdig v k), undef, undef, undef, undef, undef], defers := [] }) ?assign ?body ?done
    case assign =>
      intro l' k X K hK
      gi_wp2
      exact hK
    case body =>
      rintro l' k X hk ⟨hB, hO, hL⟩ hs
      have hcL := hL.cell
      have hO2 := hO k (by simp [Pl.booth_len]; omega)
      have hc2 := hO2.1
      have hf2 := hO2.2
      have hN := hO.set (k := k) (Pl.bdig v k)
      rw [set_next _ (Pl.booth_len v k).symm (by omega), ← Pl.booth_snoc] at hN
      have HO := hide hO
      have HN := hide hN
      clear hO hN hO2
      gi_wp2
      refine ⟨⟨hB.setCell (p := ⟨w.heap.size, k, none⟩) (by simp) _, HN.out, ?_⟩, (Keep.refl _ _ _).setCell (p := ⟨w.heap.size, k, none⟩) (by simp; omega) (by simp) _⟩
      exact (Below.heap_setCell X _ _ _ (by simp)).trans hL
    case done =>
      rintro X ⟨hB, hO, hL⟩ hK
      have hcL := hL.cell
      have HO := hide hO
      clear hO
      gi_wp2
      refine ⟨by simp, .inl ⟨_, _, rfl, run_takeDeferred hK, ?_⟩⟩
      refine ⟨_, results_tmp2 rfl _ _ _, some ⟨w.heap.size, 0, none⟩, 16, by rw [E.out, Pl.booth_len]; rfl, .inr ⟨w.heap.size, rfl, Nat.le_refl _, ?_, ?_⟩, kept_below (hB.trans (below_put (by omega) _))⟩
      · have := hL.lt; simp; omega
      · rw [E.out]
        have := own_below HO.out (below_put (B := w.heap.size + 1) (l := w0.heap.size) (W := X) (by omega) (.deferred none)) (by omega)
        simpa using this
end Go.Proofs.Ytjgcadighogmkaa
