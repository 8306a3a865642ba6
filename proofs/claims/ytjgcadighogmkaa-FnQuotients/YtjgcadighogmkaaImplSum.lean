/- The program's sum of shifted numbers, over any row of digits. -/
import Derived.Test.YtjgcadighogmkaaImplDg2
import Derived.Shelf.RegionOpen
namespace Go.Proofs.Ytjgcadighogmkaa
open Go.RowKit Go.Shelf
attribute [local go_sem] Oper.semAt_some
set_option linter.unusedVariables false
set_option linter.unusedSimpArgs false
/-- the number that digits tell -/
def Pl.dsm (d : Nat → Int) : Nat → Int
  | 0 => 0
  | k + 1 => Pl.dsm d k + d k * Pl.p2 k
theorem Pl.dsm_bd {d : Nat → Int} (hd : ∀ k, -1 ≤ d k ∧ d k ≤ 1) : ∀ k, -(Pl.p2 k) ≤ Pl.dsm d k ∧ Pl.dsm d k ≤ Pl.p2 k
  | 0 => by rw [Pl.p2_zero]; show -1 ≤ (0 : Int) ∧ (0 : Int) ≤ 1; omega
  | k + 1 => by
    have ih := Pl.dsm_bd hd k
    have hp := Pl.p2_pos k
    rw [Pl.p2_succ]
    show _ ≤ Pl.dsm d k + d k * Pl.p2 k ∧ Pl.dsm d k + d k * Pl.p2 k ≤ _
    rcases (show d k = -1 ∨ d k = 0 ∨ d k = 1 by have := hd k; omega) with e | e | e <;> rw [e] <;> omega
theorem Pl.mulS_bd {a x : Int} (ha : -65536 ≤ a ∧ a ≤ 65536) (hx : -65536 ≤ x ∧ x ≤ 65536) : -4294967296 ≤ a * x ∧ a * x ≤ 4294967296 := by
  have h := Int.natAbs_mul a x
  have h2 : a.natAbs * x.natAbs ≤ 65536 * 65536 := Nat.mul_le_mul (by omega) (by omega)
  omega
theorem wrapIn64 (x : Int) (h1 : -9223372036854775808 ≤ x) (h2 : x ≤ 9223372036854775807) : IntKind.i64.wrap x = x := by
  rw [IntKind.wrap_i64]; omega
set_option maxHeartbeats 4000000 in
theorem sumOfShifts {a : Int} (ha : -65536 ≤ a ∧ a ≤ 65536) {gf : Nat} {lb : Array Value} {c : Nat} {o : Obj} {d : Nat → Int} (hd : ∀ k, -1 ≤ d k ∧ d k ≤ 1) (w : World)
    (hG : Gives Try.prog gf lb c o (encP d) 16) (eg : ∀ args w, (callFunc gf args).run Try.prog w = .ok (.enter gf args) w) (hc : w.heap[c]? = some o) :
    Calls Try.prog 47 #[.int .i64 a, .func (.func gf) #[] lb] w fun e w' => e = .returned (.int .i64 (a * Pl.dsm d 16)) ∧ Kept 0 0 w w' := by
  have hclt : c < w.heap.size := (Array.getElem?_eq_some_iff.1 hc).1
  refine (callsIn_wide (n := 9)).1 (callsIn_of_wp_marks Try.func47 rfl trivial ?_ rfl)
  simp only [Try.ntmps47, List.size_toArray, List.length_cons, List.length_nil, Nat.reduceAdd, Nat.reduceSub, Array.replicate_succ, Array.replicate_zero, List.push_toArray, List.append_toArray, List.nil_append, List.cons_append]
  gi_wp2
  have hA : Boxed ((w.alloc (.cells #[.int .i64 a] 3)).alloc (.cells #[.int .i64 0] 3)) w.heap.size 3 (.int .i64 a) := (Boxed.new w _ _).alloc _
  have hS : Boxed ((w.alloc (.cells #[.int .i64 a] 3)).alloc (.cells #[.int .i64 0] 3)) (w.heap.size + 1) 3 (.int .i64 (a * Pl.dsm d 0)) := by
    have := Boxed.new (w.alloc (.cells #[.int .i64 a] 3)) 3 (.int .i64 0)
    rw [World.size_alloc] at this
    have e : a * Pl.dsm d 0 = 0 := by show a * 0 = 0; omega
    rw [e]; exact this
  have hBW : Below w.heap.size w ((w.alloc (.cells #[.int .i64 a] 3)).alloc (.cells #[.int .i64 0] 3)) := ((Below.refl _ w).alloc (Nat.le_refl _) _).alloc (by simp) _
  have hSz : ((w.alloc (.cells #[.int .i64 a] 3)).alloc (.cells #[.int .i64 0] 3)).heap.size = w.heap.size + 2 := by simp
  revert hA hS hBW hSz
  generalize (w.alloc (.cells #[.int .i64 a] 3)).alloc (.cells #[.int .i64 0] 3) = w0
  intro hA hS hBW hSz
  refine wp_range hG rfl eg ((hBW.block c hclt).trans hc) (fun _ => rfl)
    (fun k X => Below w.heap.size w X ∧ Boxed X w.heap.size 3 (.int .i64 a) ∧ Boxed X (w.heap.size + 1) 3 (.int .i64 (a * Pl.dsm d k)))
    (fun k X Y hs hb => ⟨hs.1.trans (hb.mono (by omega)), boxed_below hs.2.1 hb (by omega), boxed_below hs.2.2 hb (by omega)⟩)
    ⟨hBW, hA, hS⟩
    (fun k => { tmps := #[.int .i64 a, .func (.func gf) #[] lb, .pointer (some ⟨w.heap.size, 0, none⟩), undef, .int .i64 0, .pointer (some ⟨w.heap.size + 1, 0, none⟩), .int .i64 (k : Int), .int .i64 (d k), .func (.func gf) #[] lb, .int .i64 (k : Int), .int .i64 (d k), undef, undef, undef, undef, undef, undef, undef, undef, undef, undef, undef, undef, undef, undef, undef, undef], defers := [] }) ?assign ?body ?done
  case assign =>
    intro l' k X K hK
    gi_wp2
    exact hK
  case body =>
    rintro l' k X hk ⟨hB, hA, hS⟩ hs
    have hcA := hA.cell
    have hcS := hS.cell
    have hfS := hS.frozen
    have hd1 := hd k
    have hb1 := Pl.mulS_bd ha (show -65536 ≤ Pl.dsm d k ∧ Pl.dsm d k ≤ 65536 by have := Pl.dsm_bd hd k; have := Pl.p2_le (show k ≤ 16 by omega); omega)
    have hb2 := Pl.mulS_bd ha (show -65536 ≤ Pl.p2 k ∧ Pl.p2 k ≤ 65536 by have := Pl.p2_pos k; have := Pl.p2_le (show k ≤ 16 by omega); omega)
    have hstep : Hid (a * Pl.dsm d (k + 1) = a * Pl.dsm d k + d k * (a * Pl.p2 k)) := by
      show a * (Pl.dsm d k + d k * Pl.p2 k) = _
      rw [Int.mul_add, ← Int.mul_assoc, ← Int.mul_assoc, Int.mul_comm a (d k)]
    obtain ⟨s, es⟩ : ∃ s, a * Pl.dsm d k = s := ⟨_, rfl⟩
    obtain ⟨s2, es2⟩ : ∃ s2, a * Pl.dsm d (k + 1) = s2 := ⟨_, rfl⟩
    rw [es] at hcS hS hb1 hstep
    rw [es2] at hstep ⊢
    rcases (show d k = -1 ∨ d k = 0 ∨ d k = 1 by omega) with e | e | e
    · rw [e] at hstep ⊢
      clear hd1 e
      gi_wp2
      gi_region
      all_goals gi_wp2
      all_goals
        refine ⟨⟨(hB.setCell (p := ⟨w.heap.size + 1, 0, none⟩) (by simp) _).drew, Boxed.other hA (by omega) _, ?_⟩, ((Keep.refl _ _ _).setCell (p := ⟨w.heap.size + 1, 0, none⟩) (by simp; omega) (by simp; omega) _).drew⟩
        have e2 := hstep.out
        have hp : a * Pl.p2 k = a * 2 ^ k := rfl
        rw [hp] at e2 hb2
        have hv : IntKind.i64.wrap (s - IntKind.i64.wrap (a * 2 ^ k)) = s2 := by
          rw [wrapIn64 (a * 2 ^ k) (by omega) (by omega), wrapIn64 _ (by omega) (by omega)]; omega
        rw [← hv]
        exact hS.set _
    · rw [e] at hstep ⊢
      clear hd1 e
      gi_wp2
      exact ⟨⟨hB, hA, by have := hstep.out; rw [show s2 = s by omega]; exact hS⟩, Keep.refl _ _ _⟩
    · rw [e] at hstep ⊢
      clear hd1 e
      gi_wp2
      gi_region
      all_goals gi_wp2
      all_goals
        refine ⟨⟨(hB.setCell (p := ⟨w.heap.size + 1, 0, none⟩) (by simp) _).drew, Boxed.other hA (by omega) _, ?_⟩, ((Keep.refl _ _ _).setCell (p := ⟨w.heap.size + 1, 0, none⟩) (by simp; omega) (by simp; omega) _).drew⟩
        have e2 := hstep.out
        have hp : a * Pl.p2 k = a * 2 ^ k := rfl
        rw [hp] at e2 hb2
        have hv : IntKind.i64.wrap (s + IntKind.i64.wrap (a * 2 ^ k)) = s2 := by
          rw [wrapIn64 (a * 2 ^ k) (by omega) (by omega), wrapIn64 _ (by omega) (by omega)]; omega
        rw [← hv]
        exact hS.set _
  case done =>
    rintro X ⟨hB, hA, hS⟩ hK
    have hcS := hS.cell
    gi_wp2
    refine ⟨by simp, .inl ⟨_, _, rfl, run_takeDeferred hK, ?_⟩⟩
    exact ⟨_, results_tmp rfl _ _ _, rfl, kept_below (hB.trans (below_put (by omega) _))⟩
end Go.Proofs.Ytjgcadighogmkaa
