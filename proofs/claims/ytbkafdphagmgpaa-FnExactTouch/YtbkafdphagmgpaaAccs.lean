/- What the laws' own functions over lists of accesses do (structs of five whole numbers, laid one behind the other): compare, copy, mark, look for the marks. A list of n accesses is spoken of as the row of its 5 * n numbers. -/
import Derived.Test.YtbkafdphagmgpaaFrame
import Derived.RegionTactic
import Derived.ChangeAlike
import Derived.BigRegion
import Derived.Deep.RegionWith
import Derived.Laws.Rows
import Derived.Laws.ResultCell
namespace Go.Proofs.Ytbkafdphagmgpaa
open Go.RowKit
set_option linter.unusedVariables false

/-- five numbers, each like the other's -/
def five (a b c d e a' b' c' d' e' : Int) : Bool := decide (a = a' ∧ b = b' ∧ c = c' ∧ d = d' ∧ e = e')

theorem IRow.five {w : World} {a : Option Addr} {xs : List Int} (h : IRow w a xs) {n k : Nat} (hl : xs.length = 5 * n) (hk : k < n) :
    ∃ g off : Nat, a = some ⟨g, off, none⟩ ∧ w.cell? ⟨g, off + k * 5, none⟩ = some (.int .i64 (el xs (k * 5))) ∧ w.cell? ⟨g, off + k * 5 + 1, none⟩ = some (.int .i64 (el xs (k * 5 + 1))) ∧ w.cell? ⟨g, off + k * 5 + 2, none⟩ = some (.int .i64 (el xs (k * 5 + 2))) ∧
      w.cell? ⟨g, off + k * 5 + 3, none⟩ = some (.int .i64 (el xs (k * 5 + 3))) ∧ w.cell? ⟨g, off + k * 5 + 4, none⟩ = some (.int .i64 (el xs (k * 5 + 4))) := by
  obtain ⟨g, off, ea, c0⟩ := h (k * 5) (by omega)
  have pick : ∀ j, j < 5 → w.cell? ⟨g, off + k * 5 + j, none⟩ = some (.int .i64 (el xs (k * 5 + j))) := by
    intro j hj
    obtain ⟨g', off', ea', c⟩ := h (k * 5 + j) (by omega)
    rw [ea] at ea'
    cases ea'
    rw [Nat.add_assoc]; exact c
  exact ⟨g, off, ea, c0, pick 1 (by decide), pick 2 (by decide), pick 3 (by decide), pick 4 (by decide)⟩

theorem Own.five {w : World} {g : Nat} {xs : List Int} (h : Own w g xs) {n k : Nat} (hl : xs.length = 5 * n) (hk : k < n) :
    (w.cell? ⟨g, k * 5, none⟩ = some (.int .i64 (el xs (k * 5))) ∧ w.cell? ⟨g, k * 5 + 1, none⟩ = some (.int .i64 (el xs (k * 5 + 1))) ∧ w.cell? ⟨g, k * 5 + 2, none⟩ = some (.int .i64 (el xs (k * 5 + 2))) ∧ w.cell? ⟨g, k * 5 + 3, none⟩ = some (.int .i64 (el xs (k * 5 + 3))) ∧ w.cell? ⟨g, k * 5 + 4, none⟩ = some (.int .i64 (el xs (k * 5 + 4)))) ∧
    w.frozen? ⟨g, k * 5, none⟩ = false ∧ w.frozen? ⟨g, k * 5 + 1, none⟩ = false ∧ w.frozen? ⟨g, k * 5 + 2, none⟩ = false ∧ w.frozen? ⟨g, k * 5 + 3, none⟩ = false ∧ w.frozen? ⟨g, k * 5 + 4, none⟩ = false :=
  ⟨⟨(h (k * 5) (by omega)).1, (h (k * 5 + 1) (by omega)).1, (h (k * 5 + 2) (by omega)).1, (h (k * 5 + 3) (by omega)).1, (h (k * 5 + 4) (by omega)).1⟩,
   (h (k * 5) (by omega)).2, (h (k * 5 + 1) (by omega)).2, (h (k * 5 + 2) (by omega)).2, (h (k * 5 + 3) (by omega)).2, (h (k * 5 + 4) (by omega)).2⟩

theorem snoc5 {p : Nat → Prop} {k : Nat} (h : ∀ i, i < k * 5 → p i) (h0 : p (k * 5)) (h1 : p (k * 5 + 1)) (h2 : p (k * 5 + 2)) (h3 : p (k * 5 + 3)) (h4 : p (k * 5 + 4)) : ∀ i, i < (k + 1) * 5 → p i := by
  intro i hi
  by_cases e : i < k * 5
  · exact h i e
  · obtain rfl | rfl | rfl | rfl | rfl : i = k * 5 ∨ i = k * 5 + 1 ∨ i = k * 5 + 2 ∨ i = k * 5 + 3 ∨ i = k * 5 + 4 := by omega
    all_goals assumption

theorem eqAccess (a b c d e a' b' c' d' e' : Int) (w : World) :
    Calls Try.prog 61 #[.agg #[.int .i64 a, .int .i64 b, .int .i64 c, .int .i64 d, .int .i64 e], .agg #[.int .i64 a', .int .i64 b', .int .i64 c', .int .i64 d', .int .i64 e']] w fun r w' => r = .returned (.bool (five a b c d e a' b' c' d' e')) ∧ ∃ o1 o2, w' = (w.alloc o1).alloc o2 := by
  have F : Hid (five a b c d e a' b' c' d' e' = (!(a != a') && (!(b != b') && (!(c != c') && (!(d != d') && !(e != e')))))) := hide (by unfold five; rw [Bool.eq_iff_iff]; simp)
  cases ka : (a != a')
  · cases kb : (b != b')
    · cases kc : (c != c')
      · cases kd : (d != d')
        · cases ke : (e != e')
          all_goals
            go_enter Try.func61, Try.ntmps61
            go_wp2
            go_ret
            exact ⟨rB (by rw [F.out, ka, kb, kc, kd, ke]; rfl), _, _, rfl⟩
        · go_enter Try.func61, Try.ntmps61
          go_wp2
          go_ret
          exact ⟨rB (by rw [F.out, kd]; simp), _, _, rfl⟩
      · go_enter Try.func61, Try.ntmps61
        go_wp2
        go_ret
        exact ⟨rB (by rw [F.out, kc]; simp), _, _, rfl⟩
    · go_enter Try.func61, Try.ntmps61
      go_wp2
      go_ret
      exact ⟨rB (by rw [F.out, kb]; simp), _, _, rfl⟩
  · go_enter Try.func61, Try.ntmps61
    go_wp2
    go_ret
    exact ⟨rB (by rw [F.out, ka]; simp), _, _, rfl⟩

set_option maxHeartbeats 2000000 in
theorem eqAccessS (w : World) (a b : Option Addr) (ca cb n m : Nat) (xs ys : List Int) (ha : IRow w a xs) (hb : IRow w b ys) (lx : xs.length = 5 * n) (ly : ys.length = 5 * m) (bx : n ≤ 2000000) (by_ : m ≤ 2000000) :
    Calls Try.prog 30 #[.slice a n ca, .slice b m cb] w fun e w' => e = .returned (.bool (decide (xs = ys))) ∧ w.grownBy w' none := by
  by_cases hl : n = m
  · subst hl
    have HX := hide lx
    have HY := hide ly
    clear lx ly
    go_enter Try.func30, Try.ntmps30
    go_wp2
    go_loopw [5] (fun j wr => ∃ k : Nat, k ≤ n ∧ j = .int .i64 k ∧ (∀ i, i < k * 5 → el xs i = el ys i) ∧ w.grownBy wr none) (fun j _ => n - (intOf j).toNat)
    case atStart => exact ⟨0, Nat.zero_le _, rfl, fun i hi => absurd hi (by omega), World.grownBy.refl _ _⟩
    case round =>
      obtain ⟨k, hk, rfl, heq, hg⟩ := hrel
      have HE := hide heq
      clear heq
      by_cases hlt : k < n
      · obtain ⟨g1, o1, rfl, p0, p1, p2, p3, p4⟩ := (ha.kept hg).five HX.out hlt
        obtain ⟨g2, o2, rfl, q0, q1, q2, q3, q4⟩ := (hb.kept hg).five HY.out hlt
        clear ha hb
        cases hf : five (el xs (k * 5)) (el xs (k * 5 + 1)) (el xs (k * 5 + 2)) (el xs (k * 5 + 3)) (el xs (k * 5 + 4)) (el ys (k * 5)) (el ys (k * 5 + 1)) (el ys (k * 5 + 2)) (el ys (k * 5 + 3)) (el ys (k * 5 + 4))
        · go_wp2
          go_region_with (go_at_call 61; refine (eqAccess _ _ _ _ _ _ _ _ _ _ _).mono ?_; rintro e w' ⟨rfl, o5, o6, rfl⟩)
          all_goals
            go_wp2
            go_ret
            refine ⟨rB ?_, grownBy_drew (grownBy_alloc (grownBy_alloc hg _) _)⟩
            symm; rw [decide_eq_false_iff_not]; intro e
            simp [five, e] at hf
        · go_wp2
          go_region_with (go_at_call 61; refine (eqAccess _ _ _ _ _ _ _ _ _ _ _).mono ?_; rintro e w' ⟨rfl, o5, o6, rfl⟩)
          all_goals
            go_wp2
            go_roundw
            case rel =>
              simp only [five, decide_eq_true_eq] at hf
              obtain ⟨f0, f1, f2, f3, f4⟩ := hf
              exact ⟨k + 1, by omega, by go_num, snoc5 HE.out f0 f1 f2 f3 f4, grownBy_drew (grownBy_alloc (grownBy_alloc hg _) _)⟩
            case measure => simp [intOf]; omega
      · go_wp2
        go_ret
        exact ⟨rB (by symm; rw [decide_eq_true_iff]; exact ext_of (HX.out.trans HY.out.symm) (fun i hi => HE.out i (by have := HX.out; omega))), hg⟩
  · have kl : (((n : Nat) : Int) != ((m : Nat) : Int)) = true := by rw [bne_iff_ne]; omega
    have HL : Hid (¬ n = m) := hl
    have HX := hide lx
    have HY := hide ly
    clear hl lx ly
    go_enter Try.func30, Try.ntmps30
    go_wp2
    go_ret
    exact ⟨rB (by symm; rw [decide_eq_false_iff_not]; intro e; apply HL.out; have := HX.out; have := HY.out; rw [e] at *; omega), World.grownBy.refl _ _⟩
end Go.Proofs.Ytbkafdphagmgpaa
