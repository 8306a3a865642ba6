/- A device marked, another list beside it; a list of steps measured. -/
import Derived.Test.YtlocilcnmbmikaaDevFns
import Derived.Test.YtlocilcnmbmikaaDevSteps
import Derived.Test.YtlocilcnmbmikaaSpecPlay
namespace Go.Proofs.Ytlocilcnmbmikaa
open Go.RowKit
set_option linter.unusedVariables false

theorem markDeviceC (w : World) (lo hi : Nat) (e l t : Int) (r : Bool) (a b : Option Addr) (ca cb : Nat) (xs ys : List Int) (q : Int) (ha : SlotIn w lo hi a xs) (hb : SlotIn w lo hi b ys) (hab : ∀ g, blk a = some g → blk b ≠ some g) (c : Option Addr) (zs : List Int) (hc : SlotIn w lo hi c zs) (hcc : ∀ g, blk c = some g → blk a ≠ some g ∧ blk b ≠ some g) (hh : hi ≤ w.heap.size) (lx : xs.length ≤ 2000000) (ly : ys.length ≤ 2000000) (q0 : 0 ≤ q) (q1 : q ≤ 1000000) :
    Calls Try.prog 13 #[.agg #[.int .i64 e, .int .i64 l, .bool r, .slice a xs.length ca, .slice b ys.length cb, .int .i64 t], .int .i64 q] w fun e w' => e = .returned (.int .i64 (q + (xs.length : Int) + (ys.length : Int))) ∧ SlotIn w' lo hi a (marks q xs.length) ∧ SlotIn w' lo hi b (marks (q + (xs.length : Int)) ys.length) ∧ SlotIn w' lo hi c zs ∧ Kept lo hi w w' := by
  have HA := hide ha
  have HB := hide hb
  have HAB := hide hab
  have HC := hide hc
  have HCC := hide hcc
  clear ha hb hab hc hcc
  go_enter Try.func13, Try.ntmps13
  go_wp2_with fail
  have k0 := kept_alloc w (.cells #[.int .i64 e, .int .i64 l, .bool r, .slice a xs.length ca, .slice b ys.length cb, .int .i64 t] 24)
  have s0 := HA.out.kept k0 (by omega)
  have t0 := HB.out.kept k0 (by omega)
  refine (markSlot _ lo ca a xs q (s0.slot (by simp; omega)) lx q0 (by omega)).mono ?_
  rintro e w1 ⟨rfl, s1, g1⟩
  have HC1 := hide ((HC.out.kept k0 (by omega)).by g1 (fun g h => (HCC.out g h).1))
  have k1 := kept_row g1 s0.blk_in
  have s1' := s0.again s1
  have B0 := (Blk.new w #[.int .i64 e, .int .i64 l, .bool r, .slice a xs.length ca, .slice b ys.length cb, .int .i64 t] 24).kept k1 (by omega)
  have c1 := B0.cell (i := 4) rfl
  have t1 : SlotIn w1 lo hi b ys := by
    rcases t0 with t | ⟨g, eb, b0, b1, ho⟩
    · exact .inl t
    · refine .inr ⟨g, eb, b0, b1, ho.kept g1 ?_⟩
      intro e
      exact HAB.out g e.symm (by rw [eb]; rfl)
  have HK1 := hide ((k0.any (lo := lo) (hi := hi)).trans k1)
  have HS1 := hide s1'
  have HT1 := hide t1
  clear k0 s0 t0 s1 g1 k1 s1' t1 B0
  go_wp2_with fail
  refine (markSlot _ lo cb b ys (q + (xs.length : Int)) (HT1.out.slot (Nat.le_trans hh HK1.out.size)) ly (by omega) (by omega)).mono ?_
  rintro e w2 ⟨rfl, s2, g2⟩
  have HC2 := hide (HC1.out.by g2 (fun g h => (HCC.out g h).2))
  have k2 := kept_row g2 HT1.out.blk_in
  have HS2 : Hid (SlotIn w2 lo hi a (marks q xs.length)) := hide (by
    rcases HS1.out with t | ⟨g, ea, b0, b1, ho⟩
    · exact .inl t
    · refine .inr ⟨g, ea, b0, b1, ho.kept g2 ?_⟩
      intro e
      exact HAB.out g (by rw [ea]; rfl) e.symm)
  have HT2 := hide (HT1.out.again s2)
  have HK2 := hide (HK1.out.trans k2)
  clear s2 g2 k2
  go_wp2_with fail
  go_ret
  exact ⟨rfl, HS2.out, HT2.out, HC2.out, HK2.out⟩


theorem szDevStepS (w : World) (a : Option Addr) (ca n : Nat) (left : Int) (hn : n ≤ 9223372036854775807) (l0 : 0 ≤ left) (l1 : left ≤ 2000000) :
    Calls Try.prog 22 #[.slice a n ca, .int .i64 left] w fun e w' => e = .returned (.int .i64 (if left - (n : Int) < 0 then -1 else left - (n : Int))) ∧ w' = w := by
  by_cases h : left - (n : Int) < 0
  all_goals
    go_enter Try.func22, Try.ntmps22
    go_wp2
    go_ret
    exact ⟨rfl, rfl⟩
end Go.Proofs.Ytlocilcnmbmikaa
