/- What the model tells of flags that nobody reads: one contract a function. An instruction whose fields fit into its words: plain arithmetic; no Go text is spoken of here. What the program's GoodOperand answers, for every argument. The ways to name an operand, as the program holds them: told apart. What the program's NeedsExt answers, for every argument. What the program's wrapWord answers. What the program's small functions of chapter 7 answer: tests of modes, the first word, the instruction of two words. What the program's conditions (chapter 8) answer: one contract a function. The condition of a branch. Which kinds of shift go through the kept bit. -/
import Derived.Test.YtflnodadeajmcaaGreatAF1
import Derived.Test.YtflnodadeajmcaaGreatAF4
import Derived.Deep.RegionHeld3
import Derived.BigQuiet
import Derived.Deep.QuietTactic
namespace Go.Proofs.YtflnodadeajmcaaGreat
open Go.RowKit
set_option linter.unusedVariables false
set_option linter.unusedSimpArgs false
set_option maxHeartbeats 2000000
theorem specNeedI (k : Int) (w : World) (k0 : 0 ≤ k) (k1 : k ≤ 15) : Calls Tryz.prog 172 #[iv k] w fun e w' => e = .returned (iv (Pl.need k)) ∧ w' = w := by
  obtain ⟨j, hj, rfl⟩ := Pl.nat_of (n := 16) k0 (by omega)
  exact specNeed j hj w
theorem specSets (w : World) (op z r m k e s : Int) (D : Pl.InD ⟨op, z, r, m, k, e, s⟩) : Calls Tryz.prog 141 #[.agg (inA op z r m k e s)] w fun e' w' => e' = .returned (iv (Pl.sets ⟨op, z, r, m, k, e, s⟩)) ∧ Kept 0 0 w w' := by
  have K0 := hide (kept_alloc w (.cells (inA op z r m k e s) 124))
  have D0 := hide D
  obtain ⟨o0, o1, s0, s1, r0, r1, s6, s3, s2, r2⟩ := D
  simp only at o0 o1 s0 s1 r0 r1 s6 s3 s2 r2
  have B0 := hide (Blk.new w (inA op z r m k e s) 124)
  by_cases hS : op = 11 ∨ op = 12 ∨ op = 15 ∨ op = 19
  · obtain rfl | rfl | rfl | rfl | rfl | rfl | rfl | rfl : s = 0 ∨ s = 1 ∨ s = 2 ∨ s = 3 ∨ s = 4 ∨ s = 5 ∨ s = 6 ∨ s = 7 := by omega
    all_goals
      rcases hS with rfl | rfl | rfl | rfl
    all_goals
      first
      | (exfalso; clear D0 K0; omega)
      | skip
    all_goals
      clear s0 s1 s6 s3 s2 o0 o1
      first
      | with_reducible exact specSets151 w z r m k e
      | go_enter Tryz.func141, Tryz.ntmps141
        go_wp2_with (first | (go_at_call 144; refine st (l1Flag _ _ _) ?_))
        first
        | (go_ret; exact ⟨rI (by rfl), by first | exact K2.out | exact K1.out | exact K0.out | exact kept_drew K0.out⟩)
        | ((go_region_held3 (fun w' => w'.cell? ⟨w.heap.size, 6, none⟩ = some (iv 0)) (first | exact (show Blk _ _ _ _ from B0.out).cell (i := 6) rfl) (first | (go_at_call 144; refine st (l1Flag _ _ _) ?_))); go_wp2_with fail; go_ret; exact ⟨rI (by rfl), by first | exact K2.out | exact K1.out | exact K0.out | exact kept_drew K0.out⟩)
        | ((go_region_held3 (fun w' => w'.cell? ⟨w.heap.size, 6, none⟩ = some (iv 1)) (first | exact (show Blk _ _ _ _ from B0.out).cell (i := 6) rfl) (first | (go_at_call 144; refine st (l1Flag _ _ _) ?_))); go_wp2_with fail; go_ret; exact ⟨rI (by rfl), by first | exact K2.out | exact K1.out | exact K0.out | exact kept_drew K0.out⟩)
        | ((go_region_held3 (fun w' => w'.cell? ⟨w.heap.size, 6, none⟩ = some (iv 2)) (first | exact (show Blk _ _ _ _ from B0.out).cell (i := 6) rfl) (first | (go_at_call 144; refine st (l1Flag _ _ _) ?_))); go_wp2_with fail; go_ret; exact ⟨rI (by rfl), by first | exact K2.out | exact K1.out | exact K0.out | exact kept_drew K0.out⟩)
        | ((go_region_held3 (fun w' => w'.cell? ⟨w.heap.size, 6, none⟩ = some (iv 3)) (first | exact (show Blk _ _ _ _ from B0.out).cell (i := 6) rfl) (first | (go_at_call 144; refine st (l1Flag _ _ _) ?_))); go_wp2_with fail; go_ret; exact ⟨rI (by rfl), by first | exact K2.out | exact K1.out | exact K0.out | exact kept_drew K0.out⟩)
        | ((go_region_held3 (fun w' => w'.cell? ⟨w.heap.size, 6, none⟩ = some (iv 4)) (first | exact (show Blk _ _ _ _ from B0.out).cell (i := 6) rfl) (first | (go_at_call 144; refine st (l1Flag _ _ _) ?_))); go_wp2_with fail; go_ret; exact ⟨rI (by rfl), by first | exact K2.out | exact K1.out | exact K0.out | exact kept_drew K0.out⟩)
        | ((go_region_held3 (fun w' => w'.cell? ⟨w.heap.size, 6, none⟩ = some (iv 5)) (first | exact (show Blk _ _ _ _ from B0.out).cell (i := 6) rfl) (first | (go_at_call 144; refine st (l1Flag _ _ _) ?_))); go_wp2_with fail; go_ret; exact ⟨rI (by rfl), by first | exact K2.out | exact K1.out | exact K0.out | exact kept_drew K0.out⟩)
        | ((go_region_held3 (fun w' => w'.cell? ⟨w.heap.size, 6, none⟩ = some (iv 6)) (first | exact (show Blk _ _ _ _ from B0.out).cell (i := 6) rfl) (first | (go_at_call 144; refine st (l1Flag _ _ _) ?_))); go_wp2_with fail; go_ret; exact ⟨rI (by rfl), by first | exact K2.out | exact K1.out | exact K0.out | exact kept_drew K0.out⟩)
  · have hO : op = 1 ∨ op = 2 ∨ op = 3 ∨ op = 4 ∨ op = 5 ∨ op = 6 ∨ op = 7 ∨ op = 8 ∨ op = 9 ∨ op = 10 ∨ op = 11 ∨ op = 12 ∨ op = 13 ∨ op = 14 ∨ op = 15 ∨ op = 16 ∨ op = 17 ∨ op = 18 ∨ op = 19 := by omega
    clear o0 o1 s6 s3 s2
    rcases hO with rfl | rfl | rfl | rfl | rfl | rfl | rfl | rfl | rfl | rfl | rfl | rfl | rfl | rfl | rfl | rfl | rfl | rfl | rfl
    all_goals
      first
      | (exfalso; clear D0 K0; omega)
      | skip
    all_goals
      have r3 := hide r2
      clear hS r2
      go_enter Tryz.func141, Tryz.ntmps141
      go_wp2_with (first | (go_at_call 144; refine st (l1Flag _ _ _) ?_))
      first
      | (go_ret; exact ⟨rI (by rfl), by first | exact K2.out | exact K1.out | exact K0.out | exact kept_drew K0.out⟩)
      | ((go_region_held3 (fun w' => w'.cell? ⟨w.heap.size, 6, none⟩ = some (iv 0)) (first | exact (show Blk _ _ _ _ from B0.out).cell (i := 6) rfl) (first | (go_at_call 144; refine st (l1Flag _ _ _) ?_))); go_wp2_with fail; go_ret; exact ⟨rI (by rfl), by first | exact K2.out | exact K1.out | exact K0.out | exact kept_drew K0.out⟩)
      | ((go_region_held3 (fun w' => w'.cell? ⟨w.heap.size, 6, none⟩ = some (iv 1)) (first | exact (show Blk _ _ _ _ from B0.out).cell (i := 6) rfl) (first | (go_at_call 144; refine st (l1Flag _ _ _) ?_))); go_wp2_with fail; go_ret; exact ⟨rI (by rfl), by first | exact K2.out | exact K1.out | exact K0.out | exact kept_drew K0.out⟩)
      | ((go_region_held3 (fun w' => w'.cell? ⟨w.heap.size, 6, none⟩ = some (iv 2)) (first | exact (show Blk _ _ _ _ from B0.out).cell (i := 6) rfl) (first | (go_at_call 144; refine st (l1Flag _ _ _) ?_))); go_wp2_with fail; go_ret; exact ⟨rI (by rfl), by first | exact K2.out | exact K1.out | exact K0.out | exact kept_drew K0.out⟩)
      | ((go_region_held3 (fun w' => w'.cell? ⟨w.heap.size, 6, none⟩ = some (iv 3)) (first | exact (show Blk _ _ _ _ from B0.out).cell (i := 6) rfl) (first | (go_at_call 144; refine st (l1Flag _ _ _) ?_))); go_wp2_with fail; go_ret; exact ⟨rI (by rfl), by first | exact K2.out | exact K1.out | exact K0.out | exact kept_drew K0.out⟩)
      | ((go_region_held3 (fun w' => w'.cell? ⟨w.heap.size, 6, none⟩ = some (iv 4)) (first | exact (show Blk _ _ _ _ from B0.out).cell (i := 6) rfl) (first | (go_at_call 144; refine st (l1Flag _ _ _) ?_))); go_wp2_with fail; go_ret; exact ⟨rI (by rfl), by first | exact K2.out | exact K1.out | exact K0.out | exact kept_drew K0.out⟩)
      | ((go_region_held3 (fun w' => w'.cell? ⟨w.heap.size, 6, none⟩ = some (iv 5)) (first | exact (show Blk _ _ _ _ from B0.out).cell (i := 6) rfl) (first | (go_at_call 144; refine st (l1Flag _ _ _) ?_))); go_wp2_with fail; go_ret; exact ⟨rI (by rfl), by first | exact K2.out | exact K1.out | exact K0.out | exact kept_drew K0.out⟩)
      | ((go_region_held3 (fun w' => w'.cell? ⟨w.heap.size, 6, none⟩ = some (iv 6)) (first | exact (show Blk _ _ _ _ from B0.out).cell (i := 6) rfl) (first | (go_at_call 144; refine st (l1Flag _ _ _) ?_))); go_wp2_with fail; go_ret; exact ⟨rI (by rfl), by first | exact K2.out | exact K1.out | exact K0.out | exact kept_drew K0.out⟩)
theorem specReads (w : World) (op z r m k e s : Int) (D : Pl.InD ⟨op, z, r, m, k, e, s⟩) : Calls Tryz.prog 143 #[.agg (inA op z r m k e s)] w fun e' w' => e' = .returned (iv (Pl.reads ⟨op, z, r, m, k, e, s⟩)) ∧ Kept 0 0 w w' := by
  have K0 := hide (kept_alloc w (.cells (inA op z r m k e s) 124))
  have D0 := hide D
  obtain ⟨o0, o1, s0, s1, r0, r1, s6, s3, s2, r2⟩ := D
  simp only at o0 o1 s0 s1 r0 r1 s6 s3 s2 r2
  have ew1 : IntKind.i64.wrap (8 * r) = 8 * r := by rw [IntKind.wrap_i64]; omega
  have ew2 : IntKind.i64.wrap (s + 8 * r) = s + 8 * r := by rw [IntKind.wrap_i64]; omega
  by_cases hS : op = 12 ∨ op = 19
  · obtain rfl | rfl | rfl | rfl | rfl | rfl | rfl | rfl : s = 0 ∨ s = 1 ∨ s = 2 ∨ s = 3 ∨ s = 4 ∨ s = 5 ∨ s = 6 ∨ s = 7 := by omega
    all_goals
      rcases hS with rfl | rfl
    all_goals
      first
      | (exfalso; clear D0 K0; omega)
      | skip
    all_goals
      clear s0 s1 s6 s3 s2 o0 o1
      go_enter Tryz.func143, Tryz.ntmps143
      go_wp2_with (first | (go_at_call 144; refine st (l1Flag _ _ _) ?_) | (go_at_call 172; refine st (specNeedI (s + 8 * r) _ (by omega) (by have := r3.out (by trivial); omega)) ?_))
      go_ret
      exact ⟨rI (by rfl), by first | exact K2.out | exact K1.out | exact K0.out | exact kept_drew K0.out⟩
  · have hO : op = 1 ∨ op = 2 ∨ op = 3 ∨ op = 4 ∨ op = 5 ∨ op = 6 ∨ op = 7 ∨ op = 8 ∨ op = 9 ∨ op = 10 ∨ op = 11 ∨ op = 12 ∨ op = 13 ∨ op = 14 ∨ op = 15 ∨ op = 16 ∨ op = 17 ∨ op = 18 ∨ op = 19 := by omega
    clear o0 o1 s6 s3 s2
    rcases hO with rfl | rfl | rfl | rfl | rfl | rfl | rfl | rfl | rfl | rfl | rfl | rfl | rfl | rfl | rfl | rfl | rfl | rfl | rfl
    all_goals
      first
      | (exfalso; clear D0 K0; omega)
      | skip
    all_goals
      have r3 := hide r2
      clear hS r2
      go_enter Tryz.func143, Tryz.ntmps143
      go_wp2_with (first | (go_at_call 144; refine st (l1Flag _ _ _) ?_) | (go_at_call 172; refine st (specNeedI (s + 8 * r) _ (by omega) (by have := r3.out (by trivial); omega)) ?_))
      go_ret
      exact ⟨rI (by rfl), by first | exact K2.out | exact K1.out | exact K0.out | exact kept_drew K0.out⟩
theorem specMayW (w : World) (op z r m k e s : Int) (D : Pl.InD ⟨op, z, r, m, k, e, s⟩) : Calls Tryz.prog 142 #[.agg (inA op z r m k e s)] w fun e' w' => e' = .returned (.bool (Pl.mayW ⟨op, z, r, m, k, e, s⟩)) ∧ Kept 0 0 w w' := by
  have K0 := hide (kept_alloc w (.cells (inA op z r m k e s) 124))
  have D0 := hide D
  obtain ⟨o0, o1, s0, s1, r0, r1, s6, s3, s2, r2⟩ := D
  simp only at o0 o1 s0 s1 r0 r1 s6 s3 s2 r2
  by_cases hS : op = 11 ∨ op = 14
  · obtain rfl | rfl | rfl | rfl | rfl | rfl | rfl | rfl : s = 0 ∨ s = 1 ∨ s = 2 ∨ s = 3 ∨ s = 4 ∨ s = 5 ∨ s = 6 ∨ s = 7 := by omega
    all_goals
      rcases hS with rfl | rfl
    all_goals
      first
      | (exfalso; clear D0 K0; omega)
      | skip
    all_goals
      clear s0 s1 s6 s3 s2 o0 o1
      go_enter Tryz.func142, Tryz.ntmps142
      go_wp2_with (first | (go_at_call 115; refine st (specMem _ _) ?_))
      go_ret
      exact ⟨rB (by simp [Pl.mayW]), by first | exact K2.out | exact K1.out | exact K0.out | exact kept_drew K0.out⟩
  · have hO : op = 1 ∨ op = 2 ∨ op = 3 ∨ op = 4 ∨ op = 5 ∨ op = 6 ∨ op = 7 ∨ op = 8 ∨ op = 9 ∨ op = 10 ∨ op = 11 ∨ op = 12 ∨ op = 13 ∨ op = 14 ∨ op = 15 ∨ op = 16 ∨ op = 17 ∨ op = 18 ∨ op = 19 := by omega
    clear o0 o1 s6 s3 s2
    rcases hO with rfl | rfl | rfl | rfl | rfl | rfl | rfl | rfl | rfl | rfl | rfl | rfl | rfl | rfl | rfl | rfl | rfl | rfl | rfl
    all_goals
      first
      | (exfalso; clear D0 K0; omega)
      | skip
    all_goals
      have r3 := hide r2
      clear hS r2
      go_enter Tryz.func142, Tryz.ntmps142
      go_wp2_with (first | (go_at_call 115; refine st (specMem _ _) ?_))
      go_ret
      exact ⟨rB (by simp [Pl.mayW]), by first | exact K2.out | exact K1.out | exact K0.out | exact kept_drew K0.out⟩
theorem specMayF (w : World) (op z r m k e s : Int) (D : Pl.InD ⟨op, z, r, m, k, e, s⟩) : Calls Tryz.prog 145 #[.agg (inA op z r m k e s)] w fun e' w' => e' = .returned (.bool (Pl.mayF ⟨op, z, r, m, k, e, s⟩)) ∧ Kept 0 0 w w' := by
  have K0 := hide (kept_alloc w (.cells (inA op z r m k e s) 124))
  have D0 := hide D
  obtain ⟨o0, o1, s0, s1, r0, r1, s6, s3, s2, r2⟩ := D
  simp only at o0 o1 s0 s1 r0 r1 s6 s3 s2 r2
  by_cases hS : op = 14 ∨ op = 15 ∨ op = 19
  · obtain rfl | rfl | rfl | rfl | rfl | rfl | rfl | rfl : s = 0 ∨ s = 1 ∨ s = 2 ∨ s = 3 ∨ s = 4 ∨ s = 5 ∨ s = 6 ∨ s = 7 := by omega
    all_goals
      rcases hS with rfl | rfl | rfl
    all_goals
      first
      | (exfalso; clear D0 K0; omega)
      | skip
    all_goals
      clear s0 s1 s6 s3 s2 o0 o1
      go_enter Tryz.func145, Tryz.ntmps145
      go_wp2_with (first | (go_at_call 115; refine st (specMem _ _) ?_))
      go_ret
      exact ⟨rB (by simp [Pl.mayF]), by first | exact K2.out | exact K1.out | exact K0.out | exact kept_drew K0.out⟩
  · have hO : op = 1 ∨ op = 2 ∨ op = 3 ∨ op = 4 ∨ op = 5 ∨ op = 6 ∨ op = 7 ∨ op = 8 ∨ op = 9 ∨ op = 10 ∨ op = 11 ∨ op = 12 ∨ op = 13 ∨ op = 14 ∨ op = 15 ∨ op = 16 ∨ op = 17 ∨ op = 18 ∨ op = 19 := by omega
    clear o0 o1 s6 s3 s2
    rcases hO with rfl | rfl | rfl | rfl | rfl | rfl | rfl | rfl | rfl | rfl | rfl | rfl | rfl | rfl | rfl | rfl | rfl | rfl | rfl
    all_goals
      first
      | (exfalso; clear D0 K0; omega)
      | skip
    all_goals
      have r3 := hide r2
      clear hS r2
      go_enter Tryz.func145, Tryz.ntmps145
      go_wp2_with (first | (go_at_call 115; refine st (specMem _ _) ?_))
      go_ret
      exact ⟨rB (by simp [Pl.mayF]), by first | exact K2.out | exact K1.out | exact K0.out | exact kept_drew K0.out⟩
end Go.Proofs.YtflnodadeajmcaaGreat

namespace Go.Proofs.YtflnodadeajmcaaGreat.Pl
set_option linter.unusedVariables false
def sameIn (a b : In) : Bool := (a.op == b.op) && ((a.z == b.z) && ((a.r == b.r) && ((a.m == b.m) && ((a.k == b.k) && ((a.e == b.e) && (a.s == b.s))))))
/-- it comes back from its words -/
def fits (x : In) : Bool := sameIn (decode (word1 x % 65536) x.e) x
def fitZ (x : In) : Bool := !(x.m == 7) || (!(x.z == 1) || within x.e 0 255)
theorem decode_e (w v : Int) : (decode w v).e = bif extM (w / 32 % 8) then v else 0 := by
  show (if longW w = 2 then v else 0) = _
  unfold longW
  cases extM (w / 32 % 8) <;> simp
theorem fits_iff (x : In) : fits x = true ↔ (0 ≤ x.op ∧ x.op ≤ 31) ∧ (1 ≤ x.z ∧ x.z ≤ 2) ∧ (0 ≤ x.r ∧ x.r ≤ 3) ∧ (0 ≤ x.m ∧ x.m ≤ 7) ∧ (0 ≤ x.k ∧ x.k ≤ 3) ∧ (0 ≤ x.s ∧ x.s ≤ 7) ∧ (extM x.m = false → x.e = 0) := by
  obtain ⟨op, z, r, m, k, e, s⟩ := x
  unfold fits
  have hW : word1 ⟨op, z, r, m, k, e, s⟩ % 65536 = (op * 2048 + (z - 1) * 1024 + r * 256 + m * 32 + k * 8 + s) % 65536 := rfl
  generalize word1 ⟨op, z, r, m, k, e, s⟩ % 65536 = W at hW
  unfold sameIn
  rw [decode_e]
  simp only [decode, Bool.and_eq_true, beq_iff_eq]
  constructor
  · rintro ⟨h1, h2, h3, h4, h5, h6, h7⟩
    refine ⟨⟨by omega, by omega⟩, ⟨by omega, by omega⟩, ⟨by omega, by omega⟩, ⟨by omega, by omega⟩, ⟨by omega, by omega⟩, ⟨by omega, by omega⟩, fun q => ?_⟩
    rw [h4, q] at h6
    simpa using h6.symm
  · rintro ⟨⟨a1, a2⟩, ⟨b1, b2⟩, ⟨c1, c2⟩, ⟨d1, d2⟩, ⟨e1, e2⟩, ⟨f1, f2⟩, g⟩
    have hm : W / 32 % 8 = m := by omega
    refine ⟨by omega, by omega, by omega, hm, by omega, ?_, by omega⟩
    rw [hm]
    cases q : extM m
    · rw [g q]; rfl
    · rfl
/-- what is asked one behind the other is what makes a good one -/
theorem ok_of_fits (x : In) : inOk x = (fits x && (opOk x.m x.k x.e && (fitZ x && inKind x))) := by
  cases hf : fits x
  · cases hq : inOk x
    · rfl
    · exfalso
      have h := modeR hq
      have : fits x = true := (fits_iff x).2 ⟨by omega, by omega, by omega, by omega, by omega, by omega, h.2.2.2.2.2.2.2.2.2.2.2.2.2⟩
      rw [hf] at this; cases this
  · obtain ⟨a, b, c, d, e, f, g⟩ := (fits_iff x).1 hf
    obtain ⟨op, z, r, m, k, e', s⟩ := x
    simp only at a b c d e f g
    unfold inOk inBase fitZ byteNow
    simp only
    have w1 : within r 0 3 = true := by simp [within]; omega
    have w2 : within s 0 7 = true := by simp [within]; omega
    have w3 : (decide (z = 1) || decide (z = 2)) = true := by simp; omega
    rw [w1, w2, w3]
    cases ho : opOk m k e'
    · simp
    · have : 0 ≤ e' := by simp [opOk, wordOk, within] at ho; omega
      have w4 : (!((m == 7) && (z == 1) && decide (255 < e'))) = (!(m == 7) || (!(z == 1) || within e' 0 255)) := by
        rw [Bool.eq_iff_iff]; simp [within]; omega
      rw [w4]
      simp
end Go.Proofs.YtflnodadeajmcaaGreat.Pl

namespace Go.Proofs.YtflnodadeajmcaaGreat
open Go.RowKit
set_option linter.unusedVariables false
theorem modes {m : Int} (h : Pl.modeOk m = true) : m = 0 ∨ m = 1 ∨ m = 2 ∨ m = 3 ∨ m = 4 ∨ m = 5 ∨ m = 6 ∨ m = 7 := by
  simp [Pl.modeOk, Pl.within] at h
  omega
theorem eqOp (m k e k' e' : Int) (w : World) : (binOp .eql 122 (.agg #[iv m, iv k', iv e']) (.agg #[iv m, iv k, iv e])).run Tryz.prog w = .ok (.bool ((k' == k) && (e' == e))) w := by
  go_simp
  by_cases h1 : k' = k <;> by_cases h2 : e' = e <;> simp [h1, h2]
theorem implGoodOperand (w : World) (m k e : Int) (wfm : (Lit.int .i64 m).wf = true) (wfk : (Lit.int .i64 k).wf = true) (wfe : (Lit.int .i64 e).wf = true) :
    Calls Tryz.prog 193 #[.agg #[iv m, iv k, iv e]] w fun r w' => r = .returned (.bool (Pl.opOk m k e)) ∧ Kept 0 0 w w' := by
  obtain ⟨lo, hi⟩ := wfB wfe
  cases h : Pl.modeOk m
  · have G : Hid (Pl.opOk m k e = false) := hide (by unfold Pl.opOk; rw [h]; rfl)
    have K0 := hide (kept_alloc w (.cells #[iv m, iv k, iv e] 122))
    go_enter Tryz.func193, Tryz.ntmps193
    go_wp2_with fail
    refine (wayOfNo m k e _ h).mono ?_
    rintro r w1 ⟨rfl, k1⟩
    have K1 := hide (K0.out.trans k1)
    clear k1
    go_wp2_with fail
    go_quiet (fail)
    go_wp2_with fail
    go_ret
    exact ⟨rB (by rw [G.out]), kept_drewN K1.out _⟩
  · rcases modes h with rfl | rfl | rfl | rfl | rfl | rfl | rfl | rfl
    · have q := goodOp 0 k e w 235 237 (.agg #[iv k]) _ _ lo hi (fun w => wayOf0 k e w) (fun w => meth0 _ w) (fun w => operand0 k e w) fn0 (fun w => eqOp 0 k e k 0 w)
      have G : (((k : Int) == k) && ((0 : Int) == e) && (Pl.within k 0 3 && Pl.wordOk e)) = Pl.opOk 0 k e := by
        unfold Pl.opOk
        rw [show Pl.modeOk 0 = true from by decide, show decide ((0 : Int) < 6) = true from by decide, show Pl.extM 0 = false from by decide, Bool.eq_iff_iff]
        simp
        grind
      rw [G] at q
      exact q
    · have q := goodOp 1 k e w 236 238 (.agg #[iv k]) _ _ lo hi (fun w => wayOf1 k e w) (fun w => meth1 _ w) (fun w => operand1 k e w) fn1 (fun w => eqOp 1 k e k 0 w)
      have G : (((k : Int) == k) && ((0 : Int) == e) && (Pl.within k 0 3 && Pl.wordOk e)) = Pl.opOk 1 k e := by
        unfold Pl.opOk
        rw [show Pl.modeOk 1 = true from by decide, show decide ((1 : Int) < 6) = true from by decide, show Pl.extM 1 = false from by decide, Bool.eq_iff_iff]
        simp
        grind
      rw [G] at q
      exact q
    · have q := goodOp 2 k e w 237 239 (.agg #[iv k]) _ _ lo hi (fun w => wayOf2 k e w) (fun w => meth2 _ w) (fun w => operand2 k e w) fn2 (fun w => eqOp 2 k e k 0 w)
      have G : (((k : Int) == k) && ((0 : Int) == e) && (Pl.within k 0 3 && Pl.wordOk e)) = Pl.opOk 2 k e := by
        unfold Pl.opOk
        rw [show Pl.modeOk 2 = true from by decide, show decide ((2 : Int) < 6) = true from by decide, show Pl.extM 2 = false from by decide, Bool.eq_iff_iff]
        simp
        grind
      rw [G] at q
      exact q
    · have q := goodOp 3 k e w 238 240 (.agg #[iv k]) _ _ lo hi (fun w => wayOf3 k e w) (fun w => meth3 _ w) (fun w => operand3 k e w) fn3 (fun w => eqOp 3 k e k 0 w)
      have G : (((k : Int) == k) && ((0 : Int) == e) && (Pl.within k 0 3 && Pl.wordOk e)) = Pl.opOk 3 k e := by
        unfold Pl.opOk
        rw [show Pl.modeOk 3 = true from by decide, show decide ((3 : Int) < 6) = true from by decide, show Pl.extM 3 = false from by decide, Bool.eq_iff_iff]
        simp
        grind
      rw [G] at q
      exact q
    · have q := goodOp 4 k e w 239 241 (.agg #[iv k]) _ _ lo hi (fun w => wayOf4 k e w) (fun w => meth4 _ w) (fun w => operand4 k e w) fn4 (fun w => eqOp 4 k e k 0 w)
      have G : (((k : Int) == k) && ((0 : Int) == e) && (Pl.within k 0 3 && Pl.wordOk e)) = Pl.opOk 4 k e := by
        unfold Pl.opOk
        rw [show Pl.modeOk 4 = true from by decide, show decide ((4 : Int) < 6) = true from by decide, show Pl.extM 4 = false from by decide, Bool.eq_iff_iff]
        simp
        grind
      rw [G] at q
      exact q
    · have q := goodOp 5 k e w 241 242 (.agg #[iv k, iv e]) _ _ lo hi (fun w => wayOf5 k e w) (fun w => meth5 _ w) (fun w => operand5 k e w) fn5 (fun w => eqOp 5 k e k e w)
      have G : (((k : Int) == k) && ((e : Int) == e) && (Pl.within k 0 3 && Pl.wordOk e)) = Pl.opOk 5 k e := by
        unfold Pl.opOk
        rw [show Pl.modeOk 5 = true from by decide, show decide ((5 : Int) < 6) = true from by decide, show Pl.extM 5 = true from by decide, Bool.eq_iff_iff]
        simp
        skip
      rw [G] at q
      exact q
    · have q := goodOp 6 k e w 243 243 (.agg #[iv e]) _ _ lo hi (fun w => wayOf6 k e w) (fun w => meth6 _ w) (fun w => operand6 k e w) fn6 (fun w => eqOp 6 k e 0 e w)
      have G : (((0 : Int) == k) && ((e : Int) == e) && (Pl.within k 0 3 && Pl.wordOk e)) = Pl.opOk 6 k e := by
        unfold Pl.opOk
        rw [show Pl.modeOk 6 = true from by decide, show decide ((6 : Int) < 6) = false from by decide, show Pl.extM 6 = true from by decide, Bool.eq_iff_iff]
        simp
        grind
      rw [G] at q
      exact q
    · have q := goodOp 7 k e w 244 244 (.agg #[iv e]) _ _ lo hi (fun w => wayOf7 k e w) (fun w => meth7 _ w) (fun w => operand7 k e w) fn7 (fun w => eqOp 7 k e 0 e w)
      have G : (((0 : Int) == k) && ((e : Int) == e) && (Pl.within k 0 3 && Pl.wordOk e)) = Pl.opOk 7 k e := by
        unfold Pl.opOk
        rw [show Pl.modeOk 7 = true from by decide, show decide ((7 : Int) < 6) = false from by decide, show Pl.extM 7 = true from by decide, Bool.eq_iff_iff]
        simp
        grind
      rw [G] at q
      exact q
end Go.Proofs.YtflnodadeajmcaaGreat

namespace Go.Proofs.YtflnodadeajmcaaGreat
open Go.RowKit
set_option linter.unusedVariables false
theorem ta05 (v : Value) (w : World) : (Instr.typeAssert (.iface 235 v) 222 241 true).run Tryz.prog w = .ok (.tuple #[.agg #[iv 0, iv 0], .bool false]) w := by kernel_rfl
theorem ta06 (v : Value) (w : World) : (Instr.typeAssert (.iface 235 v) 222 243 true).run Tryz.prog w = .ok (.tuple #[.agg #[iv 0], .bool false]) w := by kernel_rfl
theorem ta07 (v : Value) (w : World) : (Instr.typeAssert (.iface 235 v) 222 244 true).run Tryz.prog w = .ok (.tuple #[.agg #[iv 0], .bool false]) w := by kernel_rfl
theorem ta15 (v : Value) (w : World) : (Instr.typeAssert (.iface 236 v) 222 241 true).run Tryz.prog w = .ok (.tuple #[.agg #[iv 0, iv 0], .bool false]) w := by kernel_rfl
theorem ta16 (v : Value) (w : World) : (Instr.typeAssert (.iface 236 v) 222 243 true).run Tryz.prog w = .ok (.tuple #[.agg #[iv 0], .bool false]) w := by kernel_rfl
theorem ta17 (v : Value) (w : World) : (Instr.typeAssert (.iface 236 v) 222 244 true).run Tryz.prog w = .ok (.tuple #[.agg #[iv 0], .bool false]) w := by kernel_rfl
theorem ta25 (v : Value) (w : World) : (Instr.typeAssert (.iface 237 v) 222 241 true).run Tryz.prog w = .ok (.tuple #[.agg #[iv 0, iv 0], .bool false]) w := by kernel_rfl
theorem ta26 (v : Value) (w : World) : (Instr.typeAssert (.iface 237 v) 222 243 true).run Tryz.prog w = .ok (.tuple #[.agg #[iv 0], .bool false]) w := by kernel_rfl
theorem ta27 (v : Value) (w : World) : (Instr.typeAssert (.iface 237 v) 222 244 true).run Tryz.prog w = .ok (.tuple #[.agg #[iv 0], .bool false]) w := by kernel_rfl
theorem ta35 (v : Value) (w : World) : (Instr.typeAssert (.iface 238 v) 222 241 true).run Tryz.prog w = .ok (.tuple #[.agg #[iv 0, iv 0], .bool false]) w := by kernel_rfl
theorem ta36 (v : Value) (w : World) : (Instr.typeAssert (.iface 238 v) 222 243 true).run Tryz.prog w = .ok (.tuple #[.agg #[iv 0], .bool false]) w := by kernel_rfl
theorem ta37 (v : Value) (w : World) : (Instr.typeAssert (.iface 238 v) 222 244 true).run Tryz.prog w = .ok (.tuple #[.agg #[iv 0], .bool false]) w := by kernel_rfl
theorem ta45 (v : Value) (w : World) : (Instr.typeAssert (.iface 239 v) 222 241 true).run Tryz.prog w = .ok (.tuple #[.agg #[iv 0, iv 0], .bool false]) w := by kernel_rfl
theorem ta46 (v : Value) (w : World) : (Instr.typeAssert (.iface 239 v) 222 243 true).run Tryz.prog w = .ok (.tuple #[.agg #[iv 0], .bool false]) w := by kernel_rfl
theorem ta47 (v : Value) (w : World) : (Instr.typeAssert (.iface 239 v) 222 244 true).run Tryz.prog w = .ok (.tuple #[.agg #[iv 0], .bool false]) w := by kernel_rfl
theorem ta55 (v : Value) (w : World) : (Instr.typeAssert (.iface 241 v) 222 241 true).run Tryz.prog w = .ok (.tuple #[v, .bool true]) w := by kernel_rfl
theorem ta56 (v : Value) (w : World) : (Instr.typeAssert (.iface 241 v) 222 243 true).run Tryz.prog w = .ok (.tuple #[.agg #[iv 0], .bool false]) w := by kernel_rfl
theorem ta57 (v : Value) (w : World) : (Instr.typeAssert (.iface 241 v) 222 244 true).run Tryz.prog w = .ok (.tuple #[.agg #[iv 0], .bool false]) w := by kernel_rfl
theorem ta65 (v : Value) (w : World) : (Instr.typeAssert (.iface 243 v) 222 241 true).run Tryz.prog w = .ok (.tuple #[.agg #[iv 0, iv 0], .bool false]) w := by kernel_rfl
theorem ta66 (v : Value) (w : World) : (Instr.typeAssert (.iface 243 v) 222 243 true).run Tryz.prog w = .ok (.tuple #[v, .bool true]) w := by kernel_rfl
theorem ta67 (v : Value) (w : World) : (Instr.typeAssert (.iface 243 v) 222 244 true).run Tryz.prog w = .ok (.tuple #[.agg #[iv 0], .bool false]) w := by kernel_rfl
theorem ta75 (v : Value) (w : World) : (Instr.typeAssert (.iface 244 v) 222 241 true).run Tryz.prog w = .ok (.tuple #[.agg #[iv 0, iv 0], .bool false]) w := by kernel_rfl
theorem ta76 (v : Value) (w : World) : (Instr.typeAssert (.iface 244 v) 222 243 true).run Tryz.prog w = .ok (.tuple #[.agg #[iv 0], .bool false]) w := by kernel_rfl
theorem ta77 (v : Value) (w : World) : (Instr.typeAssert (.iface 244 v) 222 244 true).run Tryz.prog w = .ok (.tuple #[v, .bool true]) w := by kernel_rfl
theorem hasExt0 (v : Value) (w : World) : Calls Tryz.prog 198 #[.iface 235 v] w fun r w' => r = .returned (.bool false) ∧ w' = w := by
  have t5 := ta05
  have t6 := ta06
  have t7 := ta07
  go_enter Tryz.func198, Tryz.ntmps198
  go_wp2
  go_ret
  exact ⟨rfl, rfl⟩
theorem hasExt1 (v : Value) (w : World) : Calls Tryz.prog 198 #[.iface 236 v] w fun r w' => r = .returned (.bool false) ∧ w' = w := by
  have t5 := ta15
  have t6 := ta16
  have t7 := ta17
  go_enter Tryz.func198, Tryz.ntmps198
  go_wp2
  go_ret
  exact ⟨rfl, rfl⟩
theorem hasExt2 (v : Value) (w : World) : Calls Tryz.prog 198 #[.iface 237 v] w fun r w' => r = .returned (.bool false) ∧ w' = w := by
  have t5 := ta25
  have t6 := ta26
  have t7 := ta27
  go_enter Tryz.func198, Tryz.ntmps198
  go_wp2
  go_ret
  exact ⟨rfl, rfl⟩
theorem hasExt3 (v : Value) (w : World) : Calls Tryz.prog 198 #[.iface 238 v] w fun r w' => r = .returned (.bool false) ∧ w' = w := by
  have t5 := ta35
  have t6 := ta36
  have t7 := ta37
  go_enter Tryz.func198, Tryz.ntmps198
  go_wp2
  go_ret
  exact ⟨rfl, rfl⟩
theorem hasExt4 (v : Value) (w : World) : Calls Tryz.prog 198 #[.iface 239 v] w fun r w' => r = .returned (.bool false) ∧ w' = w := by
  have t5 := ta45
  have t6 := ta46
  have t7 := ta47
  go_enter Tryz.func198, Tryz.ntmps198
  go_wp2
  go_ret
  exact ⟨rfl, rfl⟩
theorem hasExt5 (v : Value) (w : World) : Calls Tryz.prog 198 #[.iface 241 v] w fun r w' => r = .returned (.bool true) ∧ w' = w := by
  have t5 := ta55
  have t6 := ta56
  have t7 := ta57
  go_enter Tryz.func198, Tryz.ntmps198
  go_wp2
  go_ret
  exact ⟨rfl, rfl⟩
theorem hasExt6 (v : Value) (w : World) : Calls Tryz.prog 198 #[.iface 243 v] w fun r w' => r = .returned (.bool true) ∧ w' = w := by
  have t5 := ta65
  have t6 := ta66
  have t7 := ta67
  go_enter Tryz.func198, Tryz.ntmps198
  go_wp2
  go_ret
  exact ⟨rfl, rfl⟩
theorem hasExt7 (v : Value) (w : World) : Calls Tryz.prog 198 #[.iface 244 v] w fun r w' => r = .returned (.bool true) ∧ w' = w := by
  have t5 := ta75
  have t6 := ta76
  have t7 := ta77
  go_enter Tryz.func198, Tryz.ntmps198
  go_wp2
  go_ret
  exact ⟨rfl, rfl⟩
end Go.Proofs.YtflnodadeajmcaaGreat

namespace Go.Proofs.YtflnodadeajmcaaGreat
open Go.RowKit
set_option linter.unusedVariables false
theorem implNeedsExt (w : World) (m : Int) (wfm : (Lit.int .i64 m).wf = true) :
    Calls Tryz.prog 183 #[iv m] w fun r w' => r = .returned (.tuple #[.bool (Pl.modeOk m && Pl.extM m), .bool (Pl.modeOk m)]) ∧ Kept 0 0 w w' := by
  cases h : Pl.modeOk m
  · go_enter Tryz.func183, Tryz.ntmps183
    go_wp2_with (first | (go_at_call 197; refine (wayOfNo m 0 0 _ h).mono ?_; rintro r w1 ⟨rfl, k1⟩))
    go_quiet (fail)
    go_wp2_with fail
    go_ret2
    exact ⟨by simp, kept_drewN k1 _⟩
  · rcases modes h with rfl | rfl | rfl | rfl | rfl | rfl | rfl | rfl
    · go_enter Tryz.func183, Tryz.ntmps183
      go_wp2_with (first | (go_at_call 197; refine (wayOf0 0 0 _).mono ?_; rintro r w1 ⟨rfl, k1⟩))
      go_quiet (first | (go_at_call 198; exact Calls.quiet_of_same (hasExt0 _ _)) | fail)
      go_wp2_with fail
      go_ret2
      exact ⟨rfl, kept_drewN k1 _⟩
    · go_enter Tryz.func183, Tryz.ntmps183
      go_wp2_with (first | (go_at_call 197; refine (wayOf1 0 0 _).mono ?_; rintro r w1 ⟨rfl, k1⟩))
      go_quiet (first | (go_at_call 198; exact Calls.quiet_of_same (hasExt1 _ _)) | fail)
      go_wp2_with fail
      go_ret2
      exact ⟨rfl, kept_drewN k1 _⟩
    · go_enter Tryz.func183, Tryz.ntmps183
      go_wp2_with (first | (go_at_call 197; refine (wayOf2 0 0 _).mono ?_; rintro r w1 ⟨rfl, k1⟩))
      go_quiet (first | (go_at_call 198; exact Calls.quiet_of_same (hasExt2 _ _)) | fail)
      go_wp2_with fail
      go_ret2
      exact ⟨rfl, kept_drewN k1 _⟩
    · go_enter Tryz.func183, Tryz.ntmps183
      go_wp2_with (first | (go_at_call 197; refine (wayOf3 0 0 _).mono ?_; rintro r w1 ⟨rfl, k1⟩))
      go_quiet (first | (go_at_call 198; exact Calls.quiet_of_same (hasExt3 _ _)) | fail)
      go_wp2_with fail
      go_ret2
      exact ⟨rfl, kept_drewN k1 _⟩
    · go_enter Tryz.func183, Tryz.ntmps183
      go_wp2_with (first | (go_at_call 197; refine (wayOf4 0 0 _).mono ?_; rintro r w1 ⟨rfl, k1⟩))
      go_quiet (first | (go_at_call 198; exact Calls.quiet_of_same (hasExt4 _ _)) | fail)
      go_wp2_with fail
      go_ret2
      exact ⟨rfl, kept_drewN k1 _⟩
    · go_enter Tryz.func183, Tryz.ntmps183
      go_wp2_with (first | (go_at_call 197; refine (wayOf5 0 0 _).mono ?_; rintro r w1 ⟨rfl, k1⟩))
      go_quiet (first | (go_at_call 198; exact Calls.quiet_of_same (hasExt5 _ _)) | fail)
      go_wp2_with fail
      go_ret2
      exact ⟨rfl, kept_drewN k1 _⟩
    · go_enter Tryz.func183, Tryz.ntmps183
      go_wp2_with (first | (go_at_call 197; refine (wayOf6 0 0 _).mono ?_; rintro r w1 ⟨rfl, k1⟩))
      go_quiet (first | (go_at_call 198; exact Calls.quiet_of_same (hasExt6 _ _)) | fail)
      go_wp2_with fail
      go_ret2
      exact ⟨rfl, kept_drewN k1 _⟩
    · go_enter Tryz.func183, Tryz.ntmps183
      go_wp2_with (first | (go_at_call 197; refine (wayOf7 0 0 _).mono ?_; rintro r w1 ⟨rfl, k1⟩))
      go_quiet (first | (go_at_call 198; exact Calls.quiet_of_same (hasExt7 _ _)) | fail)
      go_wp2_with fail
      go_ret2
      exact ⟨rfl, kept_drewN k1 _⟩
end Go.Proofs.YtflnodadeajmcaaGreat

namespace Go.Proofs.YtflnodadeajmcaaGreat
open Go.RowKit
set_option linter.unusedVariables false
theorem wrapWord (v : Int) (w : World) : Calls Tryz.prog 167 #[iv v] w fun e w' => e = .returned (iv (v % 65536)) ∧ w' = w := by
  have hW := IntKind.wrap_u16 v
  go_enter Tryz.func167, Tryz.ntmps167
  go_wp2
  go_ret
  exact ⟨rfl, rfl⟩
end Go.Proofs.YtflnodadeajmcaaGreat

namespace Go.Proofs.YtflnodadeajmcaaGreat
open Go.RowKit
set_option linter.unusedVariables false
theorem isMem (m : Int) (w : World) : Calls Tryz.prog 203 #[iv m] w fun e w' => e = .returned (.bool (Pl.memM m)) ∧ w' = w := by
  by_cases h0 : 2 ≤ m
  · by_cases h1 : m ≤ 6
    · go_enter Tryz.func203, Tryz.ntmps203
      go_wp2
      go_ret
      exact ⟨rB (by simp [Pl.memM, Pl.within, h0, h1]), rfl⟩
    · go_enter Tryz.func203, Tryz.ntmps203
      go_wp2
      go_ret
      exact ⟨rB (by simp [Pl.memM, Pl.within, h0]; omega), rfl⟩
  · go_enter Tryz.func203, Tryz.ntmps203
    go_wp2
    go_ret
    exact ⟨rB (by simp [Pl.memM, Pl.within]; omega), rfl⟩
theorem canTake (m : Int) (w : World) : Calls Tryz.prog 210 #[iv m] w fun e w' => e = .returned (.bool ((m == 0) || Pl.memM m)) ∧ w' = w := by
  cases h0 : (m == 0)
  · go_enter Tryz.func210, Tryz.ntmps210
    go_wp2_with (go_at_call 203; refine (isMem _ _).mono ?_; rintro e w' ⟨rfl, hw⟩; have hw2 := hw.symm; clear hw; subst hw2)
    go_ret
    exact ⟨rB (by simp), rfl⟩
  · go_enter Tryz.func210, Tryz.ntmps210
    go_wp2
    go_ret
    exact ⟨rB (by simp), rfl⟩
theorem isPlain (m : Int) (w : World) : Calls Tryz.prog 211 #[iv m] w fun e w' => e = .returned (.bool (Pl.plainM m)) ∧ w' = w := by
  unfold Pl.plainM
  cases h0 : (m == 2) <;> cases h1 : (m == 5) <;> cases h2 : (m == 6) <;> (
    go_enter Tryz.func211, Tryz.ntmps211
    go_wp2
    go_ret
    exact ⟨rB (by simp), rfl⟩)
theorem okv17 (v : Int) : Pl.okv 1 v = Pl.within v 0 255 := by
  unfold Pl.okv Pl.within Pl.top
  rw [Bool.eq_iff_iff]; simp; omega
theorem isByte7 (v : Int) (w : World) (lo : -9223372036854775808 ≤ v) (hi : v ≤ 9223372036854775807) :
    Calls Tryz.prog 94 #[iv v] w fun e w' => e = .returned (.bool (Pl.within v 0 255)) ∧ w' = w := by
  go_enter Tryz.func94, Tryz.ntmps94
  go_wp2_with (go_at_call 123; refine (signedOf _ _ _ lo hi).mono ?_; rintro e w' ⟨rfl, hw⟩; have hw2 := hw.symm; clear hw; subst hw2; rw [okv17])
  go_ret
  exact ⟨rfl, rfl⟩
/-- whether an instruction of this mode has two words -/
def Pl.lng (m : Int) : Bool := Pl.modeOk m && Pl.extM m
theorem isLong (w : World) (op z r m k e s : Int) (wfm : (Lit.int .i64 m).wf = true) : Calls Tryz.prog 164 #[.agg (inA op z r m k e s)] w fun r' w' => r' = .returned (.bool (Pl.lng m)) ∧ Kept 0 0 w w' := by
  have K0 := hide (kept_alloc w (.cells (inA op z r m k e s) 124))
  go_enter Tryz.func164, Tryz.ntmps164
  go_wp2_with (go_at_call 183; refine (implNeedsExt _ m wfm).mono ?_; rintro e' w2 ⟨rfl, k2⟩)
  go_ret
  exact ⟨rfl, K0.out.trans k2⟩
theorem lengthOf (w : World) (op z r m k e s : Int) (wfm : (Lit.int .i64 m).wf = true) : Calls Tryz.prog 136 #[.agg (inA op z r m k e s)] w fun r' w' => r' = .returned (iv (if Pl.lng m = true then 2 else 1)) ∧ Kept 0 0 w w' := by
  have K0 := hide (kept_alloc w (.cells (inA op z r m k e s) 124))
  cases h : Pl.lng m
  · go_enter Tryz.func136, Tryz.ntmps136
    go_wp2_with (go_at_call 164; refine (isLong _ op z r m k e s wfm).mono ?_; rintro e' w2 ⟨rfl, k2⟩; rw [h])
    go_ret
    exact ⟨rfl, K0.out.trans k2⟩
  · go_enter Tryz.func136, Tryz.ntmps136
    go_wp2_with (go_at_call 164; refine (isLong _ op z r m k e s wfm).mono ?_; rintro e' w2 ⟨rfl, k2⟩; rw [h])
    go_ret
    exact ⟨rfl, K0.out.trans k2⟩
theorem namesStatus (w : World) (op z r m k e s : Int) : Calls Tryz.prog 218 #[.agg (inA op z r m k e s)] w fun r' w' => r' = .returned (.bool ((r == 0) && Pl.nowO m e)) ∧ Kept 0 0 w w' := by
  have K0 := hide (kept_alloc w (.cells (inA op z r m k e s) 124))
  unfold Pl.nowO
  cases h0 : (r == 0) <;> cases h1 : (m == 7) <;> cases h2 : decide (e ≤ 1023) <;> (
    go_enter Tryz.func218, Tryz.ntmps218
    go_wp2
    go_ret
    exact ⟨rB (by simp), K0.out⟩)
theorem fitsSize (w : World) (op z r m k e s : Int) (wfe : (Lit.int .i64 e).wf = true) : Calls Tryz.prog 194 #[.agg (inA op z r m k e s)] w fun r' w' => r' = .returned (.bool (Pl.fitZ ⟨op, z, r, m, k, e, s⟩)) ∧ Kept 0 0 w w' := by
  have K0 := hide (kept_alloc w (.cells (inA op z r m k e s) 124))
  obtain ⟨lo, hi⟩ := wfB wfe
  unfold Pl.fitZ
  simp only
  cases h0 : (m != 7) <;> cases h1 : (z != 1) <;> cases h2 : Pl.within e 0 255 <;> (
    go_enter Tryz.func194, Tryz.ntmps194
    go_wp2_with (go_at_call 94; refine (isByte7 _ _ lo hi).mono ?_; rintro e w' ⟨rfl, hw⟩; have hw2 := hw.symm; clear hw; subst hw2; rw [h2])
    go_ret
    exact ⟨rB (by simp at h0 h1; simp [h0, h1]), K0.out⟩)
end Go.Proofs.YtflnodadeajmcaaGreat

namespace Go.Proofs.YtflnodadeajmcaaGreat
open Go.RowKit
set_option linter.unusedVariables false
namespace Pl
/-- does its question ask for both or none? -/
def both (k : Int) : Bool := k - k % 2 == 12 || k - k % 2 == 14
theorem even_of : ∀ k : Nat, k < 16 → (bits .andNot .i64 (k : Int) 1 = 0 ∧ need k = 0 ∧ both k = false) ∨ (bits .andNot .i64 (k : Int) 1 = 2 ∧ need k = 5 ∧ both k = false) ∨ (bits .andNot .i64 (k : Int) 1 = 4 ∧ need k = 1 ∧ both k = false) ∨ (bits .andNot .i64 (k : Int) 1 = 6 ∧ need k = 4 ∧ both k = false) ∨ (bits .andNot .i64 (k : Int) 1 = 8 ∧ need k = 2 ∧ both k = false) ∨ (bits .andNot .i64 (k : Int) 1 = 10 ∧ need k = 8 ∧ both k = false) ∨ (bits .andNot .i64 (k : Int) 1 = 12 ∧ need k = 10 ∧ both k = true) ∨ (bits .andNot .i64 (k : Int) 1 = 14 ∧ need k = 14 ∧ both k = true) := by decide +kernel
end Pl
theorem store_fn (a : Addr) (fn : Fn) (m : Mode) (w : World) : (store a (.func fn #[] #[]) m).run Tryz.prog w = stored Tryz.prog w a (.func fn #[] #[]) m := run_store Tryz.prog w a _ m rfl
theorem evenOf (c : Int) (w : World) : Calls Tryz.prog 215 #[iv c] w fun e w' => e = .returned (iv (bits .andNot .i64 c 1)) ∧ w' = w := by
  go_enter Tryz.func215, Tryz.ntmps215
  go_wp2
  go_ret
  exact ⟨rfl, rfl⟩
def qV (k : Int) : Value := .agg #[iv (Pl.need k), .func (.func (bif Pl.both k then 217 else 216)) #[] #[]]
theorem questionOf (k : Nat) (hk : k < 16) (w : World) : Calls Tryz.prog 206 #[iv (k : Int)] w fun e w' => e = .returned (qV k) ∧ Kept 0 0 w w' := by
  have hst := store_fn
  rcases Pl.even_of k hk with ⟨hE, hn, hb⟩ | ⟨hE, hn, hb⟩ | ⟨hE, hn, hb⟩ | ⟨hE, hn, hb⟩ | ⟨hE, hn, hb⟩ | ⟨hE, hn, hb⟩ | ⟨hE, hn, hb⟩ | ⟨hE, hn, hb⟩
  all_goals
    unfold qV
    rw [hn, hb]
    clear hn hb
    simp only [cond_true, cond_false]
    go_enter Tryz.func206, Tryz.ntmps206
    go_wp2_with (go_at_call 215; refine st (evenOf _ _) ?_; rw [hE])
    refine bodyPost_ret (v := _) ?_ rfl ⟨rfl, ?_⟩
    · rw [results_one rfl]; go_simp
    · exact kept_alloc _ _
theorem looks_of (x : Int) (fn : Fn) (w : World) : (Instr.field 231 (.agg #[iv x, .func fn #[] #[]]) 0).run Tryz.prog w = .ok (iv x) w := by kernel_rfl
end Go.Proofs.YtflnodadeajmcaaGreat

namespace Go.Proofs.YtflnodadeajmcaaGreat
open Go.RowKit
set_option linter.unusedVariables false
theorem condOfBranch (w : World) (op z r m k e s : Int) (r0 : 0 ≤ r) (r1 : r ≤ 3) (s0 : 0 ≤ s) (s1 : s ≤ 7) : Calls Tryz.prog 207 #[.agg (inA op z r m k e s)] w fun e' w' => e' = .returned (iv (s + 8 * r)) ∧ Kept 0 0 w w' := by
  have K0 := hide (kept_alloc w (.cells (inA op z r m k e s) 124))
  have ew1 : IntKind.i64.wrap (8 * r) = 8 * r := by rw [IntKind.wrap_i64]; omega
  have ew2 : IntKind.i64.wrap (s + 8 * r) = s + 8 * r := by rw [IntKind.wrap_i64]; omega
  go_enter Tryz.func207, Tryz.ntmps207
  go_wp2_with fail
  go_ret
  exact ⟨rI (by simp), K0.out⟩
end Go.Proofs.YtflnodadeajmcaaGreat

namespace Go.Proofs.YtflnodadeajmcaaGreat
open Go.RowKit
set_option linter.unusedVariables false
def Pl.thr (k : Int) : Bool := (k == 6) || (k == 7)
theorem goesX (k : Int) (w : World) : Calls Tryz.prog 205 #[iv k] w fun e w' => e = .returned (.bool (Pl.thr k)) ∧ w' = w := by
  by_cases h : k = 6
  all_goals
    go_enter Tryz.func205, Tryz.ntmps205
    go_wp2
    go_ret
    exact ⟨rB (by simp [Pl.thr, h]), rfl⟩
end Go.Proofs.YtflnodadeajmcaaGreat

