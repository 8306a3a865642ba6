/- What the model of a tick, and of a byte that comes, does to a device. -/
import Derived.Test.YtlocilcnmbmikaaSpecDev1
namespace Go.Proofs.Ytlocilcnmbmikaa
open Go.RowKit
set_option linter.unusedVariables false

theorem l5Tick (w : World) (base : Nat) (d : Pl.Dev) (a b : Option Addr) (ca cb : Nat) (hD : DevIn w base d a b ca) (hb : base ≤ w.heap.size) (hS : Pl.Small d) :
    Calls Try.prog 58 #[.agg #[.int .i64 d.e, .int .i64 d.l, .bool d.r, .slice a d.xs.length ca, .slice b d.ys.length cb, .int .i64 d.t]] w fun e w' => DevRet e w w' base (Pl.tick d) a b := by
  have HD := hide hD
  obtain ⟨s1, s2, s3, s4, s5, s6, s7, s8⟩ := hS
  clear hD
  by_cases h1 : d.e = 0
  · have ED : Hid (Pl.tick d = d) := hide (by simp [Pl.tick, h1])
    have q1 : (d.e == 0) = true := by simpa using h1
    clear h1
    go_enter Try.func58, Try.ntmps58
    go_wp2_with fail
    refine bodyPost_ret (v := .agg #[.int .i64 d.e, .int .i64 d.l, .bool d.r, .slice a d.xs.length ca, .slice b d.ys.length cb, .int .i64 d.t]) ?_ rfl (devRet a b ca cb ?_ ?_ ?_ (fun g hg => .inl hg))
    · rw [results_one rfl]; go_simp
    · rw [ED.out]
    · rw [ED.out]; exact HD.out.kept (kept_new (kept_alloc _ _) _)
    · exact kept_new (kept_alloc _ _) _
  · have q1 : (d.e == 0) = false := by simpa using h1
    by_cases h2 : 0 < d.l
    · have q2 : decide (0 < d.l) = true := by simpa using h2
      by_cases h3 : d.l = 1
      · have ED : Hid (Pl.tick d = { d with l := d.e, r := true }) := hide (by unfold Pl.tick; rw [if_neg h1, if_pos (by omega)])
        have q3 : (d.l - 1 == 0) = true := by simp; omega
        clear h1 h2 h3
        go_enter Try.func58, Try.ntmps58
        go_wp2_with fail
        refine bodyPost_ret (v := .agg #[.int .i64 d.e, .int .i64 d.e, .bool true, .slice a d.xs.length ca, .slice b d.ys.length cb, .int .i64 d.t]) ?_ rfl (devRet a b ca cb ?_ ?_ ?_ (fun g hg => .inl hg))
        · rw [results_one rfl]; go_simp
        · rw [ED.out]
        · rw [ED.out]; exact HD.out.kept (kept_new (kept_alloc _ _) _)
        · exact kept_new (kept_alloc _ _) _
      · have ED : Hid (Pl.tick d = { d with l := d.l - 1 }) := hide (by unfold Pl.tick; rw [if_neg h1, if_neg (by omega), if_pos h2])
        have q3 : (d.l - 1 == 0) = false := by simp; omega
        clear h1 h3
        go_enter Try.func58, Try.ntmps58
        go_wp2_with fail
        refine bodyPost_ret (v := .agg #[.int .i64 d.e, .int .i64 (d.l - 1), .bool d.r, .slice a d.xs.length ca, .slice b d.ys.length cb, .int .i64 d.t]) ?_ rfl (devRet a b ca cb ?_ ?_ ?_ (fun g hg => .inl hg))
        · rw [results_one rfl]; go_simp
        · rw [ED.out]
        · rw [ED.out]; exact HD.out.kept (kept_new (kept_alloc _ _) _)
        · exact kept_new (kept_alloc _ _) _
    · have q2 : decide (0 < d.l) = false := by simpa using h2
      by_cases h3 : d.l = 0
      · have ED : Hid (Pl.tick d = { d with l := d.e, r := true }) := hide (by unfold Pl.tick; rw [if_neg h1, if_pos (by omega)])
        have q3 : (d.l == 0) = true := by simpa using h3
        clear h1 h2 h3
        go_enter Try.func58, Try.ntmps58
        go_wp2_with fail
        refine bodyPost_ret (v := .agg #[.int .i64 d.e, .int .i64 d.e, .bool true, .slice a d.xs.length ca, .slice b d.ys.length cb, .int .i64 d.t]) ?_ rfl (devRet a b ca cb ?_ ?_ ?_ (fun g hg => .inl hg))
        · rw [results_one rfl]; go_simp
        · rw [ED.out]
        · rw [ED.out]; exact HD.out.kept (kept_new (kept_alloc _ _) _)
        · exact kept_new (kept_alloc _ _) _
      · have ED : Hid (Pl.tick d = d) := hide (by unfold Pl.tick; rw [if_neg h1, if_neg (by omega), if_neg h2])
        have q3 : (d.l == 0) = false := by simpa using h3
        clear h1 h2 h3
        go_enter Try.func58, Try.ntmps58
        go_wp2_with fail
        refine bodyPost_ret (v := .agg #[.int .i64 d.e, .int .i64 d.l, .bool d.r, .slice a d.xs.length ca, .slice b d.ys.length cb, .int .i64 d.t]) ?_ rfl (devRet a b ca cb ?_ ?_ ?_ (fun g hg => .inl hg))
        · rw [results_one rfl]; go_simp
        · rw [ED.out]
        · rw [ED.out]; exact HD.out.kept (kept_new (kept_alloc _ _) _)
        · exact kept_new (kept_alloc _ _) _
end Go.Proofs.Ytlocilcnmbmikaa
