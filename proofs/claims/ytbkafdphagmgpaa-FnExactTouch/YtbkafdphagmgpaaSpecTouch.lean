/- What the model of Touch answers, for every argument. -/
import Derived.Test.YtbkafdphagmgpaaSpecPeek
import Derived.Maps.AppendAt
import Derived.Laws.AppendOwnNone
import Derived.Deep.RegionLawGrows
namespace Go.Proofs.Ytbkafdphagmgpaa
open Go.RowKit
set_option linter.unusedVariables false

set_option maxHeartbeats 4000000 in
theorem l4Own_log (w : World) (ga oa gb ob : Nat) (ca cb m : Nat) (xs ys : List Int) (ha : IRow w (some ⟨ga, oa, none⟩) xs) (hb : IRow w (some ⟨gb, ob, none⟩) ys) (lx : xs.length ≤ 2000000) (ly : ys.length = 5 * m) (bm : m ≤ 2000000) (x0 : 0 < xs.length) (m0 : 0 < m) :
    Calls Try.prog 47 #[.agg #[.slice (some ⟨ga, oa, none⟩) xs.length ca, .slice (some ⟨gb, ob, none⟩) m cb]] w fun e w' => ∃ (g1 c1 g2 c2 : Nat), e = .returned (.agg #[.slice (some ⟨g1, 0, none⟩) xs.length c1, .slice (some ⟨g2, 0, none⟩) m c2]) ∧ w'.ownsRow w.heap.size 3 1 (.slice (some ⟨g1, 0, none⟩) xs.length c1) xs.length (xs.map (Value.int .i64)) ∧ w'.ownsRow w.heap.size 61 5 (.slice (some ⟨g2, 0, none⟩) m c2) m (ys.map (Value.int .i64)) ∧ g1 < g2 ∧ Kept 0 0 w w' := by
  obtain ⟨i, hi, hz0, hz1, hz2⟩ := info_parts Try.info3
  obtain ⟨j, hj, hy0, hy1, hy2⟩ := info_parts Try.infoAcc
  have HY := hide ly
  have HA := hide ha
  have HB := hide hb
  have K0 := hide (kept_new (kept_alloc w (.cells #[.slice (some ⟨ga, oa, none⟩) xs.length ca, .slice (some ⟨gb, ob, none⟩) m cb] 25)) (.cells #[.slice none 0 0, .slice none 0 0] 25))
  have B0 := hide ((Blk.new w #[.slice (some ⟨ga, oa, none⟩) xs.length ca, .slice (some ⟨gb, ob, none⟩) m cb] 25).alloc (.cells #[.slice none 0 0, .slice none 0 0] 25))
  have B1 := Blk.new (w.alloc (.cells #[.slice (some ⟨ga, oa, none⟩) xs.length ca, .slice (some ⟨gb, ob, none⟩) m cb] 25)) #[.slice none 0 0, .slice none 0 0] 25
  simp only [World.size_alloc] at B1
  replace B1 := hide B1
  have hn5 : (ys.map (Value.int .i64)).length = m * 5 := by rw [List.length_map, ly]; omega
  have hmx : 0 + m ≤ maxLen := by unfold maxLen; omega
  have hby : (0 + m) * 40 ≤ 140737488355328 := by omega
  have HX1 : Hid ((xs.map (Value.int .i64)).length = xs.length * 1) := hide (by simp)
  have HXM : Hid (0 + xs.length ≤ maxLen) := hide (by unfold maxLen; omega)
  have HXB : Hid ((0 + xs.length) * 8 ≤ 140737488355328) := hide (by omega)
  have H5 : Hid (0 < 5) := hide (by decide)
  have HN5 := hide hn5
  have HMX := hide hmx
  have HBY := hide hby
  clear ly ha hb hn5 hmx hby
  go_enter Try.func47, Try.ntmps47
  go_wp2_with fail
  go_region_law (first
    | (refine step_append_grows rfl (.tmp 3) (.tmp 5) 22 rfl 3 i (.int .i64 0) 1 8 Try.underlying22 hi hz0 hz1 hz2 rfl Nat.one_pos _ 0 0 [] rfl ?n1 rfl ?n2 ⟨ga, oa, none⟩ xs.length ca (xs.map (Value.int .i64)) rfl HX1.out ?news news_one ?n3 HXM.out HXB.out ?_
       (case n1 => intro h; cases h)
       (case n2 => intro b _ j u h; simp at h)
       (case n3 => omega)
       (case news => first | exact news_of (HA.out.keptS (kept_drew (kept_new K0.out _))) | exact news_of (HA.out.keptS (kept_drew (kept_new (kept_new K0.out _) _))))
       intro v1 w1 own1 gr1
       obtain ⟨g1, c1, rfl, b1, l1⟩ := own_form own1 (by omega)
       have k1 := undrewK (kept_grown gr1)
       have O1 := hide (own_base (base' := w.heap.size) own1 (by simp <;> omega))
       have B01 : Hid (Blk w1 w.heap.size #[.slice (some ⟨ga, oa, none⟩) xs.length ca, .slice (some ⟨gb, ob, none⟩) m cb] 25) := by first | exact hide (((B0.out.alloc _).kept0 k1)) | exact hide ((((B0.out.alloc _).alloc _).kept0 k1))
       have B11 : Hid (Blk w1 (w.heap.size + 1) #[.slice none 0 0, .slice none 0 0] 25) := by first | exact hide (((B1.out.alloc _).kept0 k1)) | exact hide ((((B1.out.alloc _).alloc _).kept0 k1))
       have K1 : Hid (Kept 0 0 w w1) := by first | exact hide ((kept_new K0.out _).trans k1) | exact hide ((kept_new (kept_new K0.out _) _).trans k1)
       have q1 := B01.out.cell (i := 1) rfl
       have q2 : ∀ o, (w1.alloc o).cell? ⟨w.heap.size, 1, none⟩ = some (.slice (some ⟨gb, ob, none⟩) m cb) := fun o => (B01.out.alloc o).cell (i := 1) rfl
       simp at b1
       clear own1 gr1 k1)
    | (refine step_append_grows rfl (.tmp 7) (.tmp 9) 23 rfl 61 j (.agg #[.int .i64 0, .int .i64 0, .int .i64 0, .int .i64 0, .int .i64 0]) 5 40 Try.underlying23 hj hy0 hy1 hy2 rfl H5.out _ 0 0 [] rfl ?n1 rfl ?n2 ⟨gb, ob, none⟩ m cb (ys.map (Value.int .i64)) rfl HN5.out ?news news_one ?n3 HMX.out HBY.out ?_
       (case n1 => intro h; cases h)
       (case n2 => intro b _ j u h; simp at h)
       (case n3 => omega)
       (case news => first | exact news_of (HB.out.keptS K1.out) | exact news_of (HB.out.keptS (kept_new K1.out _)))
       intro v2 w2 own2 gr2
       obtain ⟨g2, c2, rfl, b2, l2⟩ := own_form own2 (by omega)
       have k2 := kept_grown gr2
       have O2 := hide (own_base (base' := w.heap.size) own2 (by have := K1.out.size; simp <;> omega))
       have B12 : Hid (Blk w2 (w.heap.size + 1) #[.slice none 0 0, .slice none 0 0] 25) := by first | exact hide (B11.out.kept0 k2) | exact hide ((B11.out.alloc _).kept0 k2)
       have K2 : Hid (Kept 0 0 w w2) := by first | exact hide (K1.out.trans k2) | exact hide ((kept_new K1.out _).trans k2)
       have O12 : Hid (w2.ownsRow w.heap.size 3 1 (.slice (some ⟨g1, 0, none⟩) (0 + xs.length) c1) (0 + xs.length) ([] ++ xs.map (Value.int .i64))) := by first | exact hide (O1.out.kept gr2 (.inr (fun h => by cases h))) | exact hide ((O1.out.alloc _).kept gr2 (.inr (fun h => by cases h)))
       have r0 := B12.out.cell (i := 0) rfl
       have r1 := B12.out.cell (i := 1) rfl
       have f0 := B12.out.frozen 0
       have f1 := B12.out.frozen 1
       clear own2 gr2 k2))
  all_goals
    try simp only [World.size_alloc] at b2
    go_wp2_with fail
    refine bodyPost_ret (v := .agg #[.slice (some ⟨g1, 0, none⟩) xs.length c1, .slice (some ⟨g2, 0, none⟩) m c2]) ?_ rfl ⟨g1, c1, g2, c2, rfl, ?_, ?_, by omega, ?_⟩
    · rw [results_one rfl]; go_simp
    · have h := O12.out
      simp only [Nat.zero_add, List.nil_append] at h
      exact ((h.kept (grownBy_set _ _ _ _) (.inr (fun e => by have h2 : g1 = w.heap.size + 1 := Option.some.inj e; omega))).kept (grownBy_set _ _ _ _) (.inr (fun e => by have h2 : g1 = w.heap.size + 1 := Option.some.inj e; omega)))
    · have h := O2.out
      simp only [Nat.zero_add, List.nil_append] at h
      exact ((h.kept (grownBy_set _ _ _ _) (.inr (fun e => by have h2 : g2 = w.heap.size + 1 := Option.some.inj e; omega))).kept (grownBy_set _ _ _ _) (.inr (fun e => by have h2 : g2 = w.heap.size + 1 := Option.some.inj e; omega)))
    · exact kept_set (kept_set K2.out _ _ _ (.inr (by omega))) _ _ _ (.inr (by omega))
end Go.Proofs.Ytbkafdphagmgpaa
