/- What the model of Touch answers, for every argument. Which blocks a call may have written: all but those of a kind are as they were. What the model of an access does to a bus of its own: with a code other than BusOk. What the model of an access does to a bus of its own: what is written. -/
import Derived.Test.YtblddehlkaolbaaGreatDoorJA2
import Derived.Maps.AppendAt
import Derived.Laws.AppendOwnNone
import Derived.Deep.RegionLawGrows
import Derived.Test.YtblddehlkaolbaaGreatDoorJA1
import Derived.Deep.AppendLies
import Derived.Deep.DeepCutAuto
namespace Go.Proofs.YtblddehlkaolbaaGreatDoor
open Go.RowKit
set_option linter.unusedVariables false

set_option maxHeartbeats 4000000 in
theorem l4Own_log (w : World) (ga oa gb ob : Nat) (ca cb m : Nat) (xs ys : List Int) (ha : IRow w (some ⟨ga, oa, none⟩) xs) (hb : IRow w (some ⟨gb, ob, none⟩) ys) (lx : xs.length ≤ 2000000) (ly : ys.length = 5 * m) (bm : m ≤ 2000000) (x0 : 0 < xs.length) (m0 : 0 < m) :
    Calls Tryz.prog 62 #[.agg #[.slice (some ⟨ga, oa, none⟩) xs.length ca, .slice (some ⟨gb, ob, none⟩) m cb]] w fun e w' => ∃ (g1 c1 g2 c2 : Nat), e = .returned (.agg #[.slice (some ⟨g1, 0, none⟩) xs.length c1, .slice (some ⟨g2, 0, none⟩) m c2]) ∧ w'.ownsRow w.heap.size 3 1 (.slice (some ⟨g1, 0, none⟩) xs.length c1) xs.length (xs.map (Value.int .i64)) ∧ w'.ownsRow w.heap.size 110 5 (.slice (some ⟨g2, 0, none⟩) m c2) m (ys.map (Value.int .i64)) ∧ g1 < g2 ∧ Kept 0 0 w w' := by
  obtain ⟨i, hi, hz0, hz1, hz2⟩ := info_parts Tryz.info3
  obtain ⟨j, hj, hy0, hy1, hy2⟩ := info_parts Tryz.infoAcc
  have HY := hide ly
  have HA := hide ha
  have HB := hide hb
  have K0 := hide (kept_new (kept_alloc w (.cells #[.slice (some ⟨ga, oa, none⟩) xs.length ca, .slice (some ⟨gb, ob, none⟩) m cb] 34)) (.cells #[.slice none 0 0, .slice none 0 0] 34))
  have B0 := hide ((Blk.new w #[.slice (some ⟨ga, oa, none⟩) xs.length ca, .slice (some ⟨gb, ob, none⟩) m cb] 34).alloc (.cells #[.slice none 0 0, .slice none 0 0] 34))
  have B1 := Blk.new (w.alloc (.cells #[.slice (some ⟨ga, oa, none⟩) xs.length ca, .slice (some ⟨gb, ob, none⟩) m cb] 34)) #[.slice none 0 0, .slice none 0 0] 34
  simp only [World.size_alloc] at B1
  replace B1 := hide B1
  have hn5 : (ys.map (Value.int .i64)).length = m * 5 := by rw [List.length_map, ly]; omega
  have hmx : 0 + m ≤ maxLen := by unfold maxLen; omega
  have hby : (0 + m) * 40 ≤ 140737488355328 := by omega
  have HX1 : Hid ((xs.map (Value.int .i64)).length = xs.length * 1) := hide (by simp)
  have HXM : Hid (0 + xs.length ≤ maxLen) := hide (by unfold maxLen; omega)
  have HXB : Hid ((0 + xs.length) * 8 ≤ 140737488355328) := hide (by omega)
  have H5 : Hid (0 < 5) := hide (by decide)
  have HN5 := hide hn5
  have HMX := hide hmx
  have HBY := hide hby
  clear ly ha hb hn5 hmx hby
  go_enter Tryz.func62, Tryz.ntmps62
  go_wp2_with fail
  go_region_law (first
    | (refine step_append_grows rfl (.tmp 3) (.tmp 5) 22 rfl 3 i (.int .i64 0) 1 8 Tryz.underlying22 hi hz0 hz1 hz2 rfl Nat.one_pos _ 0 0 [] rfl ?n1 rfl ?n2 ⟨ga, oa, none⟩ xs.length ca (xs.map (Value.int .i64)) rfl HX1.out ?news news_one ?n3 HXM.out HXB.out ?_
       (case n1 => intro h; cases h)
       (case n2 => intro b _ j u h; simp at h)
       (case n3 => omega)
       (case news => first | exact news_of (HA.out.keptS (kept_drew (kept_new K0.out _))) | exact news_of (HA.out.keptS (kept_drew (kept_new (kept_new K0.out _) _))))
       intro v1 w1 own1 gr1
       obtain ⟨g1, c1, rfl, b1, l1⟩ := own_form own1 (by omega)
       have k1 := undrewK (kept_grown gr1)
       have O1 := hide (own_base (base' := w.heap.size) own1 (by simp <;> omega))
       have B01 : Hid (Blk w1 w.heap.size #[.slice (some ⟨ga, oa, none⟩) xs.length ca, .slice (some ⟨gb, ob, none⟩) m cb] 34) := by first | exact hide (((B0.out.alloc _).kept0 k1)) | exact hide ((((B0.out.alloc _).alloc _).kept0 k1))
       have B11 : Hid (Blk w1 (w.heap.size + 1) #[.slice none 0 0, .slice none 0 0] 34) := by first | exact hide (((B1.out.alloc _).kept0 k1)) | exact hide ((((B1.out.alloc _).alloc _).kept0 k1))
       have K1 : Hid (Kept 0 0 w w1) := by first | exact hide ((kept_new K0.out _).trans k1) | exact hide ((kept_new (kept_new K0.out _) _).trans k1)
       have q1 := B01.out.cell (i := 1) rfl
       have q2 : ∀ o, (w1.alloc o).cell? ⟨w.heap.size, 1, none⟩ = some (.slice (some ⟨gb, ob, none⟩) m cb) := fun o => (B01.out.alloc o).cell (i := 1) rfl
       simp at b1
       clear own1 gr1 k1)
    | (refine step_append_grows rfl (.tmp 7) (.tmp 9) 32 rfl 110 j (.agg #[.int .i64 0, .int .i64 0, .int .i64 0, .int .i64 0, .int .i64 0]) 5 40 Tryz.underlying32 hj hy0 hy1 hy2 rfl H5.out _ 0 0 [] rfl ?n1 rfl ?n2 ⟨gb, ob, none⟩ m cb (ys.map (Value.int .i64)) rfl HN5.out ?news news_one ?n3 HMX.out HBY.out ?_
       (case n1 => intro h; cases h)
       (case n2 => intro b _ j u h; simp at h)
       (case n3 => omega)
       (case news => first | exact news_of (HB.out.keptS K1.out) | exact news_of (HB.out.keptS (kept_new K1.out _)))
       intro v2 w2 own2 gr2
       obtain ⟨g2, c2, rfl, b2, l2⟩ := own_form own2 (by omega)
       have k2 := kept_grown gr2
       have O2 := hide (own_base (base' := w.heap.size) own2 (by have := K1.out.size; simp <;> omega))
       have B12 : Hid (Blk w2 (w.heap.size + 1) #[.slice none 0 0, .slice none 0 0] 34) := by first | exact hide (B11.out.kept0 k2) | exact hide ((B11.out.alloc _).kept0 k2)
       have K2 : Hid (Kept 0 0 w w2) := by first | exact hide (K1.out.trans k2) | exact hide ((kept_new K1.out _).trans k2)
       have O12 : Hid (w2.ownsRow w.heap.size 3 1 (.slice (some ⟨g1, 0, none⟩) (0 + xs.length) c1) (0 + xs.length) ([] ++ xs.map (Value.int .i64))) := by first | exact hide (O1.out.kept gr2 (.inr (fun h => by cases h))) | exact hide ((O1.out.alloc _).kept gr2 (.inr (fun h => by cases h)))
       have r0 := B12.out.cell (i := 0) rfl
       have r1 := B12.out.cell (i := 1) rfl
       have f0 := B12.out.frozen 0
       have f1 := B12.out.frozen 1
       clear own2 gr2 k2))
  all_goals
    try simp only [World.size_alloc] at b2
    go_wp2_with fail
    refine bodyPost_ret (v := .agg #[.slice (some ⟨g1, 0, none⟩) xs.length c1, .slice (some ⟨g2, 0, none⟩) m c2]) ?_ rfl ⟨g1, c1, g2, c2, rfl, ?_, ?_, by omega, ?_⟩
    · rw [results_one rfl]; go_simp
    · have h := O12.out
      simp only [Nat.zero_add, List.nil_append] at h
      exact ((h.kept (grownBy_set _ _ _ _) (.inr (fun e => by have h2 : g1 = w.heap.size + 1 := Option.some.inj e; omega))).kept (grownBy_set _ _ _ _) (.inr (fun e => by have h2 : g1 = w.heap.size + 1 := Option.some.inj e; omega)))
    · have h := O2.out
      simp only [Nat.zero_add, List.nil_append] at h
      exact ((h.kept (grownBy_set _ _ _ _) (.inr (fun e => by have h2 : g2 = w.heap.size + 1 := Option.some.inj e; omega))).kept (grownBy_set _ _ _ _) (.inr (fun e => by have h2 : g2 = w.heap.size + 1 := Option.some.inj e; omega)))
    · exact kept_set (kept_set K2.out _ _ _ (.inr (by omega))) _ _ _ (.inr (by omega))
end Go.Proofs.YtblddehlkaolbaaGreatDoor

namespace Go.Proofs.YtblddehlkaolbaaGreatDoor
open Go.RowKit
set_option linter.unusedVariables false
structure FrP (P : Nat → Prop) (w w' : World) : Prop where
  os : w'.os = w.os
  tape : w'.tape = w.tape
  output : w'.output = w.output
  size : w.heap.size ≤ w'.heap.size
  block : ∀ k, k < w.heap.size → ¬ P k → w'.heap[k]? = w.heap[k]?
theorem FrP.refl (P : Nat → Prop) (w : World) : FrP P w w := ⟨rfl, rfl, rfl, Nat.le_refl _, fun _ _ _ => rfl⟩
theorem FrP.trans {P : Nat → Prop} {a b c : World} (h : FrP P a b) (k : FrP P b c) : FrP P a c :=
  ⟨k.os.trans h.os, k.tape.trans h.tape, k.output.trans h.output, Nat.le_trans h.size k.size, fun i hi hn => (k.block i (Nat.lt_of_lt_of_le hi h.size) hn).trans (h.block i hi hn)⟩
theorem FrP.wide {P Q : Nat → Prop} {a b : World} (h : FrP P a b) (hq : ∀ k, k < a.heap.size → P k → Q k) : FrP Q a b :=
  ⟨h.os, h.tape, h.output, h.size, fun k hk hn => h.block k hk (fun hp => hn (hq k hk hp))⟩
theorem frp_kept {P : Nat → Prop} {lo hi : Nat} {w w' : World} (h : Kept lo hi w w') (hp : ∀ k, lo ≤ k → k < hi → P k) : FrP P w w' :=
  ⟨h.os, h.tape, h.output, h.size, fun k hk hn => h.block k hk (fun q => hn (hp k q.1 q.2))⟩
theorem FrP.alloc {P : Nat → Prop} {a w : World} (h : FrP P a w) (o : Obj) : FrP P a (w.alloc o) := h.trans (frp_kept (kept_alloc w o) (by omega))
theorem FrP.drew {P : Nat → Prop} {a w : World} (h : FrP P a w) : FrP P a w.drew := ⟨h.os, h.tape, h.output, h.size, h.block⟩
theorem FrP.grown {P : Nat → Prop} {a w w' : World} {row : Option Nat} (h : FrP P a w) (hg : w.grownBy w' row) (hr : ∀ g, row = some g → P g) : FrP P a w' :=
  h.trans ⟨hg.os, hg.tape, hg.output, hg.size, fun k hk hn => hg.block k hk (fun e => hn (hr k e.symm))⟩
theorem FrP.set {P : Nat → Prop} {a w : World} (h : FrP P a w) (b i : Nat) (v : Value) (hb : P b ∨ a.heap.size ≤ b) : FrP P a (w.setCell ⟨b, i, none⟩ v) :=
  ⟨h.os, h.tape, h.output, Nat.le_trans h.size (by simp), fun k hk hn => (Below.heap_setCell w ⟨b, i, none⟩ v k (fun e => by
    have e2 : k = b := e
    subst e2
    rcases hb with hb | hb
    · exact hn hb
    · omega)).trans (h.block k hk hn)⟩
theorem FrP.blk {P : Nat → Prop} {w w' : World} (h : FrP P w w') {b : Nat} {cs : Array Value} {ty : TypeId} (hB : Blk w b cs ty) (hn : ¬ P b) : Blk w' b cs ty := (h.block b hB.lt hn).trans hB
theorem FrP.own {P : Nat → Prop} {w w' : World} (h : FrP P w w') {b : Nat} {xs : List Int} (hB : Own w b xs) (hn : ¬ P b) : Own w' b xs := by
  intro i hi
  obtain ⟨hc, hf⟩ := hB i hi
  have e := h.block b (World.block_lt_of_cell? _ _ hc) hn
  exact ⟨by rw [World.cell?_of_block (w := w) e]; exact hc, by rw [World.frozen?_of_block (w := w) e]; exact hf⟩
/-- the step's own blocks: from lo to hi, and the log's -/
def own (lo hi g k : Nat) : Prop := (lo ≤ k ∧ k < hi) ∨ k = g
/-- what came of it since: the log's block is as it was or new -/
def Since (w : World) (lo hi g : Nat) (w' : World) (g' : Nat) : Prop := (g' = g ∨ w.heap.size ≤ g') ∧ FrP (own lo hi g) w w'
theorem Since.refl (w : World) (lo hi g : Nat) : Since w lo hi g w g := ⟨.inl rfl, FrP.refl _ _⟩
theorem Since.size {w w' : World} {lo hi g g' : Nat} (h : Since w lo hi g w' g') : w.heap.size ≤ w'.heap.size := h.2.size
theorem Since.trans {w a b : World} {lo hi g ga gb : Nat} (h : Since w lo hi g a ga) (k : Since a lo hi ga b gb) : Since w lo hi g b gb := by
  refine ⟨?_, ?_⟩
  · have := h.2.size
    rcases k.1 with e | e
    · rcases h.1 with e2 | e2
      · exact .inl (e.trans e2)
      · exact .inr (by omega)
    · exact .inr (by omega)
  · refine ⟨k.2.os.trans h.2.os, k.2.tape.trans h.2.tape, k.2.output.trans h.2.output, Nat.le_trans h.2.size k.2.size, fun i hi hn => (k.2.block i (Nat.lt_of_lt_of_le hi h.2.size) (fun q => hn ?_)).trans (h.2.block i hi hn)⟩
    rcases q with q | q
    · exact .inl q
    · rcases h.1 with e | e
      · exact .inr (by omega)
      · omega
theorem Since.alloc {w a : World} {lo hi g g' : Nat} (h : Since w lo hi g a g') (o : Obj) : Since w lo hi g (a.alloc o) g' := ⟨h.1, h.2.alloc o⟩
theorem Since.drew {w a : World} {lo hi g g' : Nat} (h : Since w lo hi g a g') : Since w lo hi g a.drew g' := ⟨h.1, h.2.drew⟩
theorem Since.set {w a : World} {lo hi g g' : Nat} (h : Since w lo hi g a g') (b i : Nat) (v : Value) (hb : (lo ≤ b ∧ b < hi) ∨ w.heap.size ≤ b) : Since w lo hi g (a.setCell ⟨b, i, none⟩ v) g' :=
  ⟨h.1, h.2.set b i v (by rcases hb with q | q; exact .inl (.inl q); exact .inr q)⟩
theorem Since.keptS {w a b : World} {lo hi x y g g' : Nat} (h : Since w lo hi g a g') (k : Kept x y a b) (hx : lo ≤ x) (hy : y ≤ hi) : Since w lo hi g b g' := ⟨h.1, h.2.trans (frp_kept k (fun i h1 h2 => .inl (by omega)))⟩
theorem Since.any {w a b : World} {lo hi g g' : Nat} (h : Since w lo hi g a g') (k : Kept 0 0 a b) : Since w lo hi g b g' := ⟨h.1, h.2.trans (frp_kept k (by omega))⟩
/-- a block of the caller's -/
theorem Since.blk {w w' : World} {lo hi g g' : Nat} (h : Since w lo hi g w' g') {b : Nat} {cs : Array Value} {ty : TypeId} (hB : Blk w b cs ty) (hb : hi ≤ b) (hn : b ≠ g) : Blk w' b cs ty := h.2.blk hB (by unfold own; omega)
theorem Since.ne {w w' : World} {lo hi g g' : Nat} (h : Since w lo hi g w' g') {b : Nat} (hb : b < w.heap.size) (hn : b ≠ g) : b ≠ g' := by rcases h.1 with e | e <;> omega
end Go.Proofs.YtblddehlkaolbaaGreatDoor

namespace Go.Proofs.YtblddehlkaolbaaGreatDoor
open Go.RowKit
set_option linter.unusedVariables false

theorem Pl.logs_at {m : Nat} {k s a C : Int} (hC : C = Pl.code k s a) {b1 b2 b3 : Bool} (h1 : decide ((m : Int) < 400) = b1) (h2 : (k != 3) = b2) (h3 : (C != 0) = b3) : Pl.logs m k s a = (b1 && (b2 || b3)) := by
  have e : decide (m < 400) = decide ((m : Int) < 400) := by rw [Bool.eq_iff_iff]; simp; omega
  unfold Pl.logs
  rw [← hC, h2, h3, e, h1]

set_option maxRecDepth 100000 in
set_option maxHeartbeats 8000000 in
theorem l4Tm_A1 (w : World) (p base g1 g2 : Nat) (d0 d1 d2 d3 d4 d5 d6 d7 d10 d11 d12 d13 d14 d15 : Value) (xs ys : List Int) (c1 m c2 : Nat) (k s a C : Int) (hP : Blk w p #[d0, d1, d2, d3, d4, d5, d6, d7, .slice (some ⟨g1, 0, none⟩) 512 c1, .slice (some ⟨g2, 0, none⟩) m c2, d10, d11, d12, d13, d14, d15] 75) (h1 : Own w g1 xs) (lx : xs.length = 512) (hby : Pl.bytesOk xs = true)
    (hO : w.ownsRow base 110 5 (.slice (some ⟨g2, 0, none⟩) m c2) m (ys.map (Value.int .i64))) (hp : base ≤ p) (hg : base ≤ g1) (n1 : p ≠ g1) (n2 : p ≠ g2) (n3 : g1 ≠ g2) (bm : m ≤ 400) (HC : Hid (C = Pl.code k s a)) (hc : (C == 0) = false) (hs1 : 1 ≤ s) (hs2 : s ≤ 2) (a0 : 0 ≤ a) (a1 : a ≤ 65535) (hk : (k != 2) = true) :
    Calls Tryz.prog 107 #[.pointer (some ⟨p, 8, none⟩), .int .i64 k, .int .i64 s, .int .i64 a, .int .i64 0] w fun e w' => ∃ g3 c3 : Nat, e = .returned (.tuple #[.int .i64 (Pl.lv xs k s a 0), .int .i64 (Pl.code k s a)]) ∧
      Blk w' p #[d0, d1, d2, d3, d4, d5, d6, d7, .slice (some ⟨g1, 0, none⟩) 512 c1, .slice (some ⟨g3, 0, none⟩) (Pl.nm m k s a) c3, d10, d11, d12, d13, d14, d15] 75 ∧ Own w' g1 (Pl.nb xs k s a 0) ∧ w'.ownsRow base 110 5 (.slice (some ⟨g3, 0, none⟩) (Pl.nm m k s a) c3) (Pl.nm m k s a) ((Pl.nl xs ys m k s a 0).map (Value.int .i64)) ∧ (g3 = g2 ∨ w.heap.size ≤ g3) ∧ FrP (fun k => k = p ∨ k = g1 ∨ k = g2) w w' := by
  obtain ⟨i, hi0, hz0, hz1, hz2⟩ := info_parts Tryz.infoAcc
  have hcode : ¬ Pl.code k s a = 0 := by rw [← HC.out]; simpa using hc
  have E1 : Hid (xs = Pl.nb xs k s a 0) := hide (by unfold Pl.nb; rw [if_neg (fun h => hcode h.1)])
  have E2 : Hid (0 = Pl.lv xs k s a 0) := hide (by unfold Pl.lv; rw [if_neg (fun h => hcode h.1)])
  clear hcode
  have PX := hide hP
  have EX := hide h1
  have OX := hide hO
  have KX := hide (FrP.refl (fun k => k = p ∨ k = g1 ∨ k = g2) w)
  have NLEN := lx
  have t0 := hP.cell (i := 8) rfl
  have t1 := hP.cell (i := 9) rfl
  clear hP h1 hO lx hby
  have g4 : (C != 0) = true := by simpa using hc
  cases gm : decide ((m : Int) < 400)
  · cases g3 : (k != 3)
    · have HL : Hid (Pl.logs m k s a = false) := hide (Pl.logs_at HC.out gm g3 g4)
      have hnm : Hid (Pl.nm m k s a = m) := hide (by unfold Pl.nm; rw [HL.out]; rfl)
      have hnl : Hid (Pl.nl xs ys m k s a 0 = ys) := hide (by unfold Pl.nl; rw [HL.out]; rfl)
      go_enter Tryz.func107, Tryz.ntmps107
      go_wp2_with (go_at_call 151; refine (l4Code k s a _ hs1 hs2 a0 a1).mono ?_; rintro e w1 ⟨rfl, hw⟩; have hw2 := hw.symm; clear hw; subst hw2; rw [← HC.out])
      go_ret2
      exact ⟨g2, c2, rII E2.out HC.out, by rw [hnm.out]; exact PX.out, by rw [← E1.out]; exact EX.out, by rw [hnm.out, hnl.out]; exact OX.out, .inl rfl, KX.out⟩
    · have HL : Hid (Pl.logs m k s a = false) := hide (Pl.logs_at HC.out gm g3 g4)
      have hnm : Hid (Pl.nm m k s a = m) := hide (by unfold Pl.nm; rw [HL.out]; rfl)
      have hnl : Hid (Pl.nl xs ys m k s a 0 = ys) := hide (by unfold Pl.nl; rw [HL.out]; rfl)
      go_enter Tryz.func107, Tryz.ntmps107
      go_wp2_with (go_at_call 151; refine (l4Code k s a _ hs1 hs2 a0 a1).mono ?_; rintro e w1 ⟨rfl, hw⟩; have hw2 := hw.symm; clear hw; subst hw2; rw [← HC.out])
      go_ret2
      exact ⟨g2, c2, rII E2.out HC.out, by rw [hnm.out]; exact PX.out, by rw [← E1.out]; exact EX.out, by rw [hnm.out, hnl.out]; exact OX.out, .inl rfl, KX.out⟩
  · cases g3 : (k != 3)
    · have HL : Hid (Pl.logs m k s a = true) := hide (Pl.logs_at HC.out gm g3 g4)
      have H63 : Hid (m + 1 ≤ maxLen) := hide (by unfold maxLen; simp at gm; omega)
      have HBT : Hid ((m + 1) * 40 ≤ 140737488355328) := hide (by simp at gm; omega)
      have hnm : Hid (Pl.nm m k s a = m + 1) := hide (by unfold Pl.nm; rw [HL.out]; rfl)
      have hnl : Hid (Pl.nl xs ys m k s a 0 = ys ++ ([k, s, (a : Int), 0, C] : List Int)) := hide (by unfold Pl.nl; rw [HL.out, ← HC.out, ← E2.out]; rfl)
      go_enter Tryz.func107, Tryz.ntmps107
      go_wp2_with (first | (go_at_call 151; refine (l4Code k s a _ hs1 hs2 a0 a1).mono ?_; rintro e w9 ⟨rfl, hw⟩; have hw2 := hw.symm; clear hw; subst hw2; rw [← HC.out]) | (at_builtin; refine wpList_append_lies _ rfl _ _ _ rfl base 110 i _ 5 40 Tryz.underlying32 hi0 hz0 hz1 hz2 rfl (by omega) (.slice (some ⟨g2, 0, none⟩) m c2) m (ys.map (Value.int .i64)) rfl (OX.out.alloc _) ⟨w.heap.size, 0, none⟩ 1 1 [.int .i64 k, .int .i64 s, .int .i64 a, .int .i64 0, .int .i64 C] rfl rfl (World.news_of_block (cs := #[.int .i64 k, .int .i64 s, .int .i64 a, .int .i64 0, .int .i64 C]) (t := 110) (fr := (0, 0)) (heap_alloc_new w _)) (by simp [Value.oneCell']) (by omega) H63.out HBT.out (by have := PX.out.lt; simp; omega) (w.heap.size + 1) (by simp) ?_))
      intro g3 c3 w1 hown1 hgrow hat hlt
      have lp := PX.out.lt
      have lg := EX.out.lt (by rw [NLEN]; decide)
      obtain ⟨lg2, lg3⟩ := OX.out.lt g2 rfl
      have P1 : Hid (Blk w1 p #[d0, d1, d2, d3, d4, d5, d6, d7, .slice (some ⟨g1, 0, none⟩) 512 c1, .slice (some ⟨g2, 0, none⟩) m c2, d10, d11, d12, d13, d14, d15] 75) := hide ((hgrow.block p (by simp; omega) (by simp [Value.ownBlock]; omega)).trans (PX.out.alloc _))
      have G1 : Hid (Own w1 g1 xs) := hide ((EX.out.keptS (kept_alloc _ _) (by omega)).kept hgrow (by simp [Value.ownBlock]; omega))
      have y0 := P1.out.cell (i := 8) rfl
      have y1 := P1.out.cell (i := 9) rfl
      have f1 := P1.out.frozen 9
      have O1 := hide hown1
      have K1 : Hid (FrP (fun k => k = p ∨ k = g1 ∨ k = g2) w w1) := hide ((KX.out.alloc _).grown hgrow (by intro g hg; have h2 : g2 = g := Option.some.inj hg; exact .inr (.inr h2.symm)))
      have hsz := KX.out.size
      have hat2 : g2 = g3 ∨ g3 = w.heap.size + 1 := by
        rcases hat with h | h
        · exact .inl (Option.some.inj h)
        · exact .inr h
      clear hown1 hgrow hat
      go_wp2_with fail
      go_ret2
      refine ⟨g3, c3, rII E2.out HC.out, by rw [hnm.out]; exact P1.out.set 9 _, by rw [← E1.out]; exact G1.out.setOther _ _ _ (by omega), ?_, by omega, K1.out.set _ _ _ (.inl (.inl rfl))⟩
      rw [hnl.out, hnm.out, List.map_append]
      exact O1.out.kept (grownBy_set _ _ _ _) (.inr (fun e => by have h3 : g3 = p := Option.some.inj e; omega))
    · have HL : Hid (Pl.logs m k s a = true) := hide (Pl.logs_at HC.out gm g3 g4)
      have H63 : Hid (m + 1 ≤ maxLen) := hide (by unfold maxLen; simp at gm; omega)
      have HBT : Hid ((m + 1) * 40 ≤ 140737488355328) := hide (by simp at gm; omega)
      have hnm : Hid (Pl.nm m k s a = m + 1) := hide (by unfold Pl.nm; rw [HL.out]; rfl)
      have hnl : Hid (Pl.nl xs ys m k s a 0 = ys ++ ([k, s, (a : Int), 0, C] : List Int)) := hide (by unfold Pl.nl; rw [HL.out, ← HC.out, ← E2.out]; rfl)
      go_enter Tryz.func107, Tryz.ntmps107
      go_wp2_with (first | (go_at_call 151; refine (l4Code k s a _ hs1 hs2 a0 a1).mono ?_; rintro e w9 ⟨rfl, hw⟩; have hw2 := hw.symm; clear hw; subst hw2; rw [← HC.out]) | (at_builtin; refine wpList_append_lies _ rfl _ _ _ rfl base 110 i _ 5 40 Tryz.underlying32 hi0 hz0 hz1 hz2 rfl (by omega) (.slice (some ⟨g2, 0, none⟩) m c2) m (ys.map (Value.int .i64)) rfl (OX.out.alloc _) ⟨w.heap.size, 0, none⟩ 1 1 [.int .i64 k, .int .i64 s, .int .i64 a, .int .i64 0, .int .i64 C] rfl rfl (World.news_of_block (cs := #[.int .i64 k, .int .i64 s, .int .i64 a, .int .i64 0, .int .i64 C]) (t := 110) (fr := (0, 0)) (heap_alloc_new w _)) (by simp [Value.oneCell']) (by omega) H63.out HBT.out (by have := PX.out.lt; simp; omega) (w.heap.size + 1) (by simp) ?_))
      intro g3 c3 w1 hown1 hgrow hat hlt
      have lp := PX.out.lt
      have lg := EX.out.lt (by rw [NLEN]; decide)
      obtain ⟨lg2, lg3⟩ := OX.out.lt g2 rfl
      have P1 : Hid (Blk w1 p #[d0, d1, d2, d3, d4, d5, d6, d7, .slice (some ⟨g1, 0, none⟩) 512 c1, .slice (some ⟨g2, 0, none⟩) m c2, d10, d11, d12, d13, d14, d15] 75) := hide ((hgrow.block p (by simp; omega) (by simp [Value.ownBlock]; omega)).trans (PX.out.alloc _))
      have G1 : Hid (Own w1 g1 xs) := hide ((EX.out.keptS (kept_alloc _ _) (by omega)).kept hgrow (by simp [Value.ownBlock]; omega))
      have y0 := P1.out.cell (i := 8) rfl
      have y1 := P1.out.cell (i := 9) rfl
      have f1 := P1.out.frozen 9
      have O1 := hide hown1
      have K1 : Hid (FrP (fun k => k = p ∨ k = g1 ∨ k = g2) w w1) := hide ((KX.out.alloc _).grown hgrow (by intro g hg; have h2 : g2 = g := Option.some.inj hg; exact .inr (.inr h2.symm)))
      have hsz := KX.out.size
      have hat2 : g2 = g3 ∨ g3 = w.heap.size + 1 := by
        rcases hat with h | h
        · exact .inl (Option.some.inj h)
        · exact .inr h
      clear hown1 hgrow hat
      go_wp2_with fail
      go_ret2
      refine ⟨g3, c3, rII E2.out HC.out, by rw [hnm.out]; exact P1.out.set 9 _, by rw [← E1.out]; exact G1.out.setOther _ _ _ (by omega), ?_, by omega, K1.out.set _ _ _ (.inl (.inl rfl))⟩
      rw [hnl.out, hnm.out, List.map_append]
      exact O1.out.kept (grownBy_set _ _ _ _) (.inr (fun e => by have h3 : g3 = p := Option.some.inj e; omega))

set_option maxRecDepth 100000 in
set_option maxHeartbeats 8000000 in
theorem l4Tm_A2 (w : World) (p base g1 g2 : Nat) (d0 d1 d2 d3 d4 d5 d6 d7 d10 d11 d12 d13 d14 d15 : Value) (xs ys : List Int) (c1 m c2 : Nat) (s a v C : Int) (hP : Blk w p #[d0, d1, d2, d3, d4, d5, d6, d7, .slice (some ⟨g1, 0, none⟩) 512 c1, .slice (some ⟨g2, 0, none⟩) m c2, d10, d11, d12, d13, d14, d15] 75) (h1 : Own w g1 xs) (lx : xs.length = 512) (hby : Pl.bytesOk xs = true)
    (hO : w.ownsRow base 110 5 (.slice (some ⟨g2, 0, none⟩) m c2) m (ys.map (Value.int .i64))) (hp : base ≤ p) (hg : base ≤ g1) (n1 : p ≠ g1) (n2 : p ≠ g2) (n3 : g1 ≠ g2) (bm : m ≤ 400) (HC : Hid (C = Pl.code 2 s a)) (hc : (C == 0) = false) (hs1 : 1 ≤ s) (hs2 : s ≤ 2) (a0 : 0 ≤ a) (a1 : a ≤ 65535) :
    Calls Tryz.prog 107 #[.pointer (some ⟨p, 8, none⟩), .int .i64 2, .int .i64 s, .int .i64 a, .int .i64 v] w fun e w' => ∃ g3 c3 : Nat, e = .returned (.tuple #[.int .i64 (Pl.lv xs 2 s a v), .int .i64 (Pl.code 2 s a)]) ∧
      Blk w' p #[d0, d1, d2, d3, d4, d5, d6, d7, .slice (some ⟨g1, 0, none⟩) 512 c1, .slice (some ⟨g3, 0, none⟩) (Pl.nm m 2 s a) c3, d10, d11, d12, d13, d14, d15] 75 ∧ Own w' g1 (Pl.nb xs 2 s a v) ∧ w'.ownsRow base 110 5 (.slice (some ⟨g3, 0, none⟩) (Pl.nm m 2 s a) c3) (Pl.nm m 2 s a) ((Pl.nl xs ys m 2 s a v).map (Value.int .i64)) ∧ (g3 = g2 ∨ w.heap.size ≤ g3) ∧ FrP (fun k => k = p ∨ k = g1 ∨ k = g2) w w' := by
  obtain ⟨i, hi0, hz0, hz1, hz2⟩ := info_parts Tryz.infoAcc
  have hcode : ¬ Pl.code 2 s a = 0 := by rw [← HC.out]; simpa using hc
  have E1 : Hid (xs = Pl.nb xs 2 s a v) := hide (by unfold Pl.nb; rw [if_neg (fun h => hcode h.1)])
  have E2 : Hid (v = Pl.lv xs 2 s a v) := hide (by unfold Pl.lv; rw [if_neg (fun h => hcode h.1)])
  clear hcode
  have PX := hide hP
  have EX := hide h1
  have OX := hide hO
  have KX := hide (FrP.refl (fun k => k = p ∨ k = g1 ∨ k = g2) w)
  have NLEN := lx
  have t0 := hP.cell (i := 8) rfl
  have t1 := hP.cell (i := 9) rfl
  clear hP h1 hO lx hby
  have g4 : (C != 0) = true := by simpa using hc
  cases gm : decide ((m : Int) < 400)
  · have HL : Hid (Pl.logs m 2 s a = false) := hide (Pl.logs_at HC.out gm rfl g4)
    have hnm : Hid (Pl.nm m 2 s a = m) := hide (by unfold Pl.nm; rw [HL.out]; rfl)
    have hnl : Hid (Pl.nl xs ys m 2 s a v = ys) := hide (by unfold Pl.nl; rw [HL.out]; rfl)
    go_enter Tryz.func107, Tryz.ntmps107
    go_wp2_with (go_at_call 151; refine (l4Code 2 s a _ hs1 hs2 a0 a1).mono ?_; rintro e w1 ⟨rfl, hw⟩; have hw2 := hw.symm; clear hw; subst hw2; rw [← HC.out])
    go_ret2
    exact ⟨g2, c2, rII E2.out HC.out, by rw [hnm.out]; exact PX.out, by rw [← E1.out]; exact EX.out, by rw [hnm.out, hnl.out]; exact OX.out, .inl rfl, KX.out⟩
  · have HL : Hid (Pl.logs m 2 s a = true) := hide (Pl.logs_at HC.out gm rfl g4)
    have H63 : Hid (m + 1 ≤ maxLen) := hide (by unfold maxLen; simp at gm; omega)
    have HBT : Hid ((m + 1) * 40 ≤ 140737488355328) := hide (by simp at gm; omega)
    have hnm : Hid (Pl.nm m 2 s a = m + 1) := hide (by unfold Pl.nm; rw [HL.out]; rfl)
    have hnl : Hid (Pl.nl xs ys m 2 s a v = ys ++ ([2, s, (a : Int), v, C] : List Int)) := hide (by unfold Pl.nl; rw [HL.out, ← HC.out, ← E2.out]; rfl)
    go_enter Tryz.func107, Tryz.ntmps107
    go_wp2_with (first | (go_at_call 151; refine (l4Code 2 s a _ hs1 hs2 a0 a1).mono ?_; rintro e w9 ⟨rfl, hw⟩; have hw2 := hw.symm; clear hw; subst hw2; rw [← HC.out]) | (at_builtin; refine wpList_append_lies _ rfl _ _ _ rfl base 110 i _ 5 40 Tryz.underlying32 hi0 hz0 hz1 hz2 rfl (by omega) (.slice (some ⟨g2, 0, none⟩) m c2) m (ys.map (Value.int .i64)) rfl (OX.out.alloc _) ⟨w.heap.size, 0, none⟩ 1 1 [.int .i64 2, .int .i64 s, .int .i64 a, .int .i64 v, .int .i64 C] rfl rfl (World.news_of_block (cs := #[.int .i64 2, .int .i64 s, .int .i64 a, .int .i64 v, .int .i64 C]) (t := 110) (fr := (0, 0)) (heap_alloc_new w _)) (by simp [Value.oneCell']) (by omega) H63.out HBT.out (by have := PX.out.lt; simp; omega) (w.heap.size + 1) (by simp) ?_))
    intro g3 c3 w1 hown1 hgrow hat hlt
    have lp := PX.out.lt
    have lg := EX.out.lt (by rw [NLEN]; decide)
    obtain ⟨lg2, lg3⟩ := OX.out.lt g2 rfl
    have P1 : Hid (Blk w1 p #[d0, d1, d2, d3, d4, d5, d6, d7, .slice (some ⟨g1, 0, none⟩) 512 c1, .slice (some ⟨g2, 0, none⟩) m c2, d10, d11, d12, d13, d14, d15] 75) := hide ((hgrow.block p (by simp; omega) (by simp [Value.ownBlock]; omega)).trans (PX.out.alloc _))
    have G1 : Hid (Own w1 g1 xs) := hide ((EX.out.keptS (kept_alloc _ _) (by omega)).kept hgrow (by simp [Value.ownBlock]; omega))
    have y0 := P1.out.cell (i := 8) rfl
    have y1 := P1.out.cell (i := 9) rfl
    have f1 := P1.out.frozen 9
    have O1 := hide hown1
    have K1 : Hid (FrP (fun k => k = p ∨ k = g1 ∨ k = g2) w w1) := hide ((KX.out.alloc _).grown hgrow (by intro g hg; have h2 : g2 = g := Option.some.inj hg; exact .inr (.inr h2.symm)))
    have hsz := KX.out.size
    have hat2 : g2 = g3 ∨ g3 = w.heap.size + 1 := by
      rcases hat with h | h
      · exact .inl (Option.some.inj h)
      · exact .inr h
    clear hown1 hgrow hat
    go_wp2_with fail
    go_ret2
    refine ⟨g3, c3, rII E2.out HC.out, by rw [hnm.out]; exact P1.out.set 9 _, by rw [← E1.out]; exact G1.out.setOther _ _ _ (by omega), ?_, by omega, K1.out.set _ _ _ (.inl (.inl rfl))⟩
    rw [hnl.out, hnm.out, List.map_append]
    exact O1.out.kept (grownBy_set _ _ _ _) (.inr (fun e => by have h3 : g3 = p := Option.some.inj e; omega))

end Go.Proofs.YtblddehlkaolbaaGreatDoor

namespace Go.Proofs.YtblddehlkaolbaaGreatDoor
open Go.RowKit
set_option linter.unusedVariables false

set_option maxRecDepth 100000 in
set_option maxHeartbeats 8000000 in
theorem l4Tm_B1 (w : World) (p base g1 g2 : Nat) (d0 d1 d2 d3 d4 d5 d6 d7 d10 d11 d12 d13 d14 d15 : Value) (xs ys : List Int) (c1 m c2 : Nat) (n : Nat) (v : Int) (hP : Blk w p #[d0, d1, d2, d3, d4, d5, d6, d7, .slice (some ⟨g1, 0, none⟩) 512 c1, .slice (some ⟨g2, 0, none⟩) m c2, d10, d11, d12, d13, d14, d15] 75) (h1 : Own w g1 xs) (lx : xs.length = 512) (hby : Pl.bytesOk xs = true)
    (hO : w.ownsRow base 110 5 (.slice (some ⟨g2, 0, none⟩) m c2) m (ys.map (Value.int .i64))) (hp : base ≤ p) (hg : base ≤ g1) (n1 : p ≠ g1) (n2 : p ≠ g2) (n3 : g1 ≠ g2) (bm : m ≤ 400) (HC : Hid (0 = Pl.code 2 1 n)) (hn : n + 1 ≤ 512) (v0 : 0 ≤ v) (v1 : v ≤ 255) :
    Calls Tryz.prog 107 #[.pointer (some ⟨p, 8, none⟩), .int .i64 2, .int .i64 1, .int .i64 n, .int .i64 v] w fun e w' => ∃ g3 c3 : Nat, e = .returned (.tuple #[.int .i64 (Pl.lv xs 2 1 n v), .int .i64 (Pl.code 2 1 n)]) ∧
      Blk w' p #[d0, d1, d2, d3, d4, d5, d6, d7, .slice (some ⟨g1, 0, none⟩) 512 c1, .slice (some ⟨g3, 0, none⟩) (Pl.nm m 2 1 n) c3, d10, d11, d12, d13, d14, d15] 75 ∧ Own w' g1 (Pl.nb xs 2 1 n v) ∧ w'.ownsRow base 110 5 (.slice (some ⟨g3, 0, none⟩) (Pl.nm m 2 1 n) c3) (Pl.nm m 2 1 n) ((Pl.nl xs ys m 2 1 n v).map (Value.int .i64)) ∧ (g3 = g2 ∨ w.heap.size ≤ g3) ∧ FrP (fun k => k = p ∨ k = g1 ∨ k = g2) w w' := by
  obtain ⟨i, hi0, hz0, hz1, hz2⟩ := info_parts Tryz.infoAcc
  have E1 : Hid (xs.set n v = Pl.nb xs 2 1 n v) := hide (by unfold Pl.nb; rw [if_pos ⟨HC.out.symm, rfl⟩]; rfl)
  have E2 : Hid (v = Pl.lv xs 2 1 n v) := hide (by unfold Pl.lv; rw [if_neg (by simp)])
  have t0 := hP.cell (i := 8) rfl
  have t1 := hP.cell (i := 9) rfl
  have i0 : (0 : Int) ≤ (n : Int) := by omega
  have i1 : (n : Int) < 512 := by omega
  have e255 : bits .and .i64 v 255 = v := by rw [Pl.and255]; omega
  obtain ⟨c0, f0⟩ := h1 n (by omega)
  go_enter Tryz.func107, Tryz.ntmps107
  go_wp2_with (go_at_call 151; refine (l4Code 2 1 n _ (by omega) (by omega) (by omega) (by omega)).mono ?_; rintro e w1 ⟨rfl, hw⟩; have hw2 := hw.symm; clear hw; subst hw2; rw [← HC.out])
  go_loopw [13, 14] (fun x j wr => x = .int .i64 v ∧ ((j = .int .i64 0 ∧ wr = w) ∨ (j = .int .i64 1 ∧ Blk wr p #[d0, d1, d2, d3, d4, d5, d6, d7, .slice (some ⟨g1, 0, none⟩) 512 c1, .slice (some ⟨g2, 0, none⟩) m c2, d10, d11, d12, d13, d14, d15] 75 ∧ Own wr g1 (xs.set n v) ∧ wr.ownsRow base 110 5 (.slice (some ⟨g2, 0, none⟩) m c2) m (ys.map (Value.int .i64)) ∧ Kept g1 (g1 + 1) w wr))) (fun _ j _ => (3 - intOf j).toNat)
  case atStart => exact ⟨rfl, .inl ⟨rfl, rfl⟩⟩
  case round =>
    obtain ⟨rfl, hrel⟩ := hrel
    rcases hrel with ⟨rfl, hw⟩ | ⟨rfl, hp1, ho1, hr1, hk1⟩
    · have hw2 := hw.symm
      clear hw
      subst hw2
      go_wp2
      go_roundw
      case rel => exact ⟨rfl, .inr ⟨by go_num, hP.other _ _ _ n1, h1.set_el _, hO.kept (grownBy_set _ _ _ _) (.inr (fun e => by have h3 : g2 = g1 := Option.some.inj e; omega)), kept_set (Kept.refl _ _ _) _ _ _ (.inl (by omega))⟩⟩
      case measure => simp [intOf]
    · clear t0 t1 c0 f0
      have PX := hide hp1
      have EX := hide ho1
      have OX := hide hr1
      have lg := h1.lt (by rw [lx]; decide)
      have KX : Hid (FrP (fun k => k = p ∨ k = g1 ∨ k = g2) w wr) := hide (frp_kept hk1 (fun i h1 h2 => .inr (.inl (by omega))))
      have NLEN : (xs.set n v).length = 512 := by simp [lx]
      have t0 := hp1.cell (i := 8) rfl
      have t1 := hp1.cell (i := 9) rfl
      clear hp1 ho1 hr1 hk1 hP h1 hO lg
      cases gm : decide ((m : Int) < 400)
      · have HL : Hid (Pl.logs m 2 1 n = false) := hide (Pl.logs_at HC.out gm rfl rfl)
        have hnm : Hid (Pl.nm m 2 1 n = m) := hide (by unfold Pl.nm; rw [HL.out]; rfl)
        have hnl : Hid (Pl.nl xs ys m 2 1 n v = ys) := hide (by unfold Pl.nl; rw [HL.out]; rfl)
        skip
        go_wp2_with fail
        go_ret2
        exact ⟨g2, c2, rII E2.out HC.out, by rw [hnm.out]; exact PX.out, by rw [← E1.out]; exact EX.out, by rw [hnm.out, hnl.out]; exact OX.out, .inl rfl, KX.out⟩
      · have HL : Hid (Pl.logs m 2 1 n = true) := hide (Pl.logs_at HC.out gm rfl rfl)
        have H63 : Hid (m + 1 ≤ maxLen) := hide (by unfold maxLen; simp at gm; omega)
        have HBT : Hid ((m + 1) * 40 ≤ 140737488355328) := hide (by simp at gm; omega)
        have hnm : Hid (Pl.nm m 2 1 n = m + 1) := hide (by unfold Pl.nm; rw [HL.out]; rfl)
        have hnl : Hid (Pl.nl xs ys m 2 1 n v = ys ++ ([2, 1, (n : Int), v, 0] : List Int)) := hide (by unfold Pl.nl; rw [HL.out, ← HC.out, ← E2.out]; rfl)
        skip
        go_wp2_with (first | (at_builtin; refine wpList_append_lies _ rfl _ _ _ rfl base 110 i _ 5 40 Tryz.underlying32 hi0 hz0 hz1 hz2 rfl (by omega) (.slice (some ⟨g2, 0, none⟩) m c2) m (ys.map (Value.int .i64)) rfl (OX.out.alloc _) ⟨wr.heap.size, 0, none⟩ 1 1 [.int .i64 2, .int .i64 1, .int .i64 n, .int .i64 v, .int .i64 0] rfl rfl (World.news_of_block (cs := #[.int .i64 2, .int .i64 1, .int .i64 n, .int .i64 v, .int .i64 0]) (t := 110) (fr := (0, 0)) (heap_alloc_new wr _)) (by simp [Value.oneCell']) (by omega) H63.out HBT.out (by have := PX.out.lt; simp; omega) (wr.heap.size + 1) (by simp) ?_))
        intro g3 c3 w1 hown1 hgrow hat hlt
        have lp := PX.out.lt
        have lg := EX.out.lt (by rw [NLEN]; decide)
        obtain ⟨lg2, lg3⟩ := OX.out.lt g2 rfl
        have P1 : Hid (Blk w1 p #[d0, d1, d2, d3, d4, d5, d6, d7, .slice (some ⟨g1, 0, none⟩) 512 c1, .slice (some ⟨g2, 0, none⟩) m c2, d10, d11, d12, d13, d14, d15] 75) := hide ((hgrow.block p (by simp; omega) (by simp [Value.ownBlock]; omega)).trans (PX.out.alloc _))
        have G1 : Hid (Own w1 g1 (xs.set n v)) := hide ((EX.out.keptS (kept_alloc _ _) (by omega)).kept hgrow (by simp [Value.ownBlock]; omega))
        have y0 := P1.out.cell (i := 8) rfl
        have y1 := P1.out.cell (i := 9) rfl
        have f1 := P1.out.frozen 9
        have O1 := hide hown1
        have K1 : Hid (FrP (fun k => k = p ∨ k = g1 ∨ k = g2) w w1) := hide ((KX.out.alloc _).grown hgrow (by intro g hg; have h2 : g2 = g := Option.some.inj hg; exact .inr (.inr h2.symm)))
        have hsz := KX.out.size
        have hat2 : g2 = g3 ∨ g3 = wr.heap.size + 1 := by
          rcases hat with h | h
          · exact .inl (Option.some.inj h)
          · exact .inr h
        clear hown1 hgrow hat
        go_wp2_with fail
        go_ret2
        refine ⟨g3, c3, rII E2.out HC.out, by rw [hnm.out]; exact P1.out.set 9 _, by rw [← E1.out]; exact G1.out.setOther _ _ _ (by omega), ?_, by omega, K1.out.set _ _ _ (.inl (.inl rfl))⟩
        rw [hnl.out, hnm.out, List.map_append]
        exact O1.out.kept (grownBy_set _ _ _ _) (.inr (fun e => by have h3 : g3 = p := Option.some.inj e; omega))

set_option maxRecDepth 100000 in
set_option maxHeartbeats 8000000 in
theorem l4Tm_B2 (w : World) (p base g1 g2 : Nat) (d0 d1 d2 d3 d4 d5 d6 d7 d10 d11 d12 d13 d14 d15 : Value) (xs ys : List Int) (c1 m c2 : Nat) (n : Nat) (v : Int) (hP : Blk w p #[d0, d1, d2, d3, d4, d5, d6, d7, .slice (some ⟨g1, 0, none⟩) 512 c1, .slice (some ⟨g2, 0, none⟩) m c2, d10, d11, d12, d13, d14, d15] 75) (h1 : Own w g1 xs) (lx : xs.length = 512) (hby : Pl.bytesOk xs = true)
    (hO : w.ownsRow base 110 5 (.slice (some ⟨g2, 0, none⟩) m c2) m (ys.map (Value.int .i64))) (hp : base ≤ p) (hg : base ≤ g1) (n1 : p ≠ g1) (n2 : p ≠ g2) (n3 : g1 ≠ g2) (bm : m ≤ 400) (HC : Hid (0 = Pl.code 2 2 n)) (hn : n + 2 ≤ 512) (v0 : 0 ≤ v) (v1 : v ≤ 65535) :
    Calls Tryz.prog 107 #[.pointer (some ⟨p, 8, none⟩), .int .i64 2, .int .i64 2, .int .i64 n, .int .i64 v] w fun e w' => ∃ g3 c3 : Nat, e = .returned (.tuple #[.int .i64 (Pl.lv xs 2 2 n v), .int .i64 (Pl.code 2 2 n)]) ∧
      Blk w' p #[d0, d1, d2, d3, d4, d5, d6, d7, .slice (some ⟨g1, 0, none⟩) 512 c1, .slice (some ⟨g3, 0, none⟩) (Pl.nm m 2 2 n) c3, d10, d11, d12, d13, d14, d15] 75 ∧ Own w' g1 (Pl.nb xs 2 2 n v) ∧ w'.ownsRow base 110 5 (.slice (some ⟨g3, 0, none⟩) (Pl.nm m 2 2 n) c3) (Pl.nm m 2 2 n) ((Pl.nl xs ys m 2 2 n v).map (Value.int .i64)) ∧ (g3 = g2 ∨ w.heap.size ≤ g3) ∧ FrP (fun k => k = p ∨ k = g1 ∨ k = g2) w w' := by
  obtain ⟨i, hi0, hz0, hz1, hz2⟩ := info_parts Tryz.infoAcc
  have E1 : Hid ((xs.set n (v / 256)).set (n + 1) (v % 256) = Pl.nb xs 2 2 n v) := hide (by unfold Pl.nb; rw [if_pos ⟨HC.out.symm, rfl⟩]; rfl)
  have E2 : Hid (v = Pl.lv xs 2 2 n v) := hide (by unfold Pl.lv; rw [if_neg (by simp)])
  have t0 := hP.cell (i := 8) rfl
  have t1 := hP.cell (i := 9) rfl
  have i0 : (0 : Int) ≤ (n : Int) := by omega
  have i1 : (n : Int) < 512 := by omega
  have e255 := Pl.and255 v
  have e256 : bits .and .i64 (v / 256) 255 = v / 256 := by rw [Pl.and255]; omega
  have i2 : (0 : Int) ≤ (n : Int) + 1 := by omega
  have i3 : (n : Int) + 1 < 512 := by omega
  obtain ⟨c0, f0⟩ := h1 n (by omega)
  go_enter Tryz.func107, Tryz.ntmps107
  go_wp2_with (go_at_call 151; refine (l4Code 2 2 n _ (by omega) (by omega) (by omega) (by omega)).mono ?_; rintro e w1 ⟨rfl, hw⟩; have hw2 := hw.symm; clear hw; subst hw2; rw [← HC.out])
  go_loopw [13, 14] (fun x j wr => x = .int .i64 v ∧ ((j = .int .i64 0 ∧ wr = w) ∨ (j = .int .i64 1 ∧ Blk wr p #[d0, d1, d2, d3, d4, d5, d6, d7, .slice (some ⟨g1, 0, none⟩) 512 c1, .slice (some ⟨g2, 0, none⟩) m c2, d10, d11, d12, d13, d14, d15] 75 ∧ Own wr g1 (xs.set n (v / 256)) ∧ wr.ownsRow base 110 5 (.slice (some ⟨g2, 0, none⟩) m c2) m (ys.map (Value.int .i64)) ∧ Kept g1 (g1 + 1) w wr) ∨ (j = .int .i64 2 ∧ Blk wr p #[d0, d1, d2, d3, d4, d5, d6, d7, .slice (some ⟨g1, 0, none⟩) 512 c1, .slice (some ⟨g2, 0, none⟩) m c2, d10, d11, d12, d13, d14, d15] 75 ∧ Own wr g1 ((xs.set n (v / 256)).set (n + 1) (v % 256)) ∧ wr.ownsRow base 110 5 (.slice (some ⟨g2, 0, none⟩) m c2) m (ys.map (Value.int .i64)) ∧ Kept g1 (g1 + 1) w wr))) (fun _ j _ => (3 - intOf j).toNat)
  case atStart => exact ⟨rfl, .inl ⟨rfl, rfl⟩⟩
  case round =>
    obtain ⟨rfl, hrel⟩ := hrel
    rcases hrel with ⟨rfl, hw⟩ | ⟨rfl, hp1, ho1, hr1, hk1⟩ | ⟨rfl, hp1, ho1, hr1, hk1⟩
    · have hw2 := hw.symm
      clear hw
      subst hw2
      go_wp2
      go_roundw
      case rel => exact ⟨rfl, .inr (.inl ⟨by go_num, hP.other _ _ _ n1, h1.set_el _, hO.kept (grownBy_set _ _ _ _) (.inr (fun e => by have h3 : g2 = g1 := Option.some.inj e; omega)), kept_set (Kept.refl _ _ _) _ _ _ (.inl (by omega))⟩)⟩
      case measure => simp [intOf]
    · obtain ⟨c1', f1'⟩ := ho1 (n + 1) (by rw [List.length_set]; omega)
      have P1 := hide hp1
      have O1 := hide ho1
      have R1 := hide hr1
      have K1 := hide hk1
      have s0 := hp1.cell (i := 8) rfl
      have s1 := hp1.cell (i := 9) rfl
      clear hp1 ho1 hr1 hk1 c0 f0 t0 t1
      go_wp2
      go_roundw
      case rel => exact ⟨rfl, .inr (.inr ⟨by go_num, P1.out.other _ _ _ n1, O1.out.set_el _, R1.out.kept (grownBy_set _ _ _ _) (.inr (fun e => by have h3 : g2 = g1 := Option.some.inj e; omega)), kept_set K1.out _ _ _ (.inl (by omega))⟩)⟩
      case measure => simp [intOf]
    · clear t0 t1 c0 f0
      have PX := hide hp1
      have EX := hide ho1
      have OX := hide hr1
      have lg := h1.lt (by rw [lx]; decide)
      have KX : Hid (FrP (fun k => k = p ∨ k = g1 ∨ k = g2) w wr) := hide (frp_kept hk1 (fun i h1 h2 => .inr (.inl (by omega))))
      have NLEN : ((xs.set n (v / 256)).set (n + 1) (v % 256)).length = 512 := by simp [lx]
      have t0 := hp1.cell (i := 8) rfl
      have t1 := hp1.cell (i := 9) rfl
      clear hp1 ho1 hr1 hk1 hP h1 hO lg
      cases gm : decide ((m : Int) < 400)
      · have HL : Hid (Pl.logs m 2 2 n = false) := hide (Pl.logs_at HC.out gm rfl rfl)
        have hnm : Hid (Pl.nm m 2 2 n = m) := hide (by unfold Pl.nm; rw [HL.out]; rfl)
        have hnl : Hid (Pl.nl xs ys m 2 2 n v = ys) := hide (by unfold Pl.nl; rw [HL.out]; rfl)
        skip
        go_wp2_with fail
        go_ret2
        exact ⟨g2, c2, rII E2.out HC.out, by rw [hnm.out]; exact PX.out, by rw [← E1.out]; exact EX.out, by rw [hnm.out, hnl.out]; exact OX.out, .inl rfl, KX.out⟩
      · have HL : Hid (Pl.logs m 2 2 n = true) := hide (Pl.logs_at HC.out gm rfl rfl)
        have H63 : Hid (m + 1 ≤ maxLen) := hide (by unfold maxLen; simp at gm; omega)
        have HBT : Hid ((m + 1) * 40 ≤ 140737488355328) := hide (by simp at gm; omega)
        have hnm : Hid (Pl.nm m 2 2 n = m + 1) := hide (by unfold Pl.nm; rw [HL.out]; rfl)
        have hnl : Hid (Pl.nl xs ys m 2 2 n v = ys ++ ([2, 2, (n : Int), v, 0] : List Int)) := hide (by unfold Pl.nl; rw [HL.out, ← HC.out, ← E2.out]; rfl)
        skip
        go_wp2_with (first | (at_builtin; refine wpList_append_lies _ rfl _ _ _ rfl base 110 i _ 5 40 Tryz.underlying32 hi0 hz0 hz1 hz2 rfl (by omega) (.slice (some ⟨g2, 0, none⟩) m c2) m (ys.map (Value.int .i64)) rfl (OX.out.alloc _) ⟨wr.heap.size, 0, none⟩ 1 1 [.int .i64 2, .int .i64 2, .int .i64 n, .int .i64 v, .int .i64 0] rfl rfl (World.news_of_block (cs := #[.int .i64 2, .int .i64 2, .int .i64 n, .int .i64 v, .int .i64 0]) (t := 110) (fr := (0, 0)) (heap_alloc_new wr _)) (by simp [Value.oneCell']) (by omega) H63.out HBT.out (by have := PX.out.lt; simp; omega) (wr.heap.size + 1) (by simp) ?_))
        intro g3 c3 w1 hown1 hgrow hat hlt
        have lp := PX.out.lt
        have lg := EX.out.lt (by rw [NLEN]; decide)
        obtain ⟨lg2, lg3⟩ := OX.out.lt g2 rfl
        have P1 : Hid (Blk w1 p #[d0, d1, d2, d3, d4, d5, d6, d7, .slice (some ⟨g1, 0, none⟩) 512 c1, .slice (some ⟨g2, 0, none⟩) m c2, d10, d11, d12, d13, d14, d15] 75) := hide ((hgrow.block p (by simp; omega) (by simp [Value.ownBlock]; omega)).trans (PX.out.alloc _))
        have G1 : Hid (Own w1 g1 ((xs.set n (v / 256)).set (n + 1) (v % 256))) := hide ((EX.out.keptS (kept_alloc _ _) (by omega)).kept hgrow (by simp [Value.ownBlock]; omega))
        have y0 := P1.out.cell (i := 8) rfl
        have y1 := P1.out.cell (i := 9) rfl
        have f1 := P1.out.frozen 9
        have O1 := hide hown1
        have K1 : Hid (FrP (fun k => k = p ∨ k = g1 ∨ k = g2) w w1) := hide ((KX.out.alloc _).grown hgrow (by intro g hg; have h2 : g2 = g := Option.some.inj hg; exact .inr (.inr h2.symm)))
        have hsz := KX.out.size
        have hat2 : g2 = g3 ∨ g3 = wr.heap.size + 1 := by
          rcases hat with h | h
          · exact .inl (Option.some.inj h)
          · exact .inr h
        clear hown1 hgrow hat
        go_wp2_with fail
        go_ret2
        refine ⟨g3, c3, rII E2.out HC.out, by rw [hnm.out]; exact P1.out.set 9 _, by rw [← E1.out]; exact G1.out.setOther _ _ _ (by omega), ?_, by omega, K1.out.set _ _ _ (.inl (.inl rfl))⟩
        rw [hnl.out, hnm.out, List.map_append]
        exact O1.out.kept (grownBy_set _ _ _ _) (.inr (fun e => by have h3 : g3 = p := Option.some.inj e; omega))

end Go.Proofs.YtblddehlkaolbaaGreatDoor

