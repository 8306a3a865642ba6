/- The program's row of privileged instructions, a map whose keys are structs: what is put in is found, in whatever order it was put. -/
import Derived.Test.YtlbnllhabdnjjaaDoorRegFrame
import Derived.Test.YtlbnllhabdnjjaaDoorGrC
import Derived.Carry
import Derived.MapKept
namespace Go.Proofs.YtlbnllhabdnjjaaDoor
open Go.RowKit
set_option linter.unusedVariables false
/-- a key, and the entries of a row of keys -/
def kv (p : Int × Int) : Value := .agg #[.int .i64 p.1, .int .i64 p.2]
def ents : List (Int × Int) → Nat → List MapEntry
  | [], _ => []
  | p :: t, n => ⟨kv p, .agg #[], n⟩ :: ents t (n + 1)
theorem ents_snoc (ks : List (Int × Int)) (p : Int × Int) : ∀ n, ents (ks ++ [p]) n = ents ks n ++ [⟨kv p, .agg #[], n + ks.length⟩] := by
  induction ks with
  | nil => intro n; rfl
  | cons q t ih => intro n; simp only [List.cons_append, ents, ih, List.length_cons]; rw [show n + 1 + t.length = n + (t.length + 1) by omega]
theorem eqK (p q : Int × Int) (w : World) : (Op.equal 71 (kv p) (kv q)).run Tryd.prog w = .ok ((p.1 == q.1) && (p.2 == q.2)) w := by
  obtain ⟨a, b⟩ := p
  obtain ⟨c, d⟩ := q
  unfold kv
  rw [show Op.equal 71 (.agg #[.int .i64 a, .int .i64 b]) (.agg #[.int .i64 c, .int .i64 d]) = Op.equalIn 10000 71 (.agg #[.int .i64 a, .int .i64 b]) (.agg #[.int .i64 c, .int .i64 d]) from rfl]
  go_simp
  by_cases h1 : a = c <;> by_cases h2 : b = d <;> simp [h1, h2]
theorem chkK (b : Bool) (p : Int × Int) (w : World) : (Instr.checkKey b 10000 71 (kv p)).run Tryd.prog w = .ok () w := by
  obtain ⟨a, c⟩ := p
  unfold kv
  kernel_rfl
theorem findA (p : Int × Int) (w : World) : ∀ (ks : List (Int × Int)) (n i : Nat), ∃ j, (Instr.findAsking 71 (kv p) (ents ks n) i).run Tryd.prog w = .ok (if p ∈ ks then some (j, .agg #[]) else none) w := by
  intro ks
  induction ks with
  | nil => intro n i; exact ⟨0, rfl⟩
  | cons q t ih =>
    intro n i
    by_cases h : p = q
    · subst h
      refine ⟨i, ?_⟩
      simp [ents, Instr.findAsking, eqK, Result.andThen]
    · obtain ⟨j, hj⟩ := ih (n + 1) (i + 1)
      refine ⟨j, ?_⟩
      have hq : ((p.1 == q.1) && (p.2 == q.2)) = false := by
        obtain ⟨a, b⟩ := p; obtain ⟨c, d⟩ := q
        simp at h ⊢; exact h
      have hm : (p ∈ q :: t) = (p ∈ t) := by simp [h]
      simp only [hm]
      simp [ents, Instr.findAsking, eqK, hq, Result.andThen, hj]
theorem findNo (p : Int × Int) (d : TypeDesc) (hd : Tryd.prog.underlying 71 = some d) (ks : List (Int × Int)) (n : Nat) : Instr.findNow d (kv p) (ents ks n) 0 = some none ∧ ks = [] ∨ Instr.findNow d (kv p) (ents ks n) 0 = none := by
  cases ks with
  | nil => exact .inl ⟨rfl, rfl⟩
  | cons q t =>
    refine .inr ?_
    unfold ents kv Instr.findNow
    cases d <;> simp [Instr.sameNow]
theorem findK (p : Int × Int) (w : World) (ks : List (Int × Int)) (n : Nat) : ∃ j, (Instr.findKey 71 (kv p) (ents ks n)).run Tryd.prog w = .ok (if p ∈ ks then some (j, .agg #[]) else none) w := by
  obtain ⟨d, hd⟩ : ∃ d, Tryd.prog.underlying 71 = some d := ⟨_, Tryd.underlying71⟩
  rcases findNo p d hd ks n with ⟨h, rfl⟩ | h
  · exact ⟨0, by simp [Instr.findKey, run_underlying hd, h, Result.andThen]⟩
  · obtain ⟨j, hj⟩ := findA p w ks n 0
    exact ⟨j, by simp [Instr.findKey, run_underlying hd, h, Result.andThen, hj]⟩
theorem putK (p : Int × Int) (w : World) (g : Nat) (ks : List (Int × Int)) (hb : w.heap[g]? = some (.map (ents ks 0).toArray ks.length)) (hp : p ∉ ks) :
    (Instr.mapUpdate 73 (.map (some g)) (kv p) (.agg #[])).run Tryd.prog w = .ok () { w with heap := w.heap.setIfInBounds g (.map (ents (ks ++ [p]) 0).toArray (ks ++ [p]).length) } := by
  obtain ⟨j, hj⟩ := findK p w ks 0
  rw [if_neg hp] at hj
  rw [ents_snoc]
  simp [Instr.mapUpdate, run_underlying Tryd.underlying73, MapKept.run_getObj_map hb, chkK, hj, MapKept.run_setObj_map _ hb, Result.andThen]
theorem lookK (p : Int × Int) (w : World) (g c : Nat) (ks : List (Int × Int)) (hb : w.heap[g]? = some (.map (ents ks 0).toArray c)) (hz : (zeroValue 72).run Tryd.prog w = .ok (.agg #[]) w) :
    (Instr.lookup 73 (.map (some g)) (kv p) true).run Tryd.prog w = .ok (.tuple #[.agg #[], .bool (decide (p ∈ ks))]) w := by
  obtain ⟨j, hj⟩ := findK p w ks 0
  by_cases hp : p ∈ ks
  · rw [if_pos hp] at hj
    simp [Instr.lookup, run_underlying Tryd.underlying73, MapKept.run_getObj_map hb, chkK, hj, Result.andThen, hp]
  · rw [if_neg hp] at hj
    simp [Instr.lookup, run_underlying Tryd.underlying73, MapKept.run_getObj_map hb, chkK, hj, Result.andThen, hp, hz]
theorem kept_obj {lo hi g : Nat} {w W : World} (h : Kept lo hi w W) (hg : w.heap.size ≤ g) (ob : Obj) : Kept lo hi w { W with heap := W.heap.setIfInBounds g ob } :=
  ⟨h.os, h.tape, h.output, by simpa using h.size, fun k hk hn => by
    show (W.heap.setIfInBounds g ob)[k]? = _
    rw [Array.getElem?_setIfInBounds_ne (by omega)]
    exact h.block k hk hn⟩
/-- what the region has put into the map so far -/
def MapSt (l : Array Bool) (W : World) (g : Nat) : Prop :=
  (l.getD 0 true = false → W.heap.size = g ∧ l.getD 3 true = false ∧ l.getD 6 true = false ∧ l.getD 9 true = false) ∧
  (l.getD 0 true = true → ∃ ks : List (Int × Int), W.heap[g]? = some (.map (ents ks 0).toArray ks.length) ∧ ∀ p, p ∈ ks ↔ (l.getD 3 true = true ∧ p = (15, 1)) ∨ (l.getD 6 true = true ∧ p = (15, 3)) ∨ (l.getD 9 true = true ∧ p = (19, 0)))
theorem MapSt.past {l : Array Bool} {W : World} {g i : Nat} (h : MapSt l W g) (h0 : 0 ≠ i) (h3 : 3 ≠ i) (h6 : 6 ≠ i) (h9 : 9 ≠ i) : MapSt (l.setIfInBounds i true) W g := by
  unfold MapSt at h ⊢
  rw [getD_set_ne h0, getD_set_ne h3, getD_set_ne h6, getD_set_ne h9]
  exact h
theorem MapSt.made {l : Array Bool} {W : World} {g : Nat} (h : MapSt l W g) (h0 : l.getD 0 true = false) : W.heap.size = g ∧ MapSt (l.setIfInBounds 0 true) (W.alloc (.map #[] 0)) g := by
  obtain ⟨hs, a3, a6, a9⟩ := h.1 h0
  refine ⟨hs, fun q => ?_, fun _ => ⟨[], ?_, fun p => ?_⟩⟩
  · rw [getD_set_eq] at q; cases q
  · rw [← hs]; exact heap_alloc_new W _
  · rw [getD_set_ne (by decide), getD_set_ne (by decide), getD_set_ne (by decide), a3, a6, a9]
    simp
theorem MapSt.map {l : Array Bool} {W : World} {g : Nat} (h : MapSt l W g) (h0 : l.getD 0 true = true) : ∃ ks : List (Int × Int), W.heap[g]? = some (.map (ents ks 0).toArray ks.length) ∧ ∀ p, p ∈ ks ↔ (l.getD 3 true = true ∧ p = (15, 1)) ∨ (l.getD 6 true = true ∧ p = (15, 3)) ∨ (l.getD 9 true = true ∧ p = (19, 0)) := h.2 h0
theorem blkObj {W : World} {g : Nat} {ob ob' : Obj} (h : W.heap[g]? = some ob) : ({ W with heap := W.heap.setIfInBounds g ob' } : World).heap[g]? = some ob' := by
  show (W.heap.setIfInBounds g ob')[g]? = _
  have : g < W.heap.size := by
    rcases Nat.lt_or_ge g W.heap.size with q | q
    · exact q
    · rw [Array.getElem?_eq_none q] at h; cases h
  rw [Array.getElem?_setIfInBounds]
  simp [this]
theorem MapSt.put3 {l : Array Bool} {W : World} {g : Nat} (h : MapSt l W g) (h0 : l.getD 0 true = true) (hi : l.getD 3 true = false) : ∃ W2 : World, (Instr.mapUpdate 73 (.map (some g)) (kv (15, 1)) (.agg #[])).run Tryd.prog W = .ok () W2 ∧ MapSt (l.setIfInBounds 3 true) W2 g ∧ (∀ w : World, w.heap.size ≤ g → Kept 0 0 w W → Kept 0 0 w W2) := by
  obtain ⟨ks, hb, hk⟩ := h.map h0
  refine ⟨_, putK (15, 1) W g ks hb (by rw [hk, hi]; simp), ⟨fun q => ?_, fun _ => ⟨ks ++ [(15, 1)], blkObj hb, fun p => ?_⟩⟩, fun w hw k => kept_obj k hw _⟩
  · rw [getD_set_ne (by decide), h0] at q; cases q
  · rw [getD_set_eq, getD_set_ne (by decide), getD_set_ne (by decide), List.mem_append, hk, hi]
    simp
    grind
theorem MapSt.put6 {l : Array Bool} {W : World} {g : Nat} (h : MapSt l W g) (h0 : l.getD 0 true = true) (hi : l.getD 6 true = false) : ∃ W2 : World, (Instr.mapUpdate 73 (.map (some g)) (kv (15, 3)) (.agg #[])).run Tryd.prog W = .ok () W2 ∧ MapSt (l.setIfInBounds 6 true) W2 g ∧ (∀ w : World, w.heap.size ≤ g → Kept 0 0 w W → Kept 0 0 w W2) := by
  obtain ⟨ks, hb, hk⟩ := h.map h0
  refine ⟨_, putK (15, 3) W g ks hb (by rw [hk, hi]; simp), ⟨fun q => ?_, fun _ => ⟨ks ++ [(15, 3)], blkObj hb, fun p => ?_⟩⟩, fun w hw k => kept_obj k hw _⟩
  · rw [getD_set_ne (by decide), h0] at q; cases q
  · rw [getD_set_eq, getD_set_ne (by decide), getD_set_ne (by decide), List.mem_append, hk, hi]
    simp
    grind
theorem MapSt.put9 {l : Array Bool} {W : World} {g : Nat} (h : MapSt l W g) (h0 : l.getD 0 true = true) (hi : l.getD 9 true = false) : ∃ W2 : World, (Instr.mapUpdate 73 (.map (some g)) (kv (19, 0)) (.agg #[])).run Tryd.prog W = .ok () W2 ∧ MapSt (l.setIfInBounds 9 true) W2 g ∧ (∀ w : World, w.heap.size ≤ g → Kept 0 0 w W → Kept 0 0 w W2) := by
  obtain ⟨ks, hb, hk⟩ := h.map h0
  refine ⟨_, putK (19, 0) W g ks hb (by rw [hk, hi]; simp), ⟨fun q => ?_, fun _ => ⟨ks ++ [(19, 0)], blkObj hb, fun p => ?_⟩⟩, fun w hw k => kept_obj k hw _⟩
  · rw [getD_set_ne (by decide), h0] at q; cases q
  · rw [getD_set_eq, getD_set_ne (by decide), getD_set_ne (by decide), List.mem_append, hk, hi]
    simp
    grind
set_option maxRecDepth 20000 in
set_option maxHeartbeats 4000000 in
theorem needsSuper (w : World) (op z r m k e s : Int) : Calls Tryd.prog 34 #[.agg #[.int .i64 op, .int .i64 z, .int .i64 r, .int .i64 m, .int .i64 k, .int .i64 e, .int .i64 s]] w fun r' w' => r' = .returned (.bool (Pl.priv ⟨op, z, r, m, k, e, s⟩)) ∧ Kept 0 0 w w' := by
  have K0 := hide (kept_alloc w (.cells #[.int .i64 op, .int .i64 z, .int .i64 r, .int .i64 m, .int .i64 k, .int .i64 e, .int .i64 s] 36))
  have B0 := hide (Blk.new w #[.int .i64 op, .int .i64 z, .int .i64 r, .int .i64 m, .int .i64 k, .int .i64 e, .int .i64 s] 36)
  go_enter Tryd.func34, Tryd.ntmps34
  go_wp2_with fail
  refine wp_region_inv2 (fun A0 l A W => FR [6, 7, 8, 9, 10, 11, 12, 13, 3] A0 A ∧ Once l 0 (A.tmps[6]? = some (.map (some (w.heap.size + 1)))) ∧ Once l 1 (A.tmps[7]? = some (kv (15, 1))) ∧ Once l 2 (A.tmps[8]? = some (.agg #[])) ∧ Once l 3 (True) ∧ Once l 4 (A.tmps[9]? = some (kv (15, 3))) ∧ Once l 5 (A.tmps[10]? = some (.agg #[])) ∧ Once l 6 (True) ∧ Once l 7 (A.tmps[11]? = some (kv (19, 0))) ∧ Once l 8 (A.tmps[12]? = some (.agg #[])) ∧ Once l 9 (True) ∧ Once l 10 (A.tmps[13]? = some (.map (some (w.heap.size + 1)))) ∧ Once l 11 (A.tmps[3]? = some (.map (some (w.heap.size + 1)))) ∧ MapSt l W (w.heap.size + 1) ∧ Kept 0 0 (w.alloc (.cells #[.int .i64 op, .int .i64 z, .int .i64 r, .int .i64 m, .int .i64 k, .int .i64 e, .int .i64 s] 36)) W) (by kernel_rfl) (by kernel_rfl) ?start ?fin ?step
  case start => exact ⟨FR.refl _ _, once_start (by decide), once_start (by decide), once_start (by decide), once_start (by decide), once_start (by decide), once_start (by decide), once_start (by decide), once_start (by decide), once_start (by decide), once_start (by decide), once_start (by decide), once_start (by decide), ⟨fun _ => ⟨by simp, start_at (by decide), start_at (by decide), start_at (by decide)⟩, fun q => by rw [start_at (by decide)] at q; cases q⟩, kept_drew (Kept.refl _ _ _)⟩
  case fin =>
    intro l A W h hl
    obtain ⟨hFR, o0, o1, o2, o3, o4, o5, o6, o7, o8, o9, o10, o11, hM, hK⟩ := h
    have g11 := o11 (hl 11 (by decide))
    obtain ⟨ks, hb, hks⟩ := hM.map (hl 0 (by decide))
    rw [hl 3 (by decide), hl 6 (by decide), hl 9 (by decide)] at hks
    have hlk := fun hz => lookK (op, s) W (w.heap.size + 1) _ ks hb hz
    have hlk2 := hlk (by kernel_rfl)
    rw [show decide ((op, s) ∈ ks) = Pl.priv ⟨op, z, r, m, k, e, s⟩ from by rw [← Bool.coe_iff_coe]; simp [hks, Pl.priv]; grind] at hlk2
    have BX := hide (B0.out.kept0 hK)
    obtain ⟨x0, x1, x2, x3, x4, x5, x6⟩ := BX.out.c7
    have KQ := hide (K0.out.trans hK)
    unfold kv at hlk2
    have HL := hide hlk2
    have hc9 := hFR.chain
    simp only [List.foldl] at hc9
    rw [getD_of g11] at hc9
    clear hl hK hFR hM hb hks hlk hlk2 g11 o0 o1 o2 o3 o4 o5 o6 o7 o8 o9 o10 o11
    generalize A.tmps.getD 6 undef = s6 at hc9
    generalize A.tmps.getD 7 undef = s7 at hc9
    generalize A.tmps.getD 8 undef = s8 at hc9
    generalize A.tmps.getD 9 undef = s9 at hc9
    generalize A.tmps.getD 10 undef = s10 at hc9
    generalize A.tmps.getD 11 undef = s11 at hc9
    generalize A.tmps.getD 12 undef = s12 at hc9
    generalize A.tmps.getD 13 undef = s13 at hc9
    subst hc9
    have hlk3 := HL.out
    go_simp
    go_wp2_with fail
    go_ret
    exact ⟨rfl, kept_new KQ.out _⟩
  case step =>
    intro l A W i hI hm
    obtain ⟨hFR, o0, o1, o2, o3, o4, o5, o6, o7, o8, o9, o10, o11, hM, hK⟩ := hI
    obtain ⟨hi1, hi2⟩ := ready_new hm
    have hsz : Hid (13 < A.tmps.size) := hide (by rw [hFR.size]; simp)
    rcases i with _ | _ | _ | _ | _ | _ | _ | _ | _ | _ | _ | _ | i
    · obtain ⟨hs, hM2⟩ := hM.made hi2
      have hmm := run_makeMap (P := Tryd.prog) 73 W
      rw [hs] at hmm
      refine wpOp_step rfl (fun KK hK2 => ?_)
      go_simp
      exact hK2 (A.put (some 6) (.map (some (w.heap.size + 1)))) _ ⟨hFR.put (by decide) _, .now (put_eq (by have hz := hsz.out; omega)), o1.past (by decide) (fun h => (put_ne (by decide)).trans h), o2.past (by decide) (fun h => (put_ne (by decide)).trans h), o3.past (by decide) id, o4.past (by decide) (fun h => (put_ne (by decide)).trans h), o5.past (by decide) (fun h => (put_ne (by decide)).trans h), o6.past (by decide) id, o7.past (by decide) (fun h => (put_ne (by decide)).trans h), o8.past (by decide) (fun h => (put_ne (by decide)).trans h), o9.past (by decide) id, o10.past (by decide) (fun h => (put_ne (by decide)).trans h), o11.past (by decide) (fun h => (put_ne (by decide)).trans h), hM2, kept_new hK _⟩
    · refine wpOp_step rfl (fun KK hK2 => ?_)
      go_simp
      exact hK2 (A.put (some 7) (.agg #[.int .i64 15, .int .i64 1])) _ ⟨hFR.put (by decide) _, o0.past (by decide) (fun h => (put_ne (by decide)).trans h), .now (by unfold kv; exact put_eq (by have hz := hsz.out; omega)), o2.past (by decide) (fun h => (put_ne (by decide)).trans h), o3.past (by decide) id, o4.past (by decide) (fun h => (put_ne (by decide)).trans h), o5.past (by decide) (fun h => (put_ne (by decide)).trans h), o6.past (by decide) id, o7.past (by decide) (fun h => (put_ne (by decide)).trans h), o8.past (by decide) (fun h => (put_ne (by decide)).trans h), o9.past (by decide) id, o10.past (by decide) (fun h => (put_ne (by decide)).trans h), o11.past (by decide) (fun h => (put_ne (by decide)).trans h), hM.past (by decide) (by decide) (by decide) (by decide), hK⟩
    · refine wpOp_step rfl (fun KK hK2 => ?_)
      go_simp
      exact hK2 (A.put (some 8) (.agg #[])) _ ⟨hFR.put (by decide) _, o0.past (by decide) (fun h => (put_ne (by decide)).trans h), o1.past (by decide) (fun h => (put_ne (by decide)).trans h), .now (put_eq (by have hz := hsz.out; omega)), o3.past (by decide) id, o4.past (by decide) (fun h => (put_ne (by decide)).trans h), o5.past (by decide) (fun h => (put_ne (by decide)).trans h), o6.past (by decide) id, o7.past (by decide) (fun h => (put_ne (by decide)).trans h), o8.past (by decide) (fun h => (put_ne (by decide)).trans h), o9.past (by decide) id, o10.past (by decide) (fun h => (put_ne (by decide)).trans h), o11.past (by decide) (fun h => (put_ne (by decide)).trans h), hM.past (by decide) (by decide) (by decide) (by decide), hK⟩
    · have e0 := o0 (ready_dep hm 0 (by kernel_rfl))
      have e1 := o1 (ready_dep hm 1 (by kernel_rfl))
      have e2 := o2 (ready_dep hm 2 (by kernel_rfl))
      obtain ⟨W2, hu, hM2, hKK⟩ := hM.put3 (ready_dep hm 0 (by kernel_rfl)) hi2
      replace hKK := hKK _ (by simp) hK
      unfold kv at e1 hu
      refine wpOp_step rfl (fun KK hK2 => ?_)
      go_simp
      exact hK2 A _ ⟨hFR, o0.past (by decide) id, o1.past (by decide) id, o2.past (by decide) id, .now trivial, o4.past (by decide) id, o5.past (by decide) id, o6.past (by decide) id, o7.past (by decide) id, o8.past (by decide) id, o9.past (by decide) id, o10.past (by decide) id, o11.past (by decide) id, hM2, hKK⟩
    · refine wpOp_step rfl (fun KK hK2 => ?_)
      go_simp
      exact hK2 (A.put (some 9) (.agg #[.int .i64 15, .int .i64 3])) _ ⟨hFR.put (by decide) _, o0.past (by decide) (fun h => (put_ne (by decide)).trans h), o1.past (by decide) (fun h => (put_ne (by decide)).trans h), o2.past (by decide) (fun h => (put_ne (by decide)).trans h), o3.past (by decide) id, .now (by unfold kv; exact put_eq (by have hz := hsz.out; omega)), o5.past (by decide) (fun h => (put_ne (by decide)).trans h), o6.past (by decide) id, o7.past (by decide) (fun h => (put_ne (by decide)).trans h), o8.past (by decide) (fun h => (put_ne (by decide)).trans h), o9.past (by decide) id, o10.past (by decide) (fun h => (put_ne (by decide)).trans h), o11.past (by decide) (fun h => (put_ne (by decide)).trans h), hM.past (by decide) (by decide) (by decide) (by decide), hK⟩
    · refine wpOp_step rfl (fun KK hK2 => ?_)
      go_simp
      exact hK2 (A.put (some 10) (.agg #[])) _ ⟨hFR.put (by decide) _, o0.past (by decide) (fun h => (put_ne (by decide)).trans h), o1.past (by decide) (fun h => (put_ne (by decide)).trans h), o2.past (by decide) (fun h => (put_ne (by decide)).trans h), o3.past (by decide) id, o4.past (by decide) (fun h => (put_ne (by decide)).trans h), .now (put_eq (by have hz := hsz.out; omega)), o6.past (by decide) id, o7.past (by decide) (fun h => (put_ne (by decide)).trans h), o8.past (by decide) (fun h => (put_ne (by decide)).trans h), o9.past (by decide) id, o10.past (by decide) (fun h => (put_ne (by decide)).trans h), o11.past (by decide) (fun h => (put_ne (by decide)).trans h), hM.past (by decide) (by decide) (by decide) (by decide), hK⟩
    · have e0 := o0 (ready_dep hm 0 (by kernel_rfl))
      have e4 := o4 (ready_dep hm 4 (by kernel_rfl))
      have e5 := o5 (ready_dep hm 5 (by kernel_rfl))
      obtain ⟨W2, hu, hM2, hKK⟩ := hM.put6 (ready_dep hm 0 (by kernel_rfl)) hi2
      replace hKK := hKK _ (by simp) hK
      unfold kv at e4 hu
      refine wpOp_step rfl (fun KK hK2 => ?_)
      go_simp
      exact hK2 A _ ⟨hFR, o0.past (by decide) id, o1.past (by decide) id, o2.past (by decide) id, o3.past (by decide) id, o4.past (by decide) id, o5.past (by decide) id, .now trivial, o7.past (by decide) id, o8.past (by decide) id, o9.past (by decide) id, o10.past (by decide) id, o11.past (by decide) id, hM2, hKK⟩
    · refine wpOp_step rfl (fun KK hK2 => ?_)
      go_simp
      exact hK2 (A.put (some 11) (.agg #[.int .i64 19, .int .i64 0])) _ ⟨hFR.put (by decide) _, o0.past (by decide) (fun h => (put_ne (by decide)).trans h), o1.past (by decide) (fun h => (put_ne (by decide)).trans h), o2.past (by decide) (fun h => (put_ne (by decide)).trans h), o3.past (by decide) id, o4.past (by decide) (fun h => (put_ne (by decide)).trans h), o5.past (by decide) (fun h => (put_ne (by decide)).trans h), o6.past (by decide) id, .now (by unfold kv; exact put_eq (by have hz := hsz.out; omega)), o8.past (by decide) (fun h => (put_ne (by decide)).trans h), o9.past (by decide) id, o10.past (by decide) (fun h => (put_ne (by decide)).trans h), o11.past (by decide) (fun h => (put_ne (by decide)).trans h), hM.past (by decide) (by decide) (by decide) (by decide), hK⟩
    · refine wpOp_step rfl (fun KK hK2 => ?_)
      go_simp
      exact hK2 (A.put (some 12) (.agg #[])) _ ⟨hFR.put (by decide) _, o0.past (by decide) (fun h => (put_ne (by decide)).trans h), o1.past (by decide) (fun h => (put_ne (by decide)).trans h), o2.past (by decide) (fun h => (put_ne (by decide)).trans h), o3.past (by decide) id, o4.past (by decide) (fun h => (put_ne (by decide)).trans h), o5.past (by decide) (fun h => (put_ne (by decide)).trans h), o6.past (by decide) id, o7.past (by decide) (fun h => (put_ne (by decide)).trans h), .now (put_eq (by have hz := hsz.out; omega)), o9.past (by decide) id, o10.past (by decide) (fun h => (put_ne (by decide)).trans h), o11.past (by decide) (fun h => (put_ne (by decide)).trans h), hM.past (by decide) (by decide) (by decide) (by decide), hK⟩
    · have e0 := o0 (ready_dep hm 0 (by kernel_rfl))
      have e7 := o7 (ready_dep hm 7 (by kernel_rfl))
      have e8 := o8 (ready_dep hm 8 (by kernel_rfl))
      obtain ⟨W2, hu, hM2, hKK⟩ := hM.put9 (ready_dep hm 0 (by kernel_rfl)) hi2
      replace hKK := hKK _ (by simp) hK
      unfold kv at e7 hu
      refine wpOp_step rfl (fun KK hK2 => ?_)
      go_simp
      exact hK2 A _ ⟨hFR, o0.past (by decide) id, o1.past (by decide) id, o2.past (by decide) id, o3.past (by decide) id, o4.past (by decide) id, o5.past (by decide) id, o6.past (by decide) id, o7.past (by decide) id, o8.past (by decide) id, .now trivial, o10.past (by decide) id, o11.past (by decide) id, hM2, hKK⟩
    · have e0 := o0 (ready_dep hm 0 (by kernel_rfl))
      refine wpOp_step rfl (fun KK hK2 => ?_)
      go_simp
      exact hK2 (A.put (some 13) (.map (some (w.heap.size + 1)))) _ ⟨hFR.put (by decide) _, o0.past (by decide) (fun h => (put_ne (by decide)).trans h), o1.past (by decide) (fun h => (put_ne (by decide)).trans h), o2.past (by decide) (fun h => (put_ne (by decide)).trans h), o3.past (by decide) id, o4.past (by decide) (fun h => (put_ne (by decide)).trans h), o5.past (by decide) (fun h => (put_ne (by decide)).trans h), o6.past (by decide) id, o7.past (by decide) (fun h => (put_ne (by decide)).trans h), o8.past (by decide) (fun h => (put_ne (by decide)).trans h), o9.past (by decide) id, .now (put_eq (by have hz := hsz.out; omega)), o11.past (by decide) (fun h => (put_ne (by decide)).trans h), hM.past (by decide) (by decide) (by decide) (by decide), hK⟩
    · have e10 := o10 (ready_dep hm 10 (by kernel_rfl))
      refine wpOp_step rfl (fun KK hK2 => ?_)
      go_simp
      exact hK2 (A.put (some 3) (.map (some (w.heap.size + 1)))) _ ⟨hFR.put (by decide) _, o0.past (by decide) (fun h => (put_ne (by decide)).trans h), o1.past (by decide) (fun h => (put_ne (by decide)).trans h), o2.past (by decide) (fun h => (put_ne (by decide)).trans h), o3.past (by decide) id, o4.past (by decide) (fun h => (put_ne (by decide)).trans h), o5.past (by decide) (fun h => (put_ne (by decide)).trans h), o6.past (by decide) id, o7.past (by decide) (fun h => (put_ne (by decide)).trans h), o8.past (by decide) (fun h => (put_ne (by decide)).trans h), o9.past (by decide) id, o10.past (by decide) (fun h => (put_ne (by decide)).trans h), .now (put_eq (by have hz := hsz.out; omega)), hM.past (by decide) (by decide) (by decide) (by decide), hK⟩
    · simp at hi1
      omega
end Go.Proofs.YtlbnllhabdnjjaaDoor
