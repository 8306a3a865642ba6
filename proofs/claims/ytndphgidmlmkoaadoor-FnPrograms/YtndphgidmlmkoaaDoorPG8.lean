/- The program's row of privileged instructions, a map whose keys are structs: what is put in is found, in whatever order it was put. What the program's IsPrivileged, LongIns and EncodeIns answer, for every argument. What the program's DecodeIns answers, for every argument: the second number is looked at only where the first word asks for it. What the program's EncodeAll answers, for every list. What the program's DecodeAll answers, for every list. What the laws' other comparison of lists of whole numbers answers. The program's and the model's answers about an instruction that was drawn, as said of the instruction as one. What the model's draw of a list of instructions answers: at most 41, each with numbers within their bounds; it changes the reader's own block and no other that was there. What the laws' own comparison of two lists of instructions answers where they are the same. The text of a number, as the model makes it. -/
import Derived.Test.YtndphgidmlmkoaaDoorPG5
import Derived.Test.YtndphgidmlmkoaaDoorPG6
import Derived.Carry
import Derived.MapKept
import Derived.Test.YtndphgidmlmkoaaDoorPG1
import Derived.Test.YtndphgidmlmkoaaDoorPG7
import Derived.Deep.DeepCutAuto
import Derived.Deep.CutBlock
import Derived.RegionTactic
namespace Go.Proofs.YtndphgidmlmkoaaDoor
open Go.RowKit
set_option linter.unusedVariables false
/-- a key, and the entries of a row of keys -/
def kv (p : Int × Int) : Value := .agg #[iv p.1, iv p.2]
def ents : List (Int × Int) → Nat → List MapEntry
  | [], _ => []
  | p :: t, n => ⟨kv p, .agg #[], n⟩ :: ents t (n + 1)
theorem ents_snoc (ks : List (Int × Int)) (p : Int × Int) : ∀ n, ents (ks ++ [p]) n = ents ks n ++ [⟨kv p, .agg #[], n + ks.length⟩] := by
  induction ks with
  | nil => intro n; rfl
  | cons q t ih => intro n; simp only [List.cons_append, ents, ih, List.length_cons]; rw [show n + 1 + t.length = n + (t.length + 1) by omega]
theorem eqK (p q : Int × Int) (w : World) : (Op.equal 65 (kv p) (kv q)).run Tryd.prog w = .ok ((p.1 == q.1) && (p.2 == q.2)) w := by
  obtain ⟨a, b⟩ := p
  obtain ⟨c, d⟩ := q
  unfold kv
  rw [show Op.equal 65 (.agg #[iv a, iv b]) (.agg #[iv c, iv d]) = Op.equalIn 10000 65 (.agg #[iv a, iv b]) (.agg #[iv c, iv d]) from rfl]
  go_simp
  by_cases h1 : a = c <;> by_cases h2 : b = d <;> simp [h1, h2]
theorem chkK (b : Bool) (p : Int × Int) (w : World) : (Instr.checkKey b 10000 65 (kv p)).run Tryd.prog w = .ok () w := by
  obtain ⟨a, c⟩ := p
  unfold kv
  kernel_rfl
theorem findA (p : Int × Int) (w : World) : ∀ (ks : List (Int × Int)) (n i : Nat), ∃ j, (Instr.findAsking 65 (kv p) (ents ks n) i).run Tryd.prog w = .ok (if p ∈ ks then some (j, .agg #[]) else none) w := by
  intro ks
  induction ks with
  | nil => intro n i; exact ⟨0, rfl⟩
  | cons q t ih =>
    intro n i
    by_cases h : p = q
    · subst h
      refine ⟨i, ?_⟩
      simp [ents, Instr.findAsking, eqK, Result.andThen]
    · obtain ⟨j, hj⟩ := ih (n + 1) (i + 1)
      refine ⟨j, ?_⟩
      have hq : ((p.1 == q.1) && (p.2 == q.2)) = false := by
        obtain ⟨a, b⟩ := p; obtain ⟨c, d⟩ := q
        simp at h ⊢; exact h
      have hm : (p ∈ q :: t) = (p ∈ t) := by simp [h]
      simp only [hm]
      simp [ents, Instr.findAsking, eqK, hq, Result.andThen, hj]
theorem findNo (p : Int × Int) (d : TypeDesc) (hd : Tryd.prog.underlying 65 = some d) (ks : List (Int × Int)) (n : Nat) : Instr.findNow d (kv p) (ents ks n) 0 = some none ∧ ks = [] ∨ Instr.findNow d (kv p) (ents ks n) 0 = none := by
  cases ks with
  | nil => exact .inl ⟨rfl, rfl⟩
  | cons q t =>
    refine .inr ?_
    unfold ents kv Instr.findNow
    cases d <;> simp [Instr.sameNow]
theorem findK (p : Int × Int) (w : World) (ks : List (Int × Int)) (n : Nat) : ∃ j, (Instr.findKey 65 (kv p) (ents ks n)).run Tryd.prog w = .ok (if p ∈ ks then some (j, .agg #[]) else none) w := by
  obtain ⟨d, hd⟩ : ∃ d, Tryd.prog.underlying 65 = some d := ⟨_, Tryd.underlying65⟩
  rcases findNo p d hd ks n with ⟨h, rfl⟩ | h
  · exact ⟨0, by simp [Instr.findKey, run_underlying hd, h, Result.andThen]⟩
  · obtain ⟨j, hj⟩ := findA p w ks n 0
    exact ⟨j, by simp [Instr.findKey, run_underlying hd, h, Result.andThen, hj]⟩
theorem putK (p : Int × Int) (w : World) (g : Nat) (ks : List (Int × Int)) (hb : w.heap[g]? = some (.map (ents ks 0).toArray ks.length)) (hp : p ∉ ks) :
    (Instr.mapUpdate 67 (.map (some g)) (kv p) (.agg #[])).run Tryd.prog w = .ok () { w with heap := w.heap.setIfInBounds g (.map (ents (ks ++ [p]) 0).toArray (ks ++ [p]).length) } := by
  obtain ⟨j, hj⟩ := findK p w ks 0
  rw [if_neg hp] at hj
  rw [ents_snoc]
  simp [Instr.mapUpdate, run_underlying Tryd.underlying67, MapKept.run_getObj_map hb, chkK, hj, MapKept.run_setObj_map _ hb, Result.andThen]
theorem lookK (p : Int × Int) (w : World) (g c : Nat) (ks : List (Int × Int)) (hb : w.heap[g]? = some (.map (ents ks 0).toArray c)) (hz : (zeroValue 66).run Tryd.prog w = .ok (.agg #[]) w) :
    (Instr.lookup 67 (.map (some g)) (kv p) true).run Tryd.prog w = .ok (.tuple #[.agg #[], .bool (decide (p ∈ ks))]) w := by
  obtain ⟨j, hj⟩ := findK p w ks 0
  by_cases hp : p ∈ ks
  · rw [if_pos hp] at hj
    simp [Instr.lookup, run_underlying Tryd.underlying67, MapKept.run_getObj_map hb, chkK, hj, Result.andThen, hp]
  · rw [if_neg hp] at hj
    simp [Instr.lookup, run_underlying Tryd.underlying67, MapKept.run_getObj_map hb, chkK, hj, Result.andThen, hp, hz]
theorem kept_obj {lo hi g : Nat} {w W : World} (h : Kept lo hi w W) (hg : w.heap.size ≤ g) (ob : Obj) : Kept lo hi w { W with heap := W.heap.setIfInBounds g ob } :=
  ⟨h.os, h.tape, h.output, by simpa using h.size, fun k hk hn => by
    show (W.heap.setIfInBounds g ob)[k]? = _
    rw [Array.getElem?_setIfInBounds_ne (by omega)]
    exact h.block k hk hn⟩
/-- what the region has put into the map so far -/
def MapSt (l : Array Bool) (W : World) (g : Nat) : Prop :=
  (l.getD 0 true = false → W.heap.size = g ∧ l.getD 3 true = false ∧ l.getD 6 true = false ∧ l.getD 9 true = false) ∧
  (l.getD 0 true = true → ∃ ks : List (Int × Int), W.heap[g]? = some (.map (ents ks 0).toArray ks.length) ∧ ∀ p, p ∈ ks ↔ (l.getD 3 true = true ∧ p = (15, 1)) ∨ (l.getD 6 true = true ∧ p = (15, 3)) ∨ (l.getD 9 true = true ∧ p = (19, 0)))
theorem MapSt.past {l : Array Bool} {W : World} {g i : Nat} (h : MapSt l W g) (h0 : 0 ≠ i) (h3 : 3 ≠ i) (h6 : 6 ≠ i) (h9 : 9 ≠ i) : MapSt (l.setIfInBounds i true) W g := by
  unfold MapSt at h ⊢
  rw [getD_set_ne h0, getD_set_ne h3, getD_set_ne h6, getD_set_ne h9]
  exact h
theorem MapSt.made {l : Array Bool} {W : World} {g : Nat} (h : MapSt l W g) (h0 : l.getD 0 true = false) : W.heap.size = g ∧ MapSt (l.setIfInBounds 0 true) (W.alloc (.map #[] 0)) g := by
  obtain ⟨hs, a3, a6, a9⟩ := h.1 h0
  refine ⟨hs, fun q => ?_, fun _ => ⟨[], ?_, fun p => ?_⟩⟩
  · rw [getD_set_eq] at q; cases q
  · rw [← hs]; exact heap_alloc_new W _
  · rw [getD_set_ne (by decide), getD_set_ne (by decide), getD_set_ne (by decide), a3, a6, a9]
    simp
theorem MapSt.map {l : Array Bool} {W : World} {g : Nat} (h : MapSt l W g) (h0 : l.getD 0 true = true) : ∃ ks : List (Int × Int), W.heap[g]? = some (.map (ents ks 0).toArray ks.length) ∧ ∀ p, p ∈ ks ↔ (l.getD 3 true = true ∧ p = (15, 1)) ∨ (l.getD 6 true = true ∧ p = (15, 3)) ∨ (l.getD 9 true = true ∧ p = (19, 0)) := h.2 h0
theorem blkObj {W : World} {g : Nat} {ob ob' : Obj} (h : W.heap[g]? = some ob) : ({ W with heap := W.heap.setIfInBounds g ob' } : World).heap[g]? = some ob' := by
  show (W.heap.setIfInBounds g ob')[g]? = _
  have : g < W.heap.size := by
    rcases Nat.lt_or_ge g W.heap.size with q | q
    · exact q
    · rw [Array.getElem?_eq_none q] at h; cases h
  rw [Array.getElem?_setIfInBounds]
  simp [this]
theorem MapSt.put3 {l : Array Bool} {W : World} {g : Nat} (h : MapSt l W g) (h0 : l.getD 0 true = true) (hi : l.getD 3 true = false) : ∃ W2 : World, (Instr.mapUpdate 67 (.map (some g)) (kv (15, 1)) (.agg #[])).run Tryd.prog W = .ok () W2 ∧ MapSt (l.setIfInBounds 3 true) W2 g ∧ (∀ w : World, w.heap.size ≤ g → Kept 0 0 w W → Kept 0 0 w W2) := by
  obtain ⟨ks, hb, hk⟩ := h.map h0
  refine ⟨_, putK (15, 1) W g ks hb (by rw [hk, hi]; simp), ⟨fun q => ?_, fun _ => ⟨ks ++ [(15, 1)], blkObj hb, fun p => ?_⟩⟩, fun w hw k => kept_obj k hw _⟩
  · rw [getD_set_ne (by decide), h0] at q; cases q
  · rw [getD_set_eq, getD_set_ne (by decide), getD_set_ne (by decide), List.mem_append, hk, hi]
    simp
    grind
theorem MapSt.put6 {l : Array Bool} {W : World} {g : Nat} (h : MapSt l W g) (h0 : l.getD 0 true = true) (hi : l.getD 6 true = false) : ∃ W2 : World, (Instr.mapUpdate 67 (.map (some g)) (kv (15, 3)) (.agg #[])).run Tryd.prog W = .ok () W2 ∧ MapSt (l.setIfInBounds 6 true) W2 g ∧ (∀ w : World, w.heap.size ≤ g → Kept 0 0 w W → Kept 0 0 w W2) := by
  obtain ⟨ks, hb, hk⟩ := h.map h0
  refine ⟨_, putK (15, 3) W g ks hb (by rw [hk, hi]; simp), ⟨fun q => ?_, fun _ => ⟨ks ++ [(15, 3)], blkObj hb, fun p => ?_⟩⟩, fun w hw k => kept_obj k hw _⟩
  · rw [getD_set_ne (by decide), h0] at q; cases q
  · rw [getD_set_eq, getD_set_ne (by decide), getD_set_ne (by decide), List.mem_append, hk, hi]
    simp
    grind
theorem MapSt.put9 {l : Array Bool} {W : World} {g : Nat} (h : MapSt l W g) (h0 : l.getD 0 true = true) (hi : l.getD 9 true = false) : ∃ W2 : World, (Instr.mapUpdate 67 (.map (some g)) (kv (19, 0)) (.agg #[])).run Tryd.prog W = .ok () W2 ∧ MapSt (l.setIfInBounds 9 true) W2 g ∧ (∀ w : World, w.heap.size ≤ g → Kept 0 0 w W → Kept 0 0 w W2) := by
  obtain ⟨ks, hb, hk⟩ := h.map h0
  refine ⟨_, putK (19, 0) W g ks hb (by rw [hk, hi]; simp), ⟨fun q => ?_, fun _ => ⟨ks ++ [(19, 0)], blkObj hb, fun p => ?_⟩⟩, fun w hw k => kept_obj k hw _⟩
  · rw [getD_set_ne (by decide), h0] at q; cases q
  · rw [getD_set_eq, getD_set_ne (by decide), getD_set_ne (by decide), List.mem_append, hk, hi]
    simp
    grind
set_option maxRecDepth 20000 in
set_option maxHeartbeats 4000000 in
theorem needsSuper (w : World) (op z r m k e s : Int) : Calls Tryd.prog 32 #[.agg (inA op z r m k e s)] w fun r' w' => r' = .returned (.bool (Pl.priv ⟨op, z, r, m, k, e, s⟩)) ∧ Kept 0 0 w w' := by
  have K0 := hide (kept_alloc w (.cells (inA op z r m k e s) 36))
  have B0 := hide (Blk.new w (inA op z r m k e s) 36)
  go_enter Tryd.func32, Tryd.ntmps32
  go_wp2_with fail
  refine wp_region_inv2 (fun A0 l A W => FR [6, 7, 8, 9, 10, 11, 12, 13, 3] A0 A ∧ Once l 0 (A.tmps[6]? = some (.map (some (w.heap.size + 1)))) ∧ Once l 1 (A.tmps[7]? = some (kv (15, 1))) ∧ Once l 2 (A.tmps[8]? = some (.agg #[])) ∧ Once l 3 (True) ∧ Once l 4 (A.tmps[9]? = some (kv (15, 3))) ∧ Once l 5 (A.tmps[10]? = some (.agg #[])) ∧ Once l 6 (True) ∧ Once l 7 (A.tmps[11]? = some (kv (19, 0))) ∧ Once l 8 (A.tmps[12]? = some (.agg #[])) ∧ Once l 9 (True) ∧ Once l 10 (A.tmps[13]? = some (.map (some (w.heap.size + 1)))) ∧ Once l 11 (A.tmps[3]? = some (.map (some (w.heap.size + 1)))) ∧ MapSt l W (w.heap.size + 1) ∧ Kept 0 0 (w.alloc (.cells (inA op z r m k e s) 36)) W) (by kernel_rfl) (by kernel_rfl) ?start ?fin ?step
  case start => exact ⟨FR.refl _ _, once_start (by decide), once_start (by decide), once_start (by decide), once_start (by decide), once_start (by decide), once_start (by decide), once_start (by decide), once_start (by decide), once_start (by decide), once_start (by decide), once_start (by decide), once_start (by decide), ⟨fun _ => ⟨by simp, start_at (by decide), start_at (by decide), start_at (by decide)⟩, fun q => by rw [start_at (by decide)] at q; cases q⟩, kept_drew (Kept.refl _ _ _)⟩
  case fin =>
    intro l A W h hl
    obtain ⟨hFR, o0, o1, o2, o3, o4, o5, o6, o7, o8, o9, o10, o11, hM, hK⟩ := h
    have g11 := o11 (hl 11 (by decide))
    obtain ⟨ks, hb, hks⟩ := hM.map (hl 0 (by decide))
    rw [hl 3 (by decide), hl 6 (by decide), hl 9 (by decide)] at hks
    have hlk := fun hz => lookK (op, s) W (w.heap.size + 1) _ ks hb hz
    have hlk2 := hlk (by kernel_rfl)
    rw [show decide ((op, s) ∈ ks) = Pl.priv ⟨op, z, r, m, k, e, s⟩ from by rw [← Bool.coe_iff_coe]; simp [hks, Pl.priv]; grind] at hlk2
    have BX := hide (B0.out.kept0 hK)
    obtain ⟨x0, x1, x2, x3, x4, x5, x6⟩ := BX.out.c7
    have KQ := hide (K0.out.trans hK)
    unfold kv at hlk2
    have HL := hide hlk2
    have hc9 := hFR.chain
    simp only [List.foldl] at hc9
    rw [getD_of g11] at hc9
    clear hl hK hFR hM hb hks hlk hlk2 g11 o0 o1 o2 o3 o4 o5 o6 o7 o8 o9 o10 o11
    generalize A.tmps.getD 6 undef = s6 at hc9
    generalize A.tmps.getD 7 undef = s7 at hc9
    generalize A.tmps.getD 8 undef = s8 at hc9
    generalize A.tmps.getD 9 undef = s9 at hc9
    generalize A.tmps.getD 10 undef = s10 at hc9
    generalize A.tmps.getD 11 undef = s11 at hc9
    generalize A.tmps.getD 12 undef = s12 at hc9
    generalize A.tmps.getD 13 undef = s13 at hc9
    subst hc9
    have hlk3 := HL.out
    go_simp
    go_wp2_with fail
    go_ret
    exact ⟨rfl, kept_new KQ.out _⟩
  case step =>
    intro l A W i hI hm
    obtain ⟨hFR, o0, o1, o2, o3, o4, o5, o6, o7, o8, o9, o10, o11, hM, hK⟩ := hI
    obtain ⟨hi1, hi2⟩ := ready_new hm
    have hsz : Hid (13 < A.tmps.size) := hide (by rw [hFR.size]; simp)
    rcases i with _ | _ | _ | _ | _ | _ | _ | _ | _ | _ | _ | _ | i
    · obtain ⟨hs, hM2⟩ := hM.made hi2
      have hmm := run_makeMap (P := Tryd.prog) 67 W
      rw [hs] at hmm
      refine wpOp_step rfl (fun KK hK2 => ?_)
      go_simp
      exact hK2 (A.put (some 6) (.map (some (w.heap.size + 1)))) _ ⟨hFR.put (by decide) _, .now (put_eq (by have hz := hsz.out; omega)), o1.q, o2.q, o3.n, o4.q, o5.q, o6.n, o7.q, o8.q, o9.n, o10.q, o11.q, hM2, kept_new hK _⟩
    · refine wpOp_step rfl (fun KK hK2 => ?_)
      go_simp
      exact hK2 (A.put (some 7) (.agg #[iv 15, iv 1])) _ ⟨hFR.put (by decide) _, o0.q, .now (by unfold kv; exact put_eq (by have hz := hsz.out; omega)), o2.q, o3.n, o4.q, o5.q, o6.n, o7.q, o8.q, o9.n, o10.q, o11.q, hM.past (by decide) (by decide) (by decide) (by decide), hK⟩
    · refine wpOp_step rfl (fun KK hK2 => ?_)
      go_simp
      exact hK2 (A.put (some 8) (.agg #[])) _ ⟨hFR.put (by decide) _, o0.q, o1.q, .now (put_eq (by have hz := hsz.out; omega)), o3.n, o4.q, o5.q, o6.n, o7.q, o8.q, o9.n, o10.q, o11.q, hM.past (by decide) (by decide) (by decide) (by decide), hK⟩
    · have e0 := o0 (ready_dep hm 0 (by kernel_rfl))
      have e1 := o1 (ready_dep hm 1 (by kernel_rfl))
      have e2 := o2 (ready_dep hm 2 (by kernel_rfl))
      obtain ⟨W2, hu, hM2, hKK⟩ := hM.put3 (ready_dep hm 0 (by kernel_rfl)) hi2
      replace hKK := hKK _ (by simp) hK
      unfold kv at e1 hu
      refine wpOp_step rfl (fun KK hK2 => ?_)
      go_simp
      exact hK2 A _ ⟨hFR, o0.n, o1.n, o2.n, .now trivial, o4.n, o5.n, o6.n, o7.n, o8.n, o9.n, o10.n, o11.n, hM2, hKK⟩
    · refine wpOp_step rfl (fun KK hK2 => ?_)
      go_simp
      exact hK2 (A.put (some 9) (.agg #[iv 15, iv 3])) _ ⟨hFR.put (by decide) _, o0.q, o1.q, o2.q, o3.n, .now (by unfold kv; exact put_eq (by have hz := hsz.out; omega)), o5.q, o6.n, o7.q, o8.q, o9.n, o10.q, o11.q, hM.past (by decide) (by decide) (by decide) (by decide), hK⟩
    · refine wpOp_step rfl (fun KK hK2 => ?_)
      go_simp
      exact hK2 (A.put (some 10) (.agg #[])) _ ⟨hFR.put (by decide) _, o0.q, o1.q, o2.q, o3.n, o4.q, .now (put_eq (by have hz := hsz.out; omega)), o6.n, o7.q, o8.q, o9.n, o10.q, o11.q, hM.past (by decide) (by decide) (by decide) (by decide), hK⟩
    · have e0 := o0 (ready_dep hm 0 (by kernel_rfl))
      have e4 := o4 (ready_dep hm 4 (by kernel_rfl))
      have e5 := o5 (ready_dep hm 5 (by kernel_rfl))
      obtain ⟨W2, hu, hM2, hKK⟩ := hM.put6 (ready_dep hm 0 (by kernel_rfl)) hi2
      replace hKK := hKK _ (by simp) hK
      unfold kv at e4 hu
      refine wpOp_step rfl (fun KK hK2 => ?_)
      go_simp
      exact hK2 A _ ⟨hFR, o0.n, o1.n, o2.n, o3.n, o4.n, o5.n, .now trivial, o7.n, o8.n, o9.n, o10.n, o11.n, hM2, hKK⟩
    · refine wpOp_step rfl (fun KK hK2 => ?_)
      go_simp
      exact hK2 (A.put (some 11) (.agg #[iv 19, iv 0])) _ ⟨hFR.put (by decide) _, o0.q, o1.q, o2.q, o3.n, o4.q, o5.q, o6.n, .now (by unfold kv; exact put_eq (by have hz := hsz.out; omega)), o8.q, o9.n, o10.q, o11.q, hM.past (by decide) (by decide) (by decide) (by decide), hK⟩
    · refine wpOp_step rfl (fun KK hK2 => ?_)
      go_simp
      exact hK2 (A.put (some 12) (.agg #[])) _ ⟨hFR.put (by decide) _, o0.q, o1.q, o2.q, o3.n, o4.q, o5.q, o6.n, o7.q, .now (put_eq (by have hz := hsz.out; omega)), o9.n, o10.q, o11.q, hM.past (by decide) (by decide) (by decide) (by decide), hK⟩
    · have e0 := o0 (ready_dep hm 0 (by kernel_rfl))
      have e7 := o7 (ready_dep hm 7 (by kernel_rfl))
      have e8 := o8 (ready_dep hm 8 (by kernel_rfl))
      obtain ⟨W2, hu, hM2, hKK⟩ := hM.put9 (ready_dep hm 0 (by kernel_rfl)) hi2
      replace hKK := hKK _ (by simp) hK
      unfold kv at e7 hu
      refine wpOp_step rfl (fun KK hK2 => ?_)
      go_simp
      exact hK2 A _ ⟨hFR, o0.n, o1.n, o2.n, o3.n, o4.n, o5.n, o6.n, o7.n, o8.n, .now trivial, o10.n, o11.n, hM2, hKK⟩
    · have e0 := o0 (ready_dep hm 0 (by kernel_rfl))
      refine wpOp_step rfl (fun KK hK2 => ?_)
      go_simp
      exact hK2 (A.put (some 13) (.map (some (w.heap.size + 1)))) _ ⟨hFR.put (by decide) _, o0.q, o1.q, o2.q, o3.n, o4.q, o5.q, o6.n, o7.q, o8.q, o9.n, .now (put_eq (by have hz := hsz.out; omega)), o11.q, hM.past (by decide) (by decide) (by decide) (by decide), hK⟩
    · have e10 := o10 (ready_dep hm 10 (by kernel_rfl))
      refine wpOp_step rfl (fun KK hK2 => ?_)
      go_simp
      exact hK2 (A.put (some 3) (.map (some (w.heap.size + 1)))) _ ⟨hFR.put (by decide) _, o0.q, o1.q, o2.q, o3.n, o4.q, o5.q, o6.n, o7.q, o8.q, o9.n, o10.q, .now (put_eq (by have hz := hsz.out; omega)), hM.past (by decide) (by decide) (by decide) (by decide), hK⟩
    · simp at hi1
      omega
end Go.Proofs.YtndphgidmlmkoaaDoor

namespace Go.Proofs.YtndphgidmlmkoaaDoor
open Go.RowKit
set_option linter.unusedVariables false
theorem implIsPriv (w : World) (op z r m k e s : Int) (wfop : (Lit.int .i64 op).wf = true) (wfz : (Lit.int .i64 z).wf = true) (wfr : (Lit.int .i64 r).wf = true) (wfm : (Lit.int .i64 m).wf = true) (wfk : (Lit.int .i64 k).wf = true) (wfe : (Lit.int .i64 e).wf = true) (wfs : (Lit.int .i64 s).wf = true) : Calls Tryd.prog 15 #[.agg (inA op z r m k e s)] w fun e' w' => e' = .returned (.tuple #[.bool (Pl.inOk ⟨op, z, r, m, k, e, s⟩ && Pl.priv ⟨op, z, r, m, k, e, s⟩), .bool (Pl.inOk ⟨op, z, r, m, k, e, s⟩)]) ∧ Kept 0 0 w w' := by
  have K0 := hide (kept_alloc w (.cells (inA op z r m k e s) 36))
  have B0 := hide (Blk.new w (inA op z r m k e s) 36)
  cases h : Pl.inOk ⟨op, z, r, m, k, e, s⟩
  · go_enter Tryd.func15, Tryd.ntmps15
    go_wp2_with (go_at_call 18; refine (implGoodIns _ op z r m k e s wfop wfz wfr wfm wfk wfe wfs).mono ?_; rw [h]; rintro e9 w2 ⟨rfl, k2⟩; have B2 := hide (B0.out.kept0 k2); have K2 := hide (K0.out.trans k2); obtain ⟨c0, c1, c2, c3, c4, c5, c6⟩ := B2.out.c7; clear k2)
    go_ret2
    exact ⟨rfl, K2.out⟩
  · go_enter Tryd.func15, Tryd.ntmps15
    go_wp2_with (first | (go_at_call 18; refine (implGoodIns _ op z r m k e s wfop wfz wfr wfm wfk wfe wfs).mono ?_; rw [h]; rintro e9 w2 ⟨rfl, k2⟩; have B2 := hide (B0.out.kept0 k2); have K2 := hide (K0.out.trans k2); obtain ⟨c0, c1, c2, c3, c4, c5, c6⟩ := B2.out.c7; clear k2) | (go_at_call 32; refine (needsSuper _ op z r m k e s).mono ?_; rintro e9 w3 ⟨rfl, k3⟩; have K3 := hide (K2.out.trans k3); clear k3))
    go_ret2
    exact ⟨rfl, K3.out⟩
theorem decM {n v : Int} (h : Pl.wordOk n = true) : 0 ≤ n ∧ n ≤ 65535 ∧ (Lit.int .i64 (Pl.decode n v).m).wf = true ∧ (if Pl.lng (Pl.decode n v).m = true then (2 : Int) else 1) = Pl.longW n := by
  simp [Pl.wordOk, Pl.within] at h
  refine ⟨h.1, h.2, wfSm ?_ ?_, ?_⟩
  · show -1 ≤ n / 32 % 8; omega
  · show n / 32 % 8 ≤ 65536; omega
  · show (if Pl.lng (n / 32 % 8) = true then (2 : Int) else 1) = _
    unfold Pl.lng Pl.longW
    rw [show Pl.modeOk (n / 32 % 8) = true from by simp [Pl.modeOk, Pl.within]; omega]
    rfl
set_option maxRecDepth 20000 in
set_option maxHeartbeats 4000000 in
theorem wordsOf (w : World) (op z r m k e s : Int) (h : Pl.inOk ⟨op, z, r, m, k, e, s⟩ = true) : Calls Tryd.prog 19 #[.agg (inA op z r m k e s)] w fun e' w' => ∃ (g c : Nat), e' = .returned (.slice (some ⟨g, 0, none⟩) (Pl.encode ⟨op, z, r, m, k, e, s⟩).length c) ∧ w.heap.size ≤ g ∧ g < w'.heap.size ∧ Own w' g (Pl.encode ⟨op, z, r, m, k, e, s⟩) ∧ Kept 0 0 w w' := by
  obtain ⟨a1, a2, a3, a4, a5, a6, a7, a8, a9, b1, b2, b3, b4, b5⟩ := Pl.modeR h
  simp only at a1 a2 a3 a4 a5 a6 a7 a8 a9 b1 b2 b3 b4 b5
  have wfm : (Lit.int .i64 m).wf = true := wfSm (by omega) (by omega)
  obtain ⟨N, hN⟩ : ∃ N, Pl.word1 ⟨op, z, r, m, k, e, s⟩ % 65536 = N := ⟨_, rfl⟩
  have HN := hide hN
  have HV : Hid (Pl.word1 ⟨op, z, r, m, k, e, s⟩ = N) := hide (by rw [← hN]; have : Pl.word1 ⟨op, z, r, m, k, e, s⟩ = op * 2048 + (z - 1) * 1024 + r * 256 + m * 32 + k * 8 + s := rfl; omega)
  have HL : Hid (Pl.lng m = Pl.extM m) := hide (by unfold Pl.lng; rw [show Pl.modeOk m = true from by simp [Pl.modeOk, Pl.within]; omega]; rfl)
  have K0 := hide (kept_alloc w (.cells (inA op z r m k e s) 36))
  have B0 := hide (Blk.new w (inA op z r m k e s) 36)
  clear hN a1 a2 a3 a4 a5 a6 a7 a8 a9 b1 b2 b3 b4 b5
  cases hE : Pl.extM m
  · have E : Hid (Pl.encode ⟨op, z, r, m, k, e, s⟩ = [N]) := hide (by simp [Pl.encode, hE, HV.out])
    go_enter Tryd.func19, Tryd.ntmps19
    go_wp2_with (first | (go_at_call 40; refine (isLong _ op z r m k e s wfm).mono ?_; rw [HL.out, hE]; rintro e9 w1 ⟨rfl, k1⟩; have B1 := hide (B0.out.kept0 k1); have K1 := hide (K0.out.trans k1); obtain ⟨c0, c1, c2, c3, c4, c5, c6⟩ := B1.out.c7; clear k1) | (go_at_call 41; refine (firstWord _ op z r m k e s).mono ?_; rw [HN.out]; rintro e9 w2 ⟨rfl, k2⟩; have K2 := hide (K1.out.trans k2); clear k2))
    go_ret
    have B2 := Blk.new w2 #[iv N] 3
    exact ⟨w2.heap.size, 1, by rw [E.out]; rfl, K2.out.size, B2.lt, by rw [E.out]; exact own_of_blk (xs := [N]) B2, kept_new K2.out _⟩
  · have E : Hid (Pl.encode ⟨op, z, r, m, k, e, s⟩ = [N, e]) := hide (by simp [Pl.encode, hE, HV.out])
    go_enter Tryd.func19, Tryd.ntmps19
    go_wp2_with (go_at_call 40; refine (isLong _ op z r m k e s wfm).mono ?_; rw [HL.out, hE]; rintro e9 w1 ⟨rfl, k1⟩; have B1 := hide (B0.out.kept0 k1); have K1 := hide (K0.out.trans k1); have s1 := hide k1.size; clear k1)
    refine wp_region_inv2 (fun A0 l A W => ∃ g : Nat, FR [5, 6, 7, 8, 9, 10, 2] A0 A ∧ Once l 0 (A.tmps[5]? = some (.agg (inA op z r m k e s))) ∧ Once l 1 (A.tmps[6]? = some (iv N)) ∧ Once l 2 (A.tmps[7]? = some (.pointer (some ⟨w.heap.size, 3, none⟩))) ∧ Once l 3 (A.tmps[8]? = some (.pointer (some ⟨w.heap.size, 5, none⟩))) ∧ Once l 4 (A.tmps[9]? = some (iv e)) ∧ Once l 5 (A.tmps[10]? = some (.slice (some ⟨g, 0, none⟩) 2 2)) ∧ Once l 6 (A.tmps[2]? = some (.slice (some ⟨g, 0, none⟩) 2 2)) ∧ Once l 5 (Blk W g #[iv N, iv e] 3 ∧ w1.heap.size ≤ g) ∧ (l.getD 6 true = true → l.getD 5 true = true) ∧ Kept 0 0 w1 W) (by kernel_rfl) (by kernel_rfl) ?start ?fin ?step
    case start => exact ⟨0, FR.refl _ _, once_start (by decide), once_start (by decide), once_start (by decide), once_start (by decide), once_start (by decide), once_start (by decide), once_start (by decide), once_start (by decide), (fun q => by rw [start_at (by decide)] at q; cases q), kept_drew (Kept.refl _ _ _)⟩
    case fin =>
      intro l A W h hl
      obtain ⟨g, hFR, o0, o1, o2, o3, o4, o5, o6, ox, o6w, hK⟩ := h
      have g6 := o6 (hl 6 (by decide))
      have QX := hide (ox (hl 5 (by decide)))
      have QQ := hide hK
      have hc9 := hFR.chain
      simp only [List.foldl] at hc9
      rw [getD_of g6] at hc9
      clear ox o6w hl hK hFR g6 o0 o1 o2 o3 o4 o5 o6
      generalize A.tmps.getD 5 undef = s5 at hc9
      generalize A.tmps.getD 6 undef = s6 at hc9
      generalize A.tmps.getD 7 undef = s7 at hc9
      generalize A.tmps.getD 8 undef = s8 at hc9
      generalize A.tmps.getD 9 undef = s9 at hc9
      generalize A.tmps.getD 10 undef = s10 at hc9
      subst hc9
      go_simp
      go_wp2_with fail
      go_ret
      have q2 := QX.out.2
      have q3 := K1.out.size
      exact ⟨g, 2, by rw [E.out]; rfl, by omega, QX.out.1.lt, by rw [E.out]; exact own_of_blk (xs := [N, e]) QX.out.1, K1.out.trans QQ.out⟩
    case step =>
      intro l A W i hI hm
      obtain ⟨g, hFR, o0, o1, o2, o3, o4, o5, o6, ox, o6w, hK⟩ := hI
      obtain ⟨hi1, hi2⟩ := ready_new hm
      have hsz : Hid (10 < A.tmps.size) := hide (by rw [hFR.size]; simp)
      have m1 : A.tmps[1]? = some (.pointer (some ⟨w.heap.size, 0, none⟩)) := (hFR.out 1 (by decide)).trans rfl
      rcases i with _ | _ | _ | _ | _ | _ | _ | i
      · have BL := hide (B1.out.kept0 hK)
        obtain ⟨x0, x1, x2, x3, x4, x5, x6⟩ := BL.out.c7
        refine wpOp_step rfl (fun KK hK2 => ?_)
        go_simp
        exact hK2 (A.put (some 5) (.agg (inA op z r m k e s))) _ ⟨g, hFR.put (by decide) _, .now (put_eq (by have hz := hsz.out; omega)), o1.q, o2.q, o3.q, o4.q, o5.q, o6.q, ox.past (by decide) id, (fun q => by rw [getD_set_ne (by decide)] at q ⊢; exact o6w q), hK⟩
      · have e0 := o0 (ready_dep hm 0 (by kernel_rfl))
        refine wpOp_step rfl (fun KK hK2 => ?_)
        go_simp
        refine (firstWord W op z r m k e s).mono ?_
        rw [HN.out]
        rintro r9 y ⟨rfl, kd⟩
        go_simp
        exact hK2 (A.put (some 6) (iv N)) _ ⟨g, hFR.put (by decide) _, o0.q, .now (put_eq (by have hz := hsz.out; omega)), o2.q, o3.q, o4.q, o5.q, o6.q, ox.past (by decide) (fun h => ⟨h.1.kept0 kd, h.2⟩), (fun q => by rw [getD_set_ne (by decide)] at q; rw [getD_set_ne (by decide)]; exact o6w q), (hK.trans kd)⟩
      · refine wpOp_step rfl (fun KK hK2 => ?_)
        go_simp
        exact hK2 (A.put (some 7) (.pointer (some ⟨w.heap.size, 3, none⟩))) _ ⟨g, hFR.put (by decide) _, o0.q, o1.q, .now (put_eq (by have hz := hsz.out; omega)), o3.q, o4.q, o5.q, o6.q, ox.past (by decide) id, (fun q => by rw [getD_set_ne (by decide)] at q ⊢; exact o6w q), hK⟩
      · have e2 := o2 (ready_dep hm 2 (by kernel_rfl))
        refine wpOp_step rfl (fun KK hK2 => ?_)
        go_simp
        exact hK2 (A.put (some 8) (.pointer (some ⟨w.heap.size, 5, none⟩))) _ ⟨g, hFR.put (by decide) _, o0.q, o1.q, o2.q, .now (put_eq (by have hz := hsz.out; omega)), o4.q, o5.q, o6.q, ox.past (by decide) id, (fun q => by rw [getD_set_ne (by decide)] at q ⊢; exact o6w q), hK⟩
      · have e3 := o3 (ready_dep hm 3 (by kernel_rfl))
        have BL := hide (B1.out.kept0 hK)
        obtain ⟨x0, x1, x2, x3, x4, x5, x6⟩ := BL.out.c7
        refine wpOp_step rfl (fun KK hK2 => ?_)
        go_simp
        exact hK2 (A.put (some 9) (iv e)) _ ⟨g, hFR.put (by decide) _, o0.q, o1.q, o2.q, o3.q, .now (put_eq (by have hz := hsz.out; omega)), o5.q, o6.q, ox.past (by decide) id, (fun q => by rw [getD_set_ne (by decide)] at q ⊢; exact o6w q), hK⟩
      · have e1 := o1 (ready_dep hm 1 (by kernel_rfl))
        have e4 := o4 (ready_dep hm 4 (by kernel_rfl))
        have n6 : ¬ l.getD 6 true = true := fun q => by have := o6w q; rw [hi2] at this; cases this
        refine wpOp_step rfl (fun KK hK2 => ?_)
        go_simp
        exact hK2 (A.put (some 10) (.slice (some ⟨W.heap.size, 0, none⟩) 2 2)) _ ⟨W.heap.size, hFR.put (by decide) _, o0.q, o1.q, o2.q, o3.q, o4.q, .now (put_eq (by have hz := hsz.out; omega)), (fun q => by rw [getD_set_ne (by decide)] at q; exact absurd q n6), .now ⟨Blk.new W _ _, hK.size⟩, (fun q => by rw [getD_set_ne (by decide)] at q; exact getD_set_eq), (kept_new hK _)⟩
      · have e5 := o5 (ready_dep hm 5 (by kernel_rfl))
        refine wpOp_step rfl (fun KK hK2 => ?_)
        go_simp
        exact hK2 (A.put (some 2) (.slice (some ⟨g, 0, none⟩) 2 2)) _ ⟨g, hFR.put (by decide) _, o0.q, o1.q, o2.q, o3.q, o4.q, o5.q, .now (put_eq (by have hz := hsz.out; omega)), ox.past (by decide) id, (fun _ => by rw [getD_set_ne (by decide)]; exact ready_dep hm 5 (by kernel_rfl)), hK⟩
      · simp at hi1
        omega
end Go.Proofs.YtndphgidmlmkoaaDoor

namespace Go.Proofs.YtndphgidmlmkoaaDoor
open Go.RowKit
set_option linter.unusedVariables false
def Pl.pdecOk (w v : Int) : Bool := Pl.wordOk w && Pl.inOk (Pl.decode w v)
def Pl.pdec (w v : Int) : Pl.In := if Pl.pdecOk w v = true then Pl.decode w v else Pl.inNo
def Pl.pdecN (w v : Int) : Int := if Pl.pdecOk w v = true then Pl.longW w else 0
theorem decWf {n v : Int} (h : Pl.wordOk n = true) (wfv : (Lit.int .i64 v).wf = true) : (Lit.int .i64 (Pl.decode n v).op).wf = true ∧ (Lit.int .i64 (Pl.decode n v).z).wf = true ∧ (Lit.int .i64 (Pl.decode n v).r).wf = true ∧ (Lit.int .i64 (Pl.decode n v).m).wf = true ∧ (Lit.int .i64 (Pl.decode n v).k).wf = true ∧ (Lit.int .i64 (Pl.decode n v).e).wf = true ∧ (Lit.int .i64 (Pl.decode n v).s).wf = true := by
  simp [Pl.wordOk, Pl.within] at h
  rw [Pl.decode_e]
  simp only [Pl.decode]
  refine ⟨wfSm (by omega) (by omega), wfSm (by omega) (by omega), wfSm (by omega) (by omega), wfSm (by omega) (by omega), wfSm (by omega) (by omega), ?_, wfSm (by omega) (by omega)⟩
  cases Pl.extM (n / 32 % 8)
  · exact wfSm (n := 0) (by decide) (by decide)
  · exact wfv
set_option maxRecDepth 20000 in
set_option maxHeartbeats 4000000 in
theorem pDecodeIns (w : World) (n v : Int) (wfn : (Lit.int .i64 n).wf = true) (wfv : (Lit.int .i64 v).wf = true) : Calls Tryd.prog 50 #[iv n, iv v] w fun e' w' => e' = .returned (.tuple #[.agg #[iv (Pl.pdec n v).op, iv (Pl.pdec n v).z, iv (Pl.pdec n v).r, iv (Pl.pdec n v).m, iv (Pl.pdec n v).k, iv (Pl.pdec n v).e, iv (Pl.pdec n v).s], iv (Pl.pdecN n v), .bool (Pl.pdecOk n v)]) ∧ Kept 0 0 w w' := by
  obtain ⟨lo, hi⟩ := wfB wfn
  have K0 := hide (kept_alloc w (.cells (inA 0 0 0 0 0 0 0) 36))
  have R0 := hide (Blk.new w (inA 0 0 0 0 0 0 0) 36)
  cases h : Pl.wordOk n
  · have G : Hid (Pl.pdecOk n v = false) := hide (by simp only [Pl.pdecOk, h]; rfl)
    go_enter Tryd.func50, Tryd.ntmps50
    go_wp2_with (go_at_call 60; refine st (isWord _ _ lo hi) ?_; rw [h])
    refine bodyPost_ret (v := .tuple #[.agg (inA 0 0 0 0 0 0 0), iv 0, .bool false]) ?_ rfl ⟨by simp [Pl.pdec, Pl.pdecN, G.out, Pl.inNo], ?_⟩
    · rw [results_ct2 rfl]; go_simp
    · exact K0.out
  · obtain ⟨n0, n1, wm, hl⟩ := decM (v := v) h
    have wx := decWf h wfv
    obtain ⟨x, hx⟩ : ∃ x, Pl.decode n v = x := ⟨_, rfl⟩
    rw [hx] at wm hl wx
    have HX := hide hx
    have HL := hide hl
    clear hx hl
    cases hg : Pl.inOk x
    · have G : Hid (Pl.pdecOk n v = false) := hide (by simp only [Pl.pdecOk, h, HX.out, hg]; rfl)
      go_enter Tryd.func50, Tryd.ntmps50
      go_wp2_with (first | (go_at_call 60; refine st (isWord _ _ lo hi) ?_; rw [h]) | (go_at_call 57; refine (insOf _ n v n0 n1).mono ?_; rw [HX.out]; rintro e9 w2 ⟨rfl, k2⟩; have R2 := hide (R0.out.kept0 k2); have K2 := hide (K0.out.trans k2); have s2 := R2.out.lt; obtain ⟨y0, y1, y2, y3, y4, y5, y6⟩ := R2.out.c7; have fy0 := R2.out.frozen 0; have fy1 := R2.out.frozen 1; have fy2 := R2.out.frozen 2; have fy3 := R2.out.frozen 3; have fy4 := R2.out.frozen 4; have fy5 := R2.out.frozen 5; have fy6 := R2.out.frozen 6; clear k2) | (go_at_call 18; refine (implGoodIns _ x.op x.z x.r x.m x.k x.e x.s wx.1 wx.2.1 wx.2.2.1 wx.2.2.2.1 wx.2.2.2.2.1 wx.2.2.2.2.2.1 wx.2.2.2.2.2.2).mono ?_; rw [show Pl.inOk ⟨x.op, x.z, x.r, x.m, x.k, x.e, x.s⟩ = Pl.inOk x from rfl, hg]; rintro e9 w3 ⟨rfl, k3⟩; have R3 := hide ((R2.out.alloc _).kept0 k3); have X3 := hide ((Blk.new w2 (inX x) 36).kept0 k3); have K3 := hide ((kept_new K2.out _).trans k3); have s3 := R3.out.lt; obtain ⟨q0, q1, q2, q3, q4, q5, q6⟩ := R3.out.c7; have fq0 := R3.out.frozen 0; have fq1 := R3.out.frozen 1; have fq2 := R3.out.frozen 2; have fq3 := R3.out.frozen 3; have fq4 := R3.out.frozen 4; have fq5 := R3.out.frozen 5; have fq6 := R3.out.frozen 6; clear k3))
      have s0 := R0.out.lt
      refine bodyPost_ret (v := .tuple #[.agg (inA 0 0 0 0 0 0 0), iv 0, .bool false]) ?_ rfl ⟨by simp [Pl.pdec, Pl.pdecN, G.out, Pl.inNo], ?_⟩
      · rw [results_ct2 rfl]; go_simp
      · exact (kept_set (kept_set (kept_set (kept_set (kept_set (kept_set (kept_set K3.out _ _ _ (.inr (by omega))) _ _ _ (.inr (by omega))) _ _ _ (.inr (by omega))) _ _ _ (.inr (by omega))) _ _ _ (.inr (by omega))) _ _ _ (.inr (by omega))) _ _ _ (.inr (by omega)))
    · have G : Hid (Pl.pdecOk n v = true) := hide (by simp only [Pl.pdecOk, h, HX.out, hg]; rfl)
      have EX : Hid (Pl.pdec n v = x) := hide (by simp [Pl.pdec, G.out, HX.out])
      have EN : Hid (Pl.pdecN n v = Pl.longW n) := hide (by simp [Pl.pdecN, G.out])
      rw [EX.out, EN.out, G.out]
      obtain ⟨L, hL⟩ : ∃ L, Pl.longW n = L := ⟨_, rfl⟩
      rw [hL] at HL ⊢
      clear hL
      go_enter Tryd.func50, Tryd.ntmps50
      go_wp2_with (first | (go_at_call 60; refine st (isWord _ _ lo hi) ?_; rw [h]) | (go_at_call 57; refine (insOf _ n v n0 n1).mono ?_; rw [HX.out]; rintro e9 w2 ⟨rfl, k2⟩; have R2 := hide (R0.out.kept0 k2); have K2 := hide (K0.out.trans k2); have s2 := R2.out.lt; obtain ⟨y0, y1, y2, y3, y4, y5, y6⟩ := R2.out.c7; have fy0 := R2.out.frozen 0; have fy1 := R2.out.frozen 1; have fy2 := R2.out.frozen 2; have fy3 := R2.out.frozen 3; have fy4 := R2.out.frozen 4; have fy5 := R2.out.frozen 5; have fy6 := R2.out.frozen 6; clear k2) | (go_at_call 18; refine (implGoodIns _ x.op x.z x.r x.m x.k x.e x.s wx.1 wx.2.1 wx.2.2.1 wx.2.2.2.1 wx.2.2.2.2.1 wx.2.2.2.2.2.1 wx.2.2.2.2.2.2).mono ?_; rw [show Pl.inOk ⟨x.op, x.z, x.r, x.m, x.k, x.e, x.s⟩ = Pl.inOk x from rfl, hg]; rintro e9 w3 ⟨rfl, k3⟩; have R3 := hide ((R2.out.alloc _).kept0 k3); have X3 := hide ((Blk.new w2 (inX x) 36).kept0 k3); have K3 := hide ((kept_new K2.out _).trans k3); have s3 := R3.out.lt; clear k3))
      have hne : Hid (w.heap.size < w2.heap.size) := hide R2.out.lt
      refine wp_region_inv2 (fun A0 l A W => FR [19, 20, 21, 5, 6] A0 A ∧ Once l 0 (A.tmps[19]? = some (.agg (inX x))) ∧ Once l 1 (A.tmps[20]? = some (.agg (inX x))) ∧ Once l 2 (A.tmps[21]? = some (iv L)) ∧ Once l 3 (True) ∧ Once l 4 (A.tmps[5]? = some (iv L)) ∧ Once l 5 (A.tmps[6]? = some (.bool true)) ∧ Blk W w.heap.size (bif l.getD 3 true then (inX x) else (inA 0 0 0 0 0 0 0)) 36 ∧ Blk W w2.heap.size (inX x) 36 ∧ Kept 0 0 w W) (by kernel_rfl) (by kernel_rfl) ?start ?fin ?step
      case start => exact ⟨FR.refl _ _, once_start (by decide), once_start (by decide), once_start (by decide), once_start (by decide), once_start (by decide), once_start (by decide), (by rw [start_at (by decide)]; exact R3.out), X3.out, kept_drew K3.out⟩
      case fin =>
        intro l A W h hl
        obtain ⟨hFR, o0, o1, o2, o3, o4, o5, oR, oX, hK⟩ := h
        have g4 := o4 (hl 4 (by decide))
        have QR : Hid (Blk W w.heap.size (inX x) 36) := hide (by rw [hl 3 (by decide)] at oR; exact oR)
        obtain ⟨q0, q1, q2, q3, q4, q5, q6⟩ := QR.out.c7
        have g5 := o5 (hl 5 (by decide))
        have QQ := hide hK
        have hc9 := hFR.chain
        simp only [List.foldl] at hc9
        rw [getD_of g4, getD_of g5] at hc9
        clear oR oX hl hK hFR g4 g5 o0 o1 o2 o3 o4 o5
        generalize A.tmps.getD 19 undef = s19 at hc9
        generalize A.tmps.getD 20 undef = s20 at hc9
        generalize A.tmps.getD 21 undef = s21 at hc9
        subst hc9
        go_simp
        go_wp2_with fail
        refine bodyPost_ret (v := .tuple #[.agg (inX x), iv L, .bool true]) ?_ rfl ⟨rfl, QQ.out⟩
        rw [results_ct2 rfl]; go_simp
      case step =>
        intro l A W i hI hm
        obtain ⟨hFR, o0, o1, o2, o3, o4, o5, oR, oX, hK⟩ := hI
        obtain ⟨hi1, hi2⟩ := ready_new hm
        have hsz : Hid (21 < A.tmps.size) := hide (by rw [hFR.size]; simp)
        have m4 : A.tmps[4]? = some (.pointer (some ⟨w.heap.size, 0, none⟩)) := (hFR.out 4 (by decide)).trans rfl
        have m7 : A.tmps[7]? = some (.pointer (some ⟨w2.heap.size, 0, none⟩)) := (hFR.out 7 (by decide)).trans rfl
        rcases i with _ | _ | _ | _ | _ | _ | i
        · have OX := hide oX
          obtain ⟨x0, x1, x2, x3, x4, x5, x6⟩ := OX.out.c7
          refine wpOp_step rfl (fun KK hK2 => ?_)
          go_simp
          exact hK2 (A.put (some 19) (.agg (inX x))) _ ⟨hFR.put (by decide) _, .now (put_eq (by have hz := hsz.out; omega)), o1.q, o2.q, o3.n, o4.q, o5.q, by rw [getD_set_ne (by decide)]; exact oR, oX, hK⟩
        · have OX := hide oX
          obtain ⟨x0, x1, x2, x3, x4, x5, x6⟩ := OX.out.c7
          refine wpOp_step rfl (fun KK hK2 => ?_)
          go_simp
          exact hK2 (A.put (some 20) (.agg (inX x))) _ ⟨hFR.put (by decide) _, o0.q, .now (put_eq (by have hz := hsz.out; omega)), o2.q, o3.n, o4.q, o5.q, by rw [getD_set_ne (by decide)]; exact oR, oX, hK⟩
        · have e1 := o1 (ready_dep hm 1 (by kernel_rfl))
          refine wpOp_step rfl (fun KK hK2 => ?_)
          go_simp
          refine (lengthOf W x.op x.z x.r x.m x.k x.e x.s wm).mono ?_
          rw [HL.out]
          rintro r9 y ⟨rfl, kd⟩
          go_simp
          exact hK2 (A.put (some 21) (iv L)) _ ⟨hFR.put (by decide) _, o0.q, o1.q, .now (put_eq (by have hz := hsz.out; omega)), o3.n, o4.q, o5.q, by rw [getD_set_ne (by decide)]; exact oR.kept0 kd, oX.kept0 kd, (hK.trans kd)⟩
        · have e0 := o0 (ready_dep hm 0 (by kernel_rfl))
          have oR2 : Blk W w.heap.size (inA 0 0 0 0 0 0 0) 36 := by rw [hi2] at oR; exact oR
          have OR := hide oR2
          obtain ⟨q0, q1, q2, q3, q4, q5, q6⟩ := OR.out.c7
          have fq0 := OR.out.frozen 0; have fq1 := OR.out.frozen 1; have fq2 := OR.out.frozen 2; have fq3 := OR.out.frozen 3; have fq4 := OR.out.frozen 4; have fq5 := OR.out.frozen 5; have fq6 := OR.out.frozen 6
          have nh : w2.heap.size ≠ w.heap.size := by have := hne.out; omega
          refine wpOp_step rfl (fun KK hK2 => ?_)
          go_simp
          exact hK2 A _ ⟨hFR, o0.n, o1.n, o2.n, .now trivial, o4.n, o5.n, by rw [getD_set_eq]; exact (((((((oR2.set 0 (iv x.op)).set 1 (iv x.z)).set 2 (iv x.r)).set 3 (iv x.m)).set 4 (iv x.k)).set 5 (iv x.e)).set 6 (iv x.s)), (((((((oX.other w.heap.size 0 (iv x.op) nh).other w.heap.size 1 (iv x.z) nh).other w.heap.size 2 (iv x.r) nh).other w.heap.size 3 (iv x.m) nh).other w.heap.size 4 (iv x.k) nh).other w.heap.size 5 (iv x.e) nh).other w.heap.size 6 (iv x.s) nh), (kept_set (kept_set (kept_set (kept_set (kept_set (kept_set (kept_set hK _ _ _ (.inr (by omega))) _ _ _ (.inr (by omega))) _ _ _ (.inr (by omega))) _ _ _ (.inr (by omega))) _ _ _ (.inr (by omega))) _ _ _ (.inr (by omega))) _ _ _ (.inr (by omega)))⟩
        · have e2 := o2 (ready_dep hm 2 (by kernel_rfl))
          refine wpOp_step rfl (fun KK hK2 => ?_)
          go_simp
          exact hK2 (A.put (some 5) (iv L)) _ ⟨hFR.put (by decide) _, o0.q, o1.q, o2.q, o3.n, .now (put_eq (by have hz := hsz.out; omega)), o5.q, by rw [getD_set_ne (by decide)]; exact oR, oX, hK⟩
        · refine wpOp_step rfl (fun KK hK2 => ?_)
          go_simp
          exact hK2 (A.put (some 6) (.bool true)) _ ⟨hFR.put (by decide) _, o0.q, o1.q, o2.q, o3.n, o4.q, .now (put_eq (by have hz := hsz.out; omega)), by rw [getD_set_ne (by decide)]; exact oR, oX, hK⟩
        · simp at hi1
          omega
end Go.Proofs.YtndphgidmlmkoaaDoor

namespace Go.Proofs.YtndphgidmlmkoaaDoor
open Go.RowKit
set_option linter.unusedVariables false
theorem wfAt {ys : List Int} (h : Wide ys) {i : Nat} (hi : i < ys.length) : (Lit.int .i64 (el ys i)).wf = true := by
  have q := h i hi
  have e1 : IntKind.i64.min = -9223372036854775808 := rfl
  have e2 : IntKind.i64.max = 9223372036854775807 := rfl
  unfold el
  simp [Lit.wf]
  omega
set_option maxRecDepth 20000 in
set_option maxHeartbeats 4000000 in
theorem implEncodeAllC (w : World) (a : Option Addr) (ca n : Nat) (ys : List Int) (ha : Came w a ys) (ly : ys.length = 7 * n) (bx : n ≤ 2000000) : Calls Tryd.prog 5 #[.slice a n ca] w fun e' w' => ∃ (b : Option Addr) (c : Nat), e' = .returned (.tuple #[.slice b (Pl.eaV ys n).length c, .bool (Pl.eaOk ys n)]) ∧ SlotIn w' w.heap.size w'.heap.size b (Pl.eaV ys n) ∧ Kept 0 0 w w' ∧ (Pl.eaV ys n).length ≤ c := by
  have HA := hide ha
  have HY := hide ly
  clear ha ly
  obtain ⟨i, hi0, hz0, hz1, hz2⟩ := info_parts Tryd.info3
  cases h40 : decide ((40 : Int) < (n : Int))
  · go_enter Tryd.func5, Tryd.ntmps5
    go_wp2_with fail
    go_loopw [4, 6, 12] (fun v _ j wr => ∃ k : Nat, k ≤ n ∧ j = .int .i64 k ∧ Pl.allIn ys k = true ∧ wr.ownsRow w.heap.size 3 1 v (Pl.encTo ys k).length ((Pl.encTo ys k).map (Value.int .i64)) ∧ Kept 0 0 w wr) (fun _ _ j _ => n - (intOf j).toNat)
    case atStart => exact ⟨0, Nat.zero_le _, rfl, rfl, World.ownsRow_nil _ _ _ _, Kept.refl _ _ _⟩
    case round =>
      obtain ⟨k, hk, rfl, hall, hown, hkept⟩ := hrel
      have HK := hide hkept
      have HO := hide hown
      have HL := hide hall
      have hel := Pl.encTo_len ys k
      have hel2 := Pl.encode_len (Pl.inAt ys k)
      clear hkept hown hall
      by_cases hlt : k < n
      · obtain ⟨g1, o1, rfl, p0, p1, p2, p3, p4, p5, p6⟩ := (HA.out.1.keptS HK.out).at7 HY.out hlt
        have hyl := HY.out
        have wa0 : (Lit.int .i64 (el ys (k * 7))).wf = true := wfAt HA.out.2 (by omega)
        have wa1 : (Lit.int .i64 (el ys (k * 7 + 1))).wf = true := wfAt HA.out.2 (by omega)
        have wa2 : (Lit.int .i64 (el ys (k * 7 + 2))).wf = true := wfAt HA.out.2 (by omega)
        have wa3 : (Lit.int .i64 (el ys (k * 7 + 3))).wf = true := wfAt HA.out.2 (by omega)
        have wa4 : (Lit.int .i64 (el ys (k * 7 + 4))).wf = true := wfAt HA.out.2 (by omega)
        have wa5 : (Lit.int .i64 (el ys (k * 7 + 5))).wf = true := wfAt HA.out.2 (by omega)
        have wa6 : (Lit.int .i64 (el ys (k * 7 + 6))).wf = true := wfAt HA.out.2 (by omega)
        clear hyl
        have B0 := hide (Blk.new wr #[.int .i64 (el ys (k * 7)), .int .i64 (el ys (k * 7 + 1)), .int .i64 (el ys (k * 7 + 2)), .int .i64 (el ys (k * 7 + 3)), .int .i64 (el ys (k * 7 + 4)), .int .i64 (el ys (k * 7 + 5)), .int .i64 (el ys (k * 7 + 6))] 36)
        cases hb : Pl.inOk (Pl.inAt ys k)
        · have E : Hid (Pl.eaOk ys n = false) := hide (by unfold Pl.eaOk; rw [Pl.allIn_no hlt hb]; rfl)
          go_wp2_with (first | (go_at_call 18; refine (implGoodIns _ (el ys (k * 7)) (el ys (k * 7 + 1)) (el ys (k * 7 + 2)) (el ys (k * 7 + 3)) (el ys (k * 7 + 4)) (el ys (k * 7 + 5)) (el ys (k * 7 + 6)) wa0 wa1 wa2 wa3 wa4 wa5 wa6).mono ?_; rw [show Pl.inOk ⟨el ys (k * 7), el ys (k * 7 + 1), el ys (k * 7 + 2), el ys (k * 7 + 3), el ys (k * 7 + 4), el ys (k * 7 + 5), el ys (k * 7 + 6)⟩ = Pl.inOk (Pl.inAt ys k) from rfl, hb]; rintro e9 w2 ⟨rfl, k2⟩; have B2 := hide (B0.out.kept0 k2); have K2 := hide ((kept_new HK.out _).trans k2); have k9 := hide (undo (kept_alloc wr _) k2); obtain ⟨c0, c1, c2, c3, c4, c5, c6⟩ := B2.out.c7; clear k2))
          go_ret2
          exact ⟨none, 0, by simp [Pl.eaV, E.out], .inl ⟨rfl, by simp [Pl.eaV, E.out]⟩, K2.out, by simp [Pl.eaV, E.out]⟩
        · obtain ⟨ZL, hZL⟩ : ∃ ZL, ZL = Pl.encode (Pl.inAt ys k) := ⟨_, rfl⟩
          go_wp2_with (first | (go_at_call 18; refine (implGoodIns _ (el ys (k * 7)) (el ys (k * 7 + 1)) (el ys (k * 7 + 2)) (el ys (k * 7 + 3)) (el ys (k * 7 + 4)) (el ys (k * 7 + 5)) (el ys (k * 7 + 6)) wa0 wa1 wa2 wa3 wa4 wa5 wa6).mono ?_; rw [show Pl.inOk ⟨el ys (k * 7), el ys (k * 7 + 1), el ys (k * 7 + 2), el ys (k * 7 + 3), el ys (k * 7 + 4), el ys (k * 7 + 5), el ys (k * 7 + 6)⟩ = Pl.inOk (Pl.inAt ys k) from rfl, hb]; rintro e9 w2 ⟨rfl, k2⟩; have B2 := hide (B0.out.kept0 k2); have K2 := hide ((kept_new HK.out _).trans k2); have k9 := hide (undo (kept_alloc wr _) k2); obtain ⟨c0, c1, c2, c3, c4, c5, c6⟩ := B2.out.c7; clear k2) | (go_at_call 19; refine (wordsOf _ (el ys (k * 7)) (el ys (k * 7 + 1)) (el ys (k * 7 + 2)) (el ys (k * 7 + 3)) (el ys (k * 7 + 4)) (el ys (k * 7 + 5)) (el ys (k * 7 + 6)) hb).mono ?_; rintro e9 w3 ⟨g, c, rfl, hg1, hg2, hO, k3⟩; have K3 := hide (K2.out.trans k3); have OE := hide hO; have O3 := hide (HO.out.kept (k9.out.trans k3).grown (Classical.em _)); have s3 := K3.out.size; clear hg1 hg2 hO k3) | (at_builtin; refine wpList_append_own _ rfl _ _ 25 rfl w.heap.size 3 i (.int .i64 0) 1 8 Tryd.underlying25 hi0 hz0 hz1 hz2 rfl (by decide) _ _ _ rfl O3.out ⟨g, 0, none⟩ (Pl.encode (Pl.inAt ys k)).length c ((Pl.encode (Pl.inAt ys k)).map (Value.int .i64)) rfl ?c0 ?c1 ?c2 ?c3 ?c4 ?c5 ?_))
          case c0 => simp
          case c1 => exact news_own OE.out
          case c2 => exact news_one
          case c3 => unfold maxLen; omega
          case c4 => omega
          case c5 => omega
          intro v' w4 hown' hgr _
          have HO4 := hide hown'
          have K4 := hide (kept_over K3.out (kept_row (lo := w.heap.size) (hi := w3.heap.size) hgr (fun g hg => O3.out.lt g hg)) (Nat.le_refl _))
          clear hown' hgr
          go_wp2_with fail
          go_roundw
          case rel => exact ⟨k + 1, by omega, by go_num, by unfold Pl.allIn; rw [HL.out, hb]; rfl, by unfold Pl.encTo; rw [List.length_append, List.map_append]; exact HO4.out, K4.out⟩
          case measure => simp [intOf]; omega
      · obtain rfl : k = n := by omega
        have E : Hid (Pl.eaOk ys k = true) := hide (by unfold Pl.eaOk; rw [HL.out]; simp at h40; simp; omega)
        have EV : Hid (Pl.eaV ys k = Pl.encTo ys k) := hide (by simp [Pl.eaV, E.out])
        obtain ⟨b, cb, rfl, hS, hC⟩ := slotIn_rowC HO.out
        go_wp2_with fail
        go_ret2
        exact ⟨b, cb, by rw [EV.out, E.out]; rfl, by rw [EV.out]; exact hS, HK.out, by rw [EV.out]; exact hC⟩
  · have E : Hid (Pl.eaOk ys n = false) := hide (by unfold Pl.eaOk; simp at h40; simp; omega)
    go_enter Tryd.func5, Tryd.ntmps5
    go_wp2_with fail
    go_ret2
    exact ⟨none, 0, by simp [Pl.eaV, E.out], .inl ⟨rfl, by simp [Pl.eaV, E.out]⟩, Kept.refl _ _ _, by simp [Pl.eaV, E.out]⟩
end Go.Proofs.YtndphgidmlmkoaaDoor

namespace Go.Proofs.YtndphgidmlmkoaaDoor
open Go.RowKit
set_option linter.unusedVariables false
set_option linter.unusedSimpArgs false
/-- one instruction more: what is read from the front -/
theorem daStep {xs : List Int} {k : Nat} {O : List Pl.In} (h : Pl.daFrom xs k O) (hk : k < xs.length) (v : Int) (hv1 : k + 1 = xs.length → v = -1) (hv2 : k + 1 < xs.length → v = el xs (k + 1)) :
    (Pl.pdecOk (el xs k) v = false → Pl.da xs = none) ∧ (Pl.pdecOk (el xs k) v = true → ∃ L : Nat, Pl.longW (el xs k) = (L : Int) ∧ 1 ≤ L ∧ k + L ≤ xs.length ∧ Pl.daFrom xs (k + L) (O ++ [Pl.decode (el xs k) v])) := by
  cases hw : Pl.wordOk (el xs k)
  · exact ⟨fun _ => Pl.daFrom_word h hk hw, fun q => by unfold Pl.pdecOk at q; rw [hw] at q; cases q⟩
  · have e0 : Pl.pdecOk (el xs k) v = Pl.inOk (Pl.decode (el xs k) v) := by unfold Pl.pdecOk; rw [hw]; rfl
    rcases Pl.long_or (el xs k) with hL | hL
    · have e1 := Pl.decode_short v 0 hL
      have e2 : Pl.decOk (el xs k) 0 = Pl.inOk (Pl.decode (el xs k) 0) := by unfold Pl.decOk; rw [hw, show Pl.wordOk 0 = true from by decide]; rfl
      obtain ⟨q1, q2⟩ := Pl.daFrom_one h hk hw hL
      rw [e0, e1, ← e2]
      exact ⟨q1, fun q => ⟨1, hL, Nat.le_refl _, by omega, q2 q⟩⟩
    · have ee : (Pl.decode (el xs k) v).e = v := by show (if Pl.longW (el xs k) = 2 then v else 0) = v; rw [if_pos hL]
      rcases Nat.lt_or_ge (k + 1) xs.length with hq | hq
      · have ev := hv2 hq
        subst ev
        have e2 : Pl.decOk (el xs k) (el xs (k + 1)) = Pl.inOk (Pl.decode (el xs k) (el xs (k + 1))) := by
          unfold Pl.decOk
          rw [hw]
          cases hi : Pl.inOk (Pl.decode (el xs k) (el xs (k + 1)))
          · simp
          · have hm := Pl.modeR hi
            rw [ee] at hm
            have : Pl.wordOk (el xs (k + 1)) = true := by simp [Pl.wordOk, Pl.within]; omega
            rw [this]; rfl
        obtain ⟨q1, q2⟩ := Pl.daFrom_two h hq hw hL
        rw [e0, ← e2]
        exact ⟨q1, fun q => ⟨2, hL, by omega, by omega, q2 q⟩⟩
      · have hq' : k + 1 = xs.length := by omega
        have ev := hv1 hq'
        refine ⟨fun _ => Pl.daFrom_short h hk hL hq', fun q => ?_⟩
        rw [e0] at q
        have hm := Pl.modeR q
        rw [ee, ev] at hm
        omega
theorem cellK {w w' : World} {g o : Nat} {v : Value} (h : w.cell? ⟨g, o, none⟩ = some v) (k : Kept 0 0 w w') : w'.cell? ⟨g, o, none⟩ = some v := by
  rw [World.cell?_of_block (w := w) (k.block g (World.block_lt_of_cell? _ _ h) (by omega))]
  exact h
set_option maxRecDepth 20000 in
set_option maxHeartbeats 4000000 in
theorem firstOne (w : World) (g off c : Nat) (a0 v : Int) (wf0 : (Lit.int .i64 a0).wf = true) (wfv : (Lit.int .i64 v).wf = true) (hc0 : w.cell? ⟨g, off, none⟩ = some (.int .i64 a0)) (hv : v = -1) : Calls Tryd.prog 22 #[.slice (some ⟨g, off, none⟩) 1 c] w fun e' w' => e' = .returned (.tuple #[.agg #[.int .i64 (Pl.pdec a0 v).op, .int .i64 (Pl.pdec a0 v).z, .int .i64 (Pl.pdec a0 v).r, .int .i64 (Pl.pdec a0 v).m, .int .i64 (Pl.pdec a0 v).k, .int .i64 (Pl.pdec a0 v).e, .int .i64 (Pl.pdec a0 v).s], .int .i64 (Pl.pdecN a0 v), .bool (Pl.pdecOk a0 v)]) ∧ Kept 0 0 w w' := by
  subst hv
  have K0 := hide (kept_alloc w (.cells #[.int .i64 0, .int .i64 0, .int .i64 0, .int .i64 0, .int .i64 0, .int .i64 0, .int .i64 0] 36))
  have R0 := hide (Blk.new w #[.int .i64 0, .int .i64 0, .int .i64 0, .int .i64 0, .int .i64 0, .int .i64 0, .int .i64 0] 36)
  obtain ⟨x, hx⟩ : ∃ x, Pl.pdec a0 (-1) = x := ⟨_, rfl⟩
  obtain ⟨N, hN⟩ : ∃ N, Pl.pdecN a0 (-1) = N := ⟨_, rfl⟩
  obtain ⟨F, hF⟩ : ∃ F, Pl.pdecOk a0 (-1) = F := ⟨_, rfl⟩
  rw [hx, hN, hF]
  have HX := hide hx
  have HN := hide hN
  have HF := hide hF
  have d0 := cellK hc0 K0.out
  clear hx hN hF hc0
  go_enter Tryd.func22, Tryd.ntmps22
  go_wp2_with (go_at_call 50; refine (pDecodeIns _ a0 (-1) wf0 wfv).mono ?_; rw [HX.out, HN.out, HF.out]; rintro e9 w2 ⟨rfl, k2⟩; have R2 := hide (R0.out.kept0 k2); have K2 := hide (K0.out.trans k2); have s2 := R2.out.lt; obtain ⟨y0, y1, y2, y3, y4, y5, y6⟩ := R2.out.c7; have fy0 := R2.out.frozen 0; have fy1 := R2.out.frozen 1; have fy2 := R2.out.frozen 2; have fy3 := R2.out.frozen 3; have fy4 := R2.out.frozen 4; have fy5 := R2.out.frozen 5; have fy6 := R2.out.frozen 6; clear k2)
  have s0 := R0.out.lt
  refine bodyPost_ret (v := .tuple #[.agg #[.int .i64 x.op, .int .i64 x.z, .int .i64 x.r, .int .i64 x.m, .int .i64 x.k, .int .i64 x.e, .int .i64 x.s], .int .i64 N, .bool F]) ?_ rfl ⟨rfl, ?_⟩
  · rw [results_ct2 rfl]; go_simp
  · exact (kept_set (kept_set (kept_set (kept_set (kept_set (kept_set (kept_set K2.out _ _ _ (.inr (by omega))) _ _ _ (.inr (by omega))) _ _ _ (.inr (by omega))) _ _ _ (.inr (by omega))) _ _ _ (.inr (by omega))) _ _ _ (.inr (by omega))) _ _ _ (.inr (by omega)))
set_option maxRecDepth 20000 in
set_option maxHeartbeats 4000000 in
theorem firstTwo (w : World) (g off n c : Nat) (a0 v : Int) (wf0 : (Lit.int .i64 a0).wf = true) (wfv : (Lit.int .i64 v).wf = true) (hc0 : w.cell? ⟨g, off, none⟩ = some (.int .i64 a0)) (hn : 2 ≤ n) (hc1 : w.cell? ⟨g, off + 1, none⟩ = some (.int .i64 v)) : Calls Tryd.prog 22 #[.slice (some ⟨g, off, none⟩) n c] w fun e' w' => e' = .returned (.tuple #[.agg #[.int .i64 (Pl.pdec a0 v).op, .int .i64 (Pl.pdec a0 v).z, .int .i64 (Pl.pdec a0 v).r, .int .i64 (Pl.pdec a0 v).m, .int .i64 (Pl.pdec a0 v).k, .int .i64 (Pl.pdec a0 v).e, .int .i64 (Pl.pdec a0 v).s], .int .i64 (Pl.pdecN a0 v), .bool (Pl.pdecOk a0 v)]) ∧ Kept 0 0 w w' := by
  have K0 := hide (kept_alloc w (.cells #[.int .i64 0, .int .i64 0, .int .i64 0, .int .i64 0, .int .i64 0, .int .i64 0, .int .i64 0] 36))
  have R0 := hide (Blk.new w #[.int .i64 0, .int .i64 0, .int .i64 0, .int .i64 0, .int .i64 0, .int .i64 0, .int .i64 0] 36)
  obtain ⟨x, hx⟩ : ∃ x, Pl.pdec a0 v = x := ⟨_, rfl⟩
  obtain ⟨N, hN⟩ : ∃ N, Pl.pdecN a0 v = N := ⟨_, rfl⟩
  obtain ⟨F, hF⟩ : ∃ F, Pl.pdecOk a0 v = F := ⟨_, rfl⟩
  rw [hx, hN, hF]
  have HX := hide hx
  have HN := hide hN
  have HF := hide hF
  have d0 := hc0
  clear hx hN hF hc0
  have d1 : w.cell? ⟨g, off + 1, none⟩ = some (.int .i64 v) := hc1
  clear hc1
  have hne : ((n : Int) == 1) = false := by simp; omega
  go_enter Tryd.func22, Tryd.ntmps22
  go_wp2_with fail
  refine wp_region_inv2 (fun A0 l A W => FR [15, 16, 17, 18, 19, 20, 21, 22, 23, 24, 3, 4] A0 A ∧ Once l 0 (A.tmps[15]? = some (.slice (some ⟨g, off, none⟩) n c)) ∧ Once l 1 (A.tmps[16]? = some (.pointer (some ⟨g, off, none⟩))) ∧ Once l 2 (A.tmps[17]? = some (.int .i64 a0)) ∧ Once l 3 (A.tmps[18]? = some (.slice (some ⟨g, off, none⟩) n c)) ∧ Once l 4 (A.tmps[19]? = some (.pointer (some ⟨g, off + 1, none⟩))) ∧ Once l 5 (A.tmps[20]? = some (.int .i64 v)) ∧ Once l 6 (A.tmps[21]? = some (.tuple #[.agg #[.int .i64 x.op, .int .i64 x.z, .int .i64 x.r, .int .i64 x.m, .int .i64 x.k, .int .i64 x.e, .int .i64 x.s], .int .i64 N, .bool F])) ∧ Once l 7 (A.tmps[22]? = some (.agg #[.int .i64 x.op, .int .i64 x.z, .int .i64 x.r, .int .i64 x.m, .int .i64 x.k, .int .i64 x.e, .int .i64 x.s])) ∧ Once l 8 (A.tmps[23]? = some (.int .i64 N)) ∧ Once l 9 (A.tmps[24]? = some (.bool F)) ∧ Once l 10 (True) ∧ Once l 11 (A.tmps[3]? = some (.int .i64 N)) ∧ Once l 12 (A.tmps[4]? = some (.bool F)) ∧ Blk W w.heap.size (bif l.getD 10 true then #[.int .i64 x.op, .int .i64 x.z, .int .i64 x.r, .int .i64 x.m, .int .i64 x.k, .int .i64 x.e, .int .i64 x.s] else #[.int .i64 0, .int .i64 0, .int .i64 0, .int .i64 0, .int .i64 0, .int .i64 0, .int .i64 0]) 36 ∧ Kept 0 0 w W) (by kernel_rfl) (by kernel_rfl) ?start ?fin ?step
  case start => exact ⟨FR.refl _ _, once_start (by decide), once_start (by decide), once_start (by decide), once_start (by decide), once_start (by decide), once_start (by decide), once_start (by decide), once_start (by decide), once_start (by decide), once_start (by decide), once_start (by decide), once_start (by decide), once_start (by decide), (by rw [start_at (by decide)]; exact R0.out), kept_drew K0.out⟩
  case fin =>
    intro l A W h hl
    obtain ⟨hFR, o0, o1, o2, o3, o4, o5, o6, o7, o8, o9, o10, o11, o12, oR, hK⟩ := h
    have g11 := o11 (hl 11 (by decide))
    have QR : Hid (Blk W w.heap.size #[.int .i64 x.op, .int .i64 x.z, .int .i64 x.r, .int .i64 x.m, .int .i64 x.k, .int .i64 x.e, .int .i64 x.s] 36) := hide (by rw [hl 10 (by decide)] at oR; exact oR)
    obtain ⟨q0, q1, q2, q3, q4, q5, q6⟩ := QR.out.c7
    have g12 := o12 (hl 12 (by decide))
    have QQ := hide hK
    have hc9 := hFR.chain
    simp only [List.foldl] at hc9
    rw [getD_of g11, getD_of g12] at hc9
    clear oR hl hK hFR g11 g12 o0 o1 o2 o3 o4 o5 o6 o7 o8 o9 o10 o11 o12
    generalize A.tmps.getD 15 undef = s15 at hc9
    generalize A.tmps.getD 16 undef = s16 at hc9
    generalize A.tmps.getD 17 undef = s17 at hc9
    generalize A.tmps.getD 18 undef = s18 at hc9
    generalize A.tmps.getD 19 undef = s19 at hc9
    generalize A.tmps.getD 20 undef = s20 at hc9
    generalize A.tmps.getD 21 undef = s21 at hc9
    generalize A.tmps.getD 22 undef = s22 at hc9
    generalize A.tmps.getD 23 undef = s23 at hc9
    generalize A.tmps.getD 24 undef = s24 at hc9
    subst hc9
    go_simp
    go_wp2_with fail
    refine bodyPost_ret (v := .tuple #[.agg #[.int .i64 x.op, .int .i64 x.z, .int .i64 x.r, .int .i64 x.m, .int .i64 x.k, .int .i64 x.e, .int .i64 x.s], .int .i64 N, .bool F]) ?_ rfl ⟨rfl, QQ.out⟩
    rw [results_ct2 rfl]; go_simp
  case step =>
    intro l A W i hI hm
    obtain ⟨hFR, o0, o1, o2, o3, o4, o5, o6, o7, o8, o9, o10, o11, o12, oR, hK⟩ := hI
    obtain ⟨hi1, hi2⟩ := ready_new hm
    have hsz : Hid (24 < A.tmps.size) := hide (by rw [hFR.size]; simp)
    have m0 : A.tmps[0]? = some (.slice (some ⟨g, off, none⟩) n c) := (hFR.out 0 (by decide)).trans rfl
    have m2 : A.tmps[2]? = some (.pointer (some ⟨w.heap.size, 0, none⟩)) := (hFR.out 2 (by decide)).trans rfl
    rcases i with _ | _ | _ | _ | _ | _ | _ | _ | _ | _ | _ | _ | _ | i
    · refine wpOp_step rfl (fun KK hK2 => ?_)
      go_simp
      exact hK2 (A.put (some 15) (.slice (some ⟨g, off, none⟩) n c)) _ ⟨hFR.put (by decide) _, .now (put_eq (by have hz := hsz.out; omega)), o1.past (by decide) (fun h => (put_ne (by decide)).trans h), o2.past (by decide) (fun h => (put_ne (by decide)).trans h), o3.past (by decide) (fun h => (put_ne (by decide)).trans h), o4.past (by decide) (fun h => (put_ne (by decide)).trans h), o5.past (by decide) (fun h => (put_ne (by decide)).trans h), o6.past (by decide) (fun h => (put_ne (by decide)).trans h), o7.past (by decide) (fun h => (put_ne (by decide)).trans h), o8.past (by decide) (fun h => (put_ne (by decide)).trans h), o9.past (by decide) (fun h => (put_ne (by decide)).trans h), o10.past (by decide) id, o11.past (by decide) (fun h => (put_ne (by decide)).trans h), o12.past (by decide) (fun h => (put_ne (by decide)).trans h), by rw [getD_set_ne (by decide)]; exact oR, hK⟩
    · have e0 := o0 (ready_dep hm 0 (by kernel_rfl))
      have hn0 : 0 < n := by omega
      refine wpOp_step rfl (fun KK hK2 => ?_)
      go_simp
      exact hK2 (A.put (some 16) (.pointer (some ⟨g, off, none⟩))) _ ⟨hFR.put (by decide) _, o0.past (by decide) (fun h => (put_ne (by decide)).trans h), .now (put_eq (by have hz := hsz.out; omega)), o2.past (by decide) (fun h => (put_ne (by decide)).trans h), o3.past (by decide) (fun h => (put_ne (by decide)).trans h), o4.past (by decide) (fun h => (put_ne (by decide)).trans h), o5.past (by decide) (fun h => (put_ne (by decide)).trans h), o6.past (by decide) (fun h => (put_ne (by decide)).trans h), o7.past (by decide) (fun h => (put_ne (by decide)).trans h), o8.past (by decide) (fun h => (put_ne (by decide)).trans h), o9.past (by decide) (fun h => (put_ne (by decide)).trans h), o10.past (by decide) id, o11.past (by decide) (fun h => (put_ne (by decide)).trans h), o12.past (by decide) (fun h => (put_ne (by decide)).trans h), by rw [getD_set_ne (by decide)]; exact oR, hK⟩
    · have e1 := o1 (ready_dep hm 1 (by kernel_rfl))
      have y0 := cellK d0 hK
      refine wpOp_step rfl (fun KK hK2 => ?_)
      go_simp
      exact hK2 (A.put (some 17) (.int .i64 a0)) _ ⟨hFR.put (by decide) _, o0.past (by decide) (fun h => (put_ne (by decide)).trans h), o1.past (by decide) (fun h => (put_ne (by decide)).trans h), .now (put_eq (by have hz := hsz.out; omega)), o3.past (by decide) (fun h => (put_ne (by decide)).trans h), o4.past (by decide) (fun h => (put_ne (by decide)).trans h), o5.past (by decide) (fun h => (put_ne (by decide)).trans h), o6.past (by decide) (fun h => (put_ne (by decide)).trans h), o7.past (by decide) (fun h => (put_ne (by decide)).trans h), o8.past (by decide) (fun h => (put_ne (by decide)).trans h), o9.past (by decide) (fun h => (put_ne (by decide)).trans h), o10.past (by decide) id, o11.past (by decide) (fun h => (put_ne (by decide)).trans h), o12.past (by decide) (fun h => (put_ne (by decide)).trans h), by rw [getD_set_ne (by decide)]; exact oR, hK⟩
    · refine wpOp_step rfl (fun KK hK2 => ?_)
      go_simp
      exact hK2 (A.put (some 18) (.slice (some ⟨g, off, none⟩) n c)) _ ⟨hFR.put (by decide) _, o0.past (by decide) (fun h => (put_ne (by decide)).trans h), o1.past (by decide) (fun h => (put_ne (by decide)).trans h), o2.past (by decide) (fun h => (put_ne (by decide)).trans h), .now (put_eq (by have hz := hsz.out; omega)), o4.past (by decide) (fun h => (put_ne (by decide)).trans h), o5.past (by decide) (fun h => (put_ne (by decide)).trans h), o6.past (by decide) (fun h => (put_ne (by decide)).trans h), o7.past (by decide) (fun h => (put_ne (by decide)).trans h), o8.past (by decide) (fun h => (put_ne (by decide)).trans h), o9.past (by decide) (fun h => (put_ne (by decide)).trans h), o10.past (by decide) id, o11.past (by decide) (fun h => (put_ne (by decide)).trans h), o12.past (by decide) (fun h => (put_ne (by decide)).trans h), by rw [getD_set_ne (by decide)]; exact oR, hK⟩
    · have e3 := o3 (ready_dep hm 3 (by kernel_rfl))
      have hn1 : (1 : Int) < (n : Int) := by omega
      refine wpOp_step rfl (fun KK hK2 => ?_)
      go_simp
      exact hK2 (A.put (some 19) (.pointer (some ⟨g, off + 1, none⟩))) _ ⟨hFR.put (by decide) _, o0.past (by decide) (fun h => (put_ne (by decide)).trans h), o1.past (by decide) (fun h => (put_ne (by decide)).trans h), o2.past (by decide) (fun h => (put_ne (by decide)).trans h), o3.past (by decide) (fun h => (put_ne (by decide)).trans h), .now (put_eq (by have hz := hsz.out; omega)), o5.past (by decide) (fun h => (put_ne (by decide)).trans h), o6.past (by decide) (fun h => (put_ne (by decide)).trans h), o7.past (by decide) (fun h => (put_ne (by decide)).trans h), o8.past (by decide) (fun h => (put_ne (by decide)).trans h), o9.past (by decide) (fun h => (put_ne (by decide)).trans h), o10.past (by decide) id, o11.past (by decide) (fun h => (put_ne (by decide)).trans h), o12.past (by decide) (fun h => (put_ne (by decide)).trans h), by rw [getD_set_ne (by decide)]; exact oR, hK⟩
    · have e4 := o4 (ready_dep hm 4 (by kernel_rfl))
      have y1 := cellK d1 hK
      refine wpOp_step rfl (fun KK hK2 => ?_)
      go_simp
      exact hK2 (A.put (some 20) (.int .i64 v)) _ ⟨hFR.put (by decide) _, o0.past (by decide) (fun h => (put_ne (by decide)).trans h), o1.past (by decide) (fun h => (put_ne (by decide)).trans h), o2.past (by decide) (fun h => (put_ne (by decide)).trans h), o3.past (by decide) (fun h => (put_ne (by decide)).trans h), o4.past (by decide) (fun h => (put_ne (by decide)).trans h), .now (put_eq (by have hz := hsz.out; omega)), o6.past (by decide) (fun h => (put_ne (by decide)).trans h), o7.past (by decide) (fun h => (put_ne (by decide)).trans h), o8.past (by decide) (fun h => (put_ne (by decide)).trans h), o9.past (by decide) (fun h => (put_ne (by decide)).trans h), o10.past (by decide) id, o11.past (by decide) (fun h => (put_ne (by decide)).trans h), o12.past (by decide) (fun h => (put_ne (by decide)).trans h), by rw [getD_set_ne (by decide)]; exact oR, hK⟩
    · have e2 := o2 (ready_dep hm 2 (by kernel_rfl))
      have e5 := o5 (ready_dep hm 5 (by kernel_rfl))
      refine wpOp_step rfl (fun KK hK2 => ?_)
      go_simp
      refine (pDecodeIns W a0 v wf0 wfv).mono ?_
      rw [HX.out, HN.out, HF.out]
      rintro r9 y ⟨rfl, kd⟩
      go_simp
      exact hK2 (A.put (some 21) (.tuple #[.agg #[.int .i64 x.op, .int .i64 x.z, .int .i64 x.r, .int .i64 x.m, .int .i64 x.k, .int .i64 x.e, .int .i64 x.s], .int .i64 N, .bool F])) _ ⟨hFR.put (by decide) _, o0.past (by decide) (fun h => (put_ne (by decide)).trans h), o1.past (by decide) (fun h => (put_ne (by decide)).trans h), o2.past (by decide) (fun h => (put_ne (by decide)).trans h), o3.past (by decide) (fun h => (put_ne (by decide)).trans h), o4.past (by decide) (fun h => (put_ne (by decide)).trans h), o5.past (by decide) (fun h => (put_ne (by decide)).trans h), .now (put_eq (by have hz := hsz.out; omega)), o7.past (by decide) (fun h => (put_ne (by decide)).trans h), o8.past (by decide) (fun h => (put_ne (by decide)).trans h), o9.past (by decide) (fun h => (put_ne (by decide)).trans h), o10.past (by decide) id, o11.past (by decide) (fun h => (put_ne (by decide)).trans h), o12.past (by decide) (fun h => (put_ne (by decide)).trans h), by rw [getD_set_ne (by decide)]; exact oR.kept0 kd, (hK.trans kd)⟩
    · have e6 := o6 (ready_dep hm 6 (by kernel_rfl))
      refine wpOp_step rfl (fun KK hK2 => ?_)
      go_simp
      exact hK2 (A.put (some 22) (.agg #[.int .i64 x.op, .int .i64 x.z, .int .i64 x.r, .int .i64 x.m, .int .i64 x.k, .int .i64 x.e, .int .i64 x.s])) _ ⟨hFR.put (by decide) _, o0.past (by decide) (fun h => (put_ne (by decide)).trans h), o1.past (by decide) (fun h => (put_ne (by decide)).trans h), o2.past (by decide) (fun h => (put_ne (by decide)).trans h), o3.past (by decide) (fun h => (put_ne (by decide)).trans h), o4.past (by decide) (fun h => (put_ne (by decide)).trans h), o5.past (by decide) (fun h => (put_ne (by decide)).trans h), o6.past (by decide) (fun h => (put_ne (by decide)).trans h), .now (put_eq (by have hz := hsz.out; omega)), o8.past (by decide) (fun h => (put_ne (by decide)).trans h), o9.past (by decide) (fun h => (put_ne (by decide)).trans h), o10.past (by decide) id, o11.past (by decide) (fun h => (put_ne (by decide)).trans h), o12.past (by decide) (fun h => (put_ne (by decide)).trans h), by rw [getD_set_ne (by decide)]; exact oR, hK⟩
    · have e6 := o6 (ready_dep hm 6 (by kernel_rfl))
      refine wpOp_step rfl (fun KK hK2 => ?_)
      go_simp
      exact hK2 (A.put (some 23) (.int .i64 N)) _ ⟨hFR.put (by decide) _, o0.past (by decide) (fun h => (put_ne (by decide)).trans h), o1.past (by decide) (fun h => (put_ne (by decide)).trans h), o2.past (by decide) (fun h => (put_ne (by decide)).trans h), o3.past (by decide) (fun h => (put_ne (by decide)).trans h), o4.past (by decide) (fun h => (put_ne (by decide)).trans h), o5.past (by decide) (fun h => (put_ne (by decide)).trans h), o6.past (by decide) (fun h => (put_ne (by decide)).trans h), o7.past (by decide) (fun h => (put_ne (by decide)).trans h), .now (put_eq (by have hz := hsz.out; omega)), o9.past (by decide) (fun h => (put_ne (by decide)).trans h), o10.past (by decide) id, o11.past (by decide) (fun h => (put_ne (by decide)).trans h), o12.past (by decide) (fun h => (put_ne (by decide)).trans h), by rw [getD_set_ne (by decide)]; exact oR, hK⟩
    · have e6 := o6 (ready_dep hm 6 (by kernel_rfl))
      refine wpOp_step rfl (fun KK hK2 => ?_)
      go_simp
      exact hK2 (A.put (some 24) (.bool F)) _ ⟨hFR.put (by decide) _, o0.past (by decide) (fun h => (put_ne (by decide)).trans h), o1.past (by decide) (fun h => (put_ne (by decide)).trans h), o2.past (by decide) (fun h => (put_ne (by decide)).trans h), o3.past (by decide) (fun h => (put_ne (by decide)).trans h), o4.past (by decide) (fun h => (put_ne (by decide)).trans h), o5.past (by decide) (fun h => (put_ne (by decide)).trans h), o6.past (by decide) (fun h => (put_ne (by decide)).trans h), o7.past (by decide) (fun h => (put_ne (by decide)).trans h), o8.past (by decide) (fun h => (put_ne (by decide)).trans h), .now (put_eq (by have hz := hsz.out; omega)), o10.past (by decide) id, o11.past (by decide) (fun h => (put_ne (by decide)).trans h), o12.past (by decide) (fun h => (put_ne (by decide)).trans h), by rw [getD_set_ne (by decide)]; exact oR, hK⟩
    · have e7 := o7 (ready_dep hm 7 (by kernel_rfl))
      have oR2 : Blk W w.heap.size #[.int .i64 0, .int .i64 0, .int .i64 0, .int .i64 0, .int .i64 0, .int .i64 0, .int .i64 0] 36 := by rw [hi2] at oR; exact oR
      have OR := hide oR2
      obtain ⟨q0, q1, q2, q3, q4, q5, q6⟩ := OR.out.c7
      have fq0 := OR.out.frozen 0; have fq1 := OR.out.frozen 1; have fq2 := OR.out.frozen 2; have fq3 := OR.out.frozen 3; have fq4 := OR.out.frozen 4; have fq5 := OR.out.frozen 5; have fq6 := OR.out.frozen 6
      refine wpOp_step rfl (fun KK hK2 => ?_)
      go_simp
      exact hK2 A _ ⟨hFR, o0.past (by decide) id, o1.past (by decide) id, o2.past (by decide) id, o3.past (by decide) id, o4.past (by decide) id, o5.past (by decide) id, o6.past (by decide) id, o7.past (by decide) id, o8.past (by decide) id, o9.past (by decide) id, .now trivial, o11.past (by decide) id, o12.past (by decide) id, by rw [getD_set_eq]; exact (((((((oR2.set 0 (.int .i64 x.op)).set 1 (.int .i64 x.z)).set 2 (.int .i64 x.r)).set 3 (.int .i64 x.m)).set 4 (.int .i64 x.k)).set 5 (.int .i64 x.e)).set 6 (.int .i64 x.s)), (kept_set (kept_set (kept_set (kept_set (kept_set (kept_set (kept_set hK _ _ _ (.inr (Nat.le_refl _))) _ _ _ (.inr (Nat.le_refl _))) _ _ _ (.inr (Nat.le_refl _))) _ _ _ (.inr (Nat.le_refl _))) _ _ _ (.inr (Nat.le_refl _))) _ _ _ (.inr (Nat.le_refl _))) _ _ _ (.inr (Nat.le_refl _)))⟩
    · have e8 := o8 (ready_dep hm 8 (by kernel_rfl))
      refine wpOp_step rfl (fun KK hK2 => ?_)
      go_simp
      exact hK2 (A.put (some 3) (.int .i64 N)) _ ⟨hFR.put (by decide) _, o0.past (by decide) (fun h => (put_ne (by decide)).trans h), o1.past (by decide) (fun h => (put_ne (by decide)).trans h), o2.past (by decide) (fun h => (put_ne (by decide)).trans h), o3.past (by decide) (fun h => (put_ne (by decide)).trans h), o4.past (by decide) (fun h => (put_ne (by decide)).trans h), o5.past (by decide) (fun h => (put_ne (by decide)).trans h), o6.past (by decide) (fun h => (put_ne (by decide)).trans h), o7.past (by decide) (fun h => (put_ne (by decide)).trans h), o8.past (by decide) (fun h => (put_ne (by decide)).trans h), o9.past (by decide) (fun h => (put_ne (by decide)).trans h), o10.past (by decide) id, .now (put_eq (by have hz := hsz.out; omega)), o12.past (by decide) (fun h => (put_ne (by decide)).trans h), by rw [getD_set_ne (by decide)]; exact oR, hK⟩
    · have e9 := o9 (ready_dep hm 9 (by kernel_rfl))
      refine wpOp_step rfl (fun KK hK2 => ?_)
      go_simp
      exact hK2 (A.put (some 4) (.bool F)) _ ⟨hFR.put (by decide) _, o0.past (by decide) (fun h => (put_ne (by decide)).trans h), o1.past (by decide) (fun h => (put_ne (by decide)).trans h), o2.past (by decide) (fun h => (put_ne (by decide)).trans h), o3.past (by decide) (fun h => (put_ne (by decide)).trans h), o4.past (by decide) (fun h => (put_ne (by decide)).trans h), o5.past (by decide) (fun h => (put_ne (by decide)).trans h), o6.past (by decide) (fun h => (put_ne (by decide)).trans h), o7.past (by decide) (fun h => (put_ne (by decide)).trans h), o8.past (by decide) (fun h => (put_ne (by decide)).trans h), o9.past (by decide) (fun h => (put_ne (by decide)).trans h), o10.past (by decide) id, o11.past (by decide) (fun h => (put_ne (by decide)).trans h), .now (put_eq (by have hz := hsz.out; omega)), by rw [getD_set_ne (by decide)]; exact oR, hK⟩
    · simp at hi1
      omega
def sliceLen : Value → Nat
  | .slice _ n _ => n
  | _ => 0
theorem pdec_ok {w v : Int} (h : Pl.pdecOk w v = true) : Pl.pdec w v = Pl.decode w v ∧ Pl.pdecN w v = Pl.longW w := by simp [Pl.pdec, Pl.pdecN, h]
theorem pdec_no {w v : Int} (h : Pl.pdecOk w v = false) : Pl.pdec w v = Pl.inNo ∧ Pl.pdecN w v = 0 := by simp [Pl.pdec, Pl.pdecN, h]
/-- the rest of a list -/
theorem sliceFrom (g o n c L : Nat) (hL : L ≤ n) (w : World) : (Instr.slice 25 (.slice (some ⟨g, o, none⟩) n c) (some (.int .i64 (L : Int))) none none).run Tryd.prog w = .ok (.slice (if c = L then some ⟨g, o, none⟩ else some ⟨g, o + L, none⟩) (n - L) (c - L)) w := by
  have hb : (0 : Int) ≤ (L : Int) ∧ (L : Int) ≤ (n : Int) := by omega
  go_simp
set_option maxRecDepth 20000 in
set_option maxHeartbeats 8000000 in
theorem implDecodeAllC (w : World) (a : Option Addr) (ca : Nat) (xs : List Int) (ha : Came w a xs) (bx : xs.length ≤ 2000000) (hca : xs.length ≤ ca) : Calls Tryd.prog 8 #[.slice a xs.length ca] w fun e' w' => ∃ (b : Option Addr) (c : Nat), e' = .returned (.tuple #[.slice b (Pl.daV xs).length c, .bool (Pl.daOk xs)]) ∧ SlotIn w' w.heap.size w'.heap.size b (Pl.flat (Pl.daV xs)) ∧ Kept 0 0 w w' := by
  have HA := hide ha
  have HC := hide hca
  clear ha hca
  obtain ⟨i, hi, hz0, hz1, hz2⟩ := info_parts Tryd.infoIns
  cases h80 : decide ((80 : Int) < (xs.length : Int))
  · have b80 : xs.length ≤ 80 := by simp at h80; omega
    go_enter Tryd.func8, Tryd.ntmps8
    go_wp2_with fail
    go_loopw [0, 4, 5, 6, 7] (fun lv v _ _ _ wr => ∃ (k n c : Nat) (b : Option Addr) (O : List Pl.In), n + k = xs.length ∧ lv = .slice b n c ∧ n ≤ c ∧ (0 < n → ∃ g o : Nat, a = some ⟨g, o, none⟩ ∧ b = some ⟨g, o + k, none⟩) ∧ O.length ≤ k ∧ Pl.daFrom xs k O ∧ wr.ownsRow w.heap.size 36 7 v O.length ((Pl.flat O).map (Value.int .i64)) ∧ Kept 0 0 w wr) (fun lv _ _ _ _ _ => sliceLen lv)
    case atStart => exact ⟨0, xs.length, ca, a, [], by omega, rfl, HC.out, fun q => by obtain ⟨g, o, e, _⟩ := HA.out.1 0 q; exact ⟨g, o, e, e⟩, Nat.le_refl _, Pl.daFrom_start xs, World.ownsRow_nil _ _ _ _, Kept.refl _ _ _⟩
    case round =>
      obtain ⟨k, n, c, b, O, hn, rfl, hc, hb, hOl, hfrom, hown, hkept⟩ := hrel
      have HK := hide hkept
      have HO := hide hown
      have HF := hide hfrom
      clear hkept hown hfrom
      by_cases hpos : 0 < n
      · obtain ⟨g, o, rfl, rfl⟩ := hb hpos
        have hk : k < xs.length := by omega
        obtain ⟨g1, o1, ea, hc0⟩ := (HA.out.1.keptS HK.out) k hk
        cases ea
        rw [show xs[k]?.getD 0 = el xs k from rfl] at hc0
        have wf0 := wfAt HA.out.2 hk
        obtain ⟨v, wfv, hv1, hv2, hF⟩ : ∃ v : Int, (Lit.int .i64 v).wf = true ∧ (k + 1 = xs.length → v = -1) ∧ (k + 1 < xs.length → v = el xs (k + 1)) ∧ Calls Tryd.prog 22 #[.slice (some ⟨g, o + k, none⟩) n c] wr fun e' w' => e' = .returned (.tuple #[.agg #[.int .i64 (Pl.pdec (el xs k) v).op, .int .i64 (Pl.pdec (el xs k) v).z, .int .i64 (Pl.pdec (el xs k) v).r, .int .i64 (Pl.pdec (el xs k) v).m, .int .i64 (Pl.pdec (el xs k) v).k, .int .i64 (Pl.pdec (el xs k) v).e, .int .i64 (Pl.pdec (el xs k) v).s], .int .i64 (Pl.pdecN (el xs k) v), .bool (Pl.pdecOk (el xs k) v)]) ∧ Kept 0 0 wr w' := by
          by_cases h1 : n = 1
          · subst h1
            exact ⟨-1, wfSm (by decide) (by decide), fun _ => rfl, fun q => by omega, firstOne wr g (o + k) c (el xs k) (-1) wf0 (wfSm (by decide) (by decide)) hc0 rfl⟩
          · have hk2 : k + 1 < xs.length := by omega
            obtain ⟨g2, o2, ea, hc1⟩ := (HA.out.1.keptS HK.out) (k + 1) hk2
            cases ea
            rw [show xs[k + 1]?.getD 0 = el xs (k + 1) from rfl] at hc1
            have wf1 := wfAt HA.out.2 hk2
            exact ⟨el xs (k + 1), wf1, fun q => by omega, fun _ => rfl, firstTwo wr g (o + k) n c (el xs k) (el xs (k + 1)) wf0 wf1 hc0 (by omega) hc1⟩
        obtain ⟨hno, hyes⟩ := daStep HF.out hk v hv1 hv2
        have HCF := hide hF
        clear hF hb hc0 hv1 hv2
        cases hd : Pl.pdecOk (el xs k) v
        · have E : Hid (Pl.daOk xs = false) := hide (by simp [Pl.daOk, hno hd])
          obtain ⟨ex, en⟩ := pdec_no hd
          have EX := hide ex
          have EN := hide en
          clear ex en hno hyes
          go_wp2_with (go_at_call 22; refine HCF.out.mono ?_; rw [EX.out, EN.out, hd]; rintro e9 w2 ⟨rfl, k2⟩; have K2 := hide (HK.out.trans k2); clear k2)
          go_ret2
          exact ⟨none, 0, by simp [Pl.daV, E.out, Pl.flat], .inl ⟨rfl, by simp [Pl.daV, E.out, Pl.flat]⟩, kept_new K2.out _⟩
        · obtain ⟨L, hL, hL1, hL2, hf2⟩ := hyes hd
          obtain ⟨ex, en⟩ := pdec_ok hd
          obtain ⟨X, hX⟩ : ∃ X, Pl.decode (el xs k) v = X := ⟨_, rfl⟩
          rw [hX] at ex hf2
          rw [hL] at en
          have EX := hide ex
          have EN := hide en
          have HF2 := hide hf2
          clear ex en hno hyes hX hL hf2
          obtain ⟨b2, hb2, hsl⟩ : ∃ b2 : Option Addr, Hid (0 < n - L → b2 = some ⟨g, o + (k + L), none⟩) ∧ ∀ w : World, (Instr.slice 25 (.slice (some ⟨g, o + k, none⟩) n c) (some (.int .i64 (L : Int))) none none).run Tryd.prog w = .ok (.slice b2 (n - L) (c - L)) w :=
            ⟨_, hide (fun q => by rw [if_neg (by omega)]; rw [show o + k + L = o + (k + L) by omega]), fun w => sliceFrom g (o + k) n c L (by omega) w⟩
          go_wp2_with (first | (go_at_call 22; refine HCF.out.mono ?_; rw [EX.out, EN.out, hd]; rintro e9 w2 ⟨rfl, k2⟩; have K2 := hide (HK.out.trans k2); have O2 := hide (((HO.out.kept k2.grown (Classical.em _)).alloc (.cells #[.int .i64 X.op, .int .i64 X.z, .int .i64 X.r, .int .i64 X.m, .int .i64 X.k, .int .i64 X.e, .int .i64 X.s] 36)).alloc (.cells #[.int .i64 X.op, .int .i64 X.z, .int .i64 X.r, .int .i64 X.m, .int .i64 X.k, .int .i64 X.e, .int .i64 X.s] 36)); have BN := Blk.new (w2.alloc (.cells #[.int .i64 X.op, .int .i64 X.z, .int .i64 X.r, .int .i64 X.m, .int .i64 X.k, .int .i64 X.e, .int .i64 X.s] 36)) #[.int .i64 X.op, .int .i64 X.z, .int .i64 X.r, .int .i64 X.m, .int .i64 X.k, .int .i64 X.e, .int .i64 X.s] 36; simp only [World.size_alloc] at BN; replace BN := hide BN; have s2 := K2.out.size; clear k2) | (at_builtin; refine wpList_append_own _ rfl _ _ 23 rfl w.heap.size 36 i (.agg #[.int .i64 0, .int .i64 0, .int .i64 0, .int .i64 0, .int .i64 0, .int .i64 0, .int .i64 0]) 7 56 Tryd.underlying23 hi hz0 hz1 hz2 rfl (by decide) _ _ _ rfl O2.out ⟨w2.heap.size + 1, 0, none⟩ 1 1 [.int .i64 X.op, .int .i64 X.z, .int .i64 X.r, .int .i64 X.m, .int .i64 X.k, .int .i64 X.e, .int .i64 X.s] rfl rfl ?c1 ?c2 ?c3 ?c4 ?c5 ?_))
          case c1 => exact World.news_of_block (cs := #[.int .i64 X.op, .int .i64 X.z, .int .i64 X.r, .int .i64 X.m, .int .i64 X.k, .int .i64 X.e, .int .i64 X.s]) (t := 36) (fr := (0, 0)) BN.out
          case c2 => intro u hu; simp at hu; rcases hu with rfl | rfl | rfl | rfl | rfl | rfl | rfl <;> rfl
          case c3 => unfold maxLen; omega
          case c4 => omega
          case c5 => simp; omega
          intro v' w4 hown' hgr _
          have HO4 := hide hown'
          have K4 := hide (kept_over (kept_new (kept_new K2.out (.cells #[.int .i64 X.op, .int .i64 X.z, .int .i64 X.r, .int .i64 X.m, .int .i64 X.k, .int .i64 X.e, .int .i64 X.s] 36)) (.cells #[.int .i64 X.op, .int .i64 X.z, .int .i64 X.r, .int .i64 X.m, .int .i64 X.k, .int .i64 X.e, .int .i64 X.s] 36)) (kept_row (lo := w.heap.size) (hi := w2.heap.size + 1 + 1) hgr (fun g hg => by have q := O2.out.lt g hg; simpa using q)) (Nat.le_refl _))
          clear hown' hgr
          have hsl4 := hsl w4
          go_wp2_with fail
          go_roundw
          case rel => exact ⟨k + L, n - L, c - L, b2, O ++ [X], by omega, rfl, by omega, fun q => ⟨g, o, rfl, hb2.out q⟩, by simp; omega, HF2.out, by rw [Pl.flat_snoc, List.length_append, List.map_append]; exact HO4.out, K4.out⟩
          case measure => simp [sliceLen]; omega
      · obtain rfl : n = 0 := by omega
        obtain rfl : k = xs.length := by omega
        have hda := Pl.daFrom_end HF.out (Nat.le_refl _)
        have E : Hid (Pl.daOk xs = true) := hide (by simp [Pl.daOk, hda]; omega)
        have EV : Hid (Pl.daV xs = O) := hide (by simp [Pl.daV, E.out, hda])
        obtain ⟨b, cb, rfl, hS⟩ := slotIn_row7 HO.out
        clear hda
        go_wp2_with fail
        go_ret2
        exact ⟨b, cb, by rw [EV.out, E.out]; rfl, by rw [EV.out]; exact hS, HK.out⟩
  · have E : Hid (Pl.daOk xs = false) := hide (by simp at h80; simp [Pl.daOk]; omega)
    go_enter Tryd.func8, Tryd.ntmps8
    go_wp2_with fail
    go_ret2
    exact ⟨none, 0, by simp [Pl.daV, E.out, Pl.flat], .inl ⟨rfl, by simp [Pl.daV, E.out, Pl.flat]⟩, Kept.refl _ _ _⟩
end Go.Proofs.YtndphgidmlmkoaaDoor

namespace Go.Proofs.YtndphgidmlmkoaaDoor
open Go.RowKit
set_option linter.unusedVariables false

theorem sameInts (w : World) (a b : Option Addr) (ca cb : Nat) (xs ys : List Int) (ha : IRow w a xs) (hb : IRow w b ys) (lx : xs.length ≤ 2000000) (ly : ys.length ≤ 2000000) :
    Calls Tryd.prog 7 #[.slice a xs.length ca, .slice b ys.length cb] w fun e w' => e = .returned (.bool (decide (xs = ys))) ∧ w.grownBy w' none := by
  by_cases hl : xs.length = ys.length
  · have kl : (((xs.length : Nat) : Int) != ((ys.length : Nat) : Int)) = false := by simp [hl]
    have HL : Hid (xs.length = ys.length) := hl
    clear hl
    go_enter Tryd.func7, Tryd.ntmps7
    go_wp2
    go_loopw [5, 13] (fun i j wr => ∃ k : Nat, k ≤ xs.length ∧ j = .int .i64 k ∧ (∀ i, i < k → xs[i]?.getD 0 = ys[i]?.getD 0) ∧ w.grownBy wr none) (fun _ j _ => xs.length - (intOf j).toNat)
    case atStart => exact ⟨0, Nat.zero_le _, rfl, fun i hi => absurd hi (Nat.not_lt_zero i), World.grownBy.refl _ _⟩
    case round =>
      obtain ⟨k, hk, rfl, heq, hg⟩ := hrel
      by_cases hlt : k < xs.length
      · obtain ⟨g1, o1, rfl, hc1⟩ := ha.kept hg k hlt
        obtain ⟨g2, o2, rfl, hc2⟩ := hb.kept hg k (by have := HL.out; omega)
        have hlt2 : k < ys.length := by have := HL.out; omega
        have HE : Hid (∀ i, i < k → xs[i]?.getD 0 = ys[i]?.getD 0) := heq
        clear heq ha hb
        by_cases he : xs[k] = ys[k]
        · have ke : (xs[k] != ys[k]) = false := by simpa using he
          have HK : Hid (xs[k] = ys[k]) := he
          clear he
          go_wp2
          go_region
          go_wp2
          go_roundw
          case rel => exact ⟨k + 1, by omega, by go_num, snoc_all HE.out (by simpa [hlt, hlt2] using HK.out), grownBy_drew hg⟩
          case measure => simp [intOf]; omega
        · have ke : (xs[k] != ys[k]) = true := by simpa using he
          have HK : Hid (¬ xs[k] = ys[k]) := he
          clear he
          go_wp2
          go_region
          go_wp2
          go_ret
          exact ⟨rB (by symm; rw [decide_eq_false_iff_not]; intro e; apply HK.out; simp [e]), grownBy_drew hg⟩
      · have HE : Hid (∀ i, i < k → xs[i]?.getD 0 = ys[i]?.getD 0) := heq
        clear heq
        go_wp2
        go_ret
        exact ⟨rB (by symm; rw [decide_eq_true_iff]; exact ext_of HL.out (fun i hi => HE.out i (by omega))), hg⟩
  · have kl : (((xs.length : Nat) : Int) != ((ys.length : Nat) : Int)) = true := by rw [bne_iff_ne]; omega
    have HL : Hid (¬ xs.length = ys.length) := hl
    clear hl
    go_enter Tryd.func7, Tryd.ntmps7
    go_wp2
    go_ret
    exact ⟨rB (by symm; rw [decide_eq_false_iff_not]; intro e; apply HL.out; rw [e]), World.grownBy.refl _ _⟩

end Go.Proofs.YtndphgidmlmkoaaDoor

namespace Go.Proofs.YtndphgidmlmkoaaDoor
open Go.RowKit
set_option linter.unusedVariables false
theorem wfS {n : Int} (h0 : -1 ≤ n) (h1 : n ≤ 65536) : (Lit.int .i64 n).wf = true := by
  have e1 : IntKind.i64.min = -9223372036854775808 := rfl
  have e2 : IntKind.i64.max = 9223372036854775807 := rfl
  simp [Lit.wf]
  omega
theorem implPrivX (w : World) (X : Pl.In) (sx : SmallI X) : Calls Tryd.prog 15 #[.agg #[.int .i64 X.op, .int .i64 X.z, .int .i64 X.r, .int .i64 X.m, .int .i64 X.k, .int .i64 X.e, .int .i64 X.s]] w fun e' w' => e' = .returned (.tuple #[.bool (Pl.inOk X && Pl.priv X), .bool (Pl.inOk X)]) ∧ Kept 0 0 w w' := by
  obtain ⟨a0, a1, b0, b1, c0, c1, d0, d1, e0, e1, f0, f1, g0, g1⟩ := sx
  exact implIsPriv w X.op X.z X.r X.m X.k X.e X.s (wfS (by omega) (by omega)) (wfS (by omega) (by omega)) (wfS (by omega) (by omega)) (wfS (by omega) (by omega)) (wfS (by omega) (by omega)) (wfS (by omega) (by omega)) (wfS (by omega) (by omega))
theorem implTextX (w : World) (X : Pl.In) (sx : SmallI X) (ht : TabP w) : Calls Tryd.prog 13 #[.agg #[.int .i64 X.op, .int .i64 X.z, .int .i64 X.r, .int .i64 X.m, .int .i64 X.k, .int .i64 X.e, .int .i64 X.s]] w fun e' w' => e' = .returned (.tuple #[str (Pl.txt X), .bool (Pl.inOk X)]) ∧ Kept 0 0 w w' := by
  obtain ⟨a0, a1, b0, b1, c0, c1, d0, d1, e0, e1, f0, f1, g0, g1⟩ := sx
  exact implTextOf w X.op X.z X.r X.m X.k X.e X.s (wfS (by omega) (by omega)) (wfS (by omega) (by omega)) (wfS (by omega) (by omega)) (wfS (by omega) (by omega)) (wfS (by omega) (by omega)) (wfS (by omega) (by omega)) (wfS (by omega) (by omega)) ht
theorem belowK {w w1 w2 : World} (h : Below w.heap.size w w1) (k : Kept 0 0 w1 w2) : Below w.heap.size w w2 := below_kept h k (by omega)
theorem belowG {w w1 w2 : World} (h : Below w.heap.size w w1) (k : w1.grownBy w2 none) : Below w.heap.size w w2 :=
  ⟨k.os.trans h.os, k.tape.trans h.tape, k.output.trans h.output, Nat.le_trans h.size k.size, fun j hj => (k.block j (Nat.lt_of_lt_of_le hj h.size) (by simp)).trans (h.block j hj)⟩
end Go.Proofs.YtndphgidmlmkoaaDoor

namespace Go.Proofs.YtndphgidmlmkoaaDoor
open Go.RowKit
set_option linter.unusedVariables false
theorem Went.over {w W W' : World} {b : Nat} {a : Option Addr} {len cap : Nat} {p k p' : Int} {row : Option Nat} (h : Went w W b a len cap p k) (h0 : Cur w b a len cap p') (hg : W.grownBy W' row) (hr : ∀ g, row = some g → w.heap.size ≤ g) : Went w W' b a len cap p k := by
  obtain ⟨h1, q, h2, h3, h4⟩ := h
  have hb := h0.lt
  refine ⟨⟨hg.os.trans h1.os, hg.tape.trans h1.tape, hg.output.trans h1.output, Nat.le_trans h1.size hg.size, fun j hj hn => (hg.block j (Nat.lt_of_lt_of_le hj h1.size) (fun e => by have := hr j e.symm; omega)).trans (h1.block j hj hn)⟩, q, h2, h3, ?_⟩
  refine h4.kept2 hg (fun e => by have := hr b e.symm; omega) ?_
  intro g0 off hl e e2
  obtain ⟨g1, o1, z, ea, _, hc, _⟩ := h0.row 0 hl
  rw [e] at ea
  cases ea
  have := World.block_lt_of_cell? _ _ hc
  have := hr g0 e2.symm
  simp at *
  omega
theorem small_snoc {O : List Pl.In} {X : Pl.In} (h : ∀ x ∈ O, SmallI x) (sx : SmallI X) : ∀ x ∈ O ++ [X], SmallI x := by
  intro x hx
  rw [List.mem_append] at hx
  rcases hx with hx | hx
  · exact h x hx
  · simp at hx; rw [hx]; exact sx
theorem small_head {x0 X : Pl.In} {t : List Pl.In} (h : ∀ x ∈ x0 :: t, SmallI x) (sx : SmallI X) : ∀ x ∈ X :: t, SmallI x := by
  intro x hx
  rw [List.mem_cons] at hx
  rcases hx with rfl | hx
  · exact sx
  · exact h x (by simp [hx])
theorem anyInsW {w W : World} {b : Nat} {a : Option Addr} {len cap : Nat} {p k : Int} (h : Went w W b a len cap p k) (p0 : 0 ≤ p) (p1 : p + k ≤ 500000) :
    Calls Tryd.prog 35 #[.pointer (some ⟨b, 0, none⟩)] W fun e' w' => ∃ X : Pl.In, e' = .returned (.agg #[.int .i64 X.op, .int .i64 X.z, .int .i64 X.r, .int .i64 X.m, .int .i64 X.k, .int .i64 X.e, .int .i64 X.s]) ∧ SmallI X ∧ Went w w' b a len cap p (k + 800) ∧ W.grownBy w' (some b) := by
  obtain ⟨h1, q, h2, h3, h4⟩ := h
  refine (anyIns W b a len cap q h4 (by omega) (by omega)).mono ?_
  rintro e' w' ⟨X, he, hs, hw⟩
  exact ⟨X, he, hs, Went.step h1 h2 h3 hw, hw.1⟩
theorem flat_set {x0 X : Pl.In} {t : List Pl.In} : set7 (Pl.flat (x0 :: t)) 0 X.op X.z X.r X.m X.k X.e X.s = Pl.flat (X :: t) := by simp [set7, Pl.flat]
set_option maxRecDepth 100000 in
set_option maxHeartbeats 8000000 in
theorem insList (w : World) (b : Nat) (a : Option Addr) (len cap : Nat) (p : Int) (h : Cur w b a len cap p) (p0 : 0 ≤ p) (p1 : p ≤ 100000) :
    Calls Tryd.prog 17 #[.pointer (some ⟨b, 0, none⟩)] w fun e' w' => ∃ (d : Option Addr) (c : Nat) (O : List Pl.In), e' = .returned (.slice d O.length c) ∧ O.length ≤ 41 ∧ (∀ x ∈ O, SmallI x) ∧ SlotIn w' w.heap.size w'.heap.size d (Pl.flat O) ∧ Went w w' b a len cap p 40000 := by
  have hlt := h.lt
  have HC := hide h
  obtain ⟨i, hi, hz0, hz1, hz2⟩ := info_parts Tryd.infoIns
  have T0 := hide (Went.refl h)
  clear h
  go_enter Tryd.func17, Tryd.ntmps17
  go_wp2_with fail
  refine (pickW T0.out p0 (by omega) 8 (by omega) (by omega)).mono ?_
  rintro e9 w1 ⟨n1, rfl, n0, n9, t9, g9⟩
  have T1 := hide t9
  clear t9 g9 T0
  go_wp2_with fail
  refine (oneW T1.out p0 (by omega) 20 (by omega) (by omega)).mono ?_
  rintro e9 w2 ⟨on, rfl, t9, g9⟩
  have T2 := hide t9
  clear t9 g9 T1
  go_upto_if 8 with fail
  go_cut [4] (fun n wx => ∃ N : Nat, n = .int .i64 (N : Int) ∧ N ≤ 41 ∧ Went w wx b a len cap p 6)
  case first =>
    as_aux_lemma =>
      cases on
      · go_wp2_with fail
        go_meet
        case rel => exact ⟨n1.toNat, by rw [Int.toNat_of_nonneg n0], by omega, T2.out.more (by omega)⟩
      · go_wp2_with fail
        refine (pickW T2.out p0 (by omega) 2 (by omega) (by omega)).mono ?_
        rintro e9 w3 ⟨q, rfl, q0, q1, t9, g9⟩
        have T3 := hide t9
        clear t9 g9 T2
        go_wp2_with fail
        go_meet
        case rel => exact ⟨(40 + q).toNat, by rw [Int.toNat_of_nonneg (by omega)], by omega, T3.out⟩
  case rest =>
    · skip
      obtain ⟨N, rfl, hN, hT⟩ := hcut
      have T3 := hide hT
      have s3 := hT.1.size
      clear hT T2
      go_wp2_with fail
      go_loopw [3, 4] (fun v j wr => ∃ (k : Nat) (O : List Pl.In), j = .int .i64 (k : Int) ∧ k ≤ N ∧ O.length + k = N ∧ (∀ x ∈ O, SmallI x) ∧ wr.ownsRow w.heap.size 36 7 v O.length ((Pl.flat O).map (Value.int .i64)) ∧ Went w wr b a len cap p (6 + 700 * ((N : Int) - k))) (fun _ j _ => (intOf j).toNat)
      case atStart => exact ⟨N, [], rfl, Nat.le_refl _, by simp, by simp, World.ownsRow_nil _ _ _ _, T3.out.more (by omega)⟩
      case round =>
        obtain ⟨k, O, rfl, hk, hOl, hsm, hown, hwent⟩ := hrel
        have HO := hide hown
        have HT := hide hwent
        have HS := hide hsm
        clear hown hwent hsm
        by_cases hlt : 0 < k
        · go_wp2_with fail
          refine (insW HT.out p0 (by omega)).mono ?_
          rintro e9 w4 ⟨X, rfl, sx, t9, g9⟩
          have T4 := hide (t9.allocW (.cells #[.int .i64 X.op, .int .i64 X.z, .int .i64 X.r, .int .i64 X.m, .int .i64 X.k, .int .i64 X.e, .int .i64 X.s] 36))
          have O4 := hide ((HO.out.kept g9 (.inr (fun e => by have := HO.out.lt b e; omega))).alloc (.cells #[.int .i64 X.op, .int .i64 X.z, .int .i64 X.r, .int .i64 X.m, .int .i64 X.k, .int .i64 X.e, .int .i64 X.s] 36))
          have BN := hide (Blk.new w4 #[.int .i64 X.op, .int .i64 X.z, .int .i64 X.r, .int .i64 X.m, .int .i64 X.k, .int .i64 X.e, .int .i64 X.s] 36)
          clear t9 g9 HO HT
          go_wp2_with (first | (at_builtin; refine wpList_append_own _ rfl _ _ 23 rfl w.heap.size 36 i (.agg #[.int .i64 0, .int .i64 0, .int .i64 0, .int .i64 0, .int .i64 0, .int .i64 0, .int .i64 0]) 7 56 Tryd.underlying23 hi hz0 hz1 hz2 rfl (by decide) _ _ _ rfl O4.out ⟨w4.heap.size, 0, none⟩ 1 1 [.int .i64 X.op, .int .i64 X.z, .int .i64 X.r, .int .i64 X.m, .int .i64 X.k, .int .i64 X.e, .int .i64 X.s] rfl rfl ?c1 ?c2 ?c3 ?c4 ?c5 ?_))
          case c1 => exact World.news_of_block (cs := #[.int .i64 X.op, .int .i64 X.z, .int .i64 X.r, .int .i64 X.m, .int .i64 X.k, .int .i64 X.e, .int .i64 X.s]) (t := 36) (fr := (0, 0)) BN.out
          case c2 => intro u hu; simp at hu; rcases hu with rfl | rfl | rfl | rfl | rfl | rfl | rfl <;> rfl
          case c3 => unfold maxLen; omega
          case c4 => omega
          case c5 => have := T4.out.1.size; omega
          intro v' w5 hown' hgr _
          have HO5 := hide hown'
          have T5 := hide (T4.out.over HC.out hgr (fun g hg => (O4.out.lt g hg).1))
          clear hown' hgr T4 O4 BN
          go_wp2_with fail
          go_roundw
          case rel => exact ⟨k - 1, O ++ [X], by go_num, by omega, by simp; omega, small_snoc HS.out sx, (by rw [Pl.flat_snoc, List.length_append, List.map_append]; exact HO5.out), T5.out.more (by omega)⟩
          case measure => simp [intOf]; omega
        · obtain ⟨d, dc, rfl, hS⟩ := slotIn_row7 HO.out
          obtain rfl : k = 0 := by omega
          have HSl := hide hS
          clear hS HO
          cases O with
          | nil =>
            go_wp2_with fail
            go_ret
            exact ⟨d, dc, [], rfl, by simp, by simp, HSl.out, HT.out.more (by omega)⟩
          | cons x0 t =>
            simp only [List.length_cons] at hOl
            obtain rfl : N = t.length + 1 := by omega
            obtain ⟨_, e2⟩ | ⟨g, rfl, g0, g1, hO⟩ := HSl.out
            · simp [Pl.flat] at e2
            · go_wp2_with fail
              refine (oneW HT.out p0 (by omega) 20 (by omega) (by omega)).mono ?_
              rintro e9 w6 ⟨on2, rfl, t9, g9⟩
              have T6 := hide t9
              have O6 := hide (hO.kept g9 (by simp; omega))
              have s6 := g9.size
              clear t9 g9 hO HSl HT
              cases on2
              · go_wp2_with fail
                go_ret
                exact ⟨_, dc, x0 :: t, rfl, by simp; omega, HS.out, .inr ⟨g, rfl, g0, by omega, O6.out⟩, T6.out.more (by omega)⟩
              · go_wp2_with fail
                refine (anyInsW T6.out p0 (by omega)).mono ?_
                rintro e9 w7 ⟨X, rfl, sx, t9, g9⟩
                have T7 := hide t9
                have O7 := hide (O6.out.kept g9 (by simp; omega))
                have s7 := g9.size
                clear t9 g9 T6 O6
                obtain ⟨⟨p0', p1', p2', p3', p4', p5', p6'⟩, f0, f1, f2, f3, f4, f5, f6⟩ := O7.out.at7 (n := t.length + 1) (k := 0) (by rw [Pl.flat_len]; rfl) (by omega)
                simp only [Nat.zero_mul, Nat.zero_add] at p0' p1' p2' p3' p4' p5' p6' f0 f1 f2 f3 f4 f5 f6
                go_wp2_with fail
                go_ret
                have O8 := O7.out.set7 0 X.op X.z X.r X.m X.k X.e X.s
                rw [flat_set] at O8
                exact ⟨_, dc, X :: t, rfl, by simp; omega, small_head HS.out sx, .inr ⟨g, rfl, g0, by simp; omega, O8⟩, (((((((T7.out.setNew HC.out g _ _ g0).setNew HC.out g _ _ g0).setNew HC.out g _ _ g0).setNew HC.out g _ _ g0).setNew HC.out g _ _ g0).setNew HC.out g _ _ g0).setNew HC.out g _ _ g0).more (by omega)⟩
theorem enc_mem {x : Pl.In} (h : Pl.inOk x = true) : ∀ y ∈ Pl.encode x, 0 ≤ y ∧ y ≤ 65535 := by
  have hw := Pl.word1_in h
  have he := (Pl.modeR h).2.2.2.2.2.2.2.2.2
  intro y hy
  unfold Pl.encode at hy
  split at hy
  · simp at hy
    rcases hy with rfl | rfl
    · exact hw
    · exact ⟨he.1, he.2.1⟩
  · simp at hy
    rw [hy]
    exact hw
theorem encTo_mem {ys : List Int} : ∀ n : Nat, Pl.allIn ys n = true → ∀ y ∈ Pl.encTo ys n, 0 ≤ y ∧ y ≤ 65535
  | 0, _ => by intro y hy; simp [Pl.encTo] at hy
  | n + 1, h => by
    unfold Pl.allIn at h
    rw [Bool.and_eq_true] at h
    intro y hy
    unfold Pl.encTo at hy
    rw [List.mem_append] at hy
    rcases hy with hy | hy
    · exact encTo_mem n h.1 y hy
    · exact enc_mem h.2 y hy
theorem ea_mem (ys : List Int) (n : Nat) : (∀ y ∈ Pl.eaV ys n, -1 ≤ y ∧ y ≤ 65536) ∧ (Pl.eaV ys n).length ≤ 2 * n := by
  unfold Pl.eaV
  split
  · rename_i h
    simp only [Pl.eaOk, Bool.and_eq_true] at h
    refine ⟨fun y hy => ?_, Pl.encTo_len ys n⟩
    have := encTo_mem n h.1 y hy
    omega
  · exact ⟨by simp, by simp⟩
theorem set_mem {L : List Int} {i : Nat} {v : Int} (h : ∀ y ∈ L, -1 ≤ y ∧ y ≤ 65536) (v0 : -1 ≤ v) (v1 : v ≤ 65536) : ∀ y ∈ L.set i v, -1 ≤ y ∧ y ≤ 65536 := by
  intro y hy
  rcases List.mem_or_eq_of_mem_set hy with hy | rfl
  · exact h y hy
  · exact ⟨v0, v1⟩
theorem drawEncodeAll (w : World) (a : Option Addr) (len cap : Nat) (h : Bytes w a len) :
    Calls Tryd.prog 4 #[.slice a len cap] w fun e w' => ∃ (d : Option Addr) (c : Nat) (O : List Pl.In), e = .returned (.slice d O.length c) ∧ O.length ≤ 41 ∧ (∀ x ∈ O, SmallI x) ∧ SlotIn w' w.heap.size w'.heap.size d (Pl.flat O) ∧ Below w.heap.size w w' := by
  go_enter Tryd.func4, Tryd.ntmps4
  go_wp2_with fail
  refine (insList _ _ a len cap 0 (h.cur cap) (by omega) (by omega)).mono ?_
  rintro e w2 ⟨d, c, O, rfl, hO, hs, sl, hw⟩
  go_wp2_with fail
  go_ret
  exact ⟨d, c, O, rfl, hO, hs, sl.wide (by simp) (Nat.le_refl _), below_of hw.1⟩
set_option maxRecDepth 100000 in
set_option maxHeartbeats 8000000 in
theorem drawDecodeAll (w : World) (a : Option Addr) (len cap : Nat) (h : Bytes w a len) :
    Calls Tryd.prog 10 #[.slice a len cap] w fun e w' => ∃ (d : Option Addr) (c : Nat) (L : List Int), e = .returned (.slice d L.length c) ∧ L.length ≤ 100 ∧ (∀ x ∈ L, -1 ≤ x ∧ x ≤ 65536) ∧ SlotIn w' w.heap.size w'.heap.size d L ∧ Below w.heap.size w w' ∧ L.length ≤ c := by
  have HC := hide (h.cur cap)
  go_enter Tryd.func10, Tryd.ntmps10
  go_wp2_with fail
  refine (insList _ _ a len cap 0 HC.out (by omega) (by omega)).mono ?_
  rintro e w2 ⟨d, c, O, rfl, hO, hs, sl, hw⟩
  have T2 := hide hw
  have s2 := hw.1.size
  simp only [World.size_alloc] at s2
  have S2 := hide sl
  clear hw sl hs
  go_wp2_with fail
  refine (specEncodeAllC _ d c O.length (Pl.flat O) S2.out.row (Pl.flat_len O) (by omega)).mono ?_
  rintro e w3 ⟨d1, c1, rfl, sl, k3, hc1⟩
  have HC1 := hide hc1
  have T3 := hide (wentK T2.out k3)
  have S3 := hide (sl.wide s2 (Nat.le_refl _))
  have s3 := k3.size
  clear sl k3 hc1 T2 S2
  obtain ⟨L, hL⟩ : ∃ L, L = Pl.eaV (Pl.flat O) O.length := ⟨_, rfl⟩
  obtain ⟨ok, hok⟩ : ∃ ok, ok = Pl.eaOk (Pl.flat O) O.length := ⟨_, rfl⟩
  obtain ⟨hm, hl⟩ := ea_mem (Pl.flat O) O.length
  rw [← hL] at S3 hm hl HC1 ⊢
  rw [← hok]
  have HM := hide hm
  clear hL hok hm
  have bl : L.length ≤ 82 := by omega
  clear hl
  cases ok
  · go_wp2_with fail
    go_ret
    exact ⟨d1, c1, L, rfl, by omega, HM.out, S3.out.wide (Nat.le_succ _) (Nat.le_refl _), below_of T3.out.1, HC1.out⟩
  · cases L with
    | nil =>
      go_wp2_with fail
      go_ret
      exact ⟨d1, c1, [], rfl, by simp, HM.out, S3.out.wide (Nat.le_succ _) (Nat.le_refl _), below_of T3.out.1, HC1.out⟩
    | cons x0 t =>
      obtain ⟨_, e2⟩ | ⟨g, rfl, g0, g1, hO3⟩ := S3.out
      · simp at e2
      · go_wp2_with fail
        refine (oneW T3.out (by omega) (by omega) 3 (by omega) (by omega)).mono ?_
        rintro e9 w4 ⟨on, rfl, t9, g9⟩
        have T4 := hide t9
        have O4 := hide (hO3.kept g9 (by simp; omega))
        have s4 := g9.size
        clear t9 g9 T3 hO3 S3
        simp only [List.length_cons] at bl
        cases on
        · go_wp2_with fail
          go_ret
          exact ⟨_, c1, x0 :: t, rfl, by simp; omega, HM.out, .inr ⟨g, rfl, by omega, by omega, O4.out⟩, below_of T4.out.1, HC1.out⟩
        · go_wp2_with fail
          refine (pickW T4.out (by omega) (by omega) ((t.length : Int) + 1) (by omega) (by omega)).mono ?_
          rintro e9 w5 ⟨i, rfl, i0, i1, t9, g9⟩
          have T5 := hide t9
          have O5 := hide (O4.out.kept g9 (by simp; omega))
          have s5 := g9.size
          clear t9 g9 T4 O4
          obtain ⟨j, rfl⟩ := Int.eq_ofNat_of_zero_le i0
          go_wp2_with fail
          refine (valueW T5.out (by omega) (by omega)).mono ?_
          rintro e9 w6 ⟨v, rfl, v0, v1, t9, g9⟩
          have T6 := hide t9
          have O6 := hide (O5.out.kept g9 (by simp; omega))
          have s6 := g9.size
          clear t9 g9 T5 O5
          obtain ⟨c9, f9⟩ := O6.out j (by simp; omega)
          have T7 := T6.out.setNew HC.out g j (.int .i64 v) (by simp; omega)
          have H7 := hide T7
          clear T7
          go_wp2_with fail
          go_ret
          exact ⟨_, c1, (x0 :: t).set j v, by simp, by simp; omega, set_mem HM.out v0 v1, .inr ⟨g, rfl, by omega, by simp; omega, O6.out.set v⟩, below_of H7.out.1, by have q := HC1.out; simpa using q⟩
end Go.Proofs.YtndphgidmlmkoaaDoor

namespace Go.Proofs.YtndphgidmlmkoaaDoor
open Go.RowKit
set_option linter.unusedVariables false
set_option maxHeartbeats 2000000 in
theorem sameAll (w : World) (a b : Option Addr) (ca cb n : Nat) (xs : List Int) (ha : IRow w a xs) (hb : IRow w b xs) (lx : xs.length = 7 * n) (bx : n ≤ 2000000) :
    Calls Tryd.prog 9 #[.slice a n ca, .slice b n cb] w fun e w' => e = .returned (.bool true) ∧ w.grownBy w' none := by
  have HX := hide lx
  clear lx
  have kl : ((n : Int) != (n : Int)) = false := by simp
  go_enter Tryd.func9, Tryd.ntmps9
  go_wp2
  go_loopw [5, 13] (fun _ j wr => ∃ k : Nat, k ≤ n ∧ j = .int .i64 k ∧ w.grownBy wr none) (fun _ j _ => n - (intOf j).toNat)
  case atStart => exact ⟨0, Nat.zero_le _, rfl, World.grownBy.refl _ _⟩
  case round =>
    obtain ⟨k, hk, rfl, hg⟩ := hrel
    by_cases hlt : k < n
    · obtain ⟨g1, o1, rfl, p0, p1, p2, p3, p4, p5, p6⟩ := (ha.kept hg).at7 HX.out hlt
      obtain ⟨g2, o2, rfl, q0, q1, q2, q3, q4, q5, q6⟩ := (hb.kept hg).at7 HX.out hlt
      clear ha hb
      go_wp2
      go_region
      go_wp2
      go_roundw
      case rel => exact ⟨k + 1, by omega, by go_num, grownBy_drew hg⟩
      case measure => simp [intOf]; omega
    · go_wp2
      go_ret
      exact ⟨rfl, hg⟩
end Go.Proofs.YtndphgidmlmkoaaDoor

namespace Go.Proofs.YtndphgidmlmkoaaDoor
open Go.RowKit
set_option linter.unusedVariables false
set_option maxRecDepth 20000 in
set_option maxHeartbeats 4000000 in
theorem specNum : ∀ (n : Nat), n ≤ 65535 → ∀ w : World, Calls Tryd.prog 31 #[.int .i64 (n : Int)] w fun e w' => e = .returned (str (Pl.num n)) ∧ Kept 0 0 w w' := by
  intro n
  induction n using Nat.strongRecOn with
  | ind n ih =>
    intro hn w
    replace ih := fun k (hk : k < n) (hk2 : k ≤ 65535) => ih k hk hk2
    by_cases h10 : n < 10
    · have hc := byteStr (w.alloc (.cells #[.int .u8 (48 + (n : Int))] 5)) w.heap.size n h10 (Blk.new w _ _)
      have h8 : IntKind.u8.wrap (48 + (n : Int)) = 48 + (n : Int) := by rw [IntKind.wrap_u8]; omega
      have K0 := hide (kept_alloc w (.cells #[.int .u8 (48 + (n : Int))] 5))
      rw [Pl.num_lt h10]
      have hd : decide ((n : Int) < 10) = true := by simp; omega
      clear ih
      have x1 : IntKind.i64.wrap ((n : Int) / 10) = (n : Int) / 10 := by rw [IntKind.wrap_i64]; omega
      have x2 : IntKind.i64.wrap (48 + (n : Int) % 10) = 48 + (n : Int) % 10 := by rw [IntKind.wrap_i64]; omega
      go_enter Tryd.func31, Tryd.ntmps31
      go_wp2_with fail
      go_ret
      exact ⟨rfl, K0.out⟩
    · have hd : decide ((n : Int) < 10) = false := by simp; omega
      have h8 : IntKind.u8.wrap (48 + (n : Int) % 10) = 48 + (n : Int) % 10 := by rw [IntKind.wrap_u8]; omega
      have hL : (Pl.num (n / 10)).length ≤ 5 := Pl.num_len 4 (by omega)
      have ih2 : ∀ w : World, Calls Tryd.prog 31 #[.int .i64 ((n : Int) / 10)] w fun e w' => e = .returned (str (Pl.num (n / 10))) ∧ Kept 0 0 w w' := fun w => by have q := ih (n / 10) (by omega) (by omega) w; rwa [show ((n / 10 : Nat) : Int) = (n : Int) / 10 from by omega] at q
      clear ih
      have x1 : IntKind.i64.wrap ((n : Int) / 10) = (n : Int) / 10 := by rw [IntKind.wrap_i64]; omega
      have x2 : IntKind.i64.wrap (48 + (n : Int) % 10) = 48 + (n : Int) % 10 := by rw [IntKind.wrap_i64]; omega
      go_enter Tryd.func31, Tryd.ntmps31
      go_wp2_with fail
      refine wp_region_inv2 (fun A0 l A W => ∃ (g : Nat), FR [10, 11, 12, 13, 14, 15, 16, 17, 18, 19, 2] A0 A ∧ Once l 0 (A.tmps[10]? = some (.int .i64 (n : Int))) ∧ Once l 1 (A.tmps[11]? = some (.int .i64 ((n : Int) / 10))) ∧ Once l 2 (A.tmps[12]? = some (str (Pl.num (n / 10)))) ∧ Once l 3 (A.tmps[13]? = some (.int .i64 (n : Int))) ∧ Once l 4 (A.tmps[14]? = some (.int .i64 ((n : Int) % 10))) ∧ Once l 5 (A.tmps[15]? = some (.int .i64 (48 + (n : Int) % 10))) ∧ Once l 6 (A.tmps[16]? = some (.int .u8 (48 + (n : Int) % 10))) ∧ Once l 7 (A.tmps[17]? = some (.slice (some ⟨g, 0, none⟩) 1 1)) ∧ Once l 8 (A.tmps[18]? = some (str [dig (n % 10)])) ∧ Once l 9 (A.tmps[19]? = some (str (Pl.num n))) ∧ Once l 10 (A.tmps[2]? = some (str (Pl.num n))) ∧ (l.getD 7 true = true → Blk W g #[.int .u8 (48 + (n : Int) % 10)] 5) ∧ Kept 0 0 w W) (by kernel_rfl) (by kernel_rfl) ?start ?fin ?step
      case start => exact ⟨0, FR.refl _ _, once_start (by decide), once_start (by decide), once_start (by decide), once_start (by decide), once_start (by decide), once_start (by decide), once_start (by decide), once_start (by decide), once_start (by decide), once_start (by decide), once_start (by decide), (fun e => (by rw [start_at (by decide)] at e; cases e)), kept_drew (Kept.refl _ _ _)⟩
      case fin =>
        intro l A W h hl
        obtain ⟨g, hFR, o0, o1, o2, o3, o4, o5, o6, o7, o8, o9, o10, hB, hK⟩ := h
        have g9 := o10 (hl 10 (by decide))
        have QQ := hide hK
        have hc9 := hFR.chain
        simp only [List.foldl] at hc9
        rw [getD_of g9] at hc9
        clear hl hK hFR g9 hB o0 o1 o2 o3 o4 o5 o6 o7 o8 o9 o10
        generalize A.tmps.getD 10 undef = s10 at hc9
        generalize A.tmps.getD 11 undef = s11 at hc9
        generalize A.tmps.getD 12 undef = s12 at hc9
        generalize A.tmps.getD 13 undef = s13 at hc9
        generalize A.tmps.getD 14 undef = s14 at hc9
        generalize A.tmps.getD 15 undef = s15 at hc9
        generalize A.tmps.getD 16 undef = s16 at hc9
        generalize A.tmps.getD 17 undef = s17 at hc9
        generalize A.tmps.getD 18 undef = s18 at hc9
        generalize A.tmps.getD 19 undef = s19 at hc9
        subst hc9
        go_simp
        go_wp2_with fail
        go_ret
        exact ⟨rfl, QQ.out⟩
      case step =>
        intro l A W i hI hm
        obtain ⟨g, hFR, o0, o1, o2, o3, o4, o5, o6, o7, o8, o9, o10, hB, hK⟩ := hI
        obtain ⟨hi1, hi2⟩ := ready_new hm
        have hsz : Hid (19 < A.tmps.size) := hide (by rw [hFR.size]; simp)
        have m0 : A.tmps[0]? = some (.int .i64 (n : Int)) := (hFR.out 0 (by decide)).trans rfl
        rcases i with _ | _ | _ | _ | _ | _ | _ | _ | _ | _ | _ | i
        · refine wpOp_step rfl (fun KK hK2 => ?_)
          go_simp
          exact hK2 (A.put (some 10) (.int .i64 (n : Int))) _ ⟨g, hFR.put (by decide) _, .now (put_eq (by have hz := hsz.out; omega)), o1.past (by decide) (fun h => (put_ne (by decide)).trans h), o2.past (by decide) (fun h => (put_ne (by decide)).trans h), o3.past (by decide) (fun h => (put_ne (by decide)).trans h), o4.past (by decide) (fun h => (put_ne (by decide)).trans h), o5.past (by decide) (fun h => (put_ne (by decide)).trans h), o6.past (by decide) (fun h => (put_ne (by decide)).trans h), o7.past (by decide) (fun h => (put_ne (by decide)).trans h), o8.past (by decide) (fun h => (put_ne (by decide)).trans h), o9.past (by decide) (fun h => (put_ne (by decide)).trans h), o10.past (by decide) (fun h => (put_ne (by decide)).trans h), (fun e => hB (by rwa [getD_set_ne (by decide)] at e)), hK⟩
        · have e0 := o0 (ready_dep hm 0 (by kernel_rfl))
          refine wpOp_step rfl (fun KK hK2 => ?_)
          go_simp
          exact hK2 (A.put (some 11) (.int .i64 ((n : Int) / 10))) _ ⟨g, hFR.put (by decide) _, o0.past (by decide) (fun h => (put_ne (by decide)).trans h), .now (put_eq (by have hz := hsz.out; omega)), o2.past (by decide) (fun h => (put_ne (by decide)).trans h), o3.past (by decide) (fun h => (put_ne (by decide)).trans h), o4.past (by decide) (fun h => (put_ne (by decide)).trans h), o5.past (by decide) (fun h => (put_ne (by decide)).trans h), o6.past (by decide) (fun h => (put_ne (by decide)).trans h), o7.past (by decide) (fun h => (put_ne (by decide)).trans h), o8.past (by decide) (fun h => (put_ne (by decide)).trans h), o9.past (by decide) (fun h => (put_ne (by decide)).trans h), o10.past (by decide) (fun h => (put_ne (by decide)).trans h), (fun e => hB (by rwa [getD_set_ne (by decide)] at e)), hK⟩
        · have e1 := o1 (ready_dep hm 1 (by kernel_rfl))
          refine wpOp_step rfl (fun KK hK2 => ?_)
          go_simp
          refine (ih2 W).mono ?_
          rintro r y ⟨rfl, kd⟩
          go_simp
          exact hK2 (A.put (some 12) (str (Pl.num (n / 10)))) _ ⟨g, hFR.put (by decide) _, o0.past (by decide) (fun h => (put_ne (by decide)).trans h), o1.past (by decide) (fun h => (put_ne (by decide)).trans h), .now (put_eq (by have hz := hsz.out; omega)), o3.past (by decide) (fun h => (put_ne (by decide)).trans h), o4.past (by decide) (fun h => (put_ne (by decide)).trans h), o5.past (by decide) (fun h => (put_ne (by decide)).trans h), o6.past (by decide) (fun h => (put_ne (by decide)).trans h), o7.past (by decide) (fun h => (put_ne (by decide)).trans h), o8.past (by decide) (fun h => (put_ne (by decide)).trans h), o9.past (by decide) (fun h => (put_ne (by decide)).trans h), o10.past (by decide) (fun h => (put_ne (by decide)).trans h), (fun e => (hB (by rwa [getD_set_ne (by decide)] at e)).kept0 kd), (hK.trans kd)⟩
        · refine wpOp_step rfl (fun KK hK2 => ?_)
          go_simp
          exact hK2 (A.put (some 13) (.int .i64 (n : Int))) _ ⟨g, hFR.put (by decide) _, o0.past (by decide) (fun h => (put_ne (by decide)).trans h), o1.past (by decide) (fun h => (put_ne (by decide)).trans h), o2.past (by decide) (fun h => (put_ne (by decide)).trans h), .now (put_eq (by have hz := hsz.out; omega)), o4.past (by decide) (fun h => (put_ne (by decide)).trans h), o5.past (by decide) (fun h => (put_ne (by decide)).trans h), o6.past (by decide) (fun h => (put_ne (by decide)).trans h), o7.past (by decide) (fun h => (put_ne (by decide)).trans h), o8.past (by decide) (fun h => (put_ne (by decide)).trans h), o9.past (by decide) (fun h => (put_ne (by decide)).trans h), o10.past (by decide) (fun h => (put_ne (by decide)).trans h), (fun e => hB (by rwa [getD_set_ne (by decide)] at e)), hK⟩
        · have e3 := o3 (ready_dep hm 3 (by kernel_rfl))
          refine wpOp_step rfl (fun KK hK2 => ?_)
          go_simp
          exact hK2 (A.put (some 14) (.int .i64 ((n : Int) % 10))) _ ⟨g, hFR.put (by decide) _, o0.past (by decide) (fun h => (put_ne (by decide)).trans h), o1.past (by decide) (fun h => (put_ne (by decide)).trans h), o2.past (by decide) (fun h => (put_ne (by decide)).trans h), o3.past (by decide) (fun h => (put_ne (by decide)).trans h), .now (put_eq (by have hz := hsz.out; omega)), o5.past (by decide) (fun h => (put_ne (by decide)).trans h), o6.past (by decide) (fun h => (put_ne (by decide)).trans h), o7.past (by decide) (fun h => (put_ne (by decide)).trans h), o8.past (by decide) (fun h => (put_ne (by decide)).trans h), o9.past (by decide) (fun h => (put_ne (by decide)).trans h), o10.past (by decide) (fun h => (put_ne (by decide)).trans h), (fun e => hB (by rwa [getD_set_ne (by decide)] at e)), hK⟩
        · have e4 := o4 (ready_dep hm 4 (by kernel_rfl))
          refine wpOp_step rfl (fun KK hK2 => ?_)
          go_simp
          exact hK2 (A.put (some 15) (.int .i64 (48 + (n : Int) % 10))) _ ⟨g, hFR.put (by decide) _, o0.past (by decide) (fun h => (put_ne (by decide)).trans h), o1.past (by decide) (fun h => (put_ne (by decide)).trans h), o2.past (by decide) (fun h => (put_ne (by decide)).trans h), o3.past (by decide) (fun h => (put_ne (by decide)).trans h), o4.past (by decide) (fun h => (put_ne (by decide)).trans h), .now (put_eq (by have hz := hsz.out; omega)), o6.past (by decide) (fun h => (put_ne (by decide)).trans h), o7.past (by decide) (fun h => (put_ne (by decide)).trans h), o8.past (by decide) (fun h => (put_ne (by decide)).trans h), o9.past (by decide) (fun h => (put_ne (by decide)).trans h), o10.past (by decide) (fun h => (put_ne (by decide)).trans h), (fun e => hB (by rwa [getD_set_ne (by decide)] at e)), hK⟩
        · have e5 := o5 (ready_dep hm 5 (by kernel_rfl))
          refine wpOp_step rfl (fun KK hK2 => ?_)
          go_simp
          exact hK2 (A.put (some 16) (.int .u8 (48 + (n : Int) % 10))) _ ⟨g, hFR.put (by decide) _, o0.past (by decide) (fun h => (put_ne (by decide)).trans h), o1.past (by decide) (fun h => (put_ne (by decide)).trans h), o2.past (by decide) (fun h => (put_ne (by decide)).trans h), o3.past (by decide) (fun h => (put_ne (by decide)).trans h), o4.past (by decide) (fun h => (put_ne (by decide)).trans h), o5.past (by decide) (fun h => (put_ne (by decide)).trans h), .now (put_eq (by have hz := hsz.out; omega)), o7.past (by decide) (fun h => (put_ne (by decide)).trans h), o8.past (by decide) (fun h => (put_ne (by decide)).trans h), o9.past (by decide) (fun h => (put_ne (by decide)).trans h), o10.past (by decide) (fun h => (put_ne (by decide)).trans h), (fun e => hB (by rwa [getD_set_ne (by decide)] at e)), hK⟩
        · have e6 := o6 (ready_dep hm 6 (by kernel_rfl))
          clear hB
          refine wpOp_step rfl (fun KK hK2 => ?_)
          go_simp
          exact hK2 (A.put (some 17) (.slice (some ⟨W.heap.size, 0, none⟩) 1 1)) _ ⟨W.heap.size, hFR.put (by decide) _, o0.past (by decide) (fun h => (put_ne (by decide)).trans h), o1.past (by decide) (fun h => (put_ne (by decide)).trans h), o2.past (by decide) (fun h => (put_ne (by decide)).trans h), o3.past (by decide) (fun h => (put_ne (by decide)).trans h), o4.past (by decide) (fun h => (put_ne (by decide)).trans h), o5.past (by decide) (fun h => (put_ne (by decide)).trans h), o6.past (by decide) (fun h => (put_ne (by decide)).trans h), .now (put_eq (by have hz := hsz.out; omega)), o8.past (by decide) (fun h => (put_ne (by decide)).trans h), o9.past (by decide) (fun h => (put_ne (by decide)).trans h), o10.past (by decide) (fun h => (put_ne (by decide)).trans h), (fun _ => Blk.new _ _ _), (kept_new hK _)⟩
        · have e7 := o7 (ready_dep hm 7 (by kernel_rfl))
          have hc := byteStr W g (n % 10) (by omega) (by have q := hB (ready_dep hm 7 (by kernel_rfl)); rwa [show (n : Int) % 10 = ((n % 10 : Nat) : Int) from by omega] at q)
          refine wpOp_step rfl (fun KK hK2 => ?_)
          go_simp
          exact hK2 (A.put (some 18) (str [dig (n % 10)])) _ ⟨g, hFR.put (by decide) _, o0.past (by decide) (fun h => (put_ne (by decide)).trans h), o1.past (by decide) (fun h => (put_ne (by decide)).trans h), o2.past (by decide) (fun h => (put_ne (by decide)).trans h), o3.past (by decide) (fun h => (put_ne (by decide)).trans h), o4.past (by decide) (fun h => (put_ne (by decide)).trans h), o5.past (by decide) (fun h => (put_ne (by decide)).trans h), o6.past (by decide) (fun h => (put_ne (by decide)).trans h), o7.past (by decide) (fun h => (put_ne (by decide)).trans h), .now (put_eq (by have hz := hsz.out; omega)), o9.past (by decide) (fun h => (put_ne (by decide)).trans h), o10.past (by decide) (fun h => (put_ne (by decide)).trans h), (fun e => hB (by rwa [getD_set_ne (by decide)] at e)), hK⟩
        · have e2 := o2 (ready_dep hm 2 (by kernel_rfl))
          have e8 := o8 (ready_dep hm 8 (by kernel_rfl))
          have hc := addStr W (Pl.num (n / 10)) [dig (n % 10)] (by simp; omega)
          rw [← Pl.num_ge h10] at hc
          unfold str at e2 e8 hc
          refine wpOp_step rfl (fun KK hK2 => ?_)
          go_simp
          exact hK2 (A.put (some 19) (str (Pl.num n))) _ ⟨g, hFR.put (by decide) _, o0.past (by decide) (fun h => (put_ne (by decide)).trans h), o1.past (by decide) (fun h => (put_ne (by decide)).trans h), o2.past (by decide) (fun h => (put_ne (by decide)).trans h), o3.past (by decide) (fun h => (put_ne (by decide)).trans h), o4.past (by decide) (fun h => (put_ne (by decide)).trans h), o5.past (by decide) (fun h => (put_ne (by decide)).trans h), o6.past (by decide) (fun h => (put_ne (by decide)).trans h), o7.past (by decide) (fun h => (put_ne (by decide)).trans h), o8.past (by decide) (fun h => (put_ne (by decide)).trans h), .now (put_eq (by have hz := hsz.out; omega)), o10.past (by decide) (fun h => (put_ne (by decide)).trans h), (fun e => hB (by rwa [getD_set_ne (by decide)] at e)), hK⟩
        · have e9 := o9 (ready_dep hm 9 (by kernel_rfl))
          refine wpOp_step rfl (fun KK hK2 => ?_)
          go_simp
          exact hK2 (A.put (some 2) (str (Pl.num n))) _ ⟨g, hFR.put (by decide) _, o0.past (by decide) (fun h => (put_ne (by decide)).trans h), o1.past (by decide) (fun h => (put_ne (by decide)).trans h), o2.past (by decide) (fun h => (put_ne (by decide)).trans h), o3.past (by decide) (fun h => (put_ne (by decide)).trans h), o4.past (by decide) (fun h => (put_ne (by decide)).trans h), o5.past (by decide) (fun h => (put_ne (by decide)).trans h), o6.past (by decide) (fun h => (put_ne (by decide)).trans h), o7.past (by decide) (fun h => (put_ne (by decide)).trans h), o8.past (by decide) (fun h => (put_ne (by decide)).trans h), o9.past (by decide) (fun h => (put_ne (by decide)).trans h), .now (put_eq (by have hz := hsz.out; omega)), (fun e => hB (by rwa [getD_set_ne (by decide)] at e)), hK⟩
        · simp at hi1
          omega
end Go.Proofs.YtndphgidmlmkoaaDoor

