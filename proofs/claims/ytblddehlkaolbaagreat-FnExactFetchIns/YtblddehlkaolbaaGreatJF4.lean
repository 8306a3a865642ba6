/- Which blocks a call may have written: all but those of a kind are as they were. What the model of an access does to a bus of its own: with a code other than BusOk. What the model of an access does to a bus of its own: what is written. What the model of an access does to a bus of its own: what is read. What the model of an access does to a bus of its own: every access. What a step on its way keeps: registers that are words, a bus that is good; plain arithmetic. A step on its way, as it lies in memory: the block of the model's own struct, the registers' lists, the bytes and the log. What the model's step does with the bus and the stack. What the model's step does with the stack. What the program's test of a value of a size answers: one contract a function; none changes the world. The bits of an instruction's words, in numbers. What the small models of chapter 7 answer. -/
import Derived.Test.YtblddehlkaolbaaGreatJF1
import Derived.Test.YtblddehlkaolbaaGreatJF3
import Derived.Test.YtblddehlkaolbaaGreatJF2
import Derived.Deep.AppendLies
import Derived.Deep.DeepCutAuto
import Derived.Deep.RegionWith
import Derived.BigRegion
namespace Go.Proofs.YtblddehlkaolbaaGreat
open Go.RowKit
set_option linter.unusedVariables false
structure FrP (P : Nat → Prop) (w w' : World) : Prop where
  os : w'.os = w.os
  tape : w'.tape = w.tape
  output : w'.output = w.output
  size : w.heap.size ≤ w'.heap.size
  block : ∀ k, k < w.heap.size → ¬ P k → w'.heap[k]? = w.heap[k]?
theorem FrP.refl (P : Nat → Prop) (w : World) : FrP P w w := ⟨rfl, rfl, rfl, Nat.le_refl _, fun _ _ _ => rfl⟩
theorem FrP.trans {P : Nat → Prop} {a b c : World} (h : FrP P a b) (k : FrP P b c) : FrP P a c :=
  ⟨k.os.trans h.os, k.tape.trans h.tape, k.output.trans h.output, Nat.le_trans h.size k.size, fun i hi hn => (k.block i (Nat.lt_of_lt_of_le hi h.size) hn).trans (h.block i hi hn)⟩
theorem FrP.wide {P Q : Nat → Prop} {a b : World} (h : FrP P a b) (hq : ∀ k, k < a.heap.size → P k → Q k) : FrP Q a b :=
  ⟨h.os, h.tape, h.output, h.size, fun k hk hn => h.block k hk (fun hp => hn (hq k hk hp))⟩
theorem frp_kept {P : Nat → Prop} {lo hi : Nat} {w w' : World} (h : Kept lo hi w w') (hp : ∀ k, lo ≤ k → k < hi → P k) : FrP P w w' :=
  ⟨h.os, h.tape, h.output, h.size, fun k hk hn => h.block k hk (fun q => hn (hp k q.1 q.2))⟩
theorem FrP.alloc {P : Nat → Prop} {a w : World} (h : FrP P a w) (o : Obj) : FrP P a (w.alloc o) := h.trans (frp_kept (kept_alloc w o) (by omega))
theorem FrP.grown {P : Nat → Prop} {a w w' : World} {row : Option Nat} (h : FrP P a w) (hg : w.grownBy w' row) (hr : ∀ g, row = some g → P g) : FrP P a w' :=
  h.trans ⟨hg.os, hg.tape, hg.output, hg.size, fun k hk hn => hg.block k hk (fun e => hn (hr k e.symm))⟩
theorem FrP.set {P : Nat → Prop} {a w : World} (h : FrP P a w) (b i : Nat) (v : Value) (hb : P b ∨ a.heap.size ≤ b) : FrP P a (w.setCell ⟨b, i, none⟩ v) :=
  ⟨h.os, h.tape, h.output, Nat.le_trans h.size (by simp), fun k hk hn => (Below.heap_setCell w ⟨b, i, none⟩ v k (fun e => by
    have e2 : k = b := e
    subst e2
    rcases hb with hb | hb
    · exact hn hb
    · omega)).trans (h.block k hk hn)⟩
theorem FrP.blk {P : Nat → Prop} {w w' : World} (h : FrP P w w') {b : Nat} {cs : Array Value} {ty : TypeId} (hB : Blk w b cs ty) (hn : ¬ P b) : Blk w' b cs ty := (h.block b hB.lt hn).trans hB
theorem FrP.own {P : Nat → Prop} {w w' : World} (h : FrP P w w') {b : Nat} {xs : List Int} (hB : Own w b xs) (hn : ¬ P b) : Own w' b xs := by
  intro i hi
  obtain ⟨hc, hf⟩ := hB i hi
  have e := h.block b (World.block_lt_of_cell? _ _ hc) hn
  exact ⟨by rw [World.cell?_of_block (w := w) e]; exact hc, by rw [World.frozen?_of_block (w := w) e]; exact hf⟩
/-- the step's own blocks: from lo to hi, and the log's -/
def own (lo hi g k : Nat) : Prop := (lo ≤ k ∧ k < hi) ∨ k = g
/-- what came of it since: the log's block is as it was or new -/
def Since (w : World) (lo hi g : Nat) (w' : World) (g' : Nat) : Prop := (g' = g ∨ w.heap.size ≤ g') ∧ FrP (own lo hi g) w w'
theorem Since.refl (w : World) (lo hi g : Nat) : Since w lo hi g w g := ⟨.inl rfl, FrP.refl _ _⟩
theorem Since.size {w w' : World} {lo hi g g' : Nat} (h : Since w lo hi g w' g') : w.heap.size ≤ w'.heap.size := h.2.size
theorem Since.trans {w a b : World} {lo hi g ga gb : Nat} (h : Since w lo hi g a ga) (k : Since a lo hi ga b gb) : Since w lo hi g b gb := by
  refine ⟨?_, ?_⟩
  · have := h.2.size
    rcases k.1 with e | e
    · rcases h.1 with e2 | e2
      · exact .inl (e.trans e2)
      · exact .inr (by omega)
    · exact .inr (by omega)
  · refine ⟨k.2.os.trans h.2.os, k.2.tape.trans h.2.tape, k.2.output.trans h.2.output, Nat.le_trans h.2.size k.2.size, fun i hi hn => (k.2.block i (Nat.lt_of_lt_of_le hi h.2.size) (fun q => hn ?_)).trans (h.2.block i hi hn)⟩
    rcases q with q | q
    · exact .inl q
    · rcases h.1 with e | e
      · exact .inr (by omega)
      · omega
theorem Since.alloc {w a : World} {lo hi g g' : Nat} (h : Since w lo hi g a g') (o : Obj) : Since w lo hi g (a.alloc o) g' := ⟨h.1, h.2.alloc o⟩
theorem Since.set {w a : World} {lo hi g g' : Nat} (h : Since w lo hi g a g') (b i : Nat) (v : Value) (hb : (lo ≤ b ∧ b < hi) ∨ w.heap.size ≤ b) : Since w lo hi g (a.setCell ⟨b, i, none⟩ v) g' :=
  ⟨h.1, h.2.set b i v (by rcases hb with q | q; exact .inl (.inl q); exact .inr q)⟩
theorem Since.any {w a b : World} {lo hi g g' : Nat} (h : Since w lo hi g a g') (k : Kept 0 0 a b) : Since w lo hi g b g' := ⟨h.1, h.2.trans (frp_kept k (by omega))⟩
/-- a block of the caller's -/
theorem Since.blk {w w' : World} {lo hi g g' : Nat} (h : Since w lo hi g w' g') {b : Nat} {cs : Array Value} {ty : TypeId} (hB : Blk w b cs ty) (hb : hi ≤ b) (hn : b ≠ g) : Blk w' b cs ty := h.2.blk hB (by unfold own; omega)
theorem Since.ne {w w' : World} {lo hi g g' : Nat} (h : Since w lo hi g w' g') {b : Nat} (hb : b < w.heap.size) (hn : b ≠ g) : b ≠ g' := by rcases h.1 with e | e <;> omega
end Go.Proofs.YtblddehlkaolbaaGreat

namespace Go.Proofs.YtblddehlkaolbaaGreat
open Go.RowKit
set_option linter.unusedVariables false

theorem Pl.logs_at {m : Nat} {k s a C : Int} (hC : C = Pl.code k s a) {b1 b2 b3 : Bool} (h1 : decide ((m : Int) < 400) = b1) (h2 : (k != 3) = b2) (h3 : (C != 0) = b3) : Pl.logs m k s a = (b1 && (b2 || b3)) := by
  have e : decide (m < 400) = decide ((m : Int) < 400) := by rw [Bool.eq_iff_iff]; simp; omega
  unfold Pl.logs
  rw [← hC, h2, h3, e, h1]

set_option maxRecDepth 100000 in
set_option maxHeartbeats 8000000 in
theorem l4Tm_A1 (w : World) (p base g1 g2 : Nat) (d0 d1 d2 d3 d4 d5 d6 d7 d10 d11 d12 d13 d14 d15 : Value) (xs ys : List Int) (c1 m c2 : Nat) (k s a C : Int) (hP : Blk w p #[d0, d1, d2, d3, d4, d5, d6, d7, .slice (some ⟨g1, 0, none⟩) 512 c1, .slice (some ⟨g2, 0, none⟩) m c2, d10, d11, d12, d13, d14, d15] 59) (h1 : Own w g1 xs) (lx : xs.length = 512) (hby : Pl.bytesOk xs = true)
    (hO : w.ownsRow base 95 5 (.slice (some ⟨g2, 0, none⟩) m c2) m (ys.map (Value.int .i64))) (hp : base ≤ p) (hg : base ≤ g1) (n1 : p ≠ g1) (n2 : p ≠ g2) (n3 : g1 ≠ g2) (bm : m ≤ 400) (HC : Hid (C = Pl.code k s a)) (hc : (C == 0) = false) (hs1 : 1 ≤ s) (hs2 : s ≤ 2) (a0 : 0 ≤ a) (a1 : a ≤ 65535) (hk : (k != 2) = true) :
    Calls Tryz.prog 55 #[.pointer (some ⟨p, 8, none⟩), .int .i64 k, .int .i64 s, .int .i64 a, .int .i64 0] w fun e w' => ∃ g3 c3 : Nat, e = .returned (.tuple #[.int .i64 (Pl.lv xs k s a 0), .int .i64 (Pl.code k s a)]) ∧
      Blk w' p #[d0, d1, d2, d3, d4, d5, d6, d7, .slice (some ⟨g1, 0, none⟩) 512 c1, .slice (some ⟨g3, 0, none⟩) (Pl.nm m k s a) c3, d10, d11, d12, d13, d14, d15] 59 ∧ Own w' g1 (Pl.nb xs k s a 0) ∧ w'.ownsRow base 95 5 (.slice (some ⟨g3, 0, none⟩) (Pl.nm m k s a) c3) (Pl.nm m k s a) ((Pl.nl xs ys m k s a 0).map (Value.int .i64)) ∧ (g3 = g2 ∨ w.heap.size ≤ g3) ∧ FrP (fun k => k = p ∨ k = g1 ∨ k = g2) w w' := by
  obtain ⟨i, hi0, hz0, hz1, hz2⟩ := info_parts Tryz.infoAcc
  have hcode : ¬ Pl.code k s a = 0 := by rw [← HC.out]; simpa using hc
  have E1 : Hid (xs = Pl.nb xs k s a 0) := hide (by unfold Pl.nb; rw [if_neg (fun h => hcode h.1)])
  have E2 : Hid (0 = Pl.lv xs k s a 0) := hide (by unfold Pl.lv; rw [if_neg (fun h => hcode h.1)])
  clear hcode
  have PX := hide hP
  have EX := hide h1
  have OX := hide hO
  have KX := hide (FrP.refl (fun k => k = p ∨ k = g1 ∨ k = g2) w)
  have NLEN := lx
  have t0 := hP.cell (i := 8) rfl
  have t1 := hP.cell (i := 9) rfl
  clear hP h1 hO lx hby
  have g4 : (C != 0) = true := by simpa using hc
  cases gm : decide ((m : Int) < 400)
  · cases g3 : (k != 3)
    · have HL : Hid (Pl.logs m k s a = false) := hide (Pl.logs_at HC.out gm g3 g4)
      have hnm : Hid (Pl.nm m k s a = m) := hide (by unfold Pl.nm; rw [HL.out]; rfl)
      have hnl : Hid (Pl.nl xs ys m k s a 0 = ys) := hide (by unfold Pl.nl; rw [HL.out]; rfl)
      go_enter Tryz.func55, Tryz.ntmps55
      go_wp2_with (go_at_call 77; refine (l4Code k s a _ hs1 hs2 a0 a1).mono ?_; rintro e w1 ⟨rfl, hw⟩; have hw2 := hw.symm; clear hw; subst hw2; rw [← HC.out])
      go_ret2
      exact ⟨g2, c2, rII E2.out HC.out, by rw [hnm.out]; exact PX.out, by rw [← E1.out]; exact EX.out, by rw [hnm.out, hnl.out]; exact OX.out, .inl rfl, KX.out⟩
    · have HL : Hid (Pl.logs m k s a = false) := hide (Pl.logs_at HC.out gm g3 g4)
      have hnm : Hid (Pl.nm m k s a = m) := hide (by unfold Pl.nm; rw [HL.out]; rfl)
      have hnl : Hid (Pl.nl xs ys m k s a 0 = ys) := hide (by unfold Pl.nl; rw [HL.out]; rfl)
      go_enter Tryz.func55, Tryz.ntmps55
      go_wp2_with (go_at_call 77; refine (l4Code k s a _ hs1 hs2 a0 a1).mono ?_; rintro e w1 ⟨rfl, hw⟩; have hw2 := hw.symm; clear hw; subst hw2; rw [← HC.out])
      go_ret2
      exact ⟨g2, c2, rII E2.out HC.out, by rw [hnm.out]; exact PX.out, by rw [← E1.out]; exact EX.out, by rw [hnm.out, hnl.out]; exact OX.out, .inl rfl, KX.out⟩
  · cases g3 : (k != 3)
    · have HL : Hid (Pl.logs m k s a = true) := hide (Pl.logs_at HC.out gm g3 g4)
      have H63 : Hid (m + 1 ≤ maxLen) := hide (by unfold maxLen; simp at gm; omega)
      have HBT : Hid ((m + 1) * 40 ≤ 140737488355328) := hide (by simp at gm; omega)
      have hnm : Hid (Pl.nm m k s a = m + 1) := hide (by unfold Pl.nm; rw [HL.out]; rfl)
      have hnl : Hid (Pl.nl xs ys m k s a 0 = ys ++ ([k, s, (a : Int), 0, C] : List Int)) := hide (by unfold Pl.nl; rw [HL.out, ← HC.out, ← E2.out]; rfl)
      go_enter Tryz.func55, Tryz.ntmps55
      go_wp2_with (first | (go_at_call 77; refine (l4Code k s a _ hs1 hs2 a0 a1).mono ?_; rintro e w9 ⟨rfl, hw⟩; have hw2 := hw.symm; clear hw; subst hw2; rw [← HC.out]) | (at_builtin; refine wpList_append_lies _ rfl _ _ _ rfl base 95 i _ 5 40 Tryz.underlying40 hi0 hz0 hz1 hz2 rfl (by omega) (.slice (some ⟨g2, 0, none⟩) m c2) m (ys.map (Value.int .i64)) rfl (OX.out.alloc _) ⟨w.heap.size, 0, none⟩ 1 1 [.int .i64 k, .int .i64 s, .int .i64 a, .int .i64 0, .int .i64 C] rfl rfl (World.news_of_block (cs := #[.int .i64 k, .int .i64 s, .int .i64 a, .int .i64 0, .int .i64 C]) (t := 95) (fr := (0, 0)) (heap_alloc_new w _)) (by simp [Value.oneCell']) (by omega) H63.out HBT.out (by have := PX.out.lt; simp; omega) (w.heap.size + 1) (by simp) ?_))
      intro g3 c3 w1 hown1 hgrow hat hlt
      have lp := PX.out.lt
      have lg := EX.out.lt (by rw [NLEN]; decide)
      obtain ⟨lg2, lg3⟩ := OX.out.lt g2 rfl
      have P1 : Hid (Blk w1 p #[d0, d1, d2, d3, d4, d5, d6, d7, .slice (some ⟨g1, 0, none⟩) 512 c1, .slice (some ⟨g2, 0, none⟩) m c2, d10, d11, d12, d13, d14, d15] 59) := hide ((hgrow.block p (by simp; omega) (by simp [Value.ownBlock]; omega)).trans (PX.out.alloc _))
      have G1 : Hid (Own w1 g1 xs) := hide ((EX.out.keptS (kept_alloc _ _) (by omega)).kept hgrow (by simp [Value.ownBlock]; omega))
      have y0 := P1.out.cell (i := 8) rfl
      have y1 := P1.out.cell (i := 9) rfl
      have f1 := P1.out.frozen 9
      have O1 := hide hown1
      have K1 : Hid (FrP (fun k => k = p ∨ k = g1 ∨ k = g2) w w1) := hide ((KX.out.alloc _).grown hgrow (by intro g hg; have h2 : g2 = g := Option.some.inj hg; exact .inr (.inr h2.symm)))
      have hsz := KX.out.size
      have hat2 : g2 = g3 ∨ g3 = w.heap.size + 1 := by
        rcases hat with h | h
        · exact .inl (Option.some.inj h)
        · exact .inr h
      clear hown1 hgrow hat
      go_wp2_with fail
      go_ret2
      refine ⟨g3, c3, rII E2.out HC.out, by rw [hnm.out]; exact P1.out.set 9 _, by rw [← E1.out]; exact G1.out.setOther _ _ _ (by omega), ?_, by omega, K1.out.set _ _ _ (.inl (.inl rfl))⟩
      rw [hnl.out, hnm.out, List.map_append]
      exact O1.out.kept (grownBy_set _ _ _ _) (.inr (fun e => by have h3 : g3 = p := Option.some.inj e; omega))
    · have HL : Hid (Pl.logs m k s a = true) := hide (Pl.logs_at HC.out gm g3 g4)
      have H63 : Hid (m + 1 ≤ maxLen) := hide (by unfold maxLen; simp at gm; omega)
      have HBT : Hid ((m + 1) * 40 ≤ 140737488355328) := hide (by simp at gm; omega)
      have hnm : Hid (Pl.nm m k s a = m + 1) := hide (by unfold Pl.nm; rw [HL.out]; rfl)
      have hnl : Hid (Pl.nl xs ys m k s a 0 = ys ++ ([k, s, (a : Int), 0, C] : List Int)) := hide (by unfold Pl.nl; rw [HL.out, ← HC.out, ← E2.out]; rfl)
      go_enter Tryz.func55, Tryz.ntmps55
      go_wp2_with (first | (go_at_call 77; refine (l4Code k s a _ hs1 hs2 a0 a1).mono ?_; rintro e w9 ⟨rfl, hw⟩; have hw2 := hw.symm; clear hw; subst hw2; rw [← HC.out]) | (at_builtin; refine wpList_append_lies _ rfl _ _ _ rfl base 95 i _ 5 40 Tryz.underlying40 hi0 hz0 hz1 hz2 rfl (by omega) (.slice (some ⟨g2, 0, none⟩) m c2) m (ys.map (Value.int .i64)) rfl (OX.out.alloc _) ⟨w.heap.size, 0, none⟩ 1 1 [.int .i64 k, .int .i64 s, .int .i64 a, .int .i64 0, .int .i64 C] rfl rfl (World.news_of_block (cs := #[.int .i64 k, .int .i64 s, .int .i64 a, .int .i64 0, .int .i64 C]) (t := 95) (fr := (0, 0)) (heap_alloc_new w _)) (by simp [Value.oneCell']) (by omega) H63.out HBT.out (by have := PX.out.lt; simp; omega) (w.heap.size + 1) (by simp) ?_))
      intro g3 c3 w1 hown1 hgrow hat hlt
      have lp := PX.out.lt
      have lg := EX.out.lt (by rw [NLEN]; decide)
      obtain ⟨lg2, lg3⟩ := OX.out.lt g2 rfl
      have P1 : Hid (Blk w1 p #[d0, d1, d2, d3, d4, d5, d6, d7, .slice (some ⟨g1, 0, none⟩) 512 c1, .slice (some ⟨g2, 0, none⟩) m c2, d10, d11, d12, d13, d14, d15] 59) := hide ((hgrow.block p (by simp; omega) (by simp [Value.ownBlock]; omega)).trans (PX.out.alloc _))
      have G1 : Hid (Own w1 g1 xs) := hide ((EX.out.keptS (kept_alloc _ _) (by omega)).kept hgrow (by simp [Value.ownBlock]; omega))
      have y0 := P1.out.cell (i := 8) rfl
      have y1 := P1.out.cell (i := 9) rfl
      have f1 := P1.out.frozen 9
      have O1 := hide hown1
      have K1 : Hid (FrP (fun k => k = p ∨ k = g1 ∨ k = g2) w w1) := hide ((KX.out.alloc _).grown hgrow (by intro g hg; have h2 : g2 = g := Option.some.inj hg; exact .inr (.inr h2.symm)))
      have hsz := KX.out.size
      have hat2 : g2 = g3 ∨ g3 = w.heap.size + 1 := by
        rcases hat with h | h
        · exact .inl (Option.some.inj h)
        · exact .inr h
      clear hown1 hgrow hat
      go_wp2_with fail
      go_ret2
      refine ⟨g3, c3, rII E2.out HC.out, by rw [hnm.out]; exact P1.out.set 9 _, by rw [← E1.out]; exact G1.out.setOther _ _ _ (by omega), ?_, by omega, K1.out.set _ _ _ (.inl (.inl rfl))⟩
      rw [hnl.out, hnm.out, List.map_append]
      exact O1.out.kept (grownBy_set _ _ _ _) (.inr (fun e => by have h3 : g3 = p := Option.some.inj e; omega))

set_option maxRecDepth 100000 in
set_option maxHeartbeats 8000000 in
theorem l4Tm_A2 (w : World) (p base g1 g2 : Nat) (d0 d1 d2 d3 d4 d5 d6 d7 d10 d11 d12 d13 d14 d15 : Value) (xs ys : List Int) (c1 m c2 : Nat) (s a v C : Int) (hP : Blk w p #[d0, d1, d2, d3, d4, d5, d6, d7, .slice (some ⟨g1, 0, none⟩) 512 c1, .slice (some ⟨g2, 0, none⟩) m c2, d10, d11, d12, d13, d14, d15] 59) (h1 : Own w g1 xs) (lx : xs.length = 512) (hby : Pl.bytesOk xs = true)
    (hO : w.ownsRow base 95 5 (.slice (some ⟨g2, 0, none⟩) m c2) m (ys.map (Value.int .i64))) (hp : base ≤ p) (hg : base ≤ g1) (n1 : p ≠ g1) (n2 : p ≠ g2) (n3 : g1 ≠ g2) (bm : m ≤ 400) (HC : Hid (C = Pl.code 2 s a)) (hc : (C == 0) = false) (hs1 : 1 ≤ s) (hs2 : s ≤ 2) (a0 : 0 ≤ a) (a1 : a ≤ 65535) :
    Calls Tryz.prog 55 #[.pointer (some ⟨p, 8, none⟩), .int .i64 2, .int .i64 s, .int .i64 a, .int .i64 v] w fun e w' => ∃ g3 c3 : Nat, e = .returned (.tuple #[.int .i64 (Pl.lv xs 2 s a v), .int .i64 (Pl.code 2 s a)]) ∧
      Blk w' p #[d0, d1, d2, d3, d4, d5, d6, d7, .slice (some ⟨g1, 0, none⟩) 512 c1, .slice (some ⟨g3, 0, none⟩) (Pl.nm m 2 s a) c3, d10, d11, d12, d13, d14, d15] 59 ∧ Own w' g1 (Pl.nb xs 2 s a v) ∧ w'.ownsRow base 95 5 (.slice (some ⟨g3, 0, none⟩) (Pl.nm m 2 s a) c3) (Pl.nm m 2 s a) ((Pl.nl xs ys m 2 s a v).map (Value.int .i64)) ∧ (g3 = g2 ∨ w.heap.size ≤ g3) ∧ FrP (fun k => k = p ∨ k = g1 ∨ k = g2) w w' := by
  obtain ⟨i, hi0, hz0, hz1, hz2⟩ := info_parts Tryz.infoAcc
  have hcode : ¬ Pl.code 2 s a = 0 := by rw [← HC.out]; simpa using hc
  have E1 : Hid (xs = Pl.nb xs 2 s a v) := hide (by unfold Pl.nb; rw [if_neg (fun h => hcode h.1)])
  have E2 : Hid (v = Pl.lv xs 2 s a v) := hide (by unfold Pl.lv; rw [if_neg (fun h => hcode h.1)])
  clear hcode
  have PX := hide hP
  have EX := hide h1
  have OX := hide hO
  have KX := hide (FrP.refl (fun k => k = p ∨ k = g1 ∨ k = g2) w)
  have NLEN := lx
  have t0 := hP.cell (i := 8) rfl
  have t1 := hP.cell (i := 9) rfl
  clear hP h1 hO lx hby
  have g4 : (C != 0) = true := by simpa using hc
  cases gm : decide ((m : Int) < 400)
  · have HL : Hid (Pl.logs m 2 s a = false) := hide (Pl.logs_at HC.out gm rfl g4)
    have hnm : Hid (Pl.nm m 2 s a = m) := hide (by unfold Pl.nm; rw [HL.out]; rfl)
    have hnl : Hid (Pl.nl xs ys m 2 s a v = ys) := hide (by unfold Pl.nl; rw [HL.out]; rfl)
    go_enter Tryz.func55, Tryz.ntmps55
    go_wp2_with (go_at_call 77; refine (l4Code 2 s a _ hs1 hs2 a0 a1).mono ?_; rintro e w1 ⟨rfl, hw⟩; have hw2 := hw.symm; clear hw; subst hw2; rw [← HC.out])
    go_ret2
    exact ⟨g2, c2, rII E2.out HC.out, by rw [hnm.out]; exact PX.out, by rw [← E1.out]; exact EX.out, by rw [hnm.out, hnl.out]; exact OX.out, .inl rfl, KX.out⟩
  · have HL : Hid (Pl.logs m 2 s a = true) := hide (Pl.logs_at HC.out gm rfl g4)
    have H63 : Hid (m + 1 ≤ maxLen) := hide (by unfold maxLen; simp at gm; omega)
    have HBT : Hid ((m + 1) * 40 ≤ 140737488355328) := hide (by simp at gm; omega)
    have hnm : Hid (Pl.nm m 2 s a = m + 1) := hide (by unfold Pl.nm; rw [HL.out]; rfl)
    have hnl : Hid (Pl.nl xs ys m 2 s a v = ys ++ ([2, s, (a : Int), v, C] : List Int)) := hide (by unfold Pl.nl; rw [HL.out, ← HC.out, ← E2.out]; rfl)
    go_enter Tryz.func55, Tryz.ntmps55
    go_wp2_with (first | (go_at_call 77; refine (l4Code 2 s a _ hs1 hs2 a0 a1).mono ?_; rintro e w9 ⟨rfl, hw⟩; have hw2 := hw.symm; clear hw; subst hw2; rw [← HC.out]) | (at_builtin; refine wpList_append_lies _ rfl _ _ _ rfl base 95 i _ 5 40 Tryz.underlying40 hi0 hz0 hz1 hz2 rfl (by omega) (.slice (some ⟨g2, 0, none⟩) m c2) m (ys.map (Value.int .i64)) rfl (OX.out.alloc _) ⟨w.heap.size, 0, none⟩ 1 1 [.int .i64 2, .int .i64 s, .int .i64 a, .int .i64 v, .int .i64 C] rfl rfl (World.news_of_block (cs := #[.int .i64 2, .int .i64 s, .int .i64 a, .int .i64 v, .int .i64 C]) (t := 95) (fr := (0, 0)) (heap_alloc_new w _)) (by simp [Value.oneCell']) (by omega) H63.out HBT.out (by have := PX.out.lt; simp; omega) (w.heap.size + 1) (by simp) ?_))
    intro g3 c3 w1 hown1 hgrow hat hlt
    have lp := PX.out.lt
    have lg := EX.out.lt (by rw [NLEN]; decide)
    obtain ⟨lg2, lg3⟩ := OX.out.lt g2 rfl
    have P1 : Hid (Blk w1 p #[d0, d1, d2, d3, d4, d5, d6, d7, .slice (some ⟨g1, 0, none⟩) 512 c1, .slice (some ⟨g2, 0, none⟩) m c2, d10, d11, d12, d13, d14, d15] 59) := hide ((hgrow.block p (by simp; omega) (by simp [Value.ownBlock]; omega)).trans (PX.out.alloc _))
    have G1 : Hid (Own w1 g1 xs) := hide ((EX.out.keptS (kept_alloc _ _) (by omega)).kept hgrow (by simp [Value.ownBlock]; omega))
    have y0 := P1.out.cell (i := 8) rfl
    have y1 := P1.out.cell (i := 9) rfl
    have f1 := P1.out.frozen 9
    have O1 := hide hown1
    have K1 : Hid (FrP (fun k => k = p ∨ k = g1 ∨ k = g2) w w1) := hide ((KX.out.alloc _).grown hgrow (by intro g hg; have h2 : g2 = g := Option.some.inj hg; exact .inr (.inr h2.symm)))
    have hsz := KX.out.size
    have hat2 : g2 = g3 ∨ g3 = w.heap.size + 1 := by
      rcases hat with h | h
      · exact .inl (Option.some.inj h)
      · exact .inr h
    clear hown1 hgrow hat
    go_wp2_with fail
    go_ret2
    refine ⟨g3, c3, rII E2.out HC.out, by rw [hnm.out]; exact P1.out.set 9 _, by rw [← E1.out]; exact G1.out.setOther _ _ _ (by omega), ?_, by omega, K1.out.set _ _ _ (.inl (.inl rfl))⟩
    rw [hnl.out, hnm.out, List.map_append]
    exact O1.out.kept (grownBy_set _ _ _ _) (.inr (fun e => by have h3 : g3 = p := Option.some.inj e; omega))

end Go.Proofs.YtblddehlkaolbaaGreat

namespace Go.Proofs.YtblddehlkaolbaaGreat
open Go.RowKit
set_option linter.unusedVariables false

set_option maxRecDepth 100000 in
set_option maxHeartbeats 8000000 in
theorem l4Tm_B1 (w : World) (p base g1 g2 : Nat) (d0 d1 d2 d3 d4 d5 d6 d7 d10 d11 d12 d13 d14 d15 : Value) (xs ys : List Int) (c1 m c2 : Nat) (n : Nat) (v : Int) (hP : Blk w p #[d0, d1, d2, d3, d4, d5, d6, d7, .slice (some ⟨g1, 0, none⟩) 512 c1, .slice (some ⟨g2, 0, none⟩) m c2, d10, d11, d12, d13, d14, d15] 59) (h1 : Own w g1 xs) (lx : xs.length = 512) (hby : Pl.bytesOk xs = true)
    (hO : w.ownsRow base 95 5 (.slice (some ⟨g2, 0, none⟩) m c2) m (ys.map (Value.int .i64))) (hp : base ≤ p) (hg : base ≤ g1) (n1 : p ≠ g1) (n2 : p ≠ g2) (n3 : g1 ≠ g2) (bm : m ≤ 400) (HC : Hid (0 = Pl.code 2 1 n)) (hn : n + 1 ≤ 512) (v0 : 0 ≤ v) (v1 : v ≤ 255) :
    Calls Tryz.prog 55 #[.pointer (some ⟨p, 8, none⟩), .int .i64 2, .int .i64 1, .int .i64 n, .int .i64 v] w fun e w' => ∃ g3 c3 : Nat, e = .returned (.tuple #[.int .i64 (Pl.lv xs 2 1 n v), .int .i64 (Pl.code 2 1 n)]) ∧
      Blk w' p #[d0, d1, d2, d3, d4, d5, d6, d7, .slice (some ⟨g1, 0, none⟩) 512 c1, .slice (some ⟨g3, 0, none⟩) (Pl.nm m 2 1 n) c3, d10, d11, d12, d13, d14, d15] 59 ∧ Own w' g1 (Pl.nb xs 2 1 n v) ∧ w'.ownsRow base 95 5 (.slice (some ⟨g3, 0, none⟩) (Pl.nm m 2 1 n) c3) (Pl.nm m 2 1 n) ((Pl.nl xs ys m 2 1 n v).map (Value.int .i64)) ∧ (g3 = g2 ∨ w.heap.size ≤ g3) ∧ FrP (fun k => k = p ∨ k = g1 ∨ k = g2) w w' := by
  obtain ⟨i, hi0, hz0, hz1, hz2⟩ := info_parts Tryz.infoAcc
  have E1 : Hid (xs.set n v = Pl.nb xs 2 1 n v) := hide (by unfold Pl.nb; rw [if_pos ⟨HC.out.symm, rfl⟩]; rfl)
  have E2 : Hid (v = Pl.lv xs 2 1 n v) := hide (by unfold Pl.lv; rw [if_neg (by simp)])
  have t0 := hP.cell (i := 8) rfl
  have t1 := hP.cell (i := 9) rfl
  have i0 : (0 : Int) ≤ (n : Int) := by omega
  have i1 : (n : Int) < 512 := by omega
  have e255 : bits .and .i64 v 255 = v := by rw [Pl.and255]; omega
  obtain ⟨c0, f0⟩ := h1 n (by omega)
  go_enter Tryz.func55, Tryz.ntmps55
  go_wp2_with (go_at_call 77; refine (l4Code 2 1 n _ (by omega) (by omega) (by omega) (by omega)).mono ?_; rintro e w1 ⟨rfl, hw⟩; have hw2 := hw.symm; clear hw; subst hw2; rw [← HC.out])
  go_loopw [13, 14] (fun x j wr => x = .int .i64 v ∧ ((j = .int .i64 0 ∧ wr = w) ∨ (j = .int .i64 1 ∧ Blk wr p #[d0, d1, d2, d3, d4, d5, d6, d7, .slice (some ⟨g1, 0, none⟩) 512 c1, .slice (some ⟨g2, 0, none⟩) m c2, d10, d11, d12, d13, d14, d15] 59 ∧ Own wr g1 (xs.set n v) ∧ wr.ownsRow base 95 5 (.slice (some ⟨g2, 0, none⟩) m c2) m (ys.map (Value.int .i64)) ∧ Kept g1 (g1 + 1) w wr))) (fun _ j _ => (3 - intOf j).toNat)
  case atStart => exact ⟨rfl, .inl ⟨rfl, rfl⟩⟩
  case round =>
    obtain ⟨rfl, hrel⟩ := hrel
    rcases hrel with ⟨rfl, hw⟩ | ⟨rfl, hp1, ho1, hr1, hk1⟩
    · have hw2 := hw.symm
      clear hw
      subst hw2
      go_wp2
      go_roundw
      case rel => exact ⟨rfl, .inr ⟨by go_num, hP.other _ _ _ n1, h1.set_el _, hO.kept (grownBy_set _ _ _ _) (.inr (fun e => by have h3 : g2 = g1 := Option.some.inj e; omega)), kept_set (Kept.refl _ _ _) _ _ _ (.inl (by omega))⟩⟩
      case measure => simp [intOf]
    · clear t0 t1 c0 f0
      have PX := hide hp1
      have EX := hide ho1
      have OX := hide hr1
      have lg := h1.lt (by rw [lx]; decide)
      have KX : Hid (FrP (fun k => k = p ∨ k = g1 ∨ k = g2) w wr) := hide (frp_kept hk1 (fun i h1 h2 => .inr (.inl (by omega))))
      have NLEN : (xs.set n v).length = 512 := by simp [lx]
      have t0 := hp1.cell (i := 8) rfl
      have t1 := hp1.cell (i := 9) rfl
      clear hp1 ho1 hr1 hk1 hP h1 hO lg
      cases gm : decide ((m : Int) < 400)
      · have HL : Hid (Pl.logs m 2 1 n = false) := hide (Pl.logs_at HC.out gm rfl rfl)
        have hnm : Hid (Pl.nm m 2 1 n = m) := hide (by unfold Pl.nm; rw [HL.out]; rfl)
        have hnl : Hid (Pl.nl xs ys m 2 1 n v = ys) := hide (by unfold Pl.nl; rw [HL.out]; rfl)
        skip
        go_wp2_with fail
        go_ret2
        exact ⟨g2, c2, rII E2.out HC.out, by rw [hnm.out]; exact PX.out, by rw [← E1.out]; exact EX.out, by rw [hnm.out, hnl.out]; exact OX.out, .inl rfl, KX.out⟩
      · have HL : Hid (Pl.logs m 2 1 n = true) := hide (Pl.logs_at HC.out gm rfl rfl)
        have H63 : Hid (m + 1 ≤ maxLen) := hide (by unfold maxLen; simp at gm; omega)
        have HBT : Hid ((m + 1) * 40 ≤ 140737488355328) := hide (by simp at gm; omega)
        have hnm : Hid (Pl.nm m 2 1 n = m + 1) := hide (by unfold Pl.nm; rw [HL.out]; rfl)
        have hnl : Hid (Pl.nl xs ys m 2 1 n v = ys ++ ([2, 1, (n : Int), v, 0] : List Int)) := hide (by unfold Pl.nl; rw [HL.out, ← HC.out, ← E2.out]; rfl)
        skip
        go_wp2_with (first | (at_builtin; refine wpList_append_lies _ rfl _ _ _ rfl base 95 i _ 5 40 Tryz.underlying40 hi0 hz0 hz1 hz2 rfl (by omega) (.slice (some ⟨g2, 0, none⟩) m c2) m (ys.map (Value.int .i64)) rfl (OX.out.alloc _) ⟨wr.heap.size, 0, none⟩ 1 1 [.int .i64 2, .int .i64 1, .int .i64 n, .int .i64 v, .int .i64 0] rfl rfl (World.news_of_block (cs := #[.int .i64 2, .int .i64 1, .int .i64 n, .int .i64 v, .int .i64 0]) (t := 95) (fr := (0, 0)) (heap_alloc_new wr _)) (by simp [Value.oneCell']) (by omega) H63.out HBT.out (by have := PX.out.lt; simp; omega) (wr.heap.size + 1) (by simp) ?_))
        intro g3 c3 w1 hown1 hgrow hat hlt
        have lp := PX.out.lt
        have lg := EX.out.lt (by rw [NLEN]; decide)
        obtain ⟨lg2, lg3⟩ := OX.out.lt g2 rfl
        have P1 : Hid (Blk w1 p #[d0, d1, d2, d3, d4, d5, d6, d7, .slice (some ⟨g1, 0, none⟩) 512 c1, .slice (some ⟨g2, 0, none⟩) m c2, d10, d11, d12, d13, d14, d15] 59) := hide ((hgrow.block p (by simp; omega) (by simp [Value.ownBlock]; omega)).trans (PX.out.alloc _))
        have G1 : Hid (Own w1 g1 (xs.set n v)) := hide ((EX.out.keptS (kept_alloc _ _) (by omega)).kept hgrow (by simp [Value.ownBlock]; omega))
        have y0 := P1.out.cell (i := 8) rfl
        have y1 := P1.out.cell (i := 9) rfl
        have f1 := P1.out.frozen 9
        have O1 := hide hown1
        have K1 : Hid (FrP (fun k => k = p ∨ k = g1 ∨ k = g2) w w1) := hide ((KX.out.alloc _).grown hgrow (by intro g hg; have h2 : g2 = g := Option.some.inj hg; exact .inr (.inr h2.symm)))
        have hsz := KX.out.size
        have hat2 : g2 = g3 ∨ g3 = wr.heap.size + 1 := by
          rcases hat with h | h
          · exact .inl (Option.some.inj h)
          · exact .inr h
        clear hown1 hgrow hat
        go_wp2_with fail
        go_ret2
        refine ⟨g3, c3, rII E2.out HC.out, by rw [hnm.out]; exact P1.out.set 9 _, by rw [← E1.out]; exact G1.out.setOther _ _ _ (by omega), ?_, by omega, K1.out.set _ _ _ (.inl (.inl rfl))⟩
        rw [hnl.out, hnm.out, List.map_append]
        exact O1.out.kept (grownBy_set _ _ _ _) (.inr (fun e => by have h3 : g3 = p := Option.some.inj e; omega))

set_option maxRecDepth 100000 in
set_option maxHeartbeats 8000000 in
theorem l4Tm_B2 (w : World) (p base g1 g2 : Nat) (d0 d1 d2 d3 d4 d5 d6 d7 d10 d11 d12 d13 d14 d15 : Value) (xs ys : List Int) (c1 m c2 : Nat) (n : Nat) (v : Int) (hP : Blk w p #[d0, d1, d2, d3, d4, d5, d6, d7, .slice (some ⟨g1, 0, none⟩) 512 c1, .slice (some ⟨g2, 0, none⟩) m c2, d10, d11, d12, d13, d14, d15] 59) (h1 : Own w g1 xs) (lx : xs.length = 512) (hby : Pl.bytesOk xs = true)
    (hO : w.ownsRow base 95 5 (.slice (some ⟨g2, 0, none⟩) m c2) m (ys.map (Value.int .i64))) (hp : base ≤ p) (hg : base ≤ g1) (n1 : p ≠ g1) (n2 : p ≠ g2) (n3 : g1 ≠ g2) (bm : m ≤ 400) (HC : Hid (0 = Pl.code 2 2 n)) (hn : n + 2 ≤ 512) (v0 : 0 ≤ v) (v1 : v ≤ 65535) :
    Calls Tryz.prog 55 #[.pointer (some ⟨p, 8, none⟩), .int .i64 2, .int .i64 2, .int .i64 n, .int .i64 v] w fun e w' => ∃ g3 c3 : Nat, e = .returned (.tuple #[.int .i64 (Pl.lv xs 2 2 n v), .int .i64 (Pl.code 2 2 n)]) ∧
      Blk w' p #[d0, d1, d2, d3, d4, d5, d6, d7, .slice (some ⟨g1, 0, none⟩) 512 c1, .slice (some ⟨g3, 0, none⟩) (Pl.nm m 2 2 n) c3, d10, d11, d12, d13, d14, d15] 59 ∧ Own w' g1 (Pl.nb xs 2 2 n v) ∧ w'.ownsRow base 95 5 (.slice (some ⟨g3, 0, none⟩) (Pl.nm m 2 2 n) c3) (Pl.nm m 2 2 n) ((Pl.nl xs ys m 2 2 n v).map (Value.int .i64)) ∧ (g3 = g2 ∨ w.heap.size ≤ g3) ∧ FrP (fun k => k = p ∨ k = g1 ∨ k = g2) w w' := by
  obtain ⟨i, hi0, hz0, hz1, hz2⟩ := info_parts Tryz.infoAcc
  have E1 : Hid ((xs.set n (v / 256)).set (n + 1) (v % 256) = Pl.nb xs 2 2 n v) := hide (by unfold Pl.nb; rw [if_pos ⟨HC.out.symm, rfl⟩]; rfl)
  have E2 : Hid (v = Pl.lv xs 2 2 n v) := hide (by unfold Pl.lv; rw [if_neg (by simp)])
  have t0 := hP.cell (i := 8) rfl
  have t1 := hP.cell (i := 9) rfl
  have i0 : (0 : Int) ≤ (n : Int) := by omega
  have i1 : (n : Int) < 512 := by omega
  have e255 := Pl.and255 v
  have e256 : bits .and .i64 (v / 256) 255 = v / 256 := by rw [Pl.and255]; omega
  have i2 : (0 : Int) ≤ (n : Int) + 1 := by omega
  have i3 : (n : Int) + 1 < 512 := by omega
  obtain ⟨c0, f0⟩ := h1 n (by omega)
  go_enter Tryz.func55, Tryz.ntmps55
  go_wp2_with (go_at_call 77; refine (l4Code 2 2 n _ (by omega) (by omega) (by omega) (by omega)).mono ?_; rintro e w1 ⟨rfl, hw⟩; have hw2 := hw.symm; clear hw; subst hw2; rw [← HC.out])
  go_loopw [13, 14] (fun x j wr => x = .int .i64 v ∧ ((j = .int .i64 0 ∧ wr = w) ∨ (j = .int .i64 1 ∧ Blk wr p #[d0, d1, d2, d3, d4, d5, d6, d7, .slice (some ⟨g1, 0, none⟩) 512 c1, .slice (some ⟨g2, 0, none⟩) m c2, d10, d11, d12, d13, d14, d15] 59 ∧ Own wr g1 (xs.set n (v / 256)) ∧ wr.ownsRow base 95 5 (.slice (some ⟨g2, 0, none⟩) m c2) m (ys.map (Value.int .i64)) ∧ Kept g1 (g1 + 1) w wr) ∨ (j = .int .i64 2 ∧ Blk wr p #[d0, d1, d2, d3, d4, d5, d6, d7, .slice (some ⟨g1, 0, none⟩) 512 c1, .slice (some ⟨g2, 0, none⟩) m c2, d10, d11, d12, d13, d14, d15] 59 ∧ Own wr g1 ((xs.set n (v / 256)).set (n + 1) (v % 256)) ∧ wr.ownsRow base 95 5 (.slice (some ⟨g2, 0, none⟩) m c2) m (ys.map (Value.int .i64)) ∧ Kept g1 (g1 + 1) w wr))) (fun _ j _ => (3 - intOf j).toNat)
  case atStart => exact ⟨rfl, .inl ⟨rfl, rfl⟩⟩
  case round =>
    obtain ⟨rfl, hrel⟩ := hrel
    rcases hrel with ⟨rfl, hw⟩ | ⟨rfl, hp1, ho1, hr1, hk1⟩ | ⟨rfl, hp1, ho1, hr1, hk1⟩
    · have hw2 := hw.symm
      clear hw
      subst hw2
      go_wp2
      go_roundw
      case rel => exact ⟨rfl, .inr (.inl ⟨by go_num, hP.other _ _ _ n1, h1.set_el _, hO.kept (grownBy_set _ _ _ _) (.inr (fun e => by have h3 : g2 = g1 := Option.some.inj e; omega)), kept_set (Kept.refl _ _ _) _ _ _ (.inl (by omega))⟩)⟩
      case measure => simp [intOf]
    · obtain ⟨c1', f1'⟩ := ho1 (n + 1) (by rw [List.length_set]; omega)
      have P1 := hide hp1
      have O1 := hide ho1
      have R1 := hide hr1
      have K1 := hide hk1
      have s0 := hp1.cell (i := 8) rfl
      have s1 := hp1.cell (i := 9) rfl
      clear hp1 ho1 hr1 hk1 c0 f0 t0 t1
      go_wp2
      go_roundw
      case rel => exact ⟨rfl, .inr (.inr ⟨by go_num, P1.out.other _ _ _ n1, O1.out.set_el _, R1.out.kept (grownBy_set _ _ _ _) (.inr (fun e => by have h3 : g2 = g1 := Option.some.inj e; omega)), kept_set K1.out _ _ _ (.inl (by omega))⟩)⟩
      case measure => simp [intOf]
    · clear t0 t1 c0 f0
      have PX := hide hp1
      have EX := hide ho1
      have OX := hide hr1
      have lg := h1.lt (by rw [lx]; decide)
      have KX : Hid (FrP (fun k => k = p ∨ k = g1 ∨ k = g2) w wr) := hide (frp_kept hk1 (fun i h1 h2 => .inr (.inl (by omega))))
      have NLEN : ((xs.set n (v / 256)).set (n + 1) (v % 256)).length = 512 := by simp [lx]
      have t0 := hp1.cell (i := 8) rfl
      have t1 := hp1.cell (i := 9) rfl
      clear hp1 ho1 hr1 hk1 hP h1 hO lg
      cases gm : decide ((m : Int) < 400)
      · have HL : Hid (Pl.logs m 2 2 n = false) := hide (Pl.logs_at HC.out gm rfl rfl)
        have hnm : Hid (Pl.nm m 2 2 n = m) := hide (by unfold Pl.nm; rw [HL.out]; rfl)
        have hnl : Hid (Pl.nl xs ys m 2 2 n v = ys) := hide (by unfold Pl.nl; rw [HL.out]; rfl)
        skip
        go_wp2_with fail
        go_ret2
        exact ⟨g2, c2, rII E2.out HC.out, by rw [hnm.out]; exact PX.out, by rw [← E1.out]; exact EX.out, by rw [hnm.out, hnl.out]; exact OX.out, .inl rfl, KX.out⟩
      · have HL : Hid (Pl.logs m 2 2 n = true) := hide (Pl.logs_at HC.out gm rfl rfl)
        have H63 : Hid (m + 1 ≤ maxLen) := hide (by unfold maxLen; simp at gm; omega)
        have HBT : Hid ((m + 1) * 40 ≤ 140737488355328) := hide (by simp at gm; omega)
        have hnm : Hid (Pl.nm m 2 2 n = m + 1) := hide (by unfold Pl.nm; rw [HL.out]; rfl)
        have hnl : Hid (Pl.nl xs ys m 2 2 n v = ys ++ ([2, 2, (n : Int), v, 0] : List Int)) := hide (by unfold Pl.nl; rw [HL.out, ← HC.out, ← E2.out]; rfl)
        skip
        go_wp2_with (first | (at_builtin; refine wpList_append_lies _ rfl _ _ _ rfl base 95 i _ 5 40 Tryz.underlying40 hi0 hz0 hz1 hz2 rfl (by omega) (.slice (some ⟨g2, 0, none⟩) m c2) m (ys.map (Value.int .i64)) rfl (OX.out.alloc _) ⟨wr.heap.size, 0, none⟩ 1 1 [.int .i64 2, .int .i64 2, .int .i64 n, .int .i64 v, .int .i64 0] rfl rfl (World.news_of_block (cs := #[.int .i64 2, .int .i64 2, .int .i64 n, .int .i64 v, .int .i64 0]) (t := 95) (fr := (0, 0)) (heap_alloc_new wr _)) (by simp [Value.oneCell']) (by omega) H63.out HBT.out (by have := PX.out.lt; simp; omega) (wr.heap.size + 1) (by simp) ?_))
        intro g3 c3 w1 hown1 hgrow hat hlt
        have lp := PX.out.lt
        have lg := EX.out.lt (by rw [NLEN]; decide)
        obtain ⟨lg2, lg3⟩ := OX.out.lt g2 rfl
        have P1 : Hid (Blk w1 p #[d0, d1, d2, d3, d4, d5, d6, d7, .slice (some ⟨g1, 0, none⟩) 512 c1, .slice (some ⟨g2, 0, none⟩) m c2, d10, d11, d12, d13, d14, d15] 59) := hide ((hgrow.block p (by simp; omega) (by simp [Value.ownBlock]; omega)).trans (PX.out.alloc _))
        have G1 : Hid (Own w1 g1 ((xs.set n (v / 256)).set (n + 1) (v % 256))) := hide ((EX.out.keptS (kept_alloc _ _) (by omega)).kept hgrow (by simp [Value.ownBlock]; omega))
        have y0 := P1.out.cell (i := 8) rfl
        have y1 := P1.out.cell (i := 9) rfl
        have f1 := P1.out.frozen 9
        have O1 := hide hown1
        have K1 : Hid (FrP (fun k => k = p ∨ k = g1 ∨ k = g2) w w1) := hide ((KX.out.alloc _).grown hgrow (by intro g hg; have h2 : g2 = g := Option.some.inj hg; exact .inr (.inr h2.symm)))
        have hsz := KX.out.size
        have hat2 : g2 = g3 ∨ g3 = wr.heap.size + 1 := by
          rcases hat with h | h
          · exact .inl (Option.some.inj h)
          · exact .inr h
        clear hown1 hgrow hat
        go_wp2_with fail
        go_ret2
        refine ⟨g3, c3, rII E2.out HC.out, by rw [hnm.out]; exact P1.out.set 9 _, by rw [← E1.out]; exact G1.out.setOther _ _ _ (by omega), ?_, by omega, K1.out.set _ _ _ (.inl (.inl rfl))⟩
        rw [hnl.out, hnm.out, List.map_append]
        exact O1.out.kept (grownBy_set _ _ _ _) (.inr (fun e => by have h3 : g3 = p := Option.some.inj e; omega))

end Go.Proofs.YtblddehlkaolbaaGreat

namespace Go.Proofs.YtblddehlkaolbaaGreat
open Go.RowKit
set_option linter.unusedVariables false

set_option maxRecDepth 100000 in
set_option maxHeartbeats 8000000 in
theorem l4Tm_C (w : World) (p base g1 g2 : Nat) (d0 d1 d2 d3 d4 d5 d6 d7 d10 d11 d12 d13 d14 d15 : Value) (xs ys : List Int) (c1 m c2 : Nat) (k : Int) (s n : Nat) (hP : Blk w p #[d0, d1, d2, d3, d4, d5, d6, d7, .slice (some ⟨g1, 0, none⟩) 512 c1, .slice (some ⟨g2, 0, none⟩) m c2, d10, d11, d12, d13, d14, d15] 59) (h1 : Own w g1 xs) (lx : xs.length = 512) (hby : Pl.bytesOk xs = true)
    (hO : w.ownsRow base 95 5 (.slice (some ⟨g2, 0, none⟩) m c2) m (ys.map (Value.int .i64))) (hp : base ≤ p) (hg : base ≤ g1) (n1 : p ≠ g1) (n2 : p ≠ g2) (n3 : g1 ≠ g2) (bm : m ≤ 400) (HC : Hid (0 = Pl.code k s n)) (hk : (k != 2) = true) (hs1 : 1 ≤ s) (hs2 : s ≤ 2) (hn : n + s ≤ 512) :
    Calls Tryz.prog 55 #[.pointer (some ⟨p, 8, none⟩), .int .i64 k, .int .i64 s, .int .i64 n, .int .i64 0] w fun e w' => ∃ g3 c3 : Nat, e = .returned (.tuple #[.int .i64 (Pl.lv xs k s n 0), .int .i64 (Pl.code k s n)]) ∧
      Blk w' p #[d0, d1, d2, d3, d4, d5, d6, d7, .slice (some ⟨g1, 0, none⟩) 512 c1, .slice (some ⟨g3, 0, none⟩) (Pl.nm m k s n) c3, d10, d11, d12, d13, d14, d15] 59 ∧ Own w' g1 (Pl.nb xs k s n 0) ∧ w'.ownsRow base 95 5 (.slice (some ⟨g3, 0, none⟩) (Pl.nm m k s n) c3) (Pl.nm m k s n) ((Pl.nl xs ys m k s n 0).map (Value.int .i64)) ∧ (g3 = g2 ∨ w.heap.size ≤ g3) ∧ FrP (fun k => k = p ∨ k = g1 ∨ k = g2) w w' := by
  obtain ⟨i, hi0, hz0, hz1, hz2⟩ := info_parts Tryz.infoAcc
  have hk2 : ¬ k = 2 := by simpa using hk
  have E1 : Hid (xs = Pl.nb xs k s n 0) := hide (by unfold Pl.nb; rw [if_neg (fun h => hk2 h.2)])
  have E2 : Hid (Pl.rd xs s n = Pl.lv xs k s n 0) := hide (by unfold Pl.lv; rw [if_pos ⟨HC.out.symm, hk2⟩]; rfl)
  have hkeq : (k == 2) = false := by simpa using hk2
  have PX := hide hP
  have EX := hide h1
  have OX := hide hO
  have KX := hide (FrP.refl (fun k => k = p ∨ k = g1 ∨ k = g2) w)
  have NLEN := lx
  have HBY := hide hby
  have t0 := hP.cell (i := 8) rfl
  have t1 := hP.cell (i := 9) rfl
  clear hP h1 hO hby hk2
  go_enter Tryz.func55, Tryz.ntmps55
  go_wp2_with (go_at_call 77; refine (l4Code k s n _ (by omega) (by omega) (by omega) (by omega)).mono ?_; rintro e w1 ⟨rfl, hw⟩; have hw2 := hw.symm; clear hw; subst hw2; rw [← HC.out])
  go_loopw [13, 14] (fun x j wr => ∃ q : Nat, q ≤ s ∧ j = .int .i64 q ∧ x = .int .i64 (Pl.rdK xs n q) ∧ wr = w) (fun _ j _ => s - (intOf j).toNat)
  case atStart => exact ⟨0, Nat.zero_le _, rfl, rfl, rfl⟩
  case round =>
    obtain ⟨q, hq, rfl, rfl, hw⟩ := hrel
    have hw2 := hw.symm
    clear hw
    subst hw2
    by_cases hlt : q < s
    · obtain ⟨hc, _⟩ := EX.out (n + q) (by omega)
      have b0 := Pl.bytesOk_at HBY.out n (by omega)
      have b1 := Pl.bytesOk_at HBY.out (n + q) (by omega)
      rw [show xs[n + q]?.getD 0 = el xs (n + q) from rfl] at hc
      obtain ⟨b00, b01⟩ := b0
      obtain ⟨b10, b11⟩ := b1
      have i0 : (0 : Int) ≤ (n : Int) + (q : Int) := by omega
      have i1 : (n : Int) + (q : Int) < 512 := by omega
      have i2 : ((n : Int) + (q : Int)).toNat = n + q := by omega
      by_cases hk0 : q = 0
      · subst hk0
        have hor := Pl.word_or (h := 0) (by decide) (by decide) b10 b11
        rw [Int.zero_mul, Int.zero_add] at hor
        rw [Nat.add_zero] at hc hor b10 b11
        rw [show Pl.rdK xs n 0 = 0 from rfl]
        go_wp2
        go_roundw
        case rel => exact ⟨1, by omega, rfl, rfl, trivial⟩
        case measure => simp [intOf]; omega
      · obtain rfl : q = 1 := by omega
        have hor := Pl.word_or b00 b01 b10 b11
        rw [show Pl.rdK xs n 1 = el xs n from rfl]
        go_wp2
        go_roundw
        case rel => exact ⟨2, by omega, rfl, rfl, trivial⟩
        case measure => simp [intOf]; omega
    · have E : Hid (Pl.rdK xs n q = Pl.rd xs s n) := hide (by
        have : q = 1 ∨ q = 2 := by omega
        unfold Pl.rdK Pl.rd
        rcases this with rfl | rfl
        · rw [if_neg (by decide), if_pos rfl, if_pos (by omega)]
        · rw [if_neg (by decide), if_neg (by decide), if_neg (by omega)])
      rw [E.out]
      clear E
      cases gm : decide ((m : Int) < 400)
      · cases g3 : (k != 3)
        · have HL : Hid (Pl.logs m k s n = false) := hide (Pl.logs_at HC.out gm g3 rfl)
          have hnm : Hid (Pl.nm m k s n = m) := hide (by unfold Pl.nm; rw [HL.out]; rfl)
          have hnl : Hid (Pl.nl xs ys m k s n 0 = ys) := hide (by unfold Pl.nl; rw [HL.out]; rfl)
          skip
          go_wp2_with fail
          go_ret2
          exact ⟨g2, c2, rII E2.out HC.out, by rw [hnm.out]; exact PX.out, by rw [← E1.out]; exact EX.out, by rw [hnm.out, hnl.out]; exact OX.out, .inl rfl, KX.out⟩
        · have HL : Hid (Pl.logs m k s n = false) := hide (Pl.logs_at HC.out gm g3 rfl)
          have hnm : Hid (Pl.nm m k s n = m) := hide (by unfold Pl.nm; rw [HL.out]; rfl)
          have hnl : Hid (Pl.nl xs ys m k s n 0 = ys) := hide (by unfold Pl.nl; rw [HL.out]; rfl)
          skip
          go_wp2_with fail
          go_ret2
          exact ⟨g2, c2, rII E2.out HC.out, by rw [hnm.out]; exact PX.out, by rw [← E1.out]; exact EX.out, by rw [hnm.out, hnl.out]; exact OX.out, .inl rfl, KX.out⟩
      · cases g3 : (k != 3)
        · have HL : Hid (Pl.logs m k s n = false) := hide (Pl.logs_at HC.out gm g3 rfl)
          have hnm : Hid (Pl.nm m k s n = m) := hide (by unfold Pl.nm; rw [HL.out]; rfl)
          have hnl : Hid (Pl.nl xs ys m k s n 0 = ys) := hide (by unfold Pl.nl; rw [HL.out]; rfl)
          skip
          go_wp2_with fail
          go_ret2
          exact ⟨g2, c2, rII E2.out HC.out, by rw [hnm.out]; exact PX.out, by rw [← E1.out]; exact EX.out, by rw [hnm.out, hnl.out]; exact OX.out, .inl rfl, KX.out⟩
        · have HL : Hid (Pl.logs m k s n = true) := hide (Pl.logs_at HC.out gm g3 rfl)
          have H63 : Hid (m + 1 ≤ maxLen) := hide (by unfold maxLen; simp at gm; omega)
          have HBT : Hid ((m + 1) * 40 ≤ 140737488355328) := hide (by simp at gm; omega)
          have hnm : Hid (Pl.nm m k s n = m + 1) := hide (by unfold Pl.nm; rw [HL.out]; rfl)
          have hnl : Hid (Pl.nl xs ys m k s n 0 = ys ++ ([k, s, (n : Int), (Pl.rd xs s n), 0] : List Int)) := hide (by unfold Pl.nl; rw [HL.out, ← HC.out, ← E2.out]; rfl)
          skip
          go_wp2_with (first | (at_builtin; refine wpList_append_lies _ rfl _ _ _ rfl base 95 i _ 5 40 Tryz.underlying40 hi0 hz0 hz1 hz2 rfl (by omega) (.slice (some ⟨g2, 0, none⟩) m c2) m (ys.map (Value.int .i64)) rfl (OX.out.alloc _) ⟨w.heap.size, 0, none⟩ 1 1 [.int .i64 k, .int .i64 s, .int .i64 n, .int .i64 (Pl.rd xs s n), .int .i64 0] rfl rfl (World.news_of_block (cs := #[.int .i64 k, .int .i64 s, .int .i64 n, .int .i64 (Pl.rd xs s n), .int .i64 0]) (t := 95) (fr := (0, 0)) (heap_alloc_new w _)) (by simp [Value.oneCell']) (by omega) H63.out HBT.out (by have := PX.out.lt; simp; omega) (w.heap.size + 1) (by simp) ?_))
          intro g3 c3 w1 hown1 hgrow hat hlt
          have lp := PX.out.lt
          have lg := EX.out.lt (by rw [NLEN]; decide)
          obtain ⟨lg2, lg3⟩ := OX.out.lt g2 rfl
          have P1 : Hid (Blk w1 p #[d0, d1, d2, d3, d4, d5, d6, d7, .slice (some ⟨g1, 0, none⟩) 512 c1, .slice (some ⟨g2, 0, none⟩) m c2, d10, d11, d12, d13, d14, d15] 59) := hide ((hgrow.block p (by simp; omega) (by simp [Value.ownBlock]; omega)).trans (PX.out.alloc _))
          have G1 : Hid (Own w1 g1 (xs)) := hide ((EX.out.keptS (kept_alloc _ _) (by omega)).kept hgrow (by simp [Value.ownBlock]; omega))
          have y0 := P1.out.cell (i := 8) rfl
          have y1 := P1.out.cell (i := 9) rfl
          have f1 := P1.out.frozen 9
          have O1 := hide hown1
          have K1 : Hid (FrP (fun k => k = p ∨ k = g1 ∨ k = g2) w w1) := hide ((KX.out.alloc _).grown hgrow (by intro g hg; have h2 : g2 = g := Option.some.inj hg; exact .inr (.inr h2.symm)))
          have hsz := KX.out.size
          have hat2 : g2 = g3 ∨ g3 = w.heap.size + 1 := by
            rcases hat with h | h
            · exact .inl (Option.some.inj h)
            · exact .inr h
          clear hown1 hgrow hat
          go_wp2_with fail
          go_ret2
          refine ⟨g3, c3, rII E2.out HC.out, by rw [hnm.out]; exact P1.out.set 9 _, by rw [← E1.out]; exact G1.out.setOther _ _ _ (by omega), ?_, by omega, K1.out.set _ _ _ (.inl (.inl rfl))⟩
          rw [hnl.out, hnm.out, List.map_append]
          exact O1.out.kept (grownBy_set _ _ _ _) (.inr (fun e => by have h3 : g3 = p := Option.some.inj e; omega))

end Go.Proofs.YtblddehlkaolbaaGreat

namespace Go.Proofs.YtblddehlkaolbaaGreat
open Go.RowKit
set_option linter.unusedVariables false

theorem l4Tm (w : World) (p base g1 g2 : Nat) (d0 d1 d2 d3 d4 d5 d6 d7 d10 d11 d12 d13 d14 d15 : Value) (xs ys : List Int) (c1 m c2 : Nat) (k s a v : Int) (hP : Blk w p #[d0, d1, d2, d3, d4, d5, d6, d7, .slice (some ⟨g1, 0, none⟩) 512 c1, .slice (some ⟨g2, 0, none⟩) m c2, d10, d11, d12, d13, d14, d15] 59) (h1 : Own w g1 xs) (lx : xs.length = 512) (hby : Pl.bytesOk xs = true)
    (hO : w.ownsRow base 95 5 (.slice (some ⟨g2, 0, none⟩) m c2) m (ys.map (Value.int .i64))) (hp : base ≤ p) (hg : base ≤ g1) (n1 : p ≠ g1) (n2 : p ≠ g2) (n3 : g1 ≠ g2) (bm : m ≤ 400) (hask : Pl.askOk k s a v = true) :
    Calls Tryz.prog 55 #[.pointer (some ⟨p, 8, none⟩), .int .i64 k, .int .i64 s, .int .i64 a, .int .i64 v] w fun e w' => ∃ g3 c3 : Nat, e = .returned (.tuple #[.int .i64 (Pl.lv xs k s a v), .int .i64 (Pl.code k s a)]) ∧
      Blk w' p #[d0, d1, d2, d3, d4, d5, d6, d7, .slice (some ⟨g1, 0, none⟩) 512 c1, .slice (some ⟨g3, 0, none⟩) (Pl.nm m k s a) c3, d10, d11, d12, d13, d14, d15] 59 ∧ Own w' g1 (Pl.nb xs k s a v) ∧ w'.ownsRow base 95 5 (.slice (some ⟨g3, 0, none⟩) (Pl.nm m k s a) c3) (Pl.nm m k s a) ((Pl.nl xs ys m k s a v).map (Value.int .i64)) ∧ (g3 = g2 ∨ w.heap.size ≤ g3) ∧ FrP (fun k => k = p ∨ k = g1 ∨ k = g2) w w' := by
  obtain ⟨hk13, hs, v0, ⟨a0, a1⟩, hkv⟩ := Pl.ask_ok hask
  by_cases hc : Pl.code k s a = 0
  · have hlow := Pl.code_low hc a0
    obtain ⟨n, rfl⟩ : ∃ n : Nat, a = (n : Int) := ⟨a.toNat, by omega⟩
    by_cases h2 : k = 2
    · subst h2
      rcases hs with ⟨rfl, hv⟩ | ⟨rfl, hv⟩
      · exact l4Tm_B1 w p base g1 g2 d0 d1 d2 d3 d4 d5 d6 d7 d10 d11 d12 d13 d14 d15 xs ys c1 m c2 n v hP h1 lx hby hO hp hg n1 n2 n3 bm (hide hc.symm) (by omega) v0 hv
      · exact l4Tm_B2 w p base g1 g2 d0 d1 d2 d3 d4 d5 d6 d7 d10 d11 d12 d13 d14 d15 xs ys c1 m c2 n v hP h1 lx hby hO hp hg n1 n2 n3 bm (hide hc.symm) (by omega) v0 hv
    · obtain rfl : v = 0 := by omega
      obtain ⟨t, rfl⟩ : ∃ t : Nat, s = (t : Int) := ⟨s.toNat, by omega⟩
      exact l4Tm_C w p base g1 g2 d0 d1 d2 d3 d4 d5 d6 d7 d10 d11 d12 d13 d14 d15 xs ys c1 m c2 k t n hP h1 lx hby hO hp hg n1 n2 n3 bm (hide hc.symm) (by simpa using h2) (by omega) (by omega) (by omega)
  · by_cases h2 : k = 2
    · subst h2
      exact l4Tm_A2 w p base g1 g2 d0 d1 d2 d3 d4 d5 d6 d7 d10 d11 d12 d13 d14 d15 xs ys c1 m c2 s a v _ hP h1 lx hby hO hp hg n1 n2 n3 bm (hide rfl) (by simpa using hc) (by omega) (by omega) a0 a1
    · obtain rfl : v = 0 := by omega
      exact l4Tm_A1 w p base g1 g2 d0 d1 d2 d3 d4 d5 d6 d7 d10 d11 d12 d13 d14 d15 xs ys c1 m c2 k s a _ hP h1 lx hby hO hp hg n1 n2 n3 bm (hide rfl) (by simpa using hc) (by omega) (by omega) a0 a1 (by simpa using h2)
end Go.Proofs.YtblddehlkaolbaaGreat

namespace Go.Proofs.YtblddehlkaolbaaGreat.Pl
set_option linter.unusedVariables false

structure GM (c : Mc) : Prop where
  g : Good c.r
  p0 : 0 ≤ c.r.p
  p1 : c.r.p ≤ 65535
  bx : c.bx.length = 512
  ok : bytesOk c.bx = true
  bl : c.bl.length = 5 * c.bm
  bm : c.bm ≤ 400
  ac : accsOk c.bl c.bm = true
theorem el_set {xs : List Int} {k i : Nat} {v : Int} (h : k < xs.length) : el (xs.set k v) i = if k = i then v else el xs i := by
  unfold el
  by_cases e : k = i
  · subst e; rw [if_pos rfl]; simp [h]
  · rw [if_neg e, List.getElem?_set_ne e]
theorem bytesOk_set {xs : List Int} {i : Nat} {v : Int} (h : bytesOk xs = true) (v0 : 0 ≤ v) (v1 : v ≤ 255) : bytesOk (xs.set i v) = true := by
  apply bytesOk_of
  intro j hj
  rw [List.length_set] at hj
  by_cases hi : i < xs.length
  · rw [el_set hi]
    split
    · simp [byteOk]; omega
    · have := bytesOk_at h j hj; simp [byteOk]; omega
  · rw [List.set_eq_of_length_le (by omega)]
    have := bytesOk_at h j hj; simp [byteOk]; omega
theorem wr_ok {xs : List Int} {s : Int} {i : Nat} {v : Int} (h : bytesOk xs = true) (hv : okv s v = true) : bytesOk (wr xs s i v) = true := by
  have := top_ok hv
  unfold wr
  split
  · exact bytesOk_set h (by omega) (by omega)
  · exact bytesOk_set (bytesOk_set h (by omega) (by omega)) (by omega) (by omega)
theorem code_in (k s a : Int) : 0 ≤ code k s a ∧ code k s a ≤ 3 := by
  unfold code
  repeat' split
  all_goals omega
theorem rd_in {xs : List Int} {s : Int} {i : Nat} (h : bytesOk xs = true) (hs : s = 1 ∨ s = 2) (hi : i + s.toNat ≤ xs.length) : okv s (rd xs s i) = true := by
  rcases hs with rfl | rfl
  · have := bytesOk_at h i (by omega)
    simp [okv, rd, top]; omega
  · have := bytesOk_at h i (by omega)
    have := bytesOk_at h (i + 1) (by omega)
    simp [okv, rd, top]; omega
theorem lv_in {xs : List Int} {k s a v : Int} (h : bytesOk xs = true) (hl : xs.length = 512) (ha : askOk k s a v = true) : okv s (lv xs k s a v) = true := by
  obtain ⟨hk, hs, v0, ⟨a0, a1⟩, _⟩ := ask_ok ha
  unfold lv
  split
  · rename_i q
    obtain ⟨q1, q2⟩ := code_low q.1 a0
    refine rd_in h (by omega) ?_
    rw [hl]; rcases hs with ⟨rfl, _⟩ | ⟨rfl, _⟩ <;> omega
  · simp only [askOk, Bool.and_eq_true] at ha
    exact ha.2.1
theorem el_app {xs ys : List Int} {i : Nat} (h : i < xs.length) : el (xs ++ ys) i = el xs i := by unfold el; rw [List.getElem?_append_left h]
theorem el_app2 {xs ys : List Int} {i : Nat} (h : xs.length ≤ i) : el (xs ++ ys) i = el ys (i - xs.length) := by unfold el; rw [List.getElem?_append_right h]
theorem accs_more {ys : List Int} {m : Nat} {k s a v c : Int} (hl : ys.length = 5 * m) (h : accsOk ys m = true) (ho : accOk k s a v c = true) : accsOk (ys ++ [k, s, a, v, c]) (m + 1) = true := by
  unfold accsOk at *
  rw [List.all_eq_true] at *
  intro i hi
  rw [List.mem_range] at hi
  by_cases e : i < m
  · have := h i (List.mem_range.2 e)
    unfold accAt at *
    rw [el_app (by omega), el_app (by omega), el_app (by omega), el_app (by omega), el_app (by omega)]
    exact this
  · have e2 : i = m := by omega
    subst e2
    unfold accAt
    rw [el_app2 (by omega), el_app2 (by omega), el_app2 (by omega), el_app2 (by omega), el_app2 (by omega), show i * 5 - ys.length = 0 by omega, show i * 5 + 1 - ys.length = 1 by omega, show i * 5 + 2 - ys.length = 2 by omega, show i * 5 + 3 - ys.length = 3 by omega, show i * 5 + 4 - ys.length = 4 by omega]
    exact ho
theorem GM.accV {c : Mc} (h : GM c) {k s a v : Int} (ha : askOk k s a v = true) : okv s (c.accV k s a v) = true := lv_in h.ok h.bx ha
theorem GM.acc {c : Mc} (h : GM c) {k s a v : Int} (ha : askOk k s a v = true) : GM (c.acc k s a v) := by
  have hv := lv_in h.ok h.bx ha
  have ha2 := ha
  simp only [askOk, Bool.and_eq_true] at ha2
  refine ⟨h.g, h.p0, h.p1, by rw [← h.bx]; exact nb_len _ _ _ _ _, ?_, nl_len _ _ _ _ h.bl, nm_le _ _ _ h.bm, ?_⟩
  · show bytesOk (nb c.bx k s a v) = true
    unfold nb
    split
    · exact wr_ok h.ok ha2.2.1
    · exact h.ok
  · show accsOk (nl c.bx c.bl c.bm k s a v) (nm c.bm k s a) = true
    unfold nl nm
    split
    · rename_i hl
      refine accs_more h.bl h.ac ?_
      have hc := code_in k s a
      simp only [logs, Bool.and_eq_true] at hl
      simp only [accOk, Bool.and_eq_true, decide_eq_true_eq]
      exact ⟨ha2.1, hv, ha2.2.2.1, hc, hl.2⟩
    · exact h.ac
theorem GM.ft {c : Mc} (h : GM c) (f : Ft) : GM { c with f := f } := ⟨h.g, h.p0, h.p1, h.bx, h.ok, h.bl, h.bm, h.ac⟩
theorem GM.of {c : Cp} (h : cpOk c = true) (hl : c.bl.length = 5 * c.bm) (b : Bool) : GM ⟨c.r, c.bx, c.bl, c.bm, b, ftNo⟩ := by
  simp only [cpOk, Bool.and_eq_true] at h
  obtain ⟨h1, h2, _⟩ := h
  obtain ⟨q1, q2, q3, q4⟩ := goodBus_ok h2
  have hp : 0 ≤ c.r.p ∧ c.r.p ≤ 65535 := by
    simp only [rgOk, Bool.and_eq_true, wordOk, within, decide_eq_true_eq] at h1
    exact h1.2.2.2.1
  exact ⟨good_of h1, hp.1, hp.2, q1, q2, hl, q3, q4⟩
end Go.Proofs.YtblddehlkaolbaaGreat.Pl

namespace Go.Proofs.YtblddehlkaolbaaGreat
open Go.RowKit
set_option linter.unusedVariables false

theorem ownsRow_keptS {w w' : World} {base g n cap size lo hi : Nat} {e : TypeId} {xs : List Value} (h : w.ownsRow base e size (.slice (some ⟨g, 0, none⟩) n cap) n xs) (k : Kept lo hi w w') (hn : ¬ (lo ≤ g ∧ g < hi)) : w'.ownsRow base e size (.slice (some ⟨g, 0, none⟩) n cap) n xs := by
  have hlt := h.lt g rfl
  rcases h with ⟨hl, ⟨e1, e0⟩ | ⟨g', cap', cur, e1, hb, hgg, rest⟩⟩
  · cases e1
  · cases e1
    exact ⟨hl, .inr ⟨g, cap, cur, rfl, hb, (k.block g hlt.2 hn).trans hgg, rest⟩⟩
def mcells (c : Pl.Mc) (gd cd ga ca g1 c1 g2 c2 : Nat) : Array Value := #[.slice (some ⟨gd, 0, none⟩) 4 cd, .slice (some ⟨ga, 0, none⟩) 4 ca, .int .i64 c.r.o, .int .i64 c.r.p, .int .i64 c.r.f, .int .i64 c.r.m, .bool c.r.s, .bool c.r.t, .slice (some ⟨g1, 0, none⟩) 512 c1, .slice (some ⟨g2, 0, none⟩) c.bm c2, .bool c.st, .int .i64 c.f.v, .int .i64 c.f.pc, .int .i64 c.f.ad, .int .i64 c.f.wo, .bool c.f.wr]
/-- all but the block itself -/
structure MO (w : World) (lo mid hi p gd ga g1 g2 c2 : Nat) (xs ys bx bl : List Int) (bm : Nat) : Prop where
  d : Own w gd xs
  a : Own w ga ys
  b : Own w g1 bx
  l : w.ownsRow mid 95 5 (.slice (some ⟨g2, 0, none⟩) bm c2) bm (bl.map (Value.int .i64))
  d0 : lo ≤ gd
  d1 : gd < mid
  a0 : lo ≤ ga
  a1 : ga < mid
  da : gd ≠ ga
  p0 : mid ≤ p
  b0 : mid ≤ g1
  pb : p ≠ g1
  pl : p ≠ g2
  p1 : p < hi
  b1 : g1 < hi
  bl' : g1 ≠ g2
  hh : hi ≤ w.heap.size
def MB (w : World) (p gd cd ga ca g1 c1 g2 c2 : Nat) (c : Pl.Mc) : Prop := Blk w p (mcells c gd cd ga ca g1 c1 g2 c2) 59
def MAt (w : World) (lo mid hi p g2 : Nat) (c : Pl.Mc) : Prop := ∃ gd cd ga ca g1 c1 c2 : Nat, MB w p gd cd ga ca g1 c1 g2 c2 c ∧ MO w lo mid hi p gd ga g1 g2 c2 c.r.xs c.r.ys c.bx c.bl c.bm
theorem MO.kept {w w' : World} {lo mid hi p gd ga g1 g2 c2 x y : Nat} {xs ys bx bl : List Int} {bm : Nat} (h : MO w lo mid hi p gd ga g1 g2 c2 xs ys bx bl bm) (k : Kept x y w w') (hd : ¬ (x ≤ gd ∧ gd < y)) (ha : ¬ (x ≤ ga ∧ ga < y)) (h1 : ¬ (x ≤ g1 ∧ g1 < y)) (h2 : ¬ (x ≤ g2 ∧ g2 < y)) : MO w' lo mid hi p gd ga g1 g2 c2 xs ys bx bl bm :=
  ⟨h.d.keptS k hd, h.a.keptS k ha, h.b.keptS k h1, ownsRow_keptS h.l k h2, h.d0, h.d1, h.a0, h.a1, h.da, h.p0, h.b0, h.pb, h.pl, h.p1, h.b1, h.bl', Nat.le_trans h.hh k.size⟩
theorem MO.g2 {w : World} {lo mid hi p gd ga g1 g2 c2 : Nat} {xs ys bx bl : List Int} {bm : Nat} (h : MO w lo mid hi p gd ga g1 g2 c2 xs ys bx bl bm) : mid ≤ g2 ∧ g2 < w.heap.size := h.l.lt g2 rfl
/-- .. where only its own block was written -/
theorem MO.own {w w' : World} {lo mid hi p gd ga g1 g2 c2 : Nat} {xs ys bx bl : List Int} {bm : Nat} (h : MO w lo mid hi p gd ga g1 g2 c2 xs ys bx bl bm) (k : Kept p (p + 1) w w') : MO w' lo mid hi p gd ga g1 g2 c2 xs ys bx bl bm := by
  have := h.d1; have := h.a1; have := h.p0; have := h.pb; have := h.pl
  exact h.kept k (by omega) (by omega) (by omega) (by omega)
theorem MO.any {w w' : World} {lo mid hi p gd ga g1 g2 c2 : Nat} {xs ys bx bl : List Int} {bm : Nat} (h : MO w lo mid hi p gd ga g1 g2 c2 xs ys bx bl bm) (k : Kept 0 0 w w') : MO w' lo mid hi p gd ga g1 g2 c2 xs ys bx bl bm := h.kept k (by omega) (by omega) (by omega) (by omega)
theorem MB.any {w w' : World} {p gd cd ga ca g1 c1 g2 c2 : Nat} {c : Pl.Mc} (h : MB w p gd cd ga ca g1 c1 g2 c2 c) (k : Kept 0 0 w w') : MB w' p gd cd ga ca g1 c1 g2 c2 c := Blk.kept0 h k
theorem MB.cells {w : World} {p gd cd ga ca g1 c1 g2 c2 : Nat} {c : Pl.Mc} (h : MB w p gd cd ga ca g1 c1 g2 c2 c) :
    w.cell? ⟨p, 0, none⟩ = some (.slice (some ⟨gd, 0, none⟩) 4 cd) ∧ w.cell? ⟨p, 1, none⟩ = some (.slice (some ⟨ga, 0, none⟩) 4 ca) ∧ w.cell? ⟨p, 2, none⟩ = some (.int .i64 c.r.o) ∧ w.cell? ⟨p, 3, none⟩ = some (.int .i64 c.r.p) ∧ w.cell? ⟨p, 4, none⟩ = some (.int .i64 c.r.f) ∧ w.cell? ⟨p, 5, none⟩ = some (.int .i64 c.r.m) ∧ w.cell? ⟨p, 6, none⟩ = some (.bool c.r.s) ∧ w.cell? ⟨p, 7, none⟩ = some (.bool c.r.t) ∧
    w.cell? ⟨p, 8, none⟩ = some (.slice (some ⟨g1, 0, none⟩) 512 c1) ∧ w.cell? ⟨p, 9, none⟩ = some (.slice (some ⟨g2, 0, none⟩) c.bm c2) ∧ w.cell? ⟨p, 10, none⟩ = some (.bool c.st) ∧ w.cell? ⟨p, 11, none⟩ = some (.int .i64 c.f.v) ∧ w.cell? ⟨p, 12, none⟩ = some (.int .i64 c.f.pc) ∧ w.cell? ⟨p, 13, none⟩ = some (.int .i64 c.f.ad) ∧ w.cell? ⟨p, 14, none⟩ = some (.int .i64 c.f.wo) ∧ w.cell? ⟨p, 15, none⟩ = some (.bool c.f.wr) :=
  ⟨Blk.cell (i := 0) h rfl, Blk.cell (i := 1) h rfl, Blk.cell (i := 2) h rfl, Blk.cell (i := 3) h rfl, Blk.cell (i := 4) h rfl, Blk.cell (i := 5) h rfl, Blk.cell (i := 6) h rfl, Blk.cell (i := 7) h rfl, Blk.cell (i := 8) h rfl, Blk.cell (i := 9) h rfl, Blk.cell (i := 10) h rfl, Blk.cell (i := 11) h rfl, Blk.cell (i := 12) h rfl, Blk.cell (i := 13) h rfl, Blk.cell (i := 14) h rfl, Blk.cell (i := 15) h rfl⟩
theorem MB.frozen {w : World} {p gd cd ga ca g1 c1 g2 c2 : Nat} {c : Pl.Mc} (h : MB w p gd cd ga ca g1 c1 g2 c2 c) (i : Nat) : w.frozen? ⟨p, i, none⟩ = false := Blk.frozen h i
theorem MB.lt {w : World} {p gd cd ga ca g1 c1 g2 c2 : Nat} {c : Pl.Mc} (h : MB w p gd cd ga ca g1 c1 g2 c2 c) : p < w.heap.size := Blk.lt h
theorem s16_11 (a0 a1 a2 a3 a4 a5 a6 a7 a8 a9 a10 a11 a12 a13 a14 a15 v : Value) : (#[a0, a1, a2, a3, a4, a5, a6, a7, a8, a9, a10, a11, a12, a13, a14, a15] : Array Value).setIfInBounds 11 v = #[a0, a1, a2, a3, a4, a5, a6, a7, a8, a9, a10, v, a12, a13, a14, a15] := rfl
theorem s16_12 (a0 a1 a2 a3 a4 a5 a6 a7 a8 a9 a10 a11 a12 a13 a14 a15 v : Value) : (#[a0, a1, a2, a3, a4, a5, a6, a7, a8, a9, a10, a11, a12, a13, a14, a15] : Array Value).setIfInBounds 12 v = #[a0, a1, a2, a3, a4, a5, a6, a7, a8, a9, a10, a11, v, a13, a14, a15] := rfl
theorem s16_13 (a0 a1 a2 a3 a4 a5 a6 a7 a8 a9 a10 a11 a12 a13 a14 a15 v : Value) : (#[a0, a1, a2, a3, a4, a5, a6, a7, a8, a9, a10, a11, a12, a13, a14, a15] : Array Value).setIfInBounds 13 v = #[a0, a1, a2, a3, a4, a5, a6, a7, a8, a9, a10, a11, a12, v, a14, a15] := rfl
theorem s16_14 (a0 a1 a2 a3 a4 a5 a6 a7 a8 a9 a10 a11 a12 a13 a14 a15 v : Value) : (#[a0, a1, a2, a3, a4, a5, a6, a7, a8, a9, a10, a11, a12, a13, a14, a15] : Array Value).setIfInBounds 14 v = #[a0, a1, a2, a3, a4, a5, a6, a7, a8, a9, a10, a11, a12, a13, v, a15] := rfl
theorem s16_15 (a0 a1 a2 a3 a4 a5 a6 a7 a8 a9 a10 a11 a12 a13 a14 a15 v : Value) : (#[a0, a1, a2, a3, a4, a5, a6, a7, a8, a9, a10, a11, a12, a13, a14, a15] : Array Value).setIfInBounds 15 v = #[a0, a1, a2, a3, a4, a5, a6, a7, a8, a9, a10, a11, a12, a13, a14, v] := rfl
theorem MB.kept8 {w : World} {p : Nat} (v0 v1 v2 v3 v4 v5 v6 v7 : Value) : Kept p (p + 1) w ((((((((w.setCell ⟨p, 0, none⟩ v0).setCell ⟨p, 1, none⟩ v1).setCell ⟨p, 2, none⟩ v2).setCell ⟨p, 3, none⟩ v3).setCell ⟨p, 4, none⟩ v4).setCell ⟨p, 5, none⟩ v5).setCell ⟨p, 6, none⟩ v6).setCell ⟨p, 7, none⟩ v7) :=
  kept_set (kept_set (kept_set (kept_set (kept_set (kept_set (kept_set (kept_set (Kept.refl _ _ _) _ _ _ (.inl (by omega))) _ _ _ (.inl (by omega))) _ _ _ (.inl (by omega))) _ _ _ (.inl (by omega))) _ _ _ (.inl (by omega))) _ _ _ (.inl (by omega))) _ _ _ (.inl (by omega))) _ _ _ (.inl (by omega))
theorem MB.cV {w : World} {p gd cd ga ca g1 c1 g2 c2 : Nat} {c : Pl.Mc} (h : MB w p gd cd ga ca g1 c1 g2 c2 c) (v : Int) : MB (w.setCell ⟨p, 11, none⟩ (.int .i64 v)) p gd cd ga ca g1 c1 g2 c2 ({ c with f := { c.f with v := v } }) := by
  have q := Blk.set h 11 (.int .i64 v)
  unfold mcells at q
  rw [s16_11] at q
  exact q
theorem MB.cPc {w : World} {p gd cd ga ca g1 c1 g2 c2 : Nat} {c : Pl.Mc} (h : MB w p gd cd ga ca g1 c1 g2 c2 c) (v : Int) : MB (w.setCell ⟨p, 12, none⟩ (.int .i64 v)) p gd cd ga ca g1 c1 g2 c2 ({ c with f := { c.f with pc := v } }) := by
  have q := Blk.set h 12 (.int .i64 v)
  unfold mcells at q
  rw [s16_12] at q
  exact q
theorem MB.cAd {w : World} {p gd cd ga ca g1 c1 g2 c2 : Nat} {c : Pl.Mc} (h : MB w p gd cd ga ca g1 c1 g2 c2 c) (v : Int) : MB (w.setCell ⟨p, 13, none⟩ (.int .i64 v)) p gd cd ga ca g1 c1 g2 c2 ({ c with f := { c.f with ad := v } }) := by
  have q := Blk.set h 13 (.int .i64 v)
  unfold mcells at q
  rw [s16_13] at q
  exact q
theorem MB.cWo {w : World} {p gd cd ga ca g1 c1 g2 c2 : Nat} {c : Pl.Mc} (h : MB w p gd cd ga ca g1 c1 g2 c2 c) (v : Int) : MB (w.setCell ⟨p, 14, none⟩ (.int .i64 v)) p gd cd ga ca g1 c1 g2 c2 ({ c with f := { c.f with wo := v } }) := by
  have q := Blk.set h 14 (.int .i64 v)
  unfold mcells at q
  rw [s16_14] at q
  exact q
theorem MB.cWr {w : World} {p gd cd ga ca g1 c1 g2 c2 : Nat} {c : Pl.Mc} (h : MB w p gd cd ga ca g1 c1 g2 c2 c) (v : Bool) : MB (w.setCell ⟨p, 15, none⟩ (.bool v)) p gd cd ga ca g1 c1 g2 c2 ({ c with f := { c.f with wr := v } }) := by
  have q := Blk.set h 15 (.bool v)
  unfold mcells at q
  rw [s16_15] at q
  exact q
theorem kept_one (w : World) (p i : Nat) (v : Value) : Kept p (p + 1) w (w.setCell ⟨p, i, none⟩ v) := kept_set (Kept.refl _ _ _) _ _ _ (.inl (by omega))
theorem Kept.one {w w' : World} {p : Nat} (h : Kept p (p + 1) w w') (i : Nat) (v : Value) : Kept p (p + 1) w (w'.setCell ⟨p, i, none⟩ v) := kept_set h _ _ _ (.inl (by omega))
theorem MAt.any {w w' : World} {lo mid hi p g2 : Nat} {c : Pl.Mc} (h : MAt w lo mid hi p g2 c) (k : Kept 0 0 w w') : MAt w' lo mid hi p g2 c := by
  obtain ⟨gd, cd, ga, ca, g1, c1, c2, hB, hO⟩ := h
  exact ⟨gd, cd, ga, ca, g1, c1, c2, hB.any k, hO.any k⟩
theorem MAt.lo {w : World} {lo mid hi p g2 : Nat} {c : Pl.Mc} (h : MAt w lo mid hi p g2 c) : lo ≤ mid ∧ mid ≤ w.heap.size ∧ mid ≤ p ∧ p < hi ∧ p < w.heap.size ∧ g2 < w.heap.size ∧ hi ≤ w.heap.size := by
  obtain ⟨gd, cd, ga, ca, g1, c1, c2, hB, hO⟩ := h
  have := hO.d0; have := hO.d1; have := hO.p0; have := hB.lt; have := hO.p1; have := hO.g2; have := hO.hh
  omega
/- the registers' own functions, over lists of four -/
def regV (r : Pl.Rg) (gd cd ga ca : Nat) : Value := .agg #[.slice (some ⟨gd, 0, none⟩) 4 cd, .slice (some ⟨ga, 0, none⟩) 4 ca, .int .i64 r.o, .int .i64 r.p, .int .i64 r.f, .int .i64 r.m, .bool r.s, .bool r.t]
theorem touch16 (w : World) (lo mid hi p gd cd ga ca g1 c1 g2 c2 : Nat) (c : Pl.Mc) (k s a v : Int) (hB : MB w p gd cd ga ca g1 c1 g2 c2 c) (hO : MO w lo mid hi p gd ga g1 g2 c2 c.r.xs c.r.ys c.bx c.bl c.bm) (G : Pl.GM c) (hask : Pl.askOk k s a v = true) :
    Calls Tryz.prog 55 #[.pointer (some ⟨p, 8, none⟩), .int .i64 k, .int .i64 s, .int .i64 a, .int .i64 v] w fun e w' => ∃ g3 c3 : Nat, e = .returned (.tuple #[.int .i64 (c.accV k s a v), .int .i64 (Pl.code k s a)]) ∧
      MB w' p gd cd ga ca g1 c1 g3 c3 { c.acc k s a v with f := c.f } ∧ MO w' lo mid hi p gd ga g1 g3 c3 c.r.xs c.r.ys (c.acc k s a v).bx (c.acc k s a v).bl (c.acc k s a v).bm ∧ Since w lo hi g2 w' g3 := by
  refine (l4Tm w p mid g1 g2 _ _ _ _ _ _ _ _ _ _ _ _ _ _ c.bx c.bl c1 c.bm c2 k s a v hB hO.b G.bx G.ok hO.l hO.p0 hO.b0 hO.pb hO.pl hO.bl' G.bm hask).mono ?_
  rintro e w' ⟨g3, c3, rfl, hB2, hb2, hl2, n1, kk⟩
  have q1 := hO.d1
  have q2 := hO.a1
  have q3 := hO.d0
  have q4 := hB.lt
  have q5 := hO.p0
  have q6 := hO.p1
  have q7 := hO.b1
  have q8 := hO.b0
  have q9 := hO.g2
  have qa := hO.pb
  have qb := hO.pl
  have qc := hO.bl'
  have qd := hO.b.lt (by rw [G.bx]; decide)
  exact ⟨g3, c3, rfl, hB2, ⟨kk.own hO.d (by omega), kk.own hO.a (by omega), hb2, hl2, hO.d0, hO.d1, hO.a0, hO.a1, hO.da, hO.p0, hO.b0, hO.pb, by omega, hO.p1, hO.b1, by omega, Nat.le_trans hO.hh kk.size⟩, n1, kk.wide (fun i _ h => by unfold own; omega)⟩
def insC (x : Pl.In) : Array Value := #[.int .i64 x.op, .int .i64 x.z, .int .i64 x.r, .int .i64 x.m, .int .i64 x.k, .int .i64 x.e, .int .i64 x.s]
theorem kept7 (w : World) (b : Nat) (v0 v1 v2 v3 v4 v5 v6 : Value) : Kept b (b + 1) w (((((((w.setCell ⟨b, 0, none⟩ v0).setCell ⟨b, 1, none⟩ v1).setCell ⟨b, 2, none⟩ v2).setCell ⟨b, 3, none⟩ v3).setCell ⟨b, 4, none⟩ v4).setCell ⟨b, 5, none⟩ v5).setCell ⟨b, 6, none⟩ v6) :=
  ((((((kept_one w b 0 v0).one 1 v1).one 2 v2).one 3 v3).one 4 v4).one 5 v5).one 6 v6
theorem since7 {lo hi b g g' : Nat} {w W : World} (h : Since w lo hi g W g') (hp : w.heap.size ≤ b) (v0 v1 v2 v3 v4 v5 v6 : Value) : Since w lo hi g (((((((W.setCell ⟨b, 0, none⟩ v0).setCell ⟨b, 1, none⟩ v1).setCell ⟨b, 2, none⟩ v2).setCell ⟨b, 3, none⟩ v3).setCell ⟨b, 4, none⟩ v4).setCell ⟨b, 5, none⟩ v5).setCell ⟨b, 6, none⟩ v6) g' :=
  ((((((h.set b 0 _ (.inr hp)).set b 1 _ (.inr hp)).set b 2 _ (.inr hp)).set b 3 _ (.inr hp)).set b 4 _ (.inr hp)).set b 5 _ (.inr hp)).set b 6 _ (.inr hp)
theorem MAt.past {w w' : World} {lo mid hi p g2 b : Nat} {c : Pl.Mc} (h : MAt w lo mid hi p g2 c) (k : Kept b (b + 1) w w') (hb : hi ≤ b) (hn : b ≠ g2) : MAt w' lo mid hi p g2 c := by
  obtain ⟨gd, cd, ga, ca, g1, c1, c2, hB, hO⟩ := h
  have := hO.d1; have := hO.a1; have := hO.p0; have := hO.p1; have := hO.b1
  exact ⟨gd, cd, ga, ca, g1, c1, c2, Blk.kept hB k (by omega), hO.kept k (by omega) (by omega) (by omega) (by omega)⟩
/-- one cell of its own block -/
theorem MAt.cell {w w' : World} {lo mid hi p g2 : Nat} {c c' : Pl.Mc} (h : MAt w lo mid hi p g2 c) (k : Kept p (p + 1) w w') (hB : ∀ gd cd ga ca g1 c1 c2 : Nat, MB w p gd cd ga ca g1 c1 g2 c2 c → MB w' p gd cd ga ca g1 c1 g2 c2 c') (e1 : c'.r.xs = c.r.xs) (e2 : c'.r.ys = c.r.ys) (e3 : c'.bx = c.bx) (e4 : c'.bl = c.bl) (e5 : c'.bm = c.bm) : MAt w' lo mid hi p g2 c' := by
  obtain ⟨gd, cd, ga, ca, g1, c1, c2, hB0, hO⟩ := h
  refine ⟨gd, cd, ga, ca, g1, c1, c2, hB _ _ _ _ _ _ _ hB0, ?_⟩
  rw [e1, e2, e3, e4, e5]
  exact hO.own k
theorem MAt.cV {w : World} {lo mid hi p g2 : Nat} {c : Pl.Mc} (h : MAt w lo mid hi p g2 c) (v : Int) : MAt (w.setCell ⟨p, 11, none⟩ (.int .i64 v)) lo mid hi p g2 ({ c with f := { c.f with v := v } }) := h.cell (kept_one _ _ _ _) (fun _ _ _ _ _ _ _ q => q.cV v) rfl rfl rfl rfl rfl
theorem MAt.cPc {w : World} {lo mid hi p g2 : Nat} {c : Pl.Mc} (h : MAt w lo mid hi p g2 c) (v : Int) : MAt (w.setCell ⟨p, 12, none⟩ (.int .i64 v)) lo mid hi p g2 ({ c with f := { c.f with pc := v } }) := h.cell (kept_one _ _ _ _) (fun _ _ _ _ _ _ _ q => q.cPc v) rfl rfl rfl rfl rfl
theorem MAt.cWo {w : World} {lo mid hi p g2 : Nat} {c : Pl.Mc} (h : MAt w lo mid hi p g2 c) (v : Int) : MAt (w.setCell ⟨p, 14, none⟩ (.int .i64 v)) lo mid hi p g2 ({ c with f := { c.f with wo := v } }) := h.cell (kept_one _ _ _ _) (fun _ _ _ _ _ _ _ q => q.cWo v) rfl rfl rfl rfl rfl
end Go.Proofs.YtblddehlkaolbaaGreat

namespace Go.Proofs.YtblddehlkaolbaaGreat
open Go.RowKit
set_option linter.unusedVariables false
theorem mFine (w : World) (lo mid hi p g2 : Nat) (c : Pl.Mc) (h : MAt w lo mid hi p g2 c) :
    Calls Tryz.prog 16 #[.pointer (some ⟨p, 0, none⟩)] w fun e w' => e = .returned (.bool c.fine) ∧ w' = w := by
  obtain ⟨gd, cd, ga, ca, g1, c1, c2, hB, hO⟩ := h
  obtain ⟨t0, t1, t2, t3, t4, t5, t6, t7, t8, t9, t10, t11, t12, t13, t14, t15⟩ := hB.cells
  clear hB hO
  go_enter Tryz.func16, Tryz.ntmps16
  go_wp2
  go_ret
  exact ⟨rfl, rfl⟩
theorem MB.acc {w : World} {p gd cd ga ca g1 c1 g3 c3 : Nat} {c : Pl.Mc} {k s a v : Int} (h : MB w p gd cd ga ca g1 c1 g3 c3 { c.acc k s a v with f := c.f }) (e : Pl.Mc.accF c.f k s a = c.f) : MB w p gd cd ga ca g1 c1 g3 c3 (c.acc k s a v) := by
  have q : c.acc k s a v = { c.acc k s a v with f := c.f } := by
    unfold Pl.Mc.acc; rw [e]
  rw [q]; exact h
theorem mAccess (w : World) (lo mid hi p g2 : Nat) (c : Pl.Mc) (k s a v : Int) (h : MAt w lo mid hi p g2 c) (G : Pl.GM c) (hask : Pl.askOk k s a v = true) :
    Calls Tryz.prog 30 #[.pointer (some ⟨p, 0, none⟩), .int .i64 k, .int .i64 s, .int .i64 a, .int .i64 v] w fun e w' => e = .returned (.int .i64 (c.accV k s a v)) ∧ ∃ g3, MAt w' lo mid hi p g3 (c.acc k s a v) ∧ Since w lo hi g2 w' g3 := by
  obtain ⟨gd, cd, ga, ca, g1, c1, c2, hB, hO⟩ := h
  have HB := hide hB
  have HO := hide hO
  have HG := hide G
  clear hB hO G
  cases hc : (Pl.code k s a != 0)
  · have HF : Hid (Pl.Mc.accF c.f k s a = c.f) := hide (by unfold Pl.Mc.accF; rw [hc]; rfl)
    go_enter Tryz.func30, Tryz.ntmps30
    go_wp2_with (go_at_call 55; refine (touch16 _ lo mid hi p gd cd ga ca g1 c1 g2 c2 c k s a v HB.out HO.out HG.out hask).mono ?_; rintro e9 W ⟨g3, c3, rfl, hB2, hO2, hb2⟩; have HB2 := hide hB2; have HO2 := hide hO2; have HL2 := hide hb2; clear hB2 hO2 hb2)
    go_ret
    exact ⟨rfl, g3, ⟨gd, cd, ga, ca, g1, c1, c3, HB2.out.acc HF.out, HO2.out⟩, HL2.out⟩
  · cases hv : (c.f.v == 0)
    · have HF : Hid (Pl.Mc.accF c.f k s a = c.f) := hide (by unfold Pl.Mc.accF; rw [hc, hv]; rfl)
      go_enter Tryz.func30, Tryz.ntmps30
      go_wp2_with (go_at_call 55; refine (touch16 _ lo mid hi p gd cd ga ca g1 c1 g2 c2 c k s a v HB.out HO.out HG.out hask).mono ?_; rintro e9 W ⟨g3, c3, rfl, hB2, hO2, hb2⟩; have HB2 := hide hB2; have HO2 := hide hO2; have HL2 := hide hb2; obtain ⟨t0, t1, t2, t3, t4, t5, t6, t7, t8, t9, t10, t11, t12, t13, t14, t15⟩ := hB2.cells; simp only at t11; clear hB2 hO2 hb2 t0 t1 t2 t3 t4 t5 t6 t7 t8 t9 t10 t12 t13 t14 t15)
      go_ret
      exact ⟨rfl, g3, ⟨gd, cd, ga, ca, g1, c1, c3, HB2.out.acc HF.out, HO2.out⟩, HL2.out⟩
    · cases h2 : (Pl.code k s a == 2)
      · have HF : Hid (Pl.Mc.accF c.f k s a = { c.f with v := 2, ad := a, wr := k == 2 }) := hide (by unfold Pl.Mc.accF; rw [hc, hv, h2]; rfl)
        go_enter Tryz.func30, Tryz.ntmps30
        go_wp2_with (go_at_call 55; refine (touch16 _ lo mid hi p gd cd ga ca g1 c1 g2 c2 c k s a v HB.out HO.out HG.out hask).mono ?_; rintro e9 W ⟨g3, c3, rfl, hB2, hO2, hb2⟩; have HB2 := hide hB2; have HO2 := hide hO2; have HL2 := hide hb2; obtain ⟨t0, t1, t2, t3, t4, t5, t6, t7, t8, t9, t10, t11, t12, t13, t14, t15⟩ := hB2.cells; simp only at t11; have f11 := hB2.frozen 11; have f13 := hB2.frozen 13; have f15 := hB2.frozen 15; clear hB2 hO2 hb2 t0 t1 t2 t3 t4 t5 t6 t7 t8 t9 t10 t12 t14)
        go_ret
        have hq : (lo ≤ p ∧ p < hi) ∨ w.heap.size ≤ p := by have := HO2.out.p0; have := HO2.out.d0; have := HO2.out.d1; have := HO2.out.p1; omega
        have KK := ((kept_one W p 11 (.int .i64 2)).one 13 (.int .i64 a)).one 15 (.bool (k == 2))
        refine ⟨rfl, g3, ⟨gd, cd, ga, ca, g1, c1, c3, ?_, HO2.out.own KK⟩, ((HL2.out.set p 11 _ hq).set p 13 _ hq).set p 15 _ hq⟩
        have q := ((HB2.out.cV 2).cAd a).cWr (k == 2)
        unfold Pl.Mc.acc
        rw [HF.out]
        exact q
      · have HF : Hid (Pl.Mc.accF c.f k s a = { c.f with v := 3, ad := a, wr := k == 2 }) := hide (by unfold Pl.Mc.accF; rw [hc, hv, h2]; rfl)
        go_enter Tryz.func30, Tryz.ntmps30
        go_wp2_with (go_at_call 55; refine (touch16 _ lo mid hi p gd cd ga ca g1 c1 g2 c2 c k s a v HB.out HO.out HG.out hask).mono ?_; rintro e9 W ⟨g3, c3, rfl, hB2, hO2, hb2⟩; have HB2 := hide hB2; have HO2 := hide hO2; have HL2 := hide hb2; obtain ⟨t0, t1, t2, t3, t4, t5, t6, t7, t8, t9, t10, t11, t12, t13, t14, t15⟩ := hB2.cells; simp only at t11; have f11 := hB2.frozen 11; have f13 := hB2.frozen 13; have f15 := hB2.frozen 15; clear hB2 hO2 hb2 t0 t1 t2 t3 t4 t5 t6 t7 t8 t9 t10 t12 t14)
        go_ret
        have hq : (lo ≤ p ∧ p < hi) ∨ w.heap.size ≤ p := by have := HO2.out.p0; have := HO2.out.d0; have := HO2.out.d1; have := HO2.out.p1; omega
        have KK := (((kept_one W p 11 (.int .i64 2)).one 11 (.int .i64 3)).one 13 (.int .i64 a)).one 15 (.bool (k == 2))
        refine ⟨rfl, g3, ⟨gd, cd, ga, ca, g1, c1, c3, ?_, HO2.out.own KK⟩, (((HL2.out.set p 11 _ hq).set p 11 _ hq).set p 13 _ hq).set p 15 _ hq⟩
        have q := (((HB2.out.cV 2).cV 3).cAd a).cWr (k == 2)
        unfold Pl.Mc.acc
        rw [HF.out]
        exact q
end Go.Proofs.YtblddehlkaolbaaGreat

namespace Go.Proofs.YtblddehlkaolbaaGreat
open Go.RowKit
set_option linter.unusedVariables false
theorem mask16 (n : Int) : bits .and .i64 n 65535 = n % 65536 := Pl.and65535 n
theorem Pl.ask_read {k a : Int} (hk : k = 1 ∨ k = 3) (h0 : 0 ≤ a) (h1 : a ≤ 65535) : Pl.askOk k 2 a 0 = true := by
  rcases hk with rfl | rfl <;> simp [Pl.askOk, Pl.accKind, Pl.okv, Pl.top, Pl.addr] <;> omega
end Go.Proofs.YtblddehlkaolbaaGreat

namespace Go.Proofs.YtblddehlkaolbaaGreat
open Go.RowKit
set_option linter.unusedVariables false

theorem signedAs8 (v : Int) (w : World) (lo : -9223372036854775808 ≤ v) (hi : v ≤ 9223372036854775807) :
    Calls Tryz.prog 91 #[.int .i64 v] w fun e w' => e = .returned (.tuple #[.int .i64 (Pl.sgnV 1 v), .bool (Pl.okv 1 v)]) ∧ w' = w := by
  by_cases h : 0 ≤ v ∧ v < 256
  · obtain ⟨h0, h1⟩ := h
    have hs : IntKind.u8.signed = false := rfl
    have hm : IntKind.u8.max = 255 := by decide
    have hb : bits .xor .u8 255 0 = 255 := by decide
    by_cases h : 127 < v
    all_goals
      go_enter Tryz.func91, Tryz.ntmps91
      go_wp2
      go_ret2
      exact ⟨rIB (by simp [Pl.sgnV, Pl.okv, Pl.sg, Pl.top, h0, h1]; omega) (by simp [Pl.okv, Pl.top, h0, h1]), rfl⟩
  · go_enter Tryz.func91, Tryz.ntmps91
    go_wp2
    go_ret2
    have k : Pl.okv 1 v = false := by
      cases c : Pl.okv 1 v
      · rfl
      · have := Pl.top_ok c; omega
    exact ⟨rIB (by simp [Pl.sgnV, k]) k.symm, rfl⟩

theorem signedAs16 (v : Int) (w : World) (lo : -9223372036854775808 ≤ v) (hi : v ≤ 9223372036854775807) :
    Calls Tryz.prog 92 #[.int .i64 v] w fun e w' => e = .returned (.tuple #[.int .i64 (Pl.sgnV 2 v), .bool (Pl.okv 2 v)]) ∧ w' = w := by
  by_cases h : 0 ≤ v ∧ v < 65536
  · obtain ⟨h0, h1⟩ := h
    have hs : IntKind.u16.signed = false := rfl
    have hm : IntKind.u16.max = 65535 := by decide
    have hb : bits .xor .u16 65535 0 = 65535 := by decide
    by_cases h : 32767 < v
    all_goals
      go_enter Tryz.func92, Tryz.ntmps92
      go_wp2
      go_ret2
      exact ⟨rIB (by simp [Pl.sgnV, Pl.okv, Pl.sg, Pl.top, h0, h1]; omega) (by simp [Pl.okv, Pl.top, h0, h1]), rfl⟩
  · have hw : IntKind.u16.wrap v = v % 65536 := IntKind.wrap_u16 v
    go_enter Tryz.func92, Tryz.ntmps92
    go_wp2
    go_ret2
    have k : Pl.okv 2 v = false := by
      cases c : Pl.okv 2 v
      · rfl
      · have := Pl.top_ok c; omega
    exact ⟨rIB (by simp [Pl.sgnV, k]) k.symm, rfl⟩

theorem signedOf (s v : Int) (w : World) (lo : -9223372036854775808 ≤ v) (hi : v ≤ 9223372036854775807) :
    Calls Tryz.prog 78 #[.int .i64 s, .int .i64 v] w fun e w' => e = .returned (.tuple #[.int .i64 (Pl.sgnV s v), .bool (Pl.okv s v)]) ∧ w' = w := by
  by_cases h1 : s = 1
  · subst h1
    go_enter Tryz.func78, Tryz.ntmps78
    go_wp2_with fail
    refine (signedAs8 v _ lo hi).mono ?_
    rintro e w' ⟨rfl, rfl⟩
    go_wp2_with fail
    go_ret2
    exact ⟨rfl, rfl⟩
  · by_cases h2 : s = 2
    · subst h2
      go_enter Tryz.func78, Tryz.ntmps78
      go_wp2_with fail
      refine (signedAs16 v _ lo hi).mono ?_
      rintro e w' ⟨rfl, rfl⟩
      go_wp2_with fail
      go_ret2
      exact ⟨rfl, rfl⟩
    · have k : Pl.okv s v = false := by simp [Pl.okv, h1, h2]
      have k1 : (s == 1) = false := by simpa using h1
      have k2 : (s == 2) = false := by simpa using h2
      go_enter Tryz.func78, Tryz.ntmps78
      go_wp2_with fail
      go_ret2
      exact ⟨rIB (by simp [Pl.sgnV, k]) k.symm, rfl⟩

end Go.Proofs.YtblddehlkaolbaaGreat

namespace Go.Proofs.YtblddehlkaolbaaGreat
open Go.RowKit
set_option linter.unusedVariables false
theorem results_ct2 {fn : Func} {p u1 u2 : Tmp} {ty : TypeId} (h : fn.results = #[.cell p ty, .tmp u1, .tmp u2]) (tmps : Array Value) (P : Program) (w : World) :
    (results fn tmps).run P w = ((asAddr (tmps.getD p undef)).run P w).andThen fun a w₁ => ((loadVar ty a).run P w₁).andThen fun v w₂ => .ok (.tuple #[v, tmps.getD u1 undef, tmps.getD u2 undef]) w₂ := by
  simp only [results, h]
  simp [Sem.run_bind, Result.andThen]
theorem Pl.and7 (a : Int) : bits .and .i64 a 7 = a % 8 := by
  show IntKind.i64.wrap ((BitVec.ofInt 64 a &&& BitVec.ofInt 64 7).toNat : Int) = _
  rw [BitVec.toNat_and, BitVec.toNat_ofInt, show (BitVec.ofInt 64 7).toNat = 2 ^ 3 - 1 from by decide, Nat.and_two_pow_sub_one_eq_mod, IntKind.wrap_i64]
  omega
theorem Pl.and3 (a : Int) : bits .and .i64 a 3 = a % 4 := by
  show IntKind.i64.wrap ((BitVec.ofInt 64 a &&& BitVec.ofInt 64 3).toNat : Int) = _
  rw [BitVec.toNat_and, BitVec.toNat_ofInt, show (BitVec.ofInt 64 3).toNat = 2 ^ 2 - 1 from by decide, Nat.and_two_pow_sub_one_eq_mod, IntKind.wrap_i64]
  omega
end Go.Proofs.YtblddehlkaolbaaGreat

namespace Go.Proofs.YtblddehlkaolbaaGreat
open Go.RowKit
set_option linter.unusedVariables false
theorem specMem (m : Int) (w : World) : Calls Tryz.prog 59 #[.int .i64 m] w fun e w' => e = .returned (.bool (Pl.memM m)) ∧ w' = w := by
  go_enter Tryz.func59, Tryz.ntmps59
  go_wp2_with (go_at_call 50; refine (l1In _ _ _ _).mono ?_; rintro e w' ⟨rfl, hw⟩; have hw2 := hw.symm; clear hw; subst hw2)
  go_ret
  exact ⟨rfl, rfl⟩
theorem specPlain (m : Int) (w : World) : Calls Tryz.prog 60 #[.int .i64 m] w fun e w' => e = .returned (.bool (Pl.plainM m)) ∧ w' = w := by
  cases h1 : (m == 2) <;> cases h2 : (m == 5) <;> cases h3 : (m == 6)
  all_goals
    go_enter Tryz.func60, Tryz.ntmps60
    go_wp2
    go_ret
    exact ⟨rB (by simp only [Pl.plainM, h1, h2, h3]; rfl), rfl⟩
theorem specZero (m k e : Int) (w : World) : Calls Tryz.prog 62 #[.agg #[.int .i64 m, .int .i64 k, .int .i64 e]] w fun r w' => r = .returned (.bool (Pl.zeroO m k e)) ∧ Kept 0 0 w w' := by
  have K0 := hide (kept_alloc w (.cells #[.int .i64 m, .int .i64 k, .int .i64 e] 32))
  cases h1 : (m == 0) <;> cases h2 : (k == 0) <;> cases h3 : (e == 0)
  all_goals
    go_enter Tryz.func62, Tryz.ntmps62
    go_wp2
    go_ret
    exact ⟨rB (by simp only [Pl.zeroO, h1, h2, h3]; rfl), K0.out⟩
theorem specNow (m k e : Int) (w : World) : Calls Tryz.prog 61 #[.agg #[.int .i64 m, .int .i64 k, .int .i64 e]] w fun r w' => r = .returned (.bool (Pl.nowO m e)) ∧ Kept 0 0 w w' := by
  have K0 := hide (kept_alloc w (.cells #[.int .i64 m, .int .i64 k, .int .i64 e] 32))
  cases h1 : (m == 7) <;> cases h2 : decide (e ≤ 1023)
  all_goals
    go_enter Tryz.func61, Tryz.ntmps61
    go_wp2
    go_ret
    exact ⟨rB (by simp only [Pl.nowO, h1, h2]; rfl), K0.out⟩
theorem opsAll (op : Int) : op = 1 ∨ op = 2 ∨ op = 3 ∨ op = 4 ∨ op = 5 ∨ op = 6 ∨ op = 7 ∨ op = 8 ∨ op = 9 ∨ op = 10 ∨ op = 11 ∨ op = 12 ∨ op = 13 ∨ op = 14 ∨ op = 15 ∨ op = 16 ∨ op = 17 ∨ op = 18 ∨ op = 19 ∨ (¬ op = 1 ∧ ¬ op = 2 ∧ ¬ op = 3 ∧ ¬ op = 4 ∧ ¬ op = 5 ∧ ¬ op = 6 ∧ ¬ op = 7 ∧ ¬ op = 8 ∧ ¬ op = 9 ∧ ¬ op = 10 ∧ ¬ op = 11 ∧ ¬ op = 12 ∧ ¬ op = 13 ∧ ¬ op = 14 ∧ ¬ op = 15 ∧ ¬ op = 16 ∧ ¬ op = 17 ∧ ¬ op = 18 ∧ ¬ op = 19) := by omega
end Go.Proofs.YtblddehlkaolbaaGreat

