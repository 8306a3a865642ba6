/- What the program does with an access on a board. -/
import Derived.Test.YtbkafdphagmgpaaImplTch3
import Derived.Deep.QuietTactic
import Derived.BigQuiet
namespace Go.Proofs.Ytbkafdphagmgpaa
open Go.RowKit
set_option linter.unusedVariables false

namespace Pl
theorem rd_bd {xs : List Int} {s : Int} {i : Nat} (hb : bytesOk xs = true) (hs : s = 1 ∨ s = 2) (hi : (i : Int) + s ≤ xs.length) : 0 ≤ rd xs s i ∧ rd xs s i ≤ (if s = 1 then 255 else 65535) := by
  unfold rd
  rcases hs with rfl | rfl
  · rw [if_pos rfl, if_pos rfl]; exact bytesOk_at hb i (by omega)
  · rw [if_neg (by decide), if_neg (by decide)]
    have := bytesOk_at hb i (by omega)
    have := bytesOk_at hb (i + 1) (by omega)
    omega
theorem code_bd (k s a : Int) : 0 ≤ code k s a ∧ code k s a ≤ 3 := by
  unfold code
  repeat' split
  all_goals omega
theorem lv_bd {xs : List Int} {k s a v : Int} (hl : xs.length = 512) (hb : bytesOk xs = true) (h : askOk k s a v = true) : 0 ≤ lv xs k s a v ∧ lv xs k s a v ≤ (if s = 1 then 255 else 65535) := by
  obtain ⟨_, hs, v0, ⟨a0, a1⟩, _⟩ := ask_ok h
  unfold lv
  split
  · rename_i hc
    have := code_low hc.1 a0
    exact rd_bd hb (by omega) (by omega)
  · rcases hs with ⟨rfl, h1⟩ | ⟨rfl, h1⟩
    · rw [if_pos rfl]; omega
    · rw [if_neg (by decide)]; omega
theorem acc_logs {xs : List Int} {k s a v : Int} (hl : xs.length = 512) (hb : bytesOk xs = true) (h : askOk k s a v = true) : accOk k s a (lv xs k s a v) (code k s a) = ((k != 3) || (code k s a != 0)) := by
  have hv := lv_bd hl hb h
  have hc := code_bd k s a
  obtain ⟨hk, hs, _, ⟨a0, a1⟩, _⟩ := ask_ok h
  have e1 : accKind k = true := by simp [accKind]; omega
  have e2 : okv s (lv xs k s a v) = true := by
    unfold okv top
    rcases hs with ⟨rfl, _⟩ | ⟨rfl, _⟩
    · rw [if_pos rfl] at hv; simp; omega
    · rw [if_neg (by decide)] at hv; simp; omega
  have e3 : addr a = true := by simp [addr]; omega
  have e4 : (decide (0 ≤ code k s a) && decide (code k s a ≤ 3)) = true := by simp; omega
  unfold accOk
  rw [e1, e2, e3, e4]
  rfl
end Pl

theorem carryOut (w : World) (b q base g2 : Nat) (xs ys : List Int) (m cu : Nat) (k s a v c : Int) (hB : Blk w b (brd xs (.slice (some ⟨g2, 0, none⟩) m cu)) 71) (hQ : Blk w q #[.int .i64 k, .int .i64 s, .int .i64 a, .int .i64 v, .int .i64 c] 61) (lx : xs.length = 512) (hby : Pl.bytesOk xs = true)
    (hO : w.ownsRow base 61 5 (.slice (some ⟨g2, 0, none⟩) m cu) m (ys.map (Value.int .i64))) (hb : base ≤ b) (hq : base ≤ q) (n1 : q ≠ b) (n2 : b ≠ g2) (n3 : q ≠ g2) (hask : Pl.askOk k s a v = true) (hc : Pl.code k s a = 0) :
    Calls Try.prog 69 #[.pointer (some ⟨b, 0, none⟩), .pointer (some ⟨q, 0, none⟩)] w fun e w' => e = .returned (.tuple #[]) ∧ Blk w' b (brd (Pl.nb xs k s a v) (.slice (some ⟨g2, 0, none⟩) m cu)) 71 ∧ Blk w' q #[.int .i64 k, .int .i64 s, .int .i64 a, .int .i64 (Pl.lv xs k s a v), .int .i64 c] 61 ∧
      w'.ownsRow base 61 5 (.slice (some ⟨g2, 0, none⟩) m cu) m (ys.map (Value.int .i64)) ∧ Kept base w.heap.size w w' := by
  obtain ⟨hk, hs, v0, ⟨a0, a1⟩, hkv⟩ := Pl.ask_ok hask
  have hlow := Pl.code_low hc a0
  obtain ⟨n, rfl⟩ : ∃ n : Nat, a = (n : Int) := ⟨a.toNat, by omega⟩
  by_cases h2 : k = 2
  · subst h2
    have e1 : Pl.nb xs 2 s n v = Pl.wr xs s n v := by unfold Pl.nb; rw [if_pos ⟨hc, rfl⟩]; rfl
    have e2 : Pl.lv xs 2 s n v = v := by unfold Pl.lv; rw [if_neg (by simp)]
    refine (carryOut_w w b q _ xs s n v c hB hQ lx hs (by omega) v0 n1).mono ?_
    rintro e w' ⟨rfl, hb', hk'⟩
    have lb := hB.lt
    refine ⟨rfl, by rw [e1]; exact hb', by rw [e2]; exact hQ.kept hk' (by omega), hO.kept (kept_by hk') (.inr (fun e => by have h3 : g2 = b := Option.some.inj e; omega)), hk'.wide (by omega)⟩
  · have e1 : Pl.nb xs k s n v = xs := by unfold Pl.nb; rw [if_neg (fun h => h2 h.2)]
    have e2 : Pl.lv xs k s n v = Pl.rd xs s n := by unfold Pl.lv; rw [if_pos ⟨hc, h2⟩]; rfl
    refine (carryOut_r w b q _ xs k s n v c hB hQ lx hby h2 (by omega) (by omega) n1).mono ?_
    rintro e w' ⟨rfl, hq', hk'⟩
    have lq := hQ.lt
    refine ⟨rfl, by rw [e1]; exact hB.kept hk' (by omega), by rw [e2]; exact hq', hO.kept (kept_by hk') (.inr (fun e => by have h3 : g2 = q := Option.some.inj e; omega)), hk'.wide (by omega)⟩

theorem note (w : World) (b base g2 N : Nat) (xs ys : List Int) (m cu : Nat) (k s a v c : Int) (hB : Blk w b (brd xs (.slice (some ⟨g2, 0, none⟩) m cu)) 71) (lx : xs.length = 512) (hO : w.ownsRow base 61 5 (.slice (some ⟨g2, 0, none⟩) m cu) m (ys.map (Value.int .i64))) (hb : base ≤ b) (hne : b ≠ g2) (hbN : b < N) (hgN : g2 < N) (bm : m ≤ 400) (lo : -9223372036854775808 ≤ v) (hi : v ≤ 9223372036854775807)
    (m' : Nat) (ys' : List Int) (hm : m' = if (decide (m < 400) && Pl.accOk k s a v c) = true then m + 1 else m) (hy : ys' = if (decide (m < 400) && Pl.accOk k s a v c) = true then ys ++ [k, s, a, v, c] else ys) :
    Calls Try.prog 70 #[.pointer (some ⟨b, 0, none⟩), .agg #[.int .i64 k, .int .i64 s, .int .i64 a, .int .i64 v, .int .i64 c]] w fun e w' => ∃ g3 c3 : Nat, e = .returned (.tuple #[]) ∧ Blk w' b (brd xs (.slice (some ⟨g3, 0, none⟩) m' c3)) 71 ∧ w'.ownsRow base 61 5 (.slice (some ⟨g3, 0, none⟩) m' c3) m' (ys'.map (Value.int .i64)) ∧ b ≠ g3 ∧ Kept base N w w' := by
  cases h : (decide (m < 400) && Pl.accOk k s a v c)
  · rw [hm, hy, h]
    refine (note_not w b xs _ m cu k s a v c hB lx bm lo hi h).mono ?_
    rintro e w' ⟨rfl, k'⟩
    exact ⟨g2, cu, rfl, hB.kept0 k', hO.kept k'.grown (.inr (fun e => by cases e)), hne, k'.any⟩
  · rw [hm, hy, h]
    simp only [Bool.and_eq_true, decide_eq_true_eq] at h
    have lb := hB.lt
    show Calls _ _ _ _ _
    exact note_put w b base g2 N xs ys m cu k s a v c hB lx hO hb (by omega) hne hbN hgN h.1 lo hi h.2

set_option maxRecDepth 100000 in
set_option maxHeartbeats 8000000 in
theorem touch (w : World) (b base g2 : Nat) (xs ys : List Int) (m cu : Nat) (k s a v : Int) (hB : Blk w b (brd xs (.slice (some ⟨g2, 0, none⟩) m cu)) 71) (lx : xs.length = 512) (hby : Pl.bytesOk xs = true)
    (hO : w.ownsRow base 61 5 (.slice (some ⟨g2, 0, none⟩) m cu) m (ys.map (Value.int .i64))) (hb : base ≤ b) (n2 : b ≠ g2) (bm : m ≤ 400) (hask : Pl.askOk k s a v = true) (T : Int) (HT : Hid (T = if k = 2 then 0 else Pl.lv xs k s a v)) :
    Calls Try.prog 51 #[.pointer (some ⟨b, 0, none⟩), .agg #[.int .i64 k, .int .i64 s, .int .i64 a, .int .i64 v, .int .i64 0]] w fun e w' => ∃ g3 c3 : Nat, e = .returned (.tuple #[.int .i64 T, .int .i64 (Pl.code k s a)]) ∧
      Blk w' b (brd (Pl.nb xs k s a v) (.slice (some ⟨g3, 0, none⟩) (Pl.nm m k s a) c3)) 71 ∧ w'.ownsRow base 61 5 (.slice (some ⟨g3, 0, none⟩) (Pl.nm m k s a) c3) (Pl.nm m k s a) ((Pl.nl xs ys m k s a v).map (Value.int .i64)) ∧ b ≠ g3 ∧ Kept base w.heap.size w w' := by
  obtain ⟨_, hs, v0, ⟨a0, a1⟩, hkv⟩ := Pl.ask_ok hask
  have hs' : s = 1 ∨ s = 2 := by omega
  have hlog := Pl.acc_logs lx hby hask
  have hvb := Pl.lv_bd lx hby hask
  have hv1 : Pl.lv xs k s a v ≤ 65535 := by split at hvb <;> omega
  obtain ⟨hg0, hg1⟩ := hO.lt g2 rfl
  have lb := hB.lt
  have HLOG := hide hlog
  have HV := hide (And.intro hvb.1 hv1)
  have HX := hide lx
  have HBY := hide hby
  have HASK := hide hask
  have HB0 := hide hB
  have HO0 := hide hO
  clear hB hO lx hby hask hlog hvb hs hkv
  go_enter Try.func51, Try.ntmps51
  go_wp2_with fail
  refine (codeOf k s a v 0 _ hs' a0 a1).mono ?_
  rintro e w1 ⟨rfl, o, rfl⟩
  obtain ⟨C, hC⟩ : ∃ C, C = Pl.code k s a := ⟨_, rfl⟩
  rw [← hC]
  have HC := hide hC
  clear hC
  have BX := hide ((HB0.out.alloc (.cells #[.int .i64 k, .int .i64 s, .int .i64 a, .int .i64 v, .int .i64 C] 61)).alloc o)
  have OX := hide ((HO0.out.alloc (.cells #[.int .i64 k, .int .i64 s, .int .i64 a, .int .i64 v, .int .i64 C] 61)).alloc o)
  have QX := hide ((Blk.new w #[.int .i64 k, .int .i64 s, .int .i64 a, .int .i64 v, .int .i64 C] 61).alloc o)
  have KX := hide (kept_new (kept_alloc w (.cells #[.int .i64 k, .int .i64 s, .int .i64 a, .int .i64 v, .int .i64 C] 61)) o)
  obtain ⟨X, hX⟩ : ∃ X : World, X = (w.alloc (.cells #[.int .i64 k, .int .i64 s, .int .i64 a, .int .i64 v, .int .i64 C] 61)).alloc o := ⟨_, rfl⟩
  rw [← hX] at BX OX QX KX
  cases hc : (C == 0)
  · have hc' : ¬ Pl.code k s a = 0 := by rw [← HC.out]; simpa using hc
    have e1 : Pl.nb xs k s a v = xs := by unfold Pl.nb; rw [if_neg (fun h => hc' h.1)]
    have e2 : Pl.lv xs k s a v = v := by unfold Pl.lv; rw [if_neg (fun h => hc' h.1)]
    have E1 := hide e1
    have E2 := hide e2
    have HM : Hid (Pl.nm m k s a = if (decide (m < 400) && Pl.accOk k s a v C) = true then m + 1 else m) := hide (by
      have h := HLOG.out; rw [e2] at h; rw [HC.out, h]; rfl)
    have HY : Hid (Pl.nl xs ys m k s a v = if (decide (m < 400) && Pl.accOk k s a v C) = true then ys ++ [k, s, a, v, C] else ys) := hide (by
      have h := HLOG.out; rw [e2] at h; rw [HC.out, h]; unfold Pl.nl; rw [e2]; rfl)
    clear hc' e1 e2
    go_wp2_with fail
    rw [← hX]
    clear hX
    refine (note X b base g2 w.heap.size xs ys m cu k s a v C BX.out HX.out OX.out hb n2 lb hg1 bm (by omega) (by have := HV.out; rw [E2.out] at this; omega) _ _ HM.out HY.out).mono ?_
    rintro e w4 ⟨g3, c3, rfl, hb4, ho4, hn4, hk4⟩
    have Q4 := QX.out.kept hk4 (by omega)
    have B4 := hide hb4
    have O4 := hide ho4
    have K4 := hide (kept_down KX.out hk4)
    have y0 := Q4.cell (i := 0) rfl
    have y3 := Q4.cell (i := 3) rfl
    have y4 := Q4.cell (i := 4) rfl
    clear hb4 ho4 hk4 Q4
    cases hk2 : (k == 2)
    · have E3 : Hid (v = T) := hide (by rw [HT.out, if_neg (by simpa using hk2), E2.out])
      go_wp2_with fail
      go_quiet (fail)
      go_wp2_with fail
      go_ret2
      exact ⟨g3, c3, rII E3.out HC.out, by rw [E1.out]; exact B4.out, O4.out, hn4, kept_drewN K4.out _⟩
    · have E3 : Hid (0 = T) := hide (by rw [HT.out, if_pos (by simpa using hk2)])
      go_wp2_with fail
      go_quiet (fail)
      go_wp2_with fail
      go_ret2
      exact ⟨g3, c3, rII E3.out HC.out, by rw [E1.out]; exact B4.out, O4.out, hn4, kept_drewN K4.out _⟩
  · have hc' : Pl.code k s a = 0 := by rw [← HC.out]; simpa using hc
    have HC0 := hide hc'
    have HNL : Hid ((Pl.nb xs k s a v).length = 512) := hide (by rw [Pl.nb_len]; exact HX.out)
    have HM : Hid (Pl.nm m k s a = if (decide (m < 400) && Pl.accOk k s a (Pl.lv xs k s a v) C) = true then m + 1 else m) := hide (by
      have h := HLOG.out; rw [HC.out, h]; rfl)
    have HY : Hid (Pl.nl xs ys m k s a v = if (decide (m < 400) && Pl.accOk k s a (Pl.lv xs k s a v) C) = true then ys ++ [k, s, a, Pl.lv xs k s a v, C] else ys) := hide (by
      have h := HLOG.out; rw [HC.out, h]; unfold Pl.nl; rfl)
    clear hc'
    go_wp2_with fail
    rw [← hX]
    clear hX
    refine (carryOut X b w.heap.size base g2 xs ys m cu k s a v C BX.out QX.out HX.out HBY.out OX.out hb (by omega) (by omega) n2 (by omega) HASK.out HC0.out).mono ?_
    rintro e w3 ⟨rfl, hb3, hq3, ho3, hk3⟩
    have B3 := hide hb3
    have O3 := hide ho3
    have K3 := hide (kept_down KX.out hk3)
    have Q3 := hide hq3
    have z0 := hq3.cell (i := 0) rfl
    have z1 := hq3.cell (i := 1) rfl
    have z2 := hq3.cell (i := 2) rfl
    have z3 := hq3.cell (i := 3) rfl
    have z4 := hq3.cell (i := 4) rfl
    clear hb3 ho3 hk3 hq3
    go_wp2_with fail
    clear z0 z1 z2 z3 z4
    refine (note w3 b base g2 w.heap.size (Pl.nb xs k s a v) ys m cu k s a (Pl.lv xs k s a v) C B3.out HNL.out O3.out hb n2 lb hg1 bm (by have := HV.out; omega) (by have := HV.out; omega) _ _ HM.out HY.out).mono ?_
    rintro e w4 ⟨g3, c3, rfl, hb4, ho4, hn4, hk4⟩
    have Q4 := Q3.out.kept hk4 (by omega)
    have B4 := hide hb4
    have O4 := hide ho4
    have K4 := hide (kept_down2 K3.out hk4)
    have y0 := Q4.cell (i := 0) rfl
    have y3 := Q4.cell (i := 3) rfl
    have y4 := Q4.cell (i := 4) rfl
    clear hb4 ho4 hk4 Q4
    cases hk2 : (k == 2)
    · have E3 : Hid (Pl.lv xs k s a v = T) := hide (by rw [HT.out, if_neg (by simpa using hk2)])
      go_wp2_with fail
      go_quiet (fail)
      go_wp2_with fail
      go_ret2
      exact ⟨g3, c3, rII E3.out HC.out, B4.out, O4.out, hn4, kept_drewN K4.out _⟩
    · have E3 : Hid (0 = T) := hide (by rw [HT.out, if_pos (by simpa using hk2)])
      go_wp2_with fail
      go_quiet (fail)
      go_wp2_with fail
      go_ret2
      exact ⟨g3, c3, rII E3.out HC.out, B4.out, O4.out, hn4, kept_drewN K4.out _⟩
end Go.Proofs.Ytbkafdphagmgpaa
