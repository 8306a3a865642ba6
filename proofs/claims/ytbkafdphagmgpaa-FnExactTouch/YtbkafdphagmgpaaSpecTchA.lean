/- What the model of an access does to a bus of its own: with a code other than BusOk. -/
import Derived.Test.YtbkafdphagmgpaaSpecTch
import Derived.Deep.AppendLies
namespace Go.Proofs.Ytbkafdphagmgpaa
open Go.RowKit
set_option linter.unusedVariables false

theorem Pl.logs_at {m : Nat} {k s a C : Int} (hC : C = Pl.code k s a) {b1 b2 b3 : Bool} (h1 : decide ((m : Int) < 400) = b1) (h2 : (k != 3) = b2) (h3 : (C != 0) = b3) : Pl.logs m k s a = (b1 && (b2 || b3)) := by
  have e : decide (m < 400) = decide ((m : Int) < 400) := by rw [Bool.eq_iff_iff]; simp; omega
  unfold Pl.logs
  rw [← hC, h2, h3, e, h1]

set_option maxRecDepth 100000 in
set_option maxHeartbeats 8000000 in
theorem l4Touch_A1 (w : World) (p base g1 g2 : Nat) (xs ys : List Int) (c1 m c2 : Nat) (k s a C : Int) (hP : Blk w p #[.slice (some ⟨g1, 0, none⟩) 512 c1, .slice (some ⟨g2, 0, none⟩) m c2] 25) (h1 : Own w g1 xs) (lx : xs.length = 512) (hby : Pl.bytesOk xs = true)
    (hO : w.ownsRow base 61 5 (.slice (some ⟨g2, 0, none⟩) m c2) m (ys.map (Value.int .i64))) (hp : base ≤ p) (hg : base ≤ g1) (n1 : p ≠ g1) (n2 : p ≠ g2) (n3 : g1 ≠ g2) (bm : m ≤ 400) (HC : Hid (C = Pl.code k s a)) (hc : (C == 0) = false) (hs1 : 1 ≤ s) (hs2 : s ≤ 2) (a0 : 0 ≤ a) (a1 : a ≤ 65535) (hk : (k != 2) = true) :
    Calls Try.prog 48 #[.pointer (some ⟨p, 0, none⟩), .int .i64 k, .int .i64 s, .int .i64 a, .int .i64 0] w fun e w' => ∃ g3 c3 : Nat, e = .returned (.tuple #[.int .i64 (Pl.lv xs k s a 0), .int .i64 (Pl.code k s a)]) ∧
      Blk w' p #[.slice (some ⟨g1, 0, none⟩) 512 c1, .slice (some ⟨g3, 0, none⟩) (Pl.nm m k s a) c3] 25 ∧ Own w' g1 (Pl.nb xs k s a 0) ∧ Own w' g3 (Pl.nl xs ys m k s a 0) ∧ Kept base w.heap.size w w' := by
  obtain ⟨i, hi0, hz0, hz1, hz2⟩ := info_parts Try.infoAcc
  have hcode : ¬ Pl.code k s a = 0 := by rw [← HC.out]; simpa using hc
  have E1 : Hid (xs = Pl.nb xs k s a 0) := hide (by unfold Pl.nb; rw [if_neg (fun h => hcode h.1)])
  have E2 : Hid (0 = Pl.lv xs k s a 0) := hide (by unfold Pl.lv; rw [if_neg (fun h => hcode h.1)])
  clear hcode
  have PX := hide hP
  have EX := hide h1
  have OX := hide hO
  have KX := hide (Kept.refl base w.heap.size w)
  have NLEN := lx
  have t0 := hP.cell (i := 0) rfl
  have t1 := hP.cell (i := 1) rfl
  clear hP h1 hO lx hby
  have g4 : (C != 0) = true := by simpa using hc
  cases gm : decide ((m : Int) < 400)
  · cases g3 : (k != 3)
    · have HL : Hid (Pl.logs m k s a = false) := hide (Pl.logs_at HC.out gm g3 g4)
      have hnm : Hid (Pl.nm m k s a = m) := hide (by unfold Pl.nm; rw [HL.out]; rfl)
      have hnl : Hid (Pl.nl xs ys m k s a 0 = ys) := hide (by unfold Pl.nl; rw [HL.out]; rfl)
      go_enter Try.func48, Try.ntmps48
      go_wp2_with (go_at_call 53; refine (l4Code k s a _ hs1 hs2 a0 a1).mono ?_; rintro e w1 ⟨rfl, hw⟩; have hw2 := hw.symm; clear hw; subst hw2; rw [← HC.out])
      go_ret2
      exact ⟨g2, c2, rII E2.out HC.out, by rw [hnm.out]; exact PX.out, by rw [← E1.out]; exact EX.out, by rw [hnl.out]; exact own_of_row5 OX.out, KX.out⟩
    · have HL : Hid (Pl.logs m k s a = false) := hide (Pl.logs_at HC.out gm g3 g4)
      have hnm : Hid (Pl.nm m k s a = m) := hide (by unfold Pl.nm; rw [HL.out]; rfl)
      have hnl : Hid (Pl.nl xs ys m k s a 0 = ys) := hide (by unfold Pl.nl; rw [HL.out]; rfl)
      go_enter Try.func48, Try.ntmps48
      go_wp2_with (go_at_call 53; refine (l4Code k s a _ hs1 hs2 a0 a1).mono ?_; rintro e w1 ⟨rfl, hw⟩; have hw2 := hw.symm; clear hw; subst hw2; rw [← HC.out])
      go_ret2
      exact ⟨g2, c2, rII E2.out HC.out, by rw [hnm.out]; exact PX.out, by rw [← E1.out]; exact EX.out, by rw [hnl.out]; exact own_of_row5 OX.out, KX.out⟩
  · cases g3 : (k != 3)
    · have HL : Hid (Pl.logs m k s a = true) := hide (Pl.logs_at HC.out gm g3 g4)
      have H63 : Hid (m + 1 ≤ maxLen) := hide (by unfold maxLen; simp at gm; omega)
      have HBT : Hid ((m + 1) * 40 ≤ 140737488355328) := hide (by simp at gm; omega)
      have hnm : Hid (Pl.nm m k s a = m + 1) := hide (by unfold Pl.nm; rw [HL.out]; rfl)
      have hnl : Hid (Pl.nl xs ys m k s a 0 = ys ++ ([k, s, (a : Int), 0, C] : List Int)) := hide (by unfold Pl.nl; rw [HL.out, ← HC.out, ← E2.out]; rfl)
      go_enter Try.func48, Try.ntmps48
      go_wp2_with (first | (go_at_call 53; refine (l4Code k s a _ hs1 hs2 a0 a1).mono ?_; rintro e w9 ⟨rfl, hw⟩; have hw2 := hw.symm; clear hw; subst hw2; rw [← HC.out]) | (at_builtin; refine wpList_append_lies _ rfl _ _ _ rfl base 61 i _ 5 40 Try.underlying23 hi0 hz0 hz1 hz2 rfl (by omega) (.slice (some ⟨g2, 0, none⟩) m c2) m (ys.map (Value.int .i64)) rfl (OX.out.alloc _) ⟨w.heap.size, 0, none⟩ 1 1 [.int .i64 k, .int .i64 s, .int .i64 a, .int .i64 0, .int .i64 C] rfl rfl (World.news_of_block (cs := #[.int .i64 k, .int .i64 s, .int .i64 a, .int .i64 0, .int .i64 C]) (t := 61) (fr := (0, 0)) (heap_alloc_new w _)) (by simp [Value.oneCell']) (by omega) H63.out HBT.out (by have := PX.out.lt; simp; omega) (w.heap.size + 1) (by simp) ?_))
      intro g3 c3 w1 hown1 hgrow hat hlt
      have lp := PX.out.lt
      have lg := EX.out.lt (by rw [NLEN]; decide)
      obtain ⟨lg2, lg3⟩ := OX.out.lt g2 rfl
      have P1 : Hid (Blk w1 p #[.slice (some ⟨g1, 0, none⟩) 512 c1, .slice (some ⟨g2, 0, none⟩) m c2] 25) := hide ((hgrow.block p (by simp; omega) (by simp [Value.ownBlock]; omega)).trans (PX.out.alloc _))
      have G1 : Hid (Own w1 g1 xs) := hide ((EX.out.keptS (kept_alloc _ _) (by omega)).kept hgrow (by simp [Value.ownBlock]; omega))
      have y0 := P1.out.cell (i := 0) rfl
      have y1 := P1.out.cell (i := 1) rfl
      have f1 := P1.out.frozen 1
      have O1 := hide hown1
      have K1 : Hid (Kept base w.heap.size w w1) := hide (kept_down2 (kept_new KX.out _) (kept_row (lo := base) (hi := w.heap.size) hgrow (by intro g hg; have h2 : g2 = g := Option.some.inj hg; omega)))
      have hat2 : g2 = g3 ∨ g3 = w.heap.size + 1 := by
        rcases hat with h | h
        · exact .inl (Option.some.inj h)
        · exact .inr h
      clear hown1 hgrow hat
      go_wp2_with fail
      go_ret2
      refine ⟨g3, c3, rII E2.out HC.out, by rw [hnm.out]; exact P1.out.set 1 _, by rw [← E1.out]; exact G1.out.setOther _ _ _ (by omega), ?_, kept_set K1.out _ _ _ (by omega)⟩
      rw [hnl.out]
      have h := own_of_row5 (xs := ys ++ ([k, s, (a : Int), 0, C] : List Int)) (by rw [List.map_append]; exact O1.out)
      exact h.setOther _ _ _ (by omega)
    · have HL : Hid (Pl.logs m k s a = true) := hide (Pl.logs_at HC.out gm g3 g4)
      have H63 : Hid (m + 1 ≤ maxLen) := hide (by unfold maxLen; simp at gm; omega)
      have HBT : Hid ((m + 1) * 40 ≤ 140737488355328) := hide (by simp at gm; omega)
      have hnm : Hid (Pl.nm m k s a = m + 1) := hide (by unfold Pl.nm; rw [HL.out]; rfl)
      have hnl : Hid (Pl.nl xs ys m k s a 0 = ys ++ ([k, s, (a : Int), 0, C] : List Int)) := hide (by unfold Pl.nl; rw [HL.out, ← HC.out, ← E2.out]; rfl)
      go_enter Try.func48, Try.ntmps48
      go_wp2_with (first | (go_at_call 53; refine (l4Code k s a _ hs1 hs2 a0 a1).mono ?_; rintro e w9 ⟨rfl, hw⟩; have hw2 := hw.symm; clear hw; subst hw2; rw [← HC.out]) | (at_builtin; refine wpList_append_lies _ rfl _ _ _ rfl base 61 i _ 5 40 Try.underlying23 hi0 hz0 hz1 hz2 rfl (by omega) (.slice (some ⟨g2, 0, none⟩) m c2) m (ys.map (Value.int .i64)) rfl (OX.out.alloc _) ⟨w.heap.size, 0, none⟩ 1 1 [.int .i64 k, .int .i64 s, .int .i64 a, .int .i64 0, .int .i64 C] rfl rfl (World.news_of_block (cs := #[.int .i64 k, .int .i64 s, .int .i64 a, .int .i64 0, .int .i64 C]) (t := 61) (fr := (0, 0)) (heap_alloc_new w _)) (by simp [Value.oneCell']) (by omega) H63.out HBT.out (by have := PX.out.lt; simp; omega) (w.heap.size + 1) (by simp) ?_))
      intro g3 c3 w1 hown1 hgrow hat hlt
      have lp := PX.out.lt
      have lg := EX.out.lt (by rw [NLEN]; decide)
      obtain ⟨lg2, lg3⟩ := OX.out.lt g2 rfl
      have P1 : Hid (Blk w1 p #[.slice (some ⟨g1, 0, none⟩) 512 c1, .slice (some ⟨g2, 0, none⟩) m c2] 25) := hide ((hgrow.block p (by simp; omega) (by simp [Value.ownBlock]; omega)).trans (PX.out.alloc _))
      have G1 : Hid (Own w1 g1 xs) := hide ((EX.out.keptS (kept_alloc _ _) (by omega)).kept hgrow (by simp [Value.ownBlock]; omega))
      have y0 := P1.out.cell (i := 0) rfl
      have y1 := P1.out.cell (i := 1) rfl
      have f1 := P1.out.frozen 1
      have O1 := hide hown1
      have K1 : Hid (Kept base w.heap.size w w1) := hide (kept_down2 (kept_new KX.out _) (kept_row (lo := base) (hi := w.heap.size) hgrow (by intro g hg; have h2 : g2 = g := Option.some.inj hg; omega)))
      have hat2 : g2 = g3 ∨ g3 = w.heap.size + 1 := by
        rcases hat with h | h
        · exact .inl (Option.some.inj h)
        · exact .inr h
      clear hown1 hgrow hat
      go_wp2_with fail
      go_ret2
      refine ⟨g3, c3, rII E2.out HC.out, by rw [hnm.out]; exact P1.out.set 1 _, by rw [← E1.out]; exact G1.out.setOther _ _ _ (by omega), ?_, kept_set K1.out _ _ _ (by omega)⟩
      rw [hnl.out]
      have h := own_of_row5 (xs := ys ++ ([k, s, (a : Int), 0, C] : List Int)) (by rw [List.map_append]; exact O1.out)
      exact h.setOther _ _ _ (by omega)

set_option maxRecDepth 100000 in
set_option maxHeartbeats 8000000 in
theorem l4Touch_A2 (w : World) (p base g1 g2 : Nat) (xs ys : List Int) (c1 m c2 : Nat) (s a v C : Int) (hP : Blk w p #[.slice (some ⟨g1, 0, none⟩) 512 c1, .slice (some ⟨g2, 0, none⟩) m c2] 25) (h1 : Own w g1 xs) (lx : xs.length = 512) (hby : Pl.bytesOk xs = true)
    (hO : w.ownsRow base 61 5 (.slice (some ⟨g2, 0, none⟩) m c2) m (ys.map (Value.int .i64))) (hp : base ≤ p) (hg : base ≤ g1) (n1 : p ≠ g1) (n2 : p ≠ g2) (n3 : g1 ≠ g2) (bm : m ≤ 400) (HC : Hid (C = Pl.code 2 s a)) (hc : (C == 0) = false) (hs1 : 1 ≤ s) (hs2 : s ≤ 2) (a0 : 0 ≤ a) (a1 : a ≤ 65535) :
    Calls Try.prog 48 #[.pointer (some ⟨p, 0, none⟩), .int .i64 2, .int .i64 s, .int .i64 a, .int .i64 v] w fun e w' => ∃ g3 c3 : Nat, e = .returned (.tuple #[.int .i64 (Pl.lv xs 2 s a v), .int .i64 (Pl.code 2 s a)]) ∧
      Blk w' p #[.slice (some ⟨g1, 0, none⟩) 512 c1, .slice (some ⟨g3, 0, none⟩) (Pl.nm m 2 s a) c3] 25 ∧ Own w' g1 (Pl.nb xs 2 s a v) ∧ Own w' g3 (Pl.nl xs ys m 2 s a v) ∧ Kept base w.heap.size w w' := by
  obtain ⟨i, hi0, hz0, hz1, hz2⟩ := info_parts Try.infoAcc
  have hcode : ¬ Pl.code 2 s a = 0 := by rw [← HC.out]; simpa using hc
  have E1 : Hid (xs = Pl.nb xs 2 s a v) := hide (by unfold Pl.nb; rw [if_neg (fun h => hcode h.1)])
  have E2 : Hid (v = Pl.lv xs 2 s a v) := hide (by unfold Pl.lv; rw [if_neg (fun h => hcode h.1)])
  clear hcode
  have PX := hide hP
  have EX := hide h1
  have OX := hide hO
  have KX := hide (Kept.refl base w.heap.size w)
  have NLEN := lx
  have t0 := hP.cell (i := 0) rfl
  have t1 := hP.cell (i := 1) rfl
  clear hP h1 hO lx hby
  have g4 : (C != 0) = true := by simpa using hc
  cases gm : decide ((m : Int) < 400)
  · have HL : Hid (Pl.logs m 2 s a = false) := hide (Pl.logs_at HC.out gm rfl g4)
    have hnm : Hid (Pl.nm m 2 s a = m) := hide (by unfold Pl.nm; rw [HL.out]; rfl)
    have hnl : Hid (Pl.nl xs ys m 2 s a v = ys) := hide (by unfold Pl.nl; rw [HL.out]; rfl)
    go_enter Try.func48, Try.ntmps48
    go_wp2_with (go_at_call 53; refine (l4Code 2 s a _ hs1 hs2 a0 a1).mono ?_; rintro e w1 ⟨rfl, hw⟩; have hw2 := hw.symm; clear hw; subst hw2; rw [← HC.out])
    go_ret2
    exact ⟨g2, c2, rII E2.out HC.out, by rw [hnm.out]; exact PX.out, by rw [← E1.out]; exact EX.out, by rw [hnl.out]; exact own_of_row5 OX.out, KX.out⟩
  · have HL : Hid (Pl.logs m 2 s a = true) := hide (Pl.logs_at HC.out gm rfl g4)
    have H63 : Hid (m + 1 ≤ maxLen) := hide (by unfold maxLen; simp at gm; omega)
    have HBT : Hid ((m + 1) * 40 ≤ 140737488355328) := hide (by simp at gm; omega)
    have hnm : Hid (Pl.nm m 2 s a = m + 1) := hide (by unfold Pl.nm; rw [HL.out]; rfl)
    have hnl : Hid (Pl.nl xs ys m 2 s a v = ys ++ ([2, s, (a : Int), v, C] : List Int)) := hide (by unfold Pl.nl; rw [HL.out, ← HC.out, ← E2.out]; rfl)
    go_enter Try.func48, Try.ntmps48
    go_wp2_with (first | (go_at_call 53; refine (l4Code 2 s a _ hs1 hs2 a0 a1).mono ?_; rintro e w9 ⟨rfl, hw⟩; have hw2 := hw.symm; clear hw; subst hw2; rw [← HC.out]) | (at_builtin; refine wpList_append_lies _ rfl _ _ _ rfl base 61 i _ 5 40 Try.underlying23 hi0 hz0 hz1 hz2 rfl (by omega) (.slice (some ⟨g2, 0, none⟩) m c2) m (ys.map (Value.int .i64)) rfl (OX.out.alloc _) ⟨w.heap.size, 0, none⟩ 1 1 [.int .i64 2, .int .i64 s, .int .i64 a, .int .i64 v, .int .i64 C] rfl rfl (World.news_of_block (cs := #[.int .i64 2, .int .i64 s, .int .i64 a, .int .i64 v, .int .i64 C]) (t := 61) (fr := (0, 0)) (heap_alloc_new w _)) (by simp [Value.oneCell']) (by omega) H63.out HBT.out (by have := PX.out.lt; simp; omega) (w.heap.size + 1) (by simp) ?_))
    intro g3 c3 w1 hown1 hgrow hat hlt
    have lp := PX.out.lt
    have lg := EX.out.lt (by rw [NLEN]; decide)
    obtain ⟨lg2, lg3⟩ := OX.out.lt g2 rfl
    have P1 : Hid (Blk w1 p #[.slice (some ⟨g1, 0, none⟩) 512 c1, .slice (some ⟨g2, 0, none⟩) m c2] 25) := hide ((hgrow.block p (by simp; omega) (by simp [Value.ownBlock]; omega)).trans (PX.out.alloc _))
    have G1 : Hid (Own w1 g1 xs) := hide ((EX.out.keptS (kept_alloc _ _) (by omega)).kept hgrow (by simp [Value.ownBlock]; omega))
    have y0 := P1.out.cell (i := 0) rfl
    have y1 := P1.out.cell (i := 1) rfl
    have f1 := P1.out.frozen 1
    have O1 := hide hown1
    have K1 : Hid (Kept base w.heap.size w w1) := hide (kept_down2 (kept_new KX.out _) (kept_row (lo := base) (hi := w.heap.size) hgrow (by intro g hg; have h2 : g2 = g := Option.some.inj hg; omega)))
    have hat2 : g2 = g3 ∨ g3 = w.heap.size + 1 := by
      rcases hat with h | h
      · exact .inl (Option.some.inj h)
      · exact .inr h
    clear hown1 hgrow hat
    go_wp2_with fail
    go_ret2
    refine ⟨g3, c3, rII E2.out HC.out, by rw [hnm.out]; exact P1.out.set 1 _, by rw [← E1.out]; exact G1.out.setOther _ _ _ (by omega), ?_, kept_set K1.out _ _ _ (by omega)⟩
    rw [hnl.out]
    have h := own_of_row5 (xs := ys ++ ([2, s, (a : Int), v, C] : List Int)) (by rw [List.map_append]; exact O1.out)
    exact h.setOther _ _ _ (by omega)

end Go.Proofs.Ytbkafdphagmgpaa
