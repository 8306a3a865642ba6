/- What the model of an access does to a bus of its own: what is written. -/
import Derived.Test.YtbkafdphagmgpaaSpecTchA
import Derived.Deep.AppendLies
namespace Go.Proofs.Ytbkafdphagmgpaa
open Go.RowKit
set_option linter.unusedVariables false

set_option maxRecDepth 100000 in
set_option maxHeartbeats 8000000 in
theorem l4Touch_B1 (w : World) (p base g1 g2 : Nat) (xs ys : List Int) (c1 m c2 : Nat) (n : Nat) (v : Int) (hP : Blk w p #[.slice (some ⟨g1, 0, none⟩) 512 c1, .slice (some ⟨g2, 0, none⟩) m c2] 25) (h1 : Own w g1 xs) (lx : xs.length = 512) (hby : Pl.bytesOk xs = true)
    (hO : w.ownsRow base 61 5 (.slice (some ⟨g2, 0, none⟩) m c2) m (ys.map (Value.int .i64))) (hp : base ≤ p) (hg : base ≤ g1) (n1 : p ≠ g1) (n2 : p ≠ g2) (n3 : g1 ≠ g2) (bm : m ≤ 400) (HC : Hid (0 = Pl.code 2 1 n)) (hn : n + 1 ≤ 512) (v0 : 0 ≤ v) (v1 : v ≤ 255) :
    Calls Try.prog 48 #[.pointer (some ⟨p, 0, none⟩), .int .i64 2, .int .i64 1, .int .i64 n, .int .i64 v] w fun e w' => ∃ g3 c3 : Nat, e = .returned (.tuple #[.int .i64 (Pl.lv xs 2 1 n v), .int .i64 (Pl.code 2 1 n)]) ∧
      Blk w' p #[.slice (some ⟨g1, 0, none⟩) 512 c1, .slice (some ⟨g3, 0, none⟩) (Pl.nm m 2 1 n) c3] 25 ∧ Own w' g1 (Pl.nb xs 2 1 n v) ∧ Own w' g3 (Pl.nl xs ys m 2 1 n v) ∧ Kept base w.heap.size w w' := by
  obtain ⟨i, hi0, hz0, hz1, hz2⟩ := info_parts Try.infoAcc
  have E1 : Hid (xs.set n v = Pl.nb xs 2 1 n v) := hide (by unfold Pl.nb; rw [if_pos ⟨HC.out.symm, rfl⟩]; rfl)
  have E2 : Hid (v = Pl.lv xs 2 1 n v) := hide (by unfold Pl.lv; rw [if_neg (by simp)])
  have t0 := hP.cell (i := 0) rfl
  have t1 := hP.cell (i := 1) rfl
  have i0 : (0 : Int) ≤ (n : Int) := by omega
  have i1 : (n : Int) < 512 := by omega
  have e255 : bits .and .i64 v 255 = v := by rw [Pl.and255]; omega
  obtain ⟨c0, f0⟩ := h1 n (by omega)
  go_enter Try.func48, Try.ntmps48
  go_wp2_with (go_at_call 53; refine (l4Code 2 1 n _ (by omega) (by omega) (by omega) (by omega)).mono ?_; rintro e w1 ⟨rfl, hw⟩; have hw2 := hw.symm; clear hw; subst hw2; rw [← HC.out])
  go_loopw [13, 14] (fun x j wr => x = .int .i64 v ∧ ((j = .int .i64 0 ∧ wr = w) ∨ (j = .int .i64 1 ∧ Blk wr p #[.slice (some ⟨g1, 0, none⟩) 512 c1, .slice (some ⟨g2, 0, none⟩) m c2] 25 ∧ Own wr g1 (xs.set n v) ∧ wr.ownsRow base 61 5 (.slice (some ⟨g2, 0, none⟩) m c2) m (ys.map (Value.int .i64)) ∧ Kept g1 (g1 + 1) w wr))) (fun _ j _ => (3 - intOf j).toNat)
  case atStart => exact ⟨rfl, .inl ⟨rfl, rfl⟩⟩
  case round =>
    obtain ⟨rfl, hrel⟩ := hrel
    rcases hrel with ⟨rfl, hw⟩ | ⟨rfl, hp1, ho1, hr1, hk1⟩
    · have hw2 := hw.symm
      clear hw
      subst hw2
      go_wp2
      go_roundw
      case rel => exact ⟨rfl, .inr ⟨by go_num, hP.other _ _ _ n1, h1.set_el _, hO.kept (grownBy_set _ _ _ _) (.inr (fun e => by have h3 : g2 = g1 := Option.some.inj e; omega)), kept_set (Kept.refl _ _ _) _ _ _ (.inl (by omega))⟩⟩
      case measure => simp [intOf]
    · clear t0 t1 c0 f0
      have PX := hide hp1
      have EX := hide ho1
      have OX := hide hr1
      have lg := h1.lt (by rw [lx]; decide)
      have KX : Hid (Kept base w.heap.size w wr) := hide (hk1.wide (by omega))
      have NLEN : (xs.set n v).length = 512 := by simp [lx]
      have t0 := hp1.cell (i := 0) rfl
      have t1 := hp1.cell (i := 1) rfl
      clear hp1 ho1 hr1 hk1 hP h1 hO lg
      cases gm : decide ((m : Int) < 400)
      · have HL : Hid (Pl.logs m 2 1 n = false) := hide (Pl.logs_at HC.out gm rfl rfl)
        have hnm : Hid (Pl.nm m 2 1 n = m) := hide (by unfold Pl.nm; rw [HL.out]; rfl)
        have hnl : Hid (Pl.nl xs ys m 2 1 n v = ys) := hide (by unfold Pl.nl; rw [HL.out]; rfl)
        skip
        go_wp2_with fail
        go_ret2
        exact ⟨g2, c2, rII E2.out HC.out, by rw [hnm.out]; exact PX.out, by rw [← E1.out]; exact EX.out, by rw [hnl.out]; exact own_of_row5 OX.out, KX.out⟩
      · have HL : Hid (Pl.logs m 2 1 n = true) := hide (Pl.logs_at HC.out gm rfl rfl)
        have H63 : Hid (m + 1 ≤ maxLen) := hide (by unfold maxLen; simp at gm; omega)
        have HBT : Hid ((m + 1) * 40 ≤ 140737488355328) := hide (by simp at gm; omega)
        have hnm : Hid (Pl.nm m 2 1 n = m + 1) := hide (by unfold Pl.nm; rw [HL.out]; rfl)
        have hnl : Hid (Pl.nl xs ys m 2 1 n v = ys ++ ([2, 1, (n : Int), v, 0] : List Int)) := hide (by unfold Pl.nl; rw [HL.out, ← HC.out, ← E2.out]; rfl)
        skip
        go_wp2_with (first | (at_builtin; refine wpList_append_lies _ rfl _ _ _ rfl base 61 i _ 5 40 Try.underlying23 hi0 hz0 hz1 hz2 rfl (by omega) (.slice (some ⟨g2, 0, none⟩) m c2) m (ys.map (Value.int .i64)) rfl (OX.out.alloc _) ⟨wr.heap.size, 0, none⟩ 1 1 [.int .i64 2, .int .i64 1, .int .i64 n, .int .i64 v, .int .i64 0] rfl rfl (World.news_of_block (cs := #[.int .i64 2, .int .i64 1, .int .i64 n, .int .i64 v, .int .i64 0]) (t := 61) (fr := (0, 0)) (heap_alloc_new wr _)) (by simp [Value.oneCell']) (by omega) H63.out HBT.out (by have := PX.out.lt; simp; omega) (wr.heap.size + 1) (by simp) ?_))
        intro g3 c3 w1 hown1 hgrow hat hlt
        have lp := PX.out.lt
        have lg := EX.out.lt (by rw [NLEN]; decide)
        obtain ⟨lg2, lg3⟩ := OX.out.lt g2 rfl
        have P1 : Hid (Blk w1 p #[.slice (some ⟨g1, 0, none⟩) 512 c1, .slice (some ⟨g2, 0, none⟩) m c2] 25) := hide ((hgrow.block p (by simp; omega) (by simp [Value.ownBlock]; omega)).trans (PX.out.alloc _))
        have G1 : Hid (Own w1 g1 (xs.set n v)) := hide ((EX.out.keptS (kept_alloc _ _) (by omega)).kept hgrow (by simp [Value.ownBlock]; omega))
        have y0 := P1.out.cell (i := 0) rfl
        have y1 := P1.out.cell (i := 1) rfl
        have f1 := P1.out.frozen 1
        have O1 := hide hown1
        have K1 : Hid (Kept base w.heap.size w w1) := hide (kept_down2 (kept_new KX.out _) (kept_row (lo := base) (hi := wr.heap.size) hgrow (by intro g hg; have h2 : g2 = g := Option.some.inj hg; omega)))
        have hat2 : g2 = g3 ∨ g3 = wr.heap.size + 1 := by
          rcases hat with h | h
          · exact .inl (Option.some.inj h)
          · exact .inr h
        clear hown1 hgrow hat
        go_wp2_with fail
        go_ret2
        refine ⟨g3, c3, rII E2.out HC.out, by rw [hnm.out]; exact P1.out.set 1 _, by rw [← E1.out]; exact G1.out.setOther _ _ _ (by omega), ?_, kept_set K1.out _ _ _ (by omega)⟩
        rw [hnl.out]
        have h := own_of_row5 (xs := ys ++ ([2, 1, (n : Int), v, 0] : List Int)) (by rw [List.map_append]; exact O1.out)
        exact h.setOther _ _ _ (by omega)

set_option maxRecDepth 100000 in
set_option maxHeartbeats 8000000 in
theorem l4Touch_B2 (w : World) (p base g1 g2 : Nat) (xs ys : List Int) (c1 m c2 : Nat) (n : Nat) (v : Int) (hP : Blk w p #[.slice (some ⟨g1, 0, none⟩) 512 c1, .slice (some ⟨g2, 0, none⟩) m c2] 25) (h1 : Own w g1 xs) (lx : xs.length = 512) (hby : Pl.bytesOk xs = true)
    (hO : w.ownsRow base 61 5 (.slice (some ⟨g2, 0, none⟩) m c2) m (ys.map (Value.int .i64))) (hp : base ≤ p) (hg : base ≤ g1) (n1 : p ≠ g1) (n2 : p ≠ g2) (n3 : g1 ≠ g2) (bm : m ≤ 400) (HC : Hid (0 = Pl.code 2 2 n)) (hn : n + 2 ≤ 512) (v0 : 0 ≤ v) (v1 : v ≤ 65535) :
    Calls Try.prog 48 #[.pointer (some ⟨p, 0, none⟩), .int .i64 2, .int .i64 2, .int .i64 n, .int .i64 v] w fun e w' => ∃ g3 c3 : Nat, e = .returned (.tuple #[.int .i64 (Pl.lv xs 2 2 n v), .int .i64 (Pl.code 2 2 n)]) ∧
      Blk w' p #[.slice (some ⟨g1, 0, none⟩) 512 c1, .slice (some ⟨g3, 0, none⟩) (Pl.nm m 2 2 n) c3] 25 ∧ Own w' g1 (Pl.nb xs 2 2 n v) ∧ Own w' g3 (Pl.nl xs ys m 2 2 n v) ∧ Kept base w.heap.size w w' := by
  obtain ⟨i, hi0, hz0, hz1, hz2⟩ := info_parts Try.infoAcc
  have E1 : Hid ((xs.set n (v / 256)).set (n + 1) (v % 256) = Pl.nb xs 2 2 n v) := hide (by unfold Pl.nb; rw [if_pos ⟨HC.out.symm, rfl⟩]; rfl)
  have E2 : Hid (v = Pl.lv xs 2 2 n v) := hide (by unfold Pl.lv; rw [if_neg (by simp)])
  have t0 := hP.cell (i := 0) rfl
  have t1 := hP.cell (i := 1) rfl
  have i0 : (0 : Int) ≤ (n : Int) := by omega
  have i1 : (n : Int) < 512 := by omega
  have e255 := Pl.and255 v
  have e256 : bits .and .i64 (v / 256) 255 = v / 256 := by rw [Pl.and255]; omega
  have i2 : (0 : Int) ≤ (n : Int) + 1 := by omega
  have i3 : (n : Int) + 1 < 512 := by omega
  obtain ⟨c0, f0⟩ := h1 n (by omega)
  go_enter Try.func48, Try.ntmps48
  go_wp2_with (go_at_call 53; refine (l4Code 2 2 n _ (by omega) (by omega) (by omega) (by omega)).mono ?_; rintro e w1 ⟨rfl, hw⟩; have hw2 := hw.symm; clear hw; subst hw2; rw [← HC.out])
  go_loopw [13, 14] (fun x j wr => x = .int .i64 v ∧ ((j = .int .i64 0 ∧ wr = w) ∨ (j = .int .i64 1 ∧ Blk wr p #[.slice (some ⟨g1, 0, none⟩) 512 c1, .slice (some ⟨g2, 0, none⟩) m c2] 25 ∧ Own wr g1 (xs.set n (v / 256)) ∧ wr.ownsRow base 61 5 (.slice (some ⟨g2, 0, none⟩) m c2) m (ys.map (Value.int .i64)) ∧ Kept g1 (g1 + 1) w wr) ∨ (j = .int .i64 2 ∧ Blk wr p #[.slice (some ⟨g1, 0, none⟩) 512 c1, .slice (some ⟨g2, 0, none⟩) m c2] 25 ∧ Own wr g1 ((xs.set n (v / 256)).set (n + 1) (v % 256)) ∧ wr.ownsRow base 61 5 (.slice (some ⟨g2, 0, none⟩) m c2) m (ys.map (Value.int .i64)) ∧ Kept g1 (g1 + 1) w wr))) (fun _ j _ => (3 - intOf j).toNat)
  case atStart => exact ⟨rfl, .inl ⟨rfl, rfl⟩⟩
  case round =>
    obtain ⟨rfl, hrel⟩ := hrel
    rcases hrel with ⟨rfl, hw⟩ | ⟨rfl, hp1, ho1, hr1, hk1⟩ | ⟨rfl, hp1, ho1, hr1, hk1⟩
    · have hw2 := hw.symm
      clear hw
      subst hw2
      go_wp2
      go_roundw
      case rel => exact ⟨rfl, .inr (.inl ⟨by go_num, hP.other _ _ _ n1, h1.set_el _, hO.kept (grownBy_set _ _ _ _) (.inr (fun e => by have h3 : g2 = g1 := Option.some.inj e; omega)), kept_set (Kept.refl _ _ _) _ _ _ (.inl (by omega))⟩)⟩
      case measure => simp [intOf]
    · obtain ⟨c1', f1'⟩ := ho1 (n + 1) (by rw [List.length_set]; omega)
      have P1 := hide hp1
      have O1 := hide ho1
      have R1 := hide hr1
      have K1 := hide hk1
      have s0 := hp1.cell (i := 0) rfl
      have s1 := hp1.cell (i := 1) rfl
      clear hp1 ho1 hr1 hk1 c0 f0 t0 t1
      go_wp2
      go_roundw
      case rel => exact ⟨rfl, .inr (.inr ⟨by go_num, P1.out.other _ _ _ n1, O1.out.set_el _, R1.out.kept (grownBy_set _ _ _ _) (.inr (fun e => by have h3 : g2 = g1 := Option.some.inj e; omega)), kept_set K1.out _ _ _ (.inl (by omega))⟩)⟩
      case measure => simp [intOf]
    · clear t0 t1 c0 f0
      have PX := hide hp1
      have EX := hide ho1
      have OX := hide hr1
      have lg := h1.lt (by rw [lx]; decide)
      have KX : Hid (Kept base w.heap.size w wr) := hide (hk1.wide (by omega))
      have NLEN : ((xs.set n (v / 256)).set (n + 1) (v % 256)).length = 512 := by simp [lx]
      have t0 := hp1.cell (i := 0) rfl
      have t1 := hp1.cell (i := 1) rfl
      clear hp1 ho1 hr1 hk1 hP h1 hO lg
      cases gm : decide ((m : Int) < 400)
      · have HL : Hid (Pl.logs m 2 2 n = false) := hide (Pl.logs_at HC.out gm rfl rfl)
        have hnm : Hid (Pl.nm m 2 2 n = m) := hide (by unfold Pl.nm; rw [HL.out]; rfl)
        have hnl : Hid (Pl.nl xs ys m 2 2 n v = ys) := hide (by unfold Pl.nl; rw [HL.out]; rfl)
        skip
        go_wp2_with fail
        go_ret2
        exact ⟨g2, c2, rII E2.out HC.out, by rw [hnm.out]; exact PX.out, by rw [← E1.out]; exact EX.out, by rw [hnl.out]; exact own_of_row5 OX.out, KX.out⟩
      · have HL : Hid (Pl.logs m 2 2 n = true) := hide (Pl.logs_at HC.out gm rfl rfl)
        have H63 : Hid (m + 1 ≤ maxLen) := hide (by unfold maxLen; simp at gm; omega)
        have HBT : Hid ((m + 1) * 40 ≤ 140737488355328) := hide (by simp at gm; omega)
        have hnm : Hid (Pl.nm m 2 2 n = m + 1) := hide (by unfold Pl.nm; rw [HL.out]; rfl)
        have hnl : Hid (Pl.nl xs ys m 2 2 n v = ys ++ ([2, 2, (n : Int), v, 0] : List Int)) := hide (by unfold Pl.nl; rw [HL.out, ← HC.out, ← E2.out]; rfl)
        skip
        go_wp2_with (first | (at_builtin; refine wpList_append_lies _ rfl _ _ _ rfl base 61 i _ 5 40 Try.underlying23 hi0 hz0 hz1 hz2 rfl (by omega) (.slice (some ⟨g2, 0, none⟩) m c2) m (ys.map (Value.int .i64)) rfl (OX.out.alloc _) ⟨wr.heap.size, 0, none⟩ 1 1 [.int .i64 2, .int .i64 2, .int .i64 n, .int .i64 v, .int .i64 0] rfl rfl (World.news_of_block (cs := #[.int .i64 2, .int .i64 2, .int .i64 n, .int .i64 v, .int .i64 0]) (t := 61) (fr := (0, 0)) (heap_alloc_new wr _)) (by simp [Value.oneCell']) (by omega) H63.out HBT.out (by have := PX.out.lt; simp; omega) (wr.heap.size + 1) (by simp) ?_))
        intro g3 c3 w1 hown1 hgrow hat hlt
        have lp := PX.out.lt
        have lg := EX.out.lt (by rw [NLEN]; decide)
        obtain ⟨lg2, lg3⟩ := OX.out.lt g2 rfl
        have P1 : Hid (Blk w1 p #[.slice (some ⟨g1, 0, none⟩) 512 c1, .slice (some ⟨g2, 0, none⟩) m c2] 25) := hide ((hgrow.block p (by simp; omega) (by simp [Value.ownBlock]; omega)).trans (PX.out.alloc _))
        have G1 : Hid (Own w1 g1 ((xs.set n (v / 256)).set (n + 1) (v % 256))) := hide ((EX.out.keptS (kept_alloc _ _) (by omega)).kept hgrow (by simp [Value.ownBlock]; omega))
        have y0 := P1.out.cell (i := 0) rfl
        have y1 := P1.out.cell (i := 1) rfl
        have f1 := P1.out.frozen 1
        have O1 := hide hown1
        have K1 : Hid (Kept base w.heap.size w w1) := hide (kept_down2 (kept_new KX.out _) (kept_row (lo := base) (hi := wr.heap.size) hgrow (by intro g hg; have h2 : g2 = g := Option.some.inj hg; omega)))
        have hat2 : g2 = g3 ∨ g3 = wr.heap.size + 1 := by
          rcases hat with h | h
          · exact .inl (Option.some.inj h)
          · exact .inr h
        clear hown1 hgrow hat
        go_wp2_with fail
        go_ret2
        refine ⟨g3, c3, rII E2.out HC.out, by rw [hnm.out]; exact P1.out.set 1 _, by rw [← E1.out]; exact G1.out.setOther _ _ _ (by omega), ?_, kept_set K1.out _ _ _ (by omega)⟩
        rw [hnl.out]
        have h := own_of_row5 (xs := ys ++ ([2, 2, (n : Int), v, 0] : List Int)) (by rw [List.map_append]; exact O1.out)
        exact h.setOther _ _ _ (by omega)

end Go.Proofs.Ytbkafdphagmgpaa
