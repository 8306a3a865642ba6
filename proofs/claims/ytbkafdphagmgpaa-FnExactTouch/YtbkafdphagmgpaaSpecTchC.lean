/- What the model of an access does to a bus of its own: what is read. -/
import Derived.Test.YtbkafdphagmgpaaSpecTchB
import Derived.Deep.AppendLies
namespace Go.Proofs.Ytbkafdphagmgpaa
open Go.RowKit
set_option linter.unusedVariables false

set_option maxRecDepth 100000 in
set_option maxHeartbeats 8000000 in
theorem l4Touch_C (w : World) (p base g1 g2 : Nat) (xs ys : List Int) (c1 m c2 : Nat) (k : Int) (s n : Nat) (hP : Blk w p #[.slice (some ⟨g1, 0, none⟩) 512 c1, .slice (some ⟨g2, 0, none⟩) m c2] 25) (h1 : Own w g1 xs) (lx : xs.length = 512) (hby : Pl.bytesOk xs = true)
    (hO : w.ownsRow base 61 5 (.slice (some ⟨g2, 0, none⟩) m c2) m (ys.map (Value.int .i64))) (hp : base ≤ p) (hg : base ≤ g1) (n1 : p ≠ g1) (n2 : p ≠ g2) (n3 : g1 ≠ g2) (bm : m ≤ 400) (HC : Hid (0 = Pl.code k s n)) (hk : (k != 2) = true) (hs1 : 1 ≤ s) (hs2 : s ≤ 2) (hn : n + s ≤ 512) :
    Calls Try.prog 48 #[.pointer (some ⟨p, 0, none⟩), .int .i64 k, .int .i64 s, .int .i64 n, .int .i64 0] w fun e w' => ∃ g3 c3 : Nat, e = .returned (.tuple #[.int .i64 (Pl.lv xs k s n 0), .int .i64 (Pl.code k s n)]) ∧
      Blk w' p #[.slice (some ⟨g1, 0, none⟩) 512 c1, .slice (some ⟨g3, 0, none⟩) (Pl.nm m k s n) c3] 25 ∧ Own w' g1 (Pl.nb xs k s n 0) ∧ Own w' g3 (Pl.nl xs ys m k s n 0) ∧ Kept base w.heap.size w w' := by
  obtain ⟨i, hi0, hz0, hz1, hz2⟩ := info_parts Try.infoAcc
  have hk2 : ¬ k = 2 := by simpa using hk
  have E1 : Hid (xs = Pl.nb xs k s n 0) := hide (by unfold Pl.nb; rw [if_neg (fun h => hk2 h.2)])
  have E2 : Hid (Pl.rd xs s n = Pl.lv xs k s n 0) := hide (by unfold Pl.lv; rw [if_pos ⟨HC.out.symm, hk2⟩]; rfl)
  have hkeq : (k == 2) = false := by simpa using hk2
  have PX := hide hP
  have EX := hide h1
  have OX := hide hO
  have KX := hide (Kept.refl base w.heap.size w)
  have NLEN := lx
  have HBY := hide hby
  have t0 := hP.cell (i := 0) rfl
  have t1 := hP.cell (i := 1) rfl
  clear hP h1 hO hby hk2
  go_enter Try.func48, Try.ntmps48
  go_wp2_with (go_at_call 53; refine (l4Code k s n _ (by omega) (by omega) (by omega) (by omega)).mono ?_; rintro e w1 ⟨rfl, hw⟩; have hw2 := hw.symm; clear hw; subst hw2; rw [← HC.out])
  go_loopw [13, 14] (fun x j wr => ∃ q : Nat, q ≤ s ∧ j = .int .i64 q ∧ x = .int .i64 (Pl.rdK xs n q) ∧ wr = w) (fun _ j _ => s - (intOf j).toNat)
  case atStart => exact ⟨0, Nat.zero_le _, rfl, rfl, rfl⟩
  case round =>
    obtain ⟨q, hq, rfl, rfl, hw⟩ := hrel
    have hw2 := hw.symm
    clear hw
    subst hw2
    by_cases hlt : q < s
    · obtain ⟨hc, _⟩ := EX.out (n + q) (by omega)
      have b0 := Pl.bytesOk_at HBY.out n (by omega)
      have b1 := Pl.bytesOk_at HBY.out (n + q) (by omega)
      rw [show xs[n + q]?.getD 0 = el xs (n + q) from rfl] at hc
      obtain ⟨b00, b01⟩ := b0
      obtain ⟨b10, b11⟩ := b1
      have i0 : (0 : Int) ≤ (n : Int) + (q : Int) := by omega
      have i1 : (n : Int) + (q : Int) < 512 := by omega
      have i2 : ((n : Int) + (q : Int)).toNat = n + q := by omega
      by_cases hk0 : q = 0
      · subst hk0
        have hor := Pl.word_or (h := 0) (by decide) (by decide) b10 b11
        rw [Int.zero_mul, Int.zero_add] at hor
        rw [Nat.add_zero] at hc hor b10 b11
        rw [show Pl.rdK xs n 0 = 0 from rfl]
        go_wp2
        go_roundw
        case rel => exact ⟨1, by omega, rfl, rfl, trivial⟩
        case measure => simp [intOf]; omega
      · obtain rfl : q = 1 := by omega
        have hor := Pl.word_or b00 b01 b10 b11
        rw [show Pl.rdK xs n 1 = el xs n from rfl]
        go_wp2
        go_roundw
        case rel => exact ⟨2, by omega, rfl, rfl, trivial⟩
        case measure => simp [intOf]; omega
    · have E : Hid (Pl.rdK xs n q = Pl.rd xs s n) := hide (by
        have : q = 1 ∨ q = 2 := by omega
        unfold Pl.rdK Pl.rd
        rcases this with rfl | rfl
        · rw [if_neg (by decide), if_pos rfl, if_pos (by omega)]
        · rw [if_neg (by decide), if_neg (by decide), if_neg (by omega)])
      rw [E.out]
      clear E
      cases gm : decide ((m : Int) < 400)
      · cases g3 : (k != 3)
        · have HL : Hid (Pl.logs m k s n = false) := hide (Pl.logs_at HC.out gm g3 rfl)
          have hnm : Hid (Pl.nm m k s n = m) := hide (by unfold Pl.nm; rw [HL.out]; rfl)
          have hnl : Hid (Pl.nl xs ys m k s n 0 = ys) := hide (by unfold Pl.nl; rw [HL.out]; rfl)
          skip
          go_wp2_with fail
          go_ret2
          exact ⟨g2, c2, rII E2.out HC.out, by rw [hnm.out]; exact PX.out, by rw [← E1.out]; exact EX.out, by rw [hnl.out]; exact own_of_row5 OX.out, KX.out⟩
        · have HL : Hid (Pl.logs m k s n = false) := hide (Pl.logs_at HC.out gm g3 rfl)
          have hnm : Hid (Pl.nm m k s n = m) := hide (by unfold Pl.nm; rw [HL.out]; rfl)
          have hnl : Hid (Pl.nl xs ys m k s n 0 = ys) := hide (by unfold Pl.nl; rw [HL.out]; rfl)
          skip
          go_wp2_with fail
          go_ret2
          exact ⟨g2, c2, rII E2.out HC.out, by rw [hnm.out]; exact PX.out, by rw [← E1.out]; exact EX.out, by rw [hnl.out]; exact own_of_row5 OX.out, KX.out⟩
      · cases g3 : (k != 3)
        · have HL : Hid (Pl.logs m k s n = false) := hide (Pl.logs_at HC.out gm g3 rfl)
          have hnm : Hid (Pl.nm m k s n = m) := hide (by unfold Pl.nm; rw [HL.out]; rfl)
          have hnl : Hid (Pl.nl xs ys m k s n 0 = ys) := hide (by unfold Pl.nl; rw [HL.out]; rfl)
          skip
          go_wp2_with fail
          go_ret2
          exact ⟨g2, c2, rII E2.out HC.out, by rw [hnm.out]; exact PX.out, by rw [← E1.out]; exact EX.out, by rw [hnl.out]; exact own_of_row5 OX.out, KX.out⟩
        · have HL : Hid (Pl.logs m k s n = true) := hide (Pl.logs_at HC.out gm g3 rfl)
          have H63 : Hid (m + 1 ≤ maxLen) := hide (by unfold maxLen; simp at gm; omega)
          have HBT : Hid ((m + 1) * 40 ≤ 140737488355328) := hide (by simp at gm; omega)
          have hnm : Hid (Pl.nm m k s n = m + 1) := hide (by unfold Pl.nm; rw [HL.out]; rfl)
          have hnl : Hid (Pl.nl xs ys m k s n 0 = ys ++ ([k, s, (n : Int), (Pl.rd xs s n), 0] : List Int)) := hide (by unfold Pl.nl; rw [HL.out, ← HC.out, ← E2.out]; rfl)
          skip
          go_wp2_with (first | (at_builtin; refine wpList_append_lies _ rfl _ _ _ rfl base 61 i _ 5 40 Try.underlying23 hi0 hz0 hz1 hz2 rfl (by omega) (.slice (some ⟨g2, 0, none⟩) m c2) m (ys.map (Value.int .i64)) rfl (OX.out.alloc _) ⟨w.heap.size, 0, none⟩ 1 1 [.int .i64 k, .int .i64 s, .int .i64 n, .int .i64 (Pl.rd xs s n), .int .i64 0] rfl rfl (World.news_of_block (cs := #[.int .i64 k, .int .i64 s, .int .i64 n, .int .i64 (Pl.rd xs s n), .int .i64 0]) (t := 61) (fr := (0, 0)) (heap_alloc_new w _)) (by simp [Value.oneCell']) (by omega) H63.out HBT.out (by have := PX.out.lt; simp; omega) (w.heap.size + 1) (by simp) ?_))
          intro g3 c3 w1 hown1 hgrow hat hlt
          have lp := PX.out.lt
          have lg := EX.out.lt (by rw [NLEN]; decide)
          obtain ⟨lg2, lg3⟩ := OX.out.lt g2 rfl
          have P1 : Hid (Blk w1 p #[.slice (some ⟨g1, 0, none⟩) 512 c1, .slice (some ⟨g2, 0, none⟩) m c2] 25) := hide ((hgrow.block p (by simp; omega) (by simp [Value.ownBlock]; omega)).trans (PX.out.alloc _))
          have G1 : Hid (Own w1 g1 (xs)) := hide ((EX.out.keptS (kept_alloc _ _) (by omega)).kept hgrow (by simp [Value.ownBlock]; omega))
          have y0 := P1.out.cell (i := 0) rfl
          have y1 := P1.out.cell (i := 1) rfl
          have f1 := P1.out.frozen 1
          have O1 := hide hown1
          have K1 : Hid (Kept base w.heap.size w w1) := hide (kept_down2 (kept_new KX.out _) (kept_row (lo := base) (hi := w.heap.size) hgrow (by intro g hg; have h2 : g2 = g := Option.some.inj hg; omega)))
          have hat2 : g2 = g3 ∨ g3 = w.heap.size + 1 := by
            rcases hat with h | h
            · exact .inl (Option.some.inj h)
            · exact .inr h
          clear hown1 hgrow hat
          go_wp2_with fail
          go_ret2
          refine ⟨g3, c3, rII E2.out HC.out, by rw [hnm.out]; exact P1.out.set 1 _, by rw [← E1.out]; exact G1.out.setOther _ _ _ (by omega), ?_, kept_set K1.out _ _ _ (by omega)⟩
          rw [hnl.out]
          have h := own_of_row5 (xs := ys ++ ([k, s, (n : Int), (Pl.rd xs s n), 0] : List Int)) (by rw [List.map_append]; exact O1.out)
          exact h.setOther _ _ _ (by omega)

end Go.Proofs.Ytbkafdphagmgpaa
