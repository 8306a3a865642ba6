/- What the models of chapter 5 that only look answer; a device of its own. -/
import Derived.Test.YtlocilcnmbmikaaDevPl
import Derived.Test.YtlocilcnmbmikaaSpecBytes
import Derived.Test.YtlocilcnmbmikaaCopyInts
import Derived.Test.YtlocilcnmbmikaaDevFns
import Derived.BigQuiet
namespace Go.Proofs.Ytlocilcnmbmikaa
open Go.RowKit
set_option linter.unusedVariables false

/-- the two lists of a device, in blocks of a span, apart -/
def DevIn (w : World) (base : Nat) (d : Pl.Dev) (a b : Option Addr) (ca : Nat) : Prop := SlotIn w base w.heap.size a d.xs ∧ SlotIn w base w.heap.size b d.ys ∧ (∀ g, blk a = some g → blk b ≠ some g) ∧ d.xs.length ≤ ca
theorem cap_of_row {w : World} {base n g cap : Nat} {xs : List Value} (h : w.ownsRow base 3 1 (.slice (some ⟨g, 0, none⟩) n cap) n xs) : n ≤ cap := by
  rcases h.2 with ⟨q, _⟩ | ⟨g', cap', cur, q, _, _, hle, _⟩
  · cases q
  · cases q; exact hle
theorem DevIn.kept {w w' : World} {base : Nat} {d : Pl.Dev} {a b : Option Addr} {ca : Nat} (h : DevIn w base d a b ca) (k : Kept 0 0 w w') : DevIn w' base d a b ca :=
  ⟨(h.1.kept k (by omega)).wide (Nat.le_refl _) k.size, (h.2.1.kept k (by omega)).wide (Nat.le_refl _) k.size, h.2.2⟩

/-- a device is answered, its lists in blocks from base on -/
def DevRet (e : Ending) (w w' : World) (base : Nat) (d : Pl.Dev) (a0 b0 : Option Addr) : Prop := ∃ (a b : Option Addr) (ca cb : Nat), e = .returned (.agg #[.int .i64 d.e, .int .i64 d.l, .bool d.r, .slice a d.xs.length ca, .slice b d.ys.length cb, .int .i64 d.t]) ∧ DevIn w' base d a b ca ∧ Kept 0 0 w w' ∧ ∀ g, blk a = some g ∨ blk b = some g → (blk a0 = some g ∨ blk b0 = some g) ∨ w.heap.size ≤ g
def DevRetV (e : Ending) (w w' : World) (base : Nat) (d : Pl.Dev) (z : Int) (a0 b0 : Option Addr) : Prop := ∃ (a b : Option Addr) (ca cb : Nat), e = .returned (.tuple #[.agg #[.int .i64 d.e, .int .i64 d.l, .bool d.r, .slice a d.xs.length ca, .slice b d.ys.length cb, .int .i64 d.t], .int .i64 z]) ∧ DevIn w' base d a b ca ∧ Kept 0 0 w w' ∧ ∀ g, blk a = some g ∨ blk b = some g → (blk a0 = some g ∨ blk b0 = some g) ∨ w.heap.size ≤ g
theorem devRet {e : Ending} {w w' : World} {base : Nat} {d : Pl.Dev} {a0 b0 : Option Addr} (a b : Option Addr) (ca cb : Nat) (h : e = .returned (.agg #[.int .i64 d.e, .int .i64 d.l, .bool d.r, .slice a d.xs.length ca, .slice b d.ys.length cb, .int .i64 d.t])) (hD : DevIn w' base d a b ca) (k : Kept 0 0 w w') (hn : ∀ g, blk a = some g ∨ blk b = some g → (blk a0 = some g ∨ blk b0 = some g) ∨ w.heap.size ≤ g) : DevRet e w w' base d a0 b0 := ⟨a, b, ca, cb, h, hD, k, hn⟩
theorem devRetV {e : Ending} {w w' : World} {base : Nat} {d : Pl.Dev} {z : Int} {a0 b0 : Option Addr} (a b : Option Addr) (ca cb : Nat) (h : e = .returned (.tuple #[.agg #[.int .i64 d.e, .int .i64 d.l, .bool d.r, .slice a d.xs.length ca, .slice b d.ys.length cb, .int .i64 d.t], .int .i64 z])) (hD : DevIn w' base d a b ca) (k : Kept 0 0 w w') (hn : ∀ g, blk a = some g ∨ blk b = some g → (blk a0 = some g ∨ blk b0 = some g) ∨ w.heap.size ≤ g) : DevRetV e w w' base d z a0 b0 := ⟨a, b, ca, cb, h, hD, k, hn⟩

theorem specGoodDevice (w : World) (d : Pl.Dev) (a b : Option Addr) (ca cb : Nat) (ha : IRow w a d.xs) (hb : IRow w b d.ys) (lx : d.xs.length ≤ 2000000) (ly : d.ys.length ≤ 2000000) :
    Calls Try.prog 16 #[.agg #[.int .i64 d.e, .int .i64 d.l, .bool d.r, .slice a d.xs.length ca, .slice b d.ys.length cb, .int .i64 d.t]] w fun e w' => e = .returned (.bool (Pl.devOk d)) ∧ Kept 0 0 w w' := by
  have HA := hide ha
  have HB := hide hb
  have HK := hide (kept_alloc w (.cells #[.int .i64 d.e, .int .i64 d.l, .bool d.r, .slice a d.xs.length ca, .slice b d.ys.length cb, .int .i64 d.t] 24))
  clear ha hb
  have G : Hid (Pl.devOk d = ((decide (0 ≤ d.e) && decide (d.e ≤ 255)) && ((decide (0 ≤ d.l) && decide (d.l ≤ d.e)) && (Pl.bytesOk d.xs && (Pl.bytesOk d.ys && (decide ((d.xs.length : Int) ≤ 4) && (decide ((d.ys.length : Int) ≤ 200) && (decide (0 ≤ d.t) && decide (d.t ≤ 1000))))))))) := hide rfl
  cases h1 : (decide (0 ≤ d.e) && decide (d.e ≤ 255))
  · go_enter Try.func16, Try.ntmps16
    go_wp2_with (first
      | (go_at_call 38; refine (l1In _ _ _ _).mono ?_; rintro e w' ⟨rfl, hw⟩; have hw2 := hw.symm; clear hw; subst hw2; first | rw [h1])
      | (go_at_call 39; have z := Z4; refine (l4Bytes _ b cb d.ys (HB.out.keptS HK.out) ly).mono ?_; rintro e w' ⟨rfl, hw⟩; have hw2 := hw.symm; clear hw; subst hw2; rw [h4])
      | (go_at_call 39; refine (l4Bytes _ a ca d.xs (HA.out.keptS HK.out) lx).mono ?_; rintro e w' ⟨rfl, hw⟩; have hw2 := hw.symm; clear hw; subst hw2; rw [h3]; have Z4 : True := trivial))
    go_ret
    exact ⟨rB (by rw [G.out, h1]; simp), HK.out⟩
  · cases h2 : (decide (0 ≤ d.l) && decide (d.l ≤ d.e))
    · go_enter Try.func16, Try.ntmps16
      go_wp2_with (first
        | (go_at_call 38; refine (l1In _ _ _ _).mono ?_; rintro e w' ⟨rfl, hw⟩; have hw2 := hw.symm; clear hw; subst hw2; first | rw [h1] | rw [h2])
        | (go_at_call 39; have z := Z4; refine (l4Bytes _ b cb d.ys (HB.out.keptS HK.out) ly).mono ?_; rintro e w' ⟨rfl, hw⟩; have hw2 := hw.symm; clear hw; subst hw2; rw [h4])
        | (go_at_call 39; refine (l4Bytes _ a ca d.xs (HA.out.keptS HK.out) lx).mono ?_; rintro e w' ⟨rfl, hw⟩; have hw2 := hw.symm; clear hw; subst hw2; rw [h3]; have Z4 : True := trivial))
      go_ret
      exact ⟨rB (by rw [G.out, h1, h2]; simp), HK.out⟩
    · cases h3 : Pl.bytesOk d.xs
      · go_enter Try.func16, Try.ntmps16
        go_wp2_with (first
          | (go_at_call 38; refine (l1In _ _ _ _).mono ?_; rintro e w' ⟨rfl, hw⟩; have hw2 := hw.symm; clear hw; subst hw2; first | rw [h1] | rw [h2])
          | (go_at_call 39; have z := Z4; refine (l4Bytes _ b cb d.ys (HB.out.keptS HK.out) ly).mono ?_; rintro e w' ⟨rfl, hw⟩; have hw2 := hw.symm; clear hw; subst hw2; rw [h4])
          | (go_at_call 39; refine (l4Bytes _ a ca d.xs (HA.out.keptS HK.out) lx).mono ?_; rintro e w' ⟨rfl, hw⟩; have hw2 := hw.symm; clear hw; subst hw2; rw [h3]; have Z4 : True := trivial))
        go_ret
        exact ⟨rB (by rw [G.out, h1, h2, h3]; simp), HK.out⟩
      · cases h4 : Pl.bytesOk d.ys
        · go_enter Try.func16, Try.ntmps16
          go_wp2_with (first
            | (go_at_call 38; refine (l1In _ _ _ _).mono ?_; rintro e w' ⟨rfl, hw⟩; have hw2 := hw.symm; clear hw; subst hw2; first | rw [h1] | rw [h2])
            | (go_at_call 39; have z := Z4; refine (l4Bytes _ b cb d.ys (HB.out.keptS HK.out) ly).mono ?_; rintro e w' ⟨rfl, hw⟩; have hw2 := hw.symm; clear hw; subst hw2; rw [h4])
            | (go_at_call 39; refine (l4Bytes _ a ca d.xs (HA.out.keptS HK.out) lx).mono ?_; rintro e w' ⟨rfl, hw⟩; have hw2 := hw.symm; clear hw; subst hw2; rw [h3]; have Z4 : True := trivial))
          go_ret
          exact ⟨rB (by rw [G.out, h1, h2, h3, h4]; simp), HK.out⟩
        · cases h5 : decide ((d.xs.length : Int) ≤ 4)
          · go_enter Try.func16, Try.ntmps16
            go_wp2_with (first
              | (go_at_call 38; refine (l1In _ _ _ _).mono ?_; rintro e w' ⟨rfl, hw⟩; have hw2 := hw.symm; clear hw; subst hw2; first | rw [h1] | rw [h2])
              | (go_at_call 39; have z := Z4; refine (l4Bytes _ b cb d.ys (HB.out.keptS HK.out) ly).mono ?_; rintro e w' ⟨rfl, hw⟩; have hw2 := hw.symm; clear hw; subst hw2; rw [h4])
              | (go_at_call 39; refine (l4Bytes _ a ca d.xs (HA.out.keptS HK.out) lx).mono ?_; rintro e w' ⟨rfl, hw⟩; have hw2 := hw.symm; clear hw; subst hw2; rw [h3]; have Z4 : True := trivial))
            go_ret
            exact ⟨rB (by rw [G.out, h1, h2, h3, h4, h5]; simp), HK.out⟩
          · cases h6 : decide ((d.ys.length : Int) ≤ 200)
            · go_enter Try.func16, Try.ntmps16
              go_wp2_with (first
                | (go_at_call 38; refine (l1In _ _ _ _).mono ?_; rintro e w' ⟨rfl, hw⟩; have hw2 := hw.symm; clear hw; subst hw2; first | rw [h1] | rw [h2])
                | (go_at_call 39; have z := Z4; refine (l4Bytes _ b cb d.ys (HB.out.keptS HK.out) ly).mono ?_; rintro e w' ⟨rfl, hw⟩; have hw2 := hw.symm; clear hw; subst hw2; rw [h4])
                | (go_at_call 39; refine (l4Bytes _ a ca d.xs (HA.out.keptS HK.out) lx).mono ?_; rintro e w' ⟨rfl, hw⟩; have hw2 := hw.symm; clear hw; subst hw2; rw [h3]; have Z4 : True := trivial))
              go_ret
              exact ⟨rB (by rw [G.out, h1, h2, h3, h4, h5, h6]; simp), HK.out⟩
            · cases h7 : (decide (0 ≤ d.t) && decide (d.t ≤ 1000))
              · go_enter Try.func16, Try.ntmps16
                go_wp2_with (first
                  | (go_at_call 38; refine (l1In _ _ _ _).mono ?_; rintro e w' ⟨rfl, hw⟩; have hw2 := hw.symm; clear hw; subst hw2; first | rw [h1] | rw [h2] | rw [h7])
                  | (go_at_call 39; have z := Z4; refine (l4Bytes _ b cb d.ys (HB.out.keptS HK.out) ly).mono ?_; rintro e w' ⟨rfl, hw⟩; have hw2 := hw.symm; clear hw; subst hw2; rw [h4])
                  | (go_at_call 39; refine (l4Bytes _ a ca d.xs (HA.out.keptS HK.out) lx).mono ?_; rintro e w' ⟨rfl, hw⟩; have hw2 := hw.symm; clear hw; subst hw2; rw [h3]; have Z4 : True := trivial))
                go_ret
                exact ⟨rB (by rw [G.out, h1, h2, h3, h4, h5, h6, h7]; simp), HK.out⟩
              · go_enter Try.func16, Try.ntmps16
                go_wp2_with (first
                  | (go_at_call 38; refine (l1In _ _ _ _).mono ?_; rintro e w' ⟨rfl, hw⟩; have hw2 := hw.symm; clear hw; subst hw2; first | rw [h1] | rw [h2] | rw [h7])
                  | (go_at_call 39; have z := Z4; refine (l4Bytes _ b cb d.ys (HB.out.keptS HK.out) ly).mono ?_; rintro e w' ⟨rfl, hw⟩; have hw2 := hw.symm; clear hw; subst hw2; rw [h4])
                  | (go_at_call 39; refine (l4Bytes _ a ca d.xs (HA.out.keptS HK.out) lx).mono ?_; rintro e w' ⟨rfl, hw⟩; have hw2 := hw.symm; clear hw; subst hw2; rw [h3]; have Z4 : True := trivial))
                go_ret
                exact ⟨rB (by rw [G.out, h1, h2, h3, h4, h5, h6, h7]; simp), HK.out⟩

set_option maxHeartbeats 4000000 in
theorem l5Own (w : World) (d : Pl.Dev) (a b : Option Addr) (ca cb : Nat) (ha : IRow w a d.xs) (hb : IRow w b d.ys) (lx : d.xs.length ≤ 2000000) (ly : d.ys.length ≤ 2000000) :
    Calls Try.prog 45 #[.agg #[.int .i64 d.e, .int .i64 d.l, .bool d.r, .slice a d.xs.length ca, .slice b d.ys.length cb, .int .i64 d.t]] w fun e w' => ∃ (a' b' : Option Addr) (ca' cb' : Nat), e = .returned (.agg #[.int .i64 d.e, .int .i64 d.l, .bool d.r, .slice a' d.xs.length ca', .slice b' d.ys.length cb', .int .i64 d.t]) ∧ DevIn w' w.heap.size d a' b' ca' ∧ Kept 0 0 w w' := by
  have HA := hide ha
  have HB := hide hb
  clear ha hb
  have K0 := hide (kept_new (kept_new (kept_alloc w (.cells #[.int .i64 d.e, .int .i64 d.l, .bool d.r, .slice a d.xs.length ca, .slice b d.ys.length cb, .int .i64 d.t] 24)) (.cells #[.int .i64 0, .int .i64 0, .bool false, .slice none 0 0, .slice none 0 0, .int .i64 0] 24)) (.cells #[] 3))
  have B0 := hide (((Blk.new w #[.int .i64 d.e, .int .i64 d.l, .bool d.r, .slice a d.xs.length ca, .slice b d.ys.length cb, .int .i64 d.t] 24).alloc (.cells #[.int .i64 0, .int .i64 0, .bool false, .slice none 0 0, .slice none 0 0, .int .i64 0] 24)).alloc (.cells #[] 3))
  have B1 := (Blk.new (w.alloc (.cells #[.int .i64 d.e, .int .i64 d.l, .bool d.r, .slice a d.xs.length ca, .slice b d.ys.length cb, .int .i64 d.t] 24)) #[.int .i64 0, .int .i64 0, .bool false, .slice none 0 0, .slice none 0 0, .int .i64 0] 24).alloc (.cells #[] 3)
  have B2 := Blk.new ((w.alloc (.cells #[.int .i64 d.e, .int .i64 d.l, .bool d.r, .slice a d.xs.length ca, .slice b d.ys.length cb, .int .i64 d.t] 24)).alloc (.cells #[.int .i64 0, .int .i64 0, .bool false, .slice none 0 0, .slice none 0 0, .int .i64 0] 24)) #[] 3
  simp only [World.size_alloc] at B1 B2
  replace B1 := hide B1
  replace B2 := hide B2
  go_enter Try.func45, Try.ntmps45
  go_wp2_with (at_builtin; refine copy_ints rfl (.tmp 3) (.tmp 5) rfl w.heap.size (w.heap.size + 1 + 1) rfl B2.out (by omega) a d.xs.length ca d.xs rfl (HA.out.keptS K0.out) rfl lx (w.heap.size + 1 + 1 + 1) (by simp) ?_)
  intro g1 c1 w1 o1 k1 hg1 l1
  have C0 := hide (B0.out.kept k1 (by omega))
  have C1 := hide (B1.out.kept k1 (by omega))
  have d3 := C0.out.cell (i := 3) rfl
  have f3 := C0.out.frozen 3
  have n0 := B2.out.lt
  have n1 := k1.size
  obtain ⟨p1, p2⟩ := o1.lt g1 rfl
  have D0 := hide ((C0.out.set 3 (.slice (some ⟨g1, 0, none⟩) d.xs.length c1)).alloc (.cells #[] 3))
  have D1 := hide ((C1.out.other w.heap.size 3 (.slice (some ⟨g1, 0, none⟩) d.xs.length c1) (by omega)).alloc (.cells #[] 3))
  have O1 := hide ((o1.kept (grownBy_set w1 w.heap.size 3 (.slice (some ⟨g1, 0, none⟩) d.xs.length c1)) (.inr (fun e => by have h3 : g1 = w.heap.size := Option.some.inj e; omega))).alloc (.cells #[] 3))
  have K1 := hide (kept_new (kept_set (kept_over K0.out k1 (by omega)) w.heap.size 3 (.slice (some ⟨g1, 0, none⟩) d.xs.length c1) (.inr (Nat.le_refl _))) (.cells #[] 3))
  have E2 := Blk.new (w1.setCell ⟨w.heap.size, 3, none⟩ (.slice (some ⟨g1, 0, none⟩) d.xs.length c1)) #[] 3
  simp only [World.size_setCell] at E2
  replace E2 := hide E2
  have q4 := D0.out.cell (i := 4) rfl
  clear o1 k1 B0 B1 B2 C0 C1
  go_wp2_with (at_builtin; refine copy_ints rfl (.tmp 8) (.tmp 10) rfl w.heap.size w1.heap.size rfl E2.out (by omega) b d.ys.length cb d.ys rfl (HB.out.keptS K1.out) rfl ly (w1.heap.size + 1) (by simp) ?_)
  intro g2 c2 w2 o2 k2 hg2 l2
  clear q4 d3 f3
  have F0 := D0.out.kept k2 (by omega)
  have F1 := D1.out.kept k2 (by omega)
  obtain ⟨p3, p4⟩ := o2.lt g2 rfl
  have n2 := k2.size
  simp only [World.size_alloc, World.size_setCell] at n2
  have P1 := hide (O1.out.kept (kept_by k2) (.inr (fun e => by have h3 : g1 = w1.heap.size := Option.some.inj e; omega)))
  have P2 := hide o2
  have K2 := hide (kept_over K1.out k2 (by omega))
  have x0 := F0.cell (i := 0) rfl
  have x1 := F0.cell (i := 1) rfl
  have x2 := F0.cell (i := 2) rfl
  have x3 := F0.cell (i := 3) rfl
  have x4 := F0.cell (i := 4) rfl
  have x5 := F0.cell (i := 5) rfl
  have v4 := F0.frozen 4
  have y0 := F1.cell (i := 0) rfl
  have y1 := F1.cell (i := 1) rfl
  have y2 := F1.cell (i := 2) rfl
  have y3 := F1.cell (i := 3) rfl
  have y4 := F1.cell (i := 4) rfl
  have y5 := F1.cell (i := 5) rfl
  have u0 := F1.frozen 0
  have u1 := F1.frozen 1
  have u2 := F1.frozen 2
  have u3 := F1.frozen 3
  have u4 := F1.frozen 4
  have u5 := F1.frozen 5
  have G1 := hide F1
  have hne : g1 ≠ g2 := by omega
  clear F0 F1 o2 k2
  go_wp2_with fail
  have N0 : ∀ v0 v1 v2 v3 v4 v5 v6, Kept 0 0 w (((((((w2.setCell ⟨w.heap.size, 4, none⟩ v0).setCell ⟨w.heap.size + 1, 0, none⟩ v1).setCell ⟨w.heap.size + 1, 1, none⟩ v2).setCell ⟨w.heap.size + 1, 2, none⟩ v3).setCell ⟨w.heap.size + 1, 3, none⟩ v4).setCell ⟨w.heap.size + 1, 4, none⟩ v5).setCell ⟨w.heap.size + 1, 5, none⟩ v6) := fun v0 v1 v2 v3 v4 v5 v6 => kept_set (kept_set (kept_set (kept_set (kept_set (kept_set (kept_set K2.out _ _ _ (.inr (by omega))) _ _ _ (.inr (by omega))) _ _ _ (.inr (by omega))) _ _ _ (.inr (by omega))) _ _ _ (.inr (by omega))) _ _ _ (.inr (by omega))) _ _ _ (.inr (by omega))
  refine bodyPost_ret (v := .agg #[.int .i64 d.e, .int .i64 d.l, .bool d.r, .slice (some ⟨g1, 0, none⟩) d.xs.length c1, .slice (some ⟨g2, 0, none⟩) d.ys.length c2, .int .i64 d.t]) ?_ rfl ⟨some ⟨g1, 0, none⟩, some ⟨g2, 0, none⟩, c1, c2, rfl, ⟨.inr ⟨g1, rfl, by omega, by simp; omega, ?_⟩, .inr ⟨g2, rfl, by omega, by simp; omega, ?_⟩, ?_⟩, N0 _ _ _ _ _ _ _⟩
  · exact results_cell_row rfl _ _ _ _ _ (0, 0) _ rfl (((((((G1.out.other _ _ _ (by omega)).set _ _).set _ _).set _ _).set _ _).set _ _).set _ _) Try.underlying24 rfl (by kernel_rfl)
  · exact ((((((((own_of_row P1.out).setOther _ _ _ (by omega)).setOther _ _ _ (by omega)).setOther _ _ _ (by omega)).setOther _ _ _ (by omega)).setOther _ _ _ (by omega)).setOther _ _ _ (by omega)).setOther _ _ _ (by omega))
  · exact ((((((((own_of_row P2.out).setOther _ _ _ (by omega)).setOther _ _ _ (by omega)).setOther _ _ _ (by omega)).setOther _ _ _ (by omega)).setOther _ _ _ (by omega)).setOther _ _ _ (by omega)).setOther _ _ _ (by omega))
  · refine ⟨?_, cap_of_row P1.out⟩
    intro g hg hh
    simp [blk] at hg hh
    omega
end Go.Proofs.Ytlocilcnmbmikaa
