/- What the program's small functions of chapter 4 answer: addresses, parts, accesses; none writes. What the program's tests of bytes answer; none changes the world. What the program's GoodBus answers, for every bus. What the program's functions over the bytes of a bus as one array answer. What the program's small functions of an access answer: its code; a value read. What the program does to the bytes of a processor that is worked on. What the program does with an access on a processor that is worked on. Every cell of a block at once. What the program's access, push and pop answer, of a processor that is worked on. The ways to name an operand, as the program holds them: one type a way; the operand that each comes back as. The ways to name an operand, as the program holds them: told apart. A call that only draws from the tape: what it leaves, in the two forms that a law's frame asks for. A row of bits (the program's struct of five fields), laid in a block of its own: what it holds, and what later worlds leave of it. -/
import Derived.Test.YtblddehlkaolbaaGreatDoorJA2
import Derived.Test.YtblddehlkaolbaaGreatDoorJA7
import Derived.Test.YtblddehlkaolbaaGreatDoorJA6
import Derived.Laws.CopyOwn
import Derived.Deep.WholeRow
import Derived.Deep.RegionLawGrows
import Derived.Deep.RegionHeld3
import Derived.Deep.MidRow
import Derived.Test.YtblddehlkaolbaaGreatDoorJA23
import Derived.Deep.AppendLies
import Derived.Deep.QuietTactic
import Derived.BigQuiet
import Derived.Test.YtblddehlkaolbaaGreatDoorJA1
import Derived.Test.YtblddehlkaolbaaGreatDoorJA20
import Derived.Below
import Derived.Laws.Rows
import Derived.Laws.ResultCell
namespace Go.Proofs.YtblddehlkaolbaaGreatDoor
open Go.RowKit
set_option linter.unusedVariables false

theorem isAddress (a : Int) (w : World) : Calls Tryz.prog 161 #[.int .i64 a] w fun e w' => e = .returned (.bool (Pl.addr a)) ∧ w' = w := by
  by_cases h0 : 0 ≤ a
  all_goals
    by_cases h1 : a ≤ 65535
    all_goals
      go_enter Tryz.func161, Tryz.ntmps161
      go_wp2
      go_ret
      exact ⟨rB (by simp [Pl.addr, h0, h1] <;> omega), rfl⟩
theorem isAccessKind (a : Int) (w : World) : Calls Tryz.prog 160 #[.int .i64 a] w fun e w' => e = .returned (.bool (Pl.accKind a)) ∧ w' = w := by
  by_cases h0 : 1 ≤ a
  all_goals
    by_cases h1 : a ≤ 3
    all_goals
      go_enter Tryz.func160, Tryz.ntmps160
      go_wp2
      go_ret
      exact ⟨rB (by simp [Pl.accKind, h0, h1] <;> omega), rfl⟩
theorem isOdd (a : Int) (w : World) (h0 : 0 ≤ a) (h1 : a ≤ 65535) : Calls Tryz.prog 192 #[.int .i64 a] w fun e w' => e = .returned (.bool (decide (a % 2 = 1))) ∧ w' = w := by
  go_enter Tryz.func192, Tryz.ntmps192
  go_wp2
  go_ret
  refine ⟨rB ?_, rfl⟩
  rw [Bool.eq_iff_iff]
  simp
  omega
theorem partOf (a : Int) (w : World) : Calls Tryz.prog 193 #[.int .i64 a] w fun e w' => e = .returned (.int .i64 (Pl.kind a)) ∧ w' = w := by
  by_cases h1 : 512 ≤ a
  · have E : Hid (Pl.kind a = 1) := hide (by simp [Pl.kind, h1])
    go_enter Tryz.func193, Tryz.ntmps193
    go_wp2
    go_ret
    exact ⟨rI E.out.symm, rfl⟩
  · by_cases h2 : 496 ≤ a
    · have E : Hid (Pl.kind a = 0) := hide (by unfold Pl.kind; rw [if_neg (by omega), if_neg (by omega)])
      go_enter Tryz.func193, Tryz.ntmps193
      go_wp2
      go_ret
      exact ⟨rI E.out.symm, rfl⟩
    · by_cases h3 : 448 ≤ a
      · have E : Hid (Pl.kind a = 1) := hide (by unfold Pl.kind; rw [if_pos (by omega)])
        go_enter Tryz.func193, Tryz.ntmps193
        go_wp2
        go_ret
        exact ⟨rI E.out.symm, rfl⟩
      · by_cases h4 : 384 ≤ a
        · have E : Hid (Pl.kind a = 3) := hide (by unfold Pl.kind; rw [if_neg (by omega), if_pos (by omega)])
          go_enter Tryz.func193, Tryz.ntmps193
          go_wp2
          go_ret
          exact ⟨rI E.out.symm, rfl⟩
        · have E : Hid (Pl.kind a = 0) := hide (by unfold Pl.kind; rw [if_neg (by omega), if_neg (by omega)])
          go_enter Tryz.func193, Tryz.ntmps193
          go_wp2
          go_ret
          exact ⟨rI E.out.symm, rfl⟩
namespace Pl
def isAcc (k s a v c : Int) : Bool := okv s v && (accKind k && (addr a && (decide (0 ≤ c) && decide (c ≤ 3))))
theorem accOk_isAcc (k s a v c : Int) : accOk k s a v c = (isAcc k s a v c && !((k == 3) && (c == 0))) := by
  unfold accOk isAcc
  rw [Bool.eq_iff_iff]
  simp only [Bool.and_eq_true, Bool.or_eq_true, Bool.not_eq_true', decide_eq_true_eq, bne_iff_ne, ne_eq, Bool.and_eq_false_iff, beq_eq_false_iff_ne]
  constructor
  · rintro ⟨a1, a2, a3, a4, a5⟩; exact ⟨⟨a2, a1, a3, a4⟩, a5⟩
  · rintro ⟨⟨a2, a1, a3, a4⟩, a5⟩; exact ⟨a1, a2, a3, a4, a5⟩
end Pl
theorem isAccess (k s a v c : Int) (w : World) (lo : -9223372036854775808 ≤ v) (hi : v ≤ 9223372036854775807) : Calls Tryz.prog 135 #[.agg #[.int .i64 k, .int .i64 s, .int .i64 a, .int .i64 v, .int .i64 c]] w fun e w' => e = .returned (.bool (Pl.isAcc k s a v c)) ∧ ∃ o, w' = w.alloc o := by
  cases h1 : Pl.okv s v
  · go_enter Tryz.func135, Tryz.ntmps135
    go_wp2_with (first | (go_at_call 133; refine (signedOf _ _ _ lo hi).mono ?_; rintro e w' ⟨rfl, rfl⟩; rw [h1]) | (go_at_call 160; refine (isAccessKind _ _).mono ?_; rintro e w' ⟨rfl, rfl⟩) | (go_at_call 161; refine (isAddress _ _).mono ?_; rintro e w' ⟨rfl, rfl⟩))
    go_ret
    exact ⟨rB (by unfold Pl.isAcc; rw [h1]; rfl), _, rfl⟩
  · cases h2 : Pl.accKind k
    · go_enter Tryz.func135, Tryz.ntmps135
      go_wp2_with (first | (go_at_call 133; refine (signedOf _ _ _ lo hi).mono ?_; rintro e w' ⟨rfl, rfl⟩; rw [h1]) | (go_at_call 160; refine (isAccessKind _ _).mono ?_; rintro e w' ⟨rfl, rfl⟩; rw [h2]) | (go_at_call 161; refine (isAddress _ _).mono ?_; rintro e w' ⟨rfl, rfl⟩))
      go_ret
      exact ⟨rB (by unfold Pl.isAcc; rw [h1, h2]; rfl), _, rfl⟩
    · cases h3 : Pl.addr a
      · go_enter Tryz.func135, Tryz.ntmps135
        go_wp2_with (first | (go_at_call 133; refine (signedOf _ _ _ lo hi).mono ?_; rintro e w' ⟨rfl, rfl⟩; rw [h1]) | (go_at_call 160; refine (isAccessKind _ _).mono ?_; rintro e w' ⟨rfl, rfl⟩; rw [h2]) | (go_at_call 161; refine (isAddress _ _).mono ?_; rintro e w' ⟨rfl, rfl⟩; rw [h3]))
        go_ret
        exact ⟨rB (by unfold Pl.isAcc; rw [h1, h2, h3]; rfl), _, rfl⟩
      · cases h4 : decide (0 ≤ c)
        all_goals
          cases h5 : decide (c ≤ 3)
          all_goals
            go_enter Tryz.func135, Tryz.ntmps135
            go_wp2_with (first | (go_at_call 133; refine (signedOf _ _ _ lo hi).mono ?_; rintro e w' ⟨rfl, rfl⟩; rw [h1]) | (go_at_call 160; refine (isAccessKind _ _).mono ?_; rintro e w' ⟨rfl, rfl⟩; rw [h2]) | (go_at_call 161; refine (isAddress _ _).mono ?_; rintro e w' ⟨rfl, rfl⟩; rw [h3]))
            go_ret
            exact ⟨rB (by unfold Pl.isAcc; rw [h1, h2, h3, h4, h5]; rfl), _, rfl⟩
theorem isLogged (k s a v c : Int) (w : World) (lo : -9223372036854775808 ≤ v) (hi : v ≤ 9223372036854775807) : Calls Tryz.prog 92 #[.agg #[.int .i64 k, .int .i64 s, .int .i64 a, .int .i64 v, .int .i64 c]] w fun e w' => e = .returned (.bool (Pl.accOk k s a v c)) ∧ ∃ o p, w' = (w.alloc o).alloc p := by
  cases h1 : Pl.isAcc k s a v c
  · go_enter Tryz.func92, Tryz.ntmps92
    go_wp2_with (go_at_call 135; refine (isAccess _ _ _ _ _ _ lo hi).mono ?_; rintro e w' ⟨rfl, o, rfl⟩; rw [h1])
    go_ret
    exact ⟨rB (by rw [Pl.accOk_isAcc, h1]; rfl), _, _, rfl⟩
  · cases h2 : (k == 3)
    · go_enter Tryz.func92, Tryz.ntmps92
      go_wp2_with (go_at_call 135; refine (isAccess _ _ _ _ _ _ lo hi).mono ?_; rintro e w' ⟨rfl, o, rfl⟩; rw [h1])
      go_ret
      exact ⟨rB (by rw [Pl.accOk_isAcc, h1, h2]; rfl), _, _, rfl⟩
    · cases h3 : (c == 0)
      all_goals
        go_enter Tryz.func92, Tryz.ntmps92
        go_wp2_with (go_at_call 135; refine (isAccess _ _ _ _ _ _ lo hi).mono ?_; rintro e w' ⟨rfl, o, rfl⟩; rw [h1])
        go_ret
        exact ⟨rB (by rw [Pl.accOk_isAcc, h1, h2, h3]; rfl), _, _, rfl⟩
end Go.Proofs.YtblddehlkaolbaaGreatDoor

namespace Go.Proofs.YtblddehlkaolbaaGreatDoor
open Go.RowKit
set_option linter.unusedVariables false

theorem okv1 (v : Int) : Pl.okv 1 v = Pl.byteOk v := by
  unfold Pl.okv Pl.byteOk Pl.top
  rw [Bool.eq_iff_iff]; simp; omega
theorem isByte (v : Int) (w : World) (lo : -9223372036854775808 ≤ v) (hi : v ≤ 9223372036854775807) :
    Calls Tryz.prog 134 #[.int .i64 v] w fun e w' => e = .returned (.bool (Pl.byteOk v)) ∧ w' = w := by
  go_enter Tryz.func134, Tryz.ntmps134
  go_wp2_with (go_at_call 133; refine (signedOf _ _ _ lo hi).mono ?_; rintro e w' ⟨rfl, hw⟩; have hw2 := hw.symm; clear hw; subst hw2; rw [okv1])
  go_ret
  exact ⟨rfl, rfl⟩
theorem areBytes (w : World) (a : Option Addr) (ca : Nat) (xs : List Int) (ha : Came w a xs) (lx : xs.length ≤ 2000000) :
    Calls Tryz.prog 91 #[.slice a xs.length ca] w fun e w' => e = .returned (.bool (Pl.bytesOk xs)) ∧ w' = w := by
  have HA := hide ha
  clear ha
  go_enter Tryz.func91, Tryz.ntmps91
  go_wp2
  go_loop [4, 7] (fun _ j => ∃ k : Nat, k ≤ xs.length ∧ j = .int .i64 k ∧ ∀ i, i < k → Pl.byteOk (el xs i) = true) (fun _ j => xs.length - (intOf j).toNat)
  case atStart => exact ⟨0, Nat.zero_le _, rfl, fun i hi => absurd hi (Nat.not_lt_zero i)⟩
  case round =>
    obtain ⟨k, hk, rfl, heq⟩ := hrel
    have HE := hide heq
    clear heq
    by_cases hlt : k < xs.length
    · obtain ⟨g1, o1, rfl, hc1⟩ := HA.out.1 k hlt
      obtain ⟨lo, hi⟩ := HA.out.2 k hlt
      rw [show xs[k]?.getD 0 = el xs k from rfl] at hc1 lo hi
      cases hb : Pl.byteOk (el xs k)
      · go_wp2_with (go_at_call 134; refine (isByte _ _ lo hi).mono ?_; rintro e w' ⟨rfl, rfl⟩; rw [hb])
        go_ret
        exact ⟨rB (Pl.bytesOk_no hlt hb).symm, rfl⟩
      · go_wp2_with (go_at_call 134; refine (isByte _ _ lo hi).mono ?_; rintro e w' ⟨rfl, rfl⟩; rw [hb])
        go_round
        case rel => exact ⟨k + 1, by omega, by go_num, snoc_all HE.out hb⟩
        case measure => simp [intOf]; omega
    · go_wp2
      go_ret
      exact ⟨rB (Pl.bytesOk_of (fun i hi => HE.out i (by omega))).symm, rfl⟩
end Go.Proofs.YtblddehlkaolbaaGreatDoor

namespace Go.Proofs.YtblddehlkaolbaaGreatDoor
open Go.RowKit
set_option linter.unusedVariables false

theorem Wide.at5 {ys : List Int} (h : Wide ys) {m k : Nat} (hl : ys.length = 5 * m) (hk : k < m) : -9223372036854775808 ≤ el ys (k * 5 + 3) ∧ el ys (k * 5 + 3) ≤ 9223372036854775807 := h (k * 5 + 3) (by omega)

theorem goodBus (w : World) (a b : Option Addr) (ca cb m : Nat) (xs ys : List Int) (ha : Came w a xs) (hb : Came w b ys) (lx : xs.length ≤ 2000000) (ly : ys.length = 5 * m) (bm : m ≤ 2000000) :
    Calls Tryz.prog 49 #[.agg #[.slice a xs.length ca, .slice b m cb]] w fun e w' => e = .returned (.bool (Pl.goodBus xs ys m)) ∧ Kept 0 0 w w' := by
  have HA := hide ha
  have HB := hide hb
  have HY := hide ly
  have HK0 := hide (kept_alloc w (.cells #[.slice a xs.length ca, .slice b m cb] 34))
  clear ha hb ly
  cases h1 : ((xs.length : Int) != 512)
  · have hl5 : xs.length = 512 := by simp at h1; omega
    have G : Hid (Pl.goodBus xs ys m = (Pl.accsOk ys m && (Pl.bytesOk xs && decide (m ≤ 400)))) := hide (by
      unfold Pl.goodBus
      rw [show decide (xs.length = 512) = true from by simp [hl5], Bool.true_and])
    clear hl5
    cases h2 : Pl.bytesOk xs
    · go_enter Tryz.func49, Tryz.ntmps49
      go_wp2_with (go_at_call 91; refine (areBytes _ a ca xs (HA.out.keptS HK0.out) lx).mono ?_; rintro e w' ⟨rfl, rfl⟩; rw [h2])
      go_ret
      exact ⟨rB (by rw [G.out, h2, Bool.false_and, Bool.and_false]), HK0.out⟩
    · cases h3 : decide ((400 : Int) < (m : Int))
      · go_enter Tryz.func49, Tryz.ntmps49
        go_wp2_with (first | (go_at_call 91; refine (areBytes _ a ca xs (HA.out.keptS HK0.out) lx).mono ?_; rintro e w' ⟨rfl, rfl⟩; rw [h2]) | fail)
        obtain ⟨W, hW⟩ : ∃ W : World, W = w.alloc (.cells #[.slice a xs.length ca, .slice b m cb] 34) := ⟨_, rfl⟩
        rw [← hW] at HK0 ⊢
        clear hW
        go_loopw [4, 24] (fun _ j wr => ∃ k : Nat, k ≤ m ∧ j = .int .i64 k ∧ (∀ i, i < k → Pl.accAt ys i = true) ∧ Kept 0 0 W wr) (fun _ j _ => m - (intOf j).toNat)
        case atStart => exact ⟨0, Nat.zero_le _, rfl, fun i hi => absurd hi (Nat.not_lt_zero i), Kept.refl _ _ _⟩
        case round =>
          obtain ⟨k, hk, rfl, heq, hkept⟩ := hrel
          have HE := hide heq
          have HK := hide hkept
          clear heq hkept
          by_cases hlt : k < m
          · obtain ⟨lo, hi⟩ := HB.out.2.at5 HY.out hlt
            obtain ⟨g1, o1, rfl, p0, p1, p2, p3, p4⟩ := ((HB.out.keptS (HK0.out.trans HK.out)).1).five HY.out hlt
            cases hb : Pl.accAt ys k
            · have hb2 : Pl.accOk (el ys (k * 5)) (el ys (k * 5 + 1)) (el ys (k * 5 + 2)) (el ys (k * 5 + 3)) (el ys (k * 5 + 4)) = false := hb
              clear hb
              go_wp2_with (go_at_call 92; refine (isLogged _ _ _ _ _ _ lo hi).mono ?_; rintro e w' ⟨rfl, o, p, rfl⟩; rw [hb2])
              go_ret
              exact ⟨rB (by unfold Pl.goodBus; rw [Pl.accsOk_no hlt hb2]; rfl), HK0.out.trans (kept_new (kept_new (kept_new HK.out _) _) _)⟩
            · have hb2 : Pl.accOk (el ys (k * 5)) (el ys (k * 5 + 1)) (el ys (k * 5 + 2)) (el ys (k * 5 + 3)) (el ys (k * 5 + 4)) = true := hb
              clear hb
              go_wp2_with (go_at_call 92; refine (isLogged _ _ _ _ _ _ lo hi).mono ?_; rintro e w' ⟨rfl, o, p, rfl⟩; rw [hb2])
              go_roundw
              case rel => exact ⟨k + 1, by omega, by go_num, snoc_all HE.out hb2, kept_new (kept_new (kept_new HK.out _) _) _⟩
              case measure => simp [intOf]; omega
          · have HA1 : Hid (Pl.accsOk ys m = true) := hide (Pl.accsOk_of (fun i hi => HE.out i (by omega)))
            go_wp2_with fail
            go_ret
            refine ⟨rB ?_, HK0.out.trans HK.out⟩
            rw [G.out, HA1.out, h2]
            simp at h3
            simp; omega
      · go_enter Tryz.func49, Tryz.ntmps49
        go_wp2_with (go_at_call 91; refine (areBytes _ a ca xs (HA.out.keptS HK0.out) lx).mono ?_; rintro e w' ⟨rfl, rfl⟩; rw [h2])
        go_ret
        refine ⟨rB ?_, HK0.out⟩
        rw [G.out]
        simp at h3
        rw [show decide (m ≤ 400) = false from by simp; omega]
        simp
  · have hl5 : Hid (¬ xs.length = 512) := hide (by simp at h1; omega)
    go_enter Tryz.func49, Tryz.ntmps49
    go_wp2_with (go_at_call 91; fail)
    go_ret
    refine ⟨rB ?_, HK0.out⟩
    unfold Pl.goodBus
    rw [show decide (xs.length = 512) = false from by simp [hl5.out]]
    simp
end Go.Proofs.YtblddehlkaolbaaGreatDoor

namespace Go.Proofs.YtblddehlkaolbaaGreatDoor
open Go.RowKit
set_option linter.unusedVariables false

def zeros : List Int := List.replicate 512 0
theorem zeros_len : zeros.length = 512 := List.length_replicate ..
theorem Tryz.infoMem : (Tryz.prog.info? 92).map (fun i => (i.zero, i.size)) = some (some (.agg (cellsOf zeros)), 512) := by kernel_rfl
theorem Tryz.memZero : ∀ w, (zeroValue 92).run Tryz.prog w = .ok (.agg (cellsOf zeros)) w := (zero_of_info Tryz.infoMem).1
theorem Tryz.memSize : (Tryz.prog.info? 92).map (·.size) = some 512 := (zero_of_info Tryz.infoMem).2
set_option maxHeartbeats 4000000 in
theorem memoryOf (w : World) (a b : Option Addr) (ca cb m : Nat) (xs : List Int) (ha : IRow w a xs) (lx : xs.length = 512) :
    Calls Tryz.prog 93 #[.agg #[.slice a xs.length ca, .slice b m cb]] w fun e w' => e = .returned (.agg (cellsOf xs)) ∧ Kept 0 0 w w' := by
  obtain ⟨ga, oa, rfl, _⟩ := ha 0 (by omega)
  have HA := hide ha
  have HX := hide lx
  clear ha lx
  have mz := Tryz.memZero
  have HS : Hid ((Tryz.prog.info? 3).map (·.size) = some 1) := hide (by kernel_rfl)
  go_enter Tryz.func93, Tryz.ntmps93
  go_wp2_with fail
  have K := hide (kept_new (kept_new (kept_alloc w (.cells #[.slice (some ⟨ga, oa, none⟩) xs.length ca, .slice b m cb] 34)) (.cells (cellsOf zeros) 92)) (.cells (cellsOf zeros) 92))
  have B0 := (((Blk.new w #[.slice (some ⟨ga, oa, none⟩) xs.length ca, .slice b m cb] 34).alloc (.cells (cellsOf zeros) 92)).alloc (.cells (cellsOf zeros) 92))
  have B1 := ((Blk.new (w.alloc (.cells #[.slice (some ⟨ga, oa, none⟩) xs.length ca, .slice b m cb] 34)) (cellsOf zeros) 92).alloc (.cells (cellsOf zeros) 92))
  have B2 := Blk.new ((w.alloc (.cells #[.slice (some ⟨ga, oa, none⟩) xs.length ca, .slice b m cb] 34)).alloc (.cells (cellsOf zeros) 92)) (cellsOf zeros) 92
  simp only [World.size_alloc] at B1 B2
  obtain ⟨W, hW⟩ : ∃ W : World, W = (((w.alloc (.cells #[.slice (some ⟨ga, oa, none⟩) xs.length ca, .slice b m cb] 34)).alloc (.cells (cellsOf zeros) 92)).alloc (.cells (cellsOf zeros) 92)) := ⟨_, rfl⟩
  rw [← hW] at K B0 B1 B2 ⊢
  clear hW
  have p0 := B0.cell (i := 0) rfl
  have H1 := hide B1
  have H2 := hide B2
  clear B0 B1 B2
  have HZ : Hid ((Tryz.prog.info? 92).map (·.size) = some (cellsOf xs).size) := hide (by rw [cellsOf_size, HX.out]; exact Tryz.memSize)
  have HZ2 : Hid ((cellsOf zeros).size = (cellsOf xs).size) := hide (by rw [cellsOf_size, cellsOf_size, HX.out, zeros_len])
  have HN : Hid ((xs.map (Value.int .i64)).length = Nat.min xs.length 512) := hide (by rw [HX.out]; simp [HX.out])
  have HF : Hid (0 + (xs.map (Value.int .i64)).length ≤ (zeros.map (Value.int .i64)).length) := hide (by simp [HX.out, zeros_len])
  go_region_law (refine step_copy_splice rfl (.tmp 4) (.tmp 6) 22 22 rfl 3 Tryz.underlying22 HS.out _ _ _ _ _ _ rfl rfl (w.heap.size + 1 + 1) 0 (zeros.map (Value.int .i64)) 92 ?hg (xs.map (Value.int .i64)) HN.out ?hpos HF.out news_one (w.heap.size + 1 + 1) W ?hb (Nat.le_refl _) ?_
                 (case hg => exact H2.out)
                 (case hb => exact (Below.refl _ W).drew)
                 (case hpos => intro _; exact ⟨rfl, _, rfl, news_of (HA.out.keptS (kept_drew K.out))⟩)
                 intro w4 hg4 hb4)
  all_goals
    have D2 : Hid (Blk w4 (w.heap.size + 1 + 1) (cellsOf xs) 92) := hide (by
      have h := hg4.out
      rw [splice_all (by simp [HX.out, zeros_len])] at h
      exact h)
    have D1 : Hid (Blk w4 (w.heap.size + 1) (cellsOf zeros) 92) := hide ((hb4.block _ (by omega)).trans H1.out)
    have K4 : Hid (Kept 0 0 w w4) := hide (kept_lower K.out hb4 (by omega))
    clear hg4 hb4
    go_wp2_with (first | (refine wpList_load_row rfl 92 (.tmp 3) rfl (w.heap.size + 1 + 1) rfl 92 (cellsOf xs) (0, 0) _ D2.out Tryz.underlying92 rfl HZ.out ?_) | (refine wpList_store_row rfl 92 (.tmp 2) (.tmp 8) rfl (w.heap.size + 1) (cellsOf xs) rfl rfl 92 (cellsOf zeros) D1.out HZ.out HZ2.out (cellsOf_one xs) ?_))
    refine bodyPost_ret (v := .agg (cellsOf xs)) ?_ rfl ⟨rfl, kept_setRow K4.out _ _ (by omega)⟩
    exact results_cell_row rfl _ _ _ _ _ (0, 0) _ rfl D1.out.setRow Tryz.underlying92 rfl HZ.out

set_option maxHeartbeats 4000000 in
theorem memList (w : World) (xs : List Int) (lx : xs.length = 512) :
    Calls Tryz.prog 103 #[.agg (cellsOf xs)] w fun e w' => ∃ g : Nat, e = .returned (.slice (some ⟨g, 0, none⟩) 512 512) ∧ Blk w' g (cellsOf xs) 3 ∧ w.heap.size ≤ g ∧ Kept 0 0 w w' := by
  obtain ⟨i, hi, hz0, hz1, hz2⟩ := info_parts Tryz.info3
  have HS : Hid ((Tryz.prog.info? 3).map (·.size) = some 1) := hide (by kernel_rfl)
  have HX := hide lx
  clear lx
  go_enter Tryz.func103, Tryz.ntmps103
  go_wp2_with (first | (at_make; refine wpList_make_full _ rfl _ _ 22 rfl w.heap.size 3 i (.int .i64 0) 1 Tryz.underlying22 hi hz0 hz1 _ _ _ _ 512 rfl rfl rfl rfl ?c1 ?c2 ?c3 ?_))
  case c1 => rw [hz2]; decide
  case c2 => unfold maxLen; decide
  case c3 => simp
  intro w1 hown hg
  have K1 := hide ((kept_alloc w (.cells (cellsOf xs) 92)).trans (kept_grown hg))
  have B0 := hide ((Blk.new w (cellsOf xs) 92).kept0 (kept_grown hg))
  have B1 : Hid (Blk w1 (w.heap.size + 1) (cellsOf zeros) 3) := hide (by
    have h := blk_of_row hown
    have e : (madeCells #[Value.int .i64 0] 512).toList = zeros.map (Value.int .i64) := by
      rw [toList_madeCells_one, zeros, List.map_replicate]
    rw [e] at h
    exact h)
  clear hown hg
  have HR : Hid (IRow w1 (some ⟨w.heap.size, 0, none⟩) xs) := hide (own_of_blk B0.out).row
  have hcopy : (Builtin.copy_ #[22, 22] 3 #[.slice (some ⟨w.heap.size + 1, 0, none⟩) 512 512, .slice (some ⟨w.heap.size, 0, none⟩) 512 512]).run Tryz.prog w1 = .ok (.int .i64 512) (w1.setRow (w.heap.size + 1) (cellsOf xs)) := by
    have h := run_copy_row Tryz.prog w1 22 22 3 3 (w.heap.size + 1) 0 512 512 ⟨w.heap.size, 0, none⟩ 512 512 (cellsOf zeros) 3 (xs.map (Value.int .i64)) Tryz.underlying22 HS.out B1.out (by simp [HX.out]) (news_of HR.out) (by simp [HX.out, cellsOf_size, zeros_len]) news_one
    rw [h]
    have e : (List.take 0 (cellsOf zeros).toList ++ xs.map (Value.int .i64) ++ List.drop (0 + (xs.map (Value.int .i64)).length) (cellsOf zeros).toList) = xs.map (Value.int .i64) := by
      rw [List.drop_eq_nil_of_le (by simp [HX.out, cellsOf_size, zeros_len])]; simp
    rw [e, show (xs.map (Value.int .i64)).length = 512 by simp [HX.out]]
    rfl
  go_wp2_with fail
  have hl := B1.out.lt
  refine bodyPost_ret (results_tmp rfl _ _ _) rfl ⟨w.heap.size + 1, rfl, B1.out.setRow, by omega, kept_setRow K1.out _ _ (by omega)⟩

set_option maxRecDepth 20000 in
set_option maxHeartbeats 4000000 in
theorem memRead (w : World) (xs : List Int) (s n : Nat) (lx : xs.length = 512) (hb : Pl.bytesOk xs = true) (s0 : 1 ≤ s) (s1 : s ≤ 2) (hn : n + s ≤ 512) :
    Calls Tryz.prog 195 #[.agg (cellsOf xs), .int .i64 s, .int .i64 n] w fun e w' => e = .returned (.int .i64 (Pl.rd xs s n)) ∧ Kept 0 0 w w' := by
  have HX := hide lx
  have HO := hide (own_of_blk (Blk.new w (cellsOf xs) 92))
  have HK := hide (kept_alloc w (.cells (cellsOf xs) 92))
  have HB := hide hb
  have HS0 := hide s0
  have HN : Hid (n + s ≤ 512) := hide hn
  clear lx hb
  have hsl : ∀ W : World, (Instr.sliceAt 92 (.pointer (some ⟨w.heap.size, 0, none⟩)) (some (.int .i64 (n : Int))) (some (.int .i64 ((n : Int) + (s : Int)))) none).run Tryz.prog W = .ok (.slice (some ⟨w.heap.size, n, none⟩) s (512 - n)) W := by
    intro W
    have hlen : Tryz.prog.arrayLen 92 = 512 := by kernel_rfl
    have hel : Tryz.prog.elem 92 = 3 := by kernel_rfl
    have ht : Tryz.prog.underlying 92 = some (.array (Tryz.prog.arrayLen 92) (Tryz.prog.elem 92)) := by kernel_rfl
    obtain ⟨i, hi, hz0, hz1, hz2⟩ := info_parts Tryz.info3
    rw [run_sliceAt_array_lh W 92 _ ht .i64 .i64 n ((n : Int) + (s : Int)) (by omega) (by omega) (by rw [hlen]; omega), hlen, hel]
    have e1 : ((n : Int)).toNat = n := by omega
    have e2 : ((n : Int) + (s : Int)).toNat - n = s := by omega
    have q1 : ¬ 512 = n := by omega
    simp only [sizeOf, typeInfo, Sem.run_bind, Sem.run_pure, slicedAt, e1, e2, q1, if_false]
    simp [hi, hz1, Addr.add]
    intro h0; exact h0.symm
  go_enter Tryz.func195, Tryz.ntmps195
  go_wp2_with fail
  go_loop [7, 9, 16] (fun v _ j => ∃ k : Nat, k ≤ s ∧ j = .int .i64 k ∧ v = .int .i64 (Pl.rdK xs n k)) (fun _ _ j => s - (intOf j).toNat)
  case atStart => exact ⟨0, Nat.zero_le _, rfl, rfl⟩
  case round =>
    obtain ⟨k, hk, rfl, rfl⟩ := hrel
    by_cases hlt : k < s
    · obtain ⟨hc, _⟩ := HO.out (n + k) (by rw [HX.out]; omega)
      have b0 := Pl.bytesOk_at HB.out n (by rw [HX.out]; omega)
      have b1 := Pl.bytesOk_at HB.out (n + k) (by rw [HX.out]; omega)
      rw [show xs[n + k]?.getD 0 = el xs (n + k) from rfl] at hc
      obtain ⟨b00, b01⟩ := b0
      obtain ⟨b10, b11⟩ := b1
      by_cases hk0 : k = 0
      · subst hk0
        have hor := Pl.word_or (h := 0) (by decide) (by decide) b10 b11
        rw [Int.zero_mul, Int.zero_add] at hor
        rw [Nat.add_zero] at hc hor b10 b11
        rw [show Pl.rdK xs n 0 = 0 from rfl]
        go_wp2
        go_round
        case rel => exact ⟨1, by omega, rfl, rfl⟩
        case measure => simp [intOf]; omega
      · obtain rfl : k = 1 := by omega
        have hor := Pl.word_or b00 b01 b10 b11
        rw [show Pl.rdK xs n 1 = el xs n from rfl]
        go_wp2
        go_round
        case rel => exact ⟨2, by omega, rfl, rfl⟩
        case measure => simp [intOf]; omega
    · have E : Hid (Pl.rdK xs n k = Pl.rd xs s n) := hide (by
        have : k = 1 ∨ k = 2 := by omega
        unfold Pl.rdK Pl.rd
        rcases this with rfl | rfl
        · rw [if_neg (by decide), if_pos rfl, if_pos (by omega)]
        · rw [if_neg (by decide), if_neg (by decide), if_neg (by omega)])
      go_wp2
      go_ret
      exact ⟨rI E.out, HK.out⟩
end Go.Proofs.YtblddehlkaolbaaGreatDoor

namespace Go.Proofs.YtblddehlkaolbaaGreatDoor
open Go.RowKit
set_option linter.unusedVariables false
theorem codeOf (k s a v c : Int) (w : World) (hs : s = 1 ∨ s = 2) (a0 : 0 ≤ a) (a1 : a ≤ 65535) :
    Calls Tryz.prog 162 #[.agg #[.int .i64 k, .int .i64 s, .int .i64 a, .int .i64 v, .int .i64 c]] w fun e w' => e = .returned (.int .i64 (Pl.code k s a)) ∧ ∃ o, w' = w.alloc o := by
  have G : Hid (Pl.code k s a = if ((s == 2) && decide (a % 2 = 1)) then 2 else if ((Pl.kind a == 3) && (k != 2)) then 0 else Pl.kind a) := hide (by
    rw [Pl.code_part hs]
    simp only [Bool.and_eq_true, beq_iff_eq, decide_eq_true_eq, bne_iff_ne, ne_eq])
  cases h1 : (s == 2)
  · cases h3 : (Pl.kind a == 3)
    · rw [h1, h3] at G
      go_enter Tryz.func162, Tryz.ntmps162
      go_wp2_with (first | (go_at_call 192; refine (isOdd _ _ a0 a1).mono ?_; rintro e w' ⟨rfl, rfl⟩) | (go_at_call 193; refine (partOf _ _).mono ?_; rintro e w' ⟨rfl, rfl⟩))
      go_ret
      exact ⟨rI (by rw [G.out]; simp), _, rfl⟩
    · cases h4 : (k != 2)
      all_goals
        rw [h1, h3, h4] at G
        go_enter Tryz.func162, Tryz.ntmps162
        go_wp2_with (first | (go_at_call 192; refine (isOdd _ _ a0 a1).mono ?_; rintro e w' ⟨rfl, rfl⟩) | (go_at_call 193; refine (partOf _ _).mono ?_; rintro e w' ⟨rfl, rfl⟩))
        go_ret
        exact ⟨rI (by rw [G.out]; simp), _, rfl⟩
  · cases h2 : decide (a % 2 = 1)
    · cases h3 : (Pl.kind a == 3)
      · rw [h1, h2, h3] at G
        go_enter Tryz.func162, Tryz.ntmps162
        go_wp2_with (first | (go_at_call 192; refine (isOdd _ _ a0 a1).mono ?_; rintro e w' ⟨rfl, rfl⟩; rw [h2]) | (go_at_call 193; refine (partOf _ _).mono ?_; rintro e w' ⟨rfl, rfl⟩))
        go_ret
        exact ⟨rI (by rw [G.out]; simp), _, rfl⟩
      · cases h4 : (k != 2)
        all_goals
          rw [h1, h2, h3, h4] at G
          go_enter Tryz.func162, Tryz.ntmps162
          go_wp2_with (first | (go_at_call 192; refine (isOdd _ _ a0 a1).mono ?_; rintro e w' ⟨rfl, rfl⟩; rw [h2]) | (go_at_call 193; refine (partOf _ _).mono ?_; rintro e w' ⟨rfl, rfl⟩))
          go_ret
          exact ⟨rI (by rw [G.out]; simp), _, rfl⟩
    · rw [h1, h2] at G
      go_enter Tryz.func162, Tryz.ntmps162
      go_wp2_with (first | (go_at_call 192; refine (isOdd _ _ a0 a1).mono ?_; rintro e w' ⟨rfl, rfl⟩; rw [h2]) | (go_at_call 193; refine (partOf _ _).mono ?_; rintro e w' ⟨rfl, rfl⟩))
      go_ret
      exact ⟨rI (by rw [G.out]; simp), _, rfl⟩

theorem memReadI (w : World) (xs : List Int) (s : Int) (n : Nat) (lx : xs.length = 512) (hb : Pl.bytesOk xs = true) (hs : s = 1 ∨ s = 2) (hn : (n : Int) + s ≤ 512) :
    Calls Tryz.prog 195 #[.agg (cellsOf xs), .int .i64 s, .int .i64 n] w fun e w' => e = .returned (.int .i64 (Pl.rd xs s n)) ∧ Kept 0 0 w w' := by
  rcases hs with rfl | rfl
  · exact memRead w xs 1 n lx hb (by decide) (by decide) (by omega)
  · exact memRead w xs 2 n lx hb (by decide) (by decide) (by omega)
theorem accS {w : World} {q : Nat} {k s a v c : Int} {ty : TypeId} (h : Blk w q #[.int .i64 k, .int .i64 s, .int .i64 a, .int .i64 v, .int .i64 c] ty) : w.cell? ⟨q, 1, none⟩ = some (.int .i64 s) ∧ w.cell? ⟨q, 2, none⟩ = some (.int .i64 a) ∧ w.cell? ⟨q, 3, none⟩ = some (.int .i64 v) :=
  ⟨h.cell (i := 1) rfl, h.cell (i := 2) rfl, h.cell (i := 3) rfl⟩
theorem accR {w : World} {q : Nat} {k s a v c : Int} {ty : TypeId} (h : Blk w q #[.int .i64 k, .int .i64 s, .int .i64 a, .int .i64 v, .int .i64 c] ty) : w.cell? ⟨q, 1, none⟩ = some (.int .i64 s) ∧ w.cell? ⟨q, 2, none⟩ = some (.int .i64 a) :=
  ⟨h.cell (i := 1) rfl, h.cell (i := 2) rfl⟩

namespace Pl
theorem rd_bd {xs : List Int} {s : Int} {i : Nat} (hb : bytesOk xs = true) (hs : s = 1 ∨ s = 2) (hi : (i : Int) + s ≤ xs.length) : 0 ≤ rd xs s i ∧ rd xs s i ≤ (if s = 1 then 255 else 65535) := by
  unfold rd
  rcases hs with rfl | rfl
  · rw [if_pos rfl, if_pos rfl]; exact bytesOk_at hb i (by omega)
  · rw [if_neg (by decide), if_neg (by decide)]
    have := bytesOk_at hb i (by omega)
    have := bytesOk_at hb (i + 1) (by omega)
    omega
theorem code_bd (k s a : Int) : 0 ≤ code k s a ∧ code k s a ≤ 3 := by
  unfold code
  repeat' split
  all_goals omega
theorem lv_bd {xs : List Int} {k s a v : Int} (hl : xs.length = 512) (hb : bytesOk xs = true) (h : askOk k s a v = true) : 0 ≤ lv xs k s a v ∧ lv xs k s a v ≤ (if s = 1 then 255 else 65535) := by
  obtain ⟨_, hs, v0, ⟨a0, a1⟩, _⟩ := ask_ok h
  unfold lv
  split
  · rename_i hc
    have := code_low hc.1 a0
    exact rd_bd hb (by omega) (by omega)
  · rcases hs with ⟨rfl, h1⟩ | ⟨rfl, h1⟩
    · rw [if_pos rfl]; omega
    · rw [if_neg (by decide)]; omega
theorem acc_logs {xs : List Int} {k s a v : Int} (hl : xs.length = 512) (hb : bytesOk xs = true) (h : askOk k s a v = true) : accOk k s a (lv xs k s a v) (code k s a) = ((k != 3) || (code k s a != 0)) := by
  have hv := lv_bd hl hb h
  have hc := code_bd k s a
  obtain ⟨hk, hs, _, ⟨a0, a1⟩, _⟩ := ask_ok h
  have e1 : accKind k = true := by simp [accKind]; omega
  have e2 : okv s (lv xs k s a v) = true := by
    unfold okv top
    rcases hs with ⟨rfl, _⟩ | ⟨rfl, _⟩
    · rw [if_pos rfl] at hv; simp; omega
    · rw [if_neg (by decide)] at hv; simp; omega
  have e3 : addr a = true := by simp [addr]; omega
  have e4 : (decide (0 ≤ code k s a) && decide (code k s a ≤ 3)) = true := by simp; omega
  unfold accOk
  rw [e1, e2, e3, e4]
  rfl
end Pl

end Go.Proofs.YtblddehlkaolbaaGreatDoor

namespace Go.Proofs.YtblddehlkaolbaaGreatDoor
open Go.RowKit
set_option linter.unusedVariables false
theorem Blk.setCB {w : World} {b : Nat} {r : Pl.Rg} {st ha : Bool} {xs : List Int} {u : Value} {ty : TypeId} (h : Blk w b (cor r xs u st ha) ty) {i : Nat} (hi : i < xs.length) (z : Int) : Blk (w.setCell ⟨b, 14 + i, none⟩ (.int .i64 z)) b (cor r (xs.set i z) u st ha) ty := by
  have := h.set (14 + i) (.int .i64 z)
  rwa [cor_setB hi] at this
theorem Blk.setCU {w : World} {b : Nat} {r : Pl.Rg} {st ha : Bool} {xs : List Int} {u : Value} {ty : TypeId} (h : Blk w b (cor r xs u st ha) ty) (hl : xs.length = 512) (u' : Value) : Blk (w.setCell ⟨b, 526, none⟩ u') b (cor r xs u' st ha) ty := by
  have := h.set 526 u'
  rwa [cor_setU hl] at this
theorem corS {w : World} {b : Nat} {r : Pl.Rg} {st ha : Bool} {xs : List Int} {u : Value} {ty : TypeId} (h : Blk w b (cor r xs u st ha) ty) (lx : xs.length = 512) : w.rangeAt b 14 (xs.map (Value.int .i64)) ∧ w.cell? ⟨b, 526, none⟩ = some u := by
  refine ⟨?_, h.cell (cor_log lx)⟩
  intro j v hv
  have hj : j < xs.length := by
    rcases Nat.lt_or_ge j xs.length with h' | h'
    · exact h'
    · rw [List.getElem?_eq_none (by simpa using h')] at hv; cases hv
  refine h.cell ?_
  rw [cor_at hj]
  simpa [el, hj] using hv
set_option maxHeartbeats 4000000 in
theorem cMemWrite1 (w : World) {R : Pl.Rg} {ST HA : Bool} (b : Nat) (u : Value) (ty : TypeId) (xs : List Int) (n : Nat) (v : Int) (hB : Blk w b (cor R xs u ST HA) ty) (lx : xs.length = 512) (hn : n + 1 ≤ 512) (v0 : 0 ≤ v) (v1 : v ≤ 255) :
    Calls Tryz.prog 194 #[.pointer (some ⟨b, 14, none⟩), .int .i64 1, .int .i64 n, .int .i64 v] w fun e w' => e = .returned (.tuple #[]) ∧ Blk w' b (cor R (xs.set n v) u ST HA) ty ∧ Kept b (b + 1) w w' := by
  have HB := hide hB
  have LX := hide lx
  have c0 := hB.cell (cor_at (r := R) (u := u) (st := ST) (ha := HA) (i := n) (by omega))
  have f0 := hB.frozen (14 + n)
  have e255 := Pl.and255 v
  have e0 : v % 256 = v := by omega
  rw [e0] at e255
  have i0 : (0 : Int) ≤ (n : Int) := by omega
  have i1 : (n : Int) < 512 := by omega
  clear hB lx e0
  go_enter Tryz.func194, Tryz.ntmps194
  go_wp2_with fail
  go_loopw [3, 8] (fun x i wr => (i = .int .i64 n ∧ x = .int .i64 v ∧ wr = w) ∨ (i = .int .i64 ((n : Int) - 1) ∧ Blk wr b (cor R (xs.set n v) u ST HA) ty ∧ Kept b (b + 1) w wr)) (fun _ i _ => (intOf i - n + 1).toNat)
  case atStart => exact .inl ⟨by go_num, rfl, rfl⟩
  case round =>
    rcases hrel with ⟨rfl, rfl, rfl⟩ | ⟨rfl, hb, hk⟩
    · go_wp2
      go_roundw
      case rel => exact .inr ⟨rfl, HB.out.setCB (by rw [LX.out]; omega) v, kept_set (Kept.refl _ _ _) _ _ _ (.inl (by omega))⟩
      case measure => simp [intOf]; omega
    · have HB2 := hide hb
      have HK2 := hide hk
      clear hb hk
      have hd : decide ((n : Int) ≤ (n : Int) - 1) = false := by simp; omega
      go_wp2
      go_end0
      exact ⟨rfl, HB2.out, HK2.out⟩

set_option maxRecDepth 100000 in
set_option maxHeartbeats 4000000 in
theorem cMemWrite2 (w : World) {R : Pl.Rg} {ST HA : Bool} (b : Nat) (u : Value) (ty : TypeId) (xs : List Int) (n : Nat) (v : Int) (hB : Blk w b (cor R xs u ST HA) ty) (lx : xs.length = 512) (hn : n + 2 ≤ 512) (v0 : 0 ≤ v) (v1 : v ≤ 65535) :
    Calls Tryz.prog 194 #[.pointer (some ⟨b, 14, none⟩), .int .i64 2, .int .i64 n, .int .i64 v] w fun e w' => e = .returned (.tuple #[]) ∧ Blk w' b (cor R ((xs.set n (v / 256)).set (n + 1) (v % 256)) u ST HA) ty ∧ Kept b (b + 1) w w' := by
  have HB := hide hB
  have LX := hide lx
  have c1 := hB.cell (cor_at (r := R) (u := u) (st := ST) (ha := HA) (i := n + 1) (by omega))
  have f1 := hB.frozen (14 + (n + 1))
  have e255 := Pl.and255 v
  have e256 := Pl.and255 (v / 256)
  have e0 : v / 256 % 256 = v / 256 := by omega
  rw [e0] at e256
  have i0 : (0 : Int) ≤ (n : Int) := by omega
  have i1 : (n : Int) + 1 < 512 := by omega
  have i2 : (0 : Int) ≤ (n : Int) + 1 := by omega
  have i3 : (n : Int) < 512 := by omega
  clear hB lx e0
  go_enter Tryz.func194, Tryz.ntmps194
  go_wp2_with fail
  go_loopw [3, 8] (fun x i wr => (i = .int .i64 ((n : Int) + 1) ∧ x = .int .i64 v ∧ wr = w) ∨ (i = .int .i64 n ∧ x = .int .i64 (v / 256) ∧ Blk wr b (cor R (xs.set (n + 1) (v % 256)) u ST HA) ty ∧ Kept b (b + 1) w wr) ∨ (i = .int .i64 ((n : Int) - 1) ∧ Blk wr b (cor R ((xs.set (n + 1) (v % 256)).set n (v / 256)) u ST HA) ty ∧ Kept b (b + 1) w wr)) (fun _ i _ => (intOf i - n + 1).toNat)
  case atStart => exact .inl ⟨by go_num, rfl, rfl⟩
  case round =>
    rcases hrel with ⟨rfl, rfl, rfl⟩ | ⟨rfl, rfl, hb, hk⟩ | ⟨rfl, hb, hk⟩
    · go_wp2
      go_roundw
      case rel => exact .inr (.inl ⟨by go_num, by go_num, HB.out.setCB (by rw [LX.out]; omega) _, kept_set (Kept.refl _ _ _) _ _ _ (.inl (by omega))⟩)
      case measure => simp [intOf]; omega
    · have HB2 := hide hb
      have HK2 := hide hk
      have c0 := hb.cell (cor_at (r := R) (u := u) (st := ST) (ha := HA) (i := n) (by rw [List.length_set, LX.out]; omega))
      have f0 := hb.frozen (14 + n)
      clear hb hk c1 f1
      go_wp2
      go_roundw
      case rel => exact .inr (.inr ⟨rfl, HB2.out.setCB (by rw [List.length_set, LX.out]; omega) _, kept_set HK2.out _ _ _ (.inl (by omega))⟩)
      case measure => simp [intOf]; omega
    · have HB2 := hide hb
      have HK2 := hide hk
      clear hb hk
      have hd : decide ((n : Int) ≤ (n : Int) - 1) = false := by simp; omega
      go_wp2
      go_end0
      refine ⟨rfl, ?_, HK2.out⟩
      have h := HB2.out
      rw [List.set_comm _ _ (by omega)] at h
      exact h

theorem cMemWrite (w : World) {R : Pl.Rg} {ST HA : Bool} (b : Nat) (u : Value) (ty : TypeId) (xs : List Int) (s : Int) (n : Nat) (v : Int) (hB : Blk w b (cor R xs u ST HA) ty) (lx : xs.length = 512) (hs : (s = 1 ∧ v ≤ 255) ∨ (s = 2 ∧ v ≤ 65535)) (hn : (n : Int) + s ≤ 512) (v0 : 0 ≤ v) :
    Calls Tryz.prog 194 #[.pointer (some ⟨b, 14, none⟩), .int .i64 s, .int .i64 n, .int .i64 v] w fun e w' => e = .returned (.tuple #[]) ∧ Blk w' b (cor R (Pl.wr xs s n v) u ST HA) ty ∧ Kept b (b + 1) w w' := by
  rcases hs with ⟨rfl, hv⟩ | ⟨rfl, hv⟩
  · exact cMemWrite1 w b u ty xs n v hB lx (by omega) v0 hv
  · exact cMemWrite2 w b u ty xs n v hB lx (by omega) v0 hv
set_option maxRecDepth 100000 in
set_option maxHeartbeats 4000000 in
theorem cCarryOut_w (w : World) {R : Pl.Rg} {ST HA : Bool} (b q : Nat) (u : Value) (xs : List Int) (s : Int) (n : Nat) (v c : Int) (hB : Blk w b (cor R xs u ST HA) 97) (hQ : Blk w q #[.int .i64 2, .int .i64 s, .int .i64 n, .int .i64 v, .int .i64 c] 110) (lx : xs.length = 512) (hs : (s = 1 ∧ v ≤ 255) ∨ (s = 2 ∧ v ≤ 65535)) (hn : (n : Int) + s ≤ 512) (v0 : 0 ≤ v) (hne : q ≠ b) :
    Calls Tryz.prog 163 #[.pointer (some ⟨b, 14, none⟩), .pointer (some ⟨q, 0, none⟩)] w fun e w' => e = .returned (.tuple #[]) ∧ Blk w' b (cor R (Pl.wr xs s n v) u ST HA) 97 ∧ Kept b (b + 1) w w' := by
  have HB := hide hB
  have HX := hide lx
  have HS := hide hs
  have HN := hide hn
  have HQ := hide hQ
  have q0 := hQ.cell (i := 0) rfl
  have q1 := hQ.cell (i := 1) rfl
  have q2 := hQ.cell (i := 2) rfl
  have q3 := hQ.cell (i := 3) rfl
  clear hB hQ lx hs hn
  go_enter Tryz.func163, Tryz.ntmps163
  go_wp2_with fail
  go_region_held3 (fun w' => w'.cell? ⟨q, 1, none⟩ = some (.int .i64 s) ∧ w'.cell? ⟨q, 2, none⟩ = some (.int .i64 n) ∧ w'.cell? ⟨q, 3, none⟩ = some (.int .i64 v)) (first | exact accS Q3.out | go_keep)
    (first | (go_at_call 194; refine (cMemWrite _ b u 97 xs s n v (HB.out.kept0 (kept_drew (Kept.refl _ _ _))) HX.out HS.out HN.out v0).mono ?_; rintro e w3 ⟨rfl, hb3, kd⟩; have B3 := hide hb3; have K3 := hide (undrewK kd); have Q3 := hide (HQ.out.kept (undrewK kd) (by omega)); clear hb3 kd))
  go_wp2_with fail
  refine bodyPost_ret (results_none rfl _ _ _) rfl ⟨rfl, B3.out, K3.out⟩

set_option maxRecDepth 100000 in
set_option maxHeartbeats 4000000 in
theorem cCarryOut_r (w : World) {R : Pl.Rg} {ST HA : Bool} (b q : Nat) (u : Value) (xs : List Int) (k s : Int) (n : Nat) (v c : Int) (hB : Blk w b (cor R xs u ST HA) 97) (hQ : Blk w q #[.int .i64 k, .int .i64 s, .int .i64 n, .int .i64 v, .int .i64 c] 110) (lx : xs.length = 512) (hby : Pl.bytesOk xs = true) (hk : ¬ k = 2) (hs : s = 1 ∨ s = 2) (hn : (n : Int) + s ≤ 512) (hne : q ≠ b) :
    Calls Tryz.prog 163 #[.pointer (some ⟨b, 14, none⟩), .pointer (some ⟨q, 0, none⟩)] w fun e w' => e = .returned (.tuple #[]) ∧ Blk w' q #[.int .i64 k, .int .i64 s, .int .i64 n, .int .i64 (Pl.rd xs s n), .int .i64 c] 110 ∧ Kept q (q + 1) w w' := by
  have HB := hide hB
  have HX := hide lx
  have HS := hide hs
  have HN := hide hn
  have HQ := hide hQ
  have HBY := hide hby
  have hu := Tryz.underlying92
  have hcs : (xs.map (Value.int .i64)).length = 512 := by rw [List.length_map, lx]
  have hi : (Tryz.prog.info? 92).map (·.size) = some (xs.map (Value.int .i64)).length := by rw [hcs]; exact Tryz.memSize
  have h1 : ∀ v ∈ xs.map (Value.int .i64), v.oneCell' = true := news_one
  have q0 := hQ.cell (i := 0) rfl
  have q1 := hQ.cell (i := 1) rfl
  have q2 := hQ.cell (i := 2) rfl
  have q3 := hQ.cell (i := 3) rfl
  have r1 := (corS hB lx).1
  have k2 : (k == 2) = false := by simpa using hk
  clear hB hQ lx hs hn hk hby
  go_enter Tryz.func163, Tryz.ntmps163
  go_wp2_with fail
  go_region_held3 (fun w' => w'.rangeAt b 14 (xs.map (Value.int .i64)) ∧ w'.cell? ⟨q, 1, none⟩ = some (.int .i64 s) ∧ w'.cell? ⟨q, 2, none⟩ = some (.int .i64 n)) (first | exact ⟨(corS B3.out HX.out).1, accR Q3.out⟩ | exact ⟨(corS (B3.out.other _ _ _ (fun e => hne e.symm)) HX.out).1, accR (Q3.out.set 3 _)⟩ | go_keep_ranges | go_keep)
    (first | (go_at_call 195; refine (memReadI _ xs s n HX.out HBY.out HS.out HN.out).mono ?_; rintro e w3 ⟨rfl, kd⟩; have K3 := hide (undrewK kd); have B3 := hide (HB.out.kept0 (undrewK kd)); have Q3 := hide (HQ.out.kept0 (undrewK kd)); have c3 := Q3.out.cell (i := 3) rfl; have f3 := Q3.out.frozen 3; clear kd))
  go_wp2_with fail
  go_end0
  refine ⟨rfl, Q3.out.set 3 _, ?_⟩
  exact kept_set K3.out.any _ _ _ (.inl (by omega))

end Go.Proofs.YtblddehlkaolbaaGreatDoor

namespace Go.Proofs.YtblddehlkaolbaaGreatDoor
open Go.RowKit
set_option linter.unusedVariables false
theorem since_two {w X w3 : World} {b q g : Nat} (k : Kept 0 0 w X) (h : FrP (fun i => i = b ∨ i = q) X w3) (hq : w.heap.size ≤ q) : Since w b (b + 1) g w3 g :=
  ⟨.inl rfl, ⟨h.os.trans k.os, h.tape.trans k.tape, h.output.trans k.output, Nat.le_trans k.size h.size, fun i hi hn => (h.block i (Nat.lt_of_lt_of_le hi k.size) (by unfold own at hn; omega)).trans (k.block i hi (by omega))⟩⟩
set_option maxRecDepth 100000 in
set_option maxHeartbeats 4000000 in
theorem cNote_not (w : World) {R : Pl.Rg} {ST HA : Bool} (b : Nat) (xs : List Int) (d : Option Addr) (m cu : Nat) (k s a v c : Int) (hB : Blk w b (cor R xs (.slice d m cu) ST HA) 97) (lx : xs.length = 512) (bm : m ≤ 400) (lo : -9223372036854775808 ≤ v) (hi : v ≤ 9223372036854775807) (hno : (decide (m < 400) && Pl.accOk k s a v c) = false) :
    Calls Tryz.prog 164 #[.pointer (some ⟨b, 14, none⟩), .agg #[.int .i64 k, .int .i64 s, .int .i64 a, .int .i64 v, .int .i64 c]] w fun e w' => e = .returned (.tuple #[]) ∧ Kept 0 0 w w' := by
  have HB := hide hB
  have l0 := hB.cell (cor_log lx)
  have K0 := hide (kept_alloc w (.cells #[.int .i64 k, .int .i64 s, .int .i64 a, .int .i64 v, .int .i64 c] 110))
  have l1 := (hB.alloc (.cells #[.int .i64 k, .int .i64 s, .int .i64 a, .int .i64 v, .int .i64 c] 110)).cell (cor_log lx)
  clear hB
  cases h1 : decide ((m : Int) < 400)
  · go_enter Tryz.func164, Tryz.ntmps164
    go_wp2_with (go_at_call 92; fail)
    go_end0
    exact ⟨rfl, K0.out⟩
  · have h2 : Pl.accOk k s a v c = false := by
      rw [show decide (m < 400) = true from by simp at h1; simp; omega, Bool.true_and] at hno
      exact hno
    clear hno
    go_enter Tryz.func164, Tryz.ntmps164
    go_wp2_with (go_at_call 92; refine (isLogged _ _ _ _ _ _ lo hi).mono ?_; rintro e w' ⟨rfl, o, p, rfl⟩; rw [h2])
    go_end0
    exact ⟨rfl, kept_new (kept_new K0.out _) _⟩

set_option maxRecDepth 100000 in
set_option maxHeartbeats 4000000 in
theorem cNote_put (w : World) {R : Pl.Rg} {ST HA : Bool} (b base g2 : Nat) (xs ys : List Int) (m cu : Nat) (k s a v c : Int) (hB : Blk w b (cor R xs (.slice (some ⟨g2, 0, none⟩) m cu) ST HA) 97) (lx : xs.length = 512) (hO : w.ownsRow base 110 5 (.slice (some ⟨g2, 0, none⟩) m cu) m (ys.map (Value.int .i64))) (hb : base ≤ b) (hbs : base ≤ w.heap.size) (hne : b ≠ g2) (bm : m < 400) (lo : -9223372036854775808 ≤ v) (hi : v ≤ 9223372036854775807) (hyes : Pl.accOk k s a v c = true) :
    Calls Tryz.prog 164 #[.pointer (some ⟨b, 14, none⟩), .agg #[.int .i64 k, .int .i64 s, .int .i64 a, .int .i64 v, .int .i64 c]] w fun e w' => ∃ g3 c3 : Nat, e = .returned (.tuple #[]) ∧ Blk w' b (cor R xs (.slice (some ⟨g3, 0, none⟩) (m + 1) c3) ST HA) 97 ∧ w'.ownsRow base 110 5 (.slice (some ⟨g3, 0, none⟩) (m + 1) c3) (m + 1) ((ys ++ [k, s, a, v, c]).map (Value.int .i64)) ∧ b ≠ g3 ∧ Since w b (b + 1) g2 w' g3 := by
  obtain ⟨i, hi0, hz0, hz1, hz2⟩ := info_parts Tryz.infoAcc
  have HB := hide hB
  have HO := hide hO
  have HX := hide lx
  have l0 := hB.cell (cor_log lx)
  have K0 := hide (kept_alloc w (.cells #[.int .i64 k, .int .i64 s, .int .i64 a, .int .i64 v, .int .i64 c] 110))
  have l1 := (hB.alloc (.cells #[.int .i64 k, .int .i64 s, .int .i64 a, .int .i64 v, .int .i64 c] 110)).cell (cor_log lx)
  have h1 : decide ((m : Int) < 400) = true := by simp; omega
  clear hB hO
  go_enter Tryz.func164, Tryz.ntmps164
  go_wp2_with (go_at_call 92; refine (isLogged _ _ _ _ _ _ lo hi).mono ?_; rintro e w' ⟨rfl, o, p, rfl⟩; rw [hyes])
  have BW := hide ((((HB.out.alloc (.cells #[.int .i64 k, .int .i64 s, .int .i64 a, .int .i64 v, .int .i64 c] 110)).alloc o)).alloc p)
  have AW := hide (((Blk.new w #[.int .i64 k, .int .i64 s, .int .i64 a, .int .i64 v, .int .i64 c] 110).alloc o).alloc p)
  have KW := hide (kept_new (kept_new K0.out o) p)
  have OW := hide (((HO.out.alloc (.cells #[.int .i64 k, .int .i64 s, .int .i64 a, .int .i64 v, .int .i64 c] 110)).alloc o).alloc p)
  obtain ⟨W, hW⟩ : ∃ W : World, W = ((w.alloc (.cells #[.int .i64 k, .int .i64 s, .int .i64 a, .int .i64 v, .int .i64 c] 110)).alloc o).alloc p := ⟨_, rfl⟩
  rw [← hW] at BW AW KW OW ⊢
  have hsz : w.heap.size < W.heap.size := AW.out.lt
  clear hW l0 l1
  have z0 := BW.out.cell (cor_log HX.out)
  have a0 := AW.out.cell (i := 0) rfl
  have a1 := AW.out.cell (i := 1) rfl
  have a2 := AW.out.cell (i := 2) rfl
  have a3 := AW.out.cell (i := 3) rfl
  have a4 := AW.out.cell (i := 4) rfl
  have y0 : ∀ o, (W.alloc o).cell? ⟨b, 526, none⟩ = some (.slice (some ⟨g2, 0, none⟩) m cu) := fun o => (BW.out.alloc o).cell (cor_log HX.out)
  have H63 : Hid (m + 1 ≤ maxLen) := hide (by unfold maxLen; omega)
  have HBY : Hid ((m + 1) * 40 ≤ 140737488355328) := hide (by omega)
  go_region_law ((refine step_append_lies _ (by rfl) _ _ _ (by rfl) base 110 i _ 5 40 Tryz.underlying32 hi0 hz0 hz1 hz2 rfl (by omega) (.slice (some ⟨g2, 0, none⟩) m cu) m (ys.map (Value.int .i64)) (by rfl) ((OW.out.alloc _).drew) ⟨W.heap.size, 0, none⟩ 1 1 [.int .i64 k, .int .i64 s, .int .i64 a, .int .i64 v, .int .i64 c] (by rfl) (by rfl) (World.news_of_block (cs := #[.int .i64 k, .int .i64 s, .int .i64 a, .int .i64 v, .int .i64 c]) (t := 110) (fr := (0, 0)) (heap_alloc_new W _)) (by simp [Value.oneCell']) (by omega) H63.out HBY.out (by simp; omega) (W.heap.size + 1) (by simp) ?_; intro g3 c3 w1 hown1 hgrow hat hlt; have B1 : Hid (Blk w1 b (cor R xs (.slice (some ⟨g2, 0, none⟩) m cu) ST HA) 97) := hide ((hgrow.block b (by have := BW.out.lt; simp; omega) (by simp [Value.ownBlock]; omega)).trans (BW.out.alloc _)); have e0 := B1.out.cell (cor_log HX.out); have e1 := B1.out.frozen 526; have G1 := hide hgrow; have O1 := hide hown1; clear hgrow hown1))
  all_goals
    go_end0
    have lb := HB.out.lt
    have lB := BW.out.lt
    obtain ⟨l1, l2⟩ := HO.out.lt g2 rfl
    have hat' : g2 = g3 ∨ g3 = W.heap.size + 1 := by
      rcases hat with h | h
      · exact .inl (Option.some.inj h)
      · exact .inr h
    have hb3 : b ≠ g3 := by omega
    refine ⟨g3, c3, rfl, B1.out.setCU HX.out _, ?_, hb3, ?_⟩
    · have h := O1.out.kept (grownBy_set w1 b 526 (.slice (some ⟨g3, 0, none⟩) (m + 1) c3)) (.inr (fun e => by have h2 : g3 = b := Option.some.inj e; omega))
      rw [List.map_append]
      exact h
    · have k1 : Kept 0 0 w (W.alloc (.cells #[.int .i64 k, .int .i64 s, .int .i64 a, .int .i64 v, .int .i64 c] 110)).drew := kept_drew (kept_new KW.out _)
      exact ⟨by omega, ((frp_kept k1 (by omega)).grown G1.out (fun x hx => .inr (Option.some.inj hx).symm)).set b 526 _ (.inl (.inl (by omega)))⟩
theorem cCarryOut (w : World) {R : Pl.Rg} {ST HA : Bool} (b q base g2 : Nat) (xs ys : List Int) (m cu : Nat) (k s a v c : Int) (hB : Blk w b (cor R xs (.slice (some ⟨g2, 0, none⟩) m cu) ST HA) 97) (hQ : Blk w q #[.int .i64 k, .int .i64 s, .int .i64 a, .int .i64 v, .int .i64 c] 110) (lx : xs.length = 512) (hby : Pl.bytesOk xs = true)
    (hO : w.ownsRow base 110 5 (.slice (some ⟨g2, 0, none⟩) m cu) m (ys.map (Value.int .i64))) (hb : base ≤ b) (hq : base ≤ q) (n1 : q ≠ b) (n2 : b ≠ g2) (n3 : q ≠ g2) (hask : Pl.askOk k s a v = true) (hc : Pl.code k s a = 0) :
    Calls Tryz.prog 163 #[.pointer (some ⟨b, 14, none⟩), .pointer (some ⟨q, 0, none⟩)] w fun e w' => e = .returned (.tuple #[]) ∧ Blk w' b (cor R (Pl.nb xs k s a v) (.slice (some ⟨g2, 0, none⟩) m cu) ST HA) 97 ∧ Blk w' q #[.int .i64 k, .int .i64 s, .int .i64 a, .int .i64 (Pl.lv xs k s a v), .int .i64 c] 110 ∧
      w'.ownsRow base 110 5 (.slice (some ⟨g2, 0, none⟩) m cu) m (ys.map (Value.int .i64)) ∧ FrP (fun i => i = b ∨ i = q) w w' := by
  obtain ⟨hk, hs, v0, ⟨a0, a1⟩, hkv⟩ := Pl.ask_ok hask
  have hlow := Pl.code_low hc a0
  obtain ⟨n, rfl⟩ : ∃ n : Nat, a = (n : Int) := ⟨a.toNat, by omega⟩
  by_cases h2 : k = 2
  · subst h2
    have e1 : Pl.nb xs 2 s n v = Pl.wr xs s n v := by unfold Pl.nb; rw [if_pos ⟨hc, rfl⟩]; rfl
    have e2 : Pl.lv xs 2 s n v = v := by unfold Pl.lv; rw [if_neg (by simp)]
    refine (cCarryOut_w w b q _ xs s n v c hB hQ lx hs (by omega) v0 n1).mono ?_
    rintro e w' ⟨rfl, hb', hk'⟩
    have lb := hB.lt
    refine ⟨rfl, by rw [e1]; exact hb', by rw [e2]; exact hQ.kept hk' (by omega), hO.kept (kept_by hk') (.inr (fun e => by have h3 : g2 = b := Option.some.inj e; omega)), frp_kept hk' (by omega)⟩
  · have e1 : Pl.nb xs k s n v = xs := by unfold Pl.nb; rw [if_neg (fun h => h2 h.2)]
    have e2 : Pl.lv xs k s n v = Pl.rd xs s n := by unfold Pl.lv; rw [if_pos ⟨hc, h2⟩]; rfl
    refine (cCarryOut_r w b q _ xs k s n v c hB hQ lx hby h2 (by omega) (by omega) n1).mono ?_
    rintro e w' ⟨rfl, hq', hk'⟩
    have lq := hQ.lt
    refine ⟨rfl, by rw [e1]; exact hB.kept hk' (by omega), by rw [e2]; exact hq', hO.kept (kept_by hk') (.inr (fun e => by have h3 : g2 = q := Option.some.inj e; omega)), frp_kept hk' (by omega)⟩

theorem cNote (w : World) {R : Pl.Rg} {ST HA : Bool} (b base g2 : Nat) (xs ys : List Int) (m cu : Nat) (k s a v c : Int) (hB : Blk w b (cor R xs (.slice (some ⟨g2, 0, none⟩) m cu) ST HA) 97) (lx : xs.length = 512) (hO : w.ownsRow base 110 5 (.slice (some ⟨g2, 0, none⟩) m cu) m (ys.map (Value.int .i64))) (hb : base ≤ b) (hne : b ≠ g2) (bm : m ≤ 400) (lo : -9223372036854775808 ≤ v) (hi : v ≤ 9223372036854775807)
    (m' : Nat) (ys' : List Int) (hm : m' = if (decide (m < 400) && Pl.accOk k s a v c) = true then m + 1 else m) (hy : ys' = if (decide (m < 400) && Pl.accOk k s a v c) = true then ys ++ [k, s, a, v, c] else ys) :
    Calls Tryz.prog 164 #[.pointer (some ⟨b, 14, none⟩), .agg #[.int .i64 k, .int .i64 s, .int .i64 a, .int .i64 v, .int .i64 c]] w fun e w' => ∃ g3 c3 : Nat, e = .returned (.tuple #[]) ∧ Blk w' b (cor R xs (.slice (some ⟨g3, 0, none⟩) m' c3) ST HA) 97 ∧ w'.ownsRow base 110 5 (.slice (some ⟨g3, 0, none⟩) m' c3) m' (ys'.map (Value.int .i64)) ∧ b ≠ g3 ∧ Since w b (b + 1) g2 w' g3 := by
  cases h : (decide (m < 400) && Pl.accOk k s a v c)
  · rw [hm, hy, h]
    refine (cNote_not w b xs _ m cu k s a v c hB lx bm lo hi h).mono ?_
    rintro e w' ⟨rfl, k'⟩
    exact ⟨g2, cu, rfl, hB.kept0 k', hO.kept k'.grown (.inr (fun e => by cases e)), hne, (Since.refl _ _ _ _).any k'⟩
  · rw [hm, hy, h]
    simp only [Bool.and_eq_true, decide_eq_true_eq] at h
    have lb := hB.lt
    show Calls _ _ _ _ _
    exact cNote_put w b base g2 xs ys m cu k s a v c hB lx hO hb (by omega) hne h.1 lo hi h.2

set_option maxRecDepth 100000 in
set_option maxHeartbeats 8000000 in
theorem cTouch (w : World) {R : Pl.Rg} {ST HA : Bool} (b base g2 : Nat) (xs ys : List Int) (m cu : Nat) (k s a v : Int) (hB : Blk w b (cor R xs (.slice (some ⟨g2, 0, none⟩) m cu) ST HA) 97) (lx : xs.length = 512) (hby : Pl.bytesOk xs = true)
    (hO : w.ownsRow base 110 5 (.slice (some ⟨g2, 0, none⟩) m cu) m (ys.map (Value.int .i64))) (hb : base ≤ b) (n2 : b ≠ g2) (bm : m ≤ 400) (hask : Pl.askOk k s a v = true) (T : Int) (HT : Hid (T = if k = 2 then 0 else Pl.lv xs k s a v)) :
    Calls Tryz.prog 136 #[.pointer (some ⟨b, 14, none⟩), .agg #[.int .i64 k, .int .i64 s, .int .i64 a, .int .i64 v, .int .i64 0]] w fun e w' => ∃ g3 c3 : Nat, e = .returned (.tuple #[.int .i64 T, .int .i64 (Pl.code k s a)]) ∧
      Blk w' b (cor R (Pl.nb xs k s a v) (.slice (some ⟨g3, 0, none⟩) (Pl.nm m k s a) c3) ST HA) 97 ∧ w'.ownsRow base 110 5 (.slice (some ⟨g3, 0, none⟩) (Pl.nm m k s a) c3) (Pl.nm m k s a) ((Pl.nl xs ys m k s a v).map (Value.int .i64)) ∧ b ≠ g3 ∧ Since w b (b + 1) g2 w' g3 := by
  obtain ⟨_, hs, v0, ⟨a0, a1⟩, hkv⟩ := Pl.ask_ok hask
  have hs' : s = 1 ∨ s = 2 := by omega
  have hlog := Pl.acc_logs lx hby hask
  have hvb := Pl.lv_bd lx hby hask
  have hv1 : Pl.lv xs k s a v ≤ 65535 := by split at hvb <;> omega
  obtain ⟨hg0, hg1⟩ := hO.lt g2 rfl
  have lb := hB.lt
  have HLOG := hide hlog
  have HV := hide (And.intro hvb.1 hv1)
  have HX := hide lx
  have HBY := hide hby
  have HASK := hide hask
  have HB0 := hide hB
  have HO0 := hide hO
  clear hB hO lx hby hask hlog hvb hs hkv
  go_enter Tryz.func136, Tryz.ntmps136
  go_wp2_with fail
  refine (codeOf k s a v 0 _ hs' a0 a1).mono ?_
  rintro e w1 ⟨rfl, o, rfl⟩
  obtain ⟨C, hC⟩ : ∃ C, C = Pl.code k s a := ⟨_, rfl⟩
  rw [← hC]
  have HC := hide hC
  clear hC
  have BX := hide ((HB0.out.alloc (.cells #[.int .i64 k, .int .i64 s, .int .i64 a, .int .i64 v, .int .i64 C] 110)).alloc o)
  have OX := hide ((HO0.out.alloc (.cells #[.int .i64 k, .int .i64 s, .int .i64 a, .int .i64 v, .int .i64 C] 110)).alloc o)
  have QX := hide ((Blk.new w #[.int .i64 k, .int .i64 s, .int .i64 a, .int .i64 v, .int .i64 C] 110).alloc o)
  have KX := hide (kept_new (kept_alloc w (.cells #[.int .i64 k, .int .i64 s, .int .i64 a, .int .i64 v, .int .i64 C] 110)) o)
  obtain ⟨X, hX⟩ : ∃ X : World, X = (w.alloc (.cells #[.int .i64 k, .int .i64 s, .int .i64 a, .int .i64 v, .int .i64 C] 110)).alloc o := ⟨_, rfl⟩
  rw [← hX] at BX OX QX KX
  cases hc : (C == 0)
  · have hc' : ¬ Pl.code k s a = 0 := by rw [← HC.out]; simpa using hc
    have e1 : Pl.nb xs k s a v = xs := by unfold Pl.nb; rw [if_neg (fun h => hc' h.1)]
    have e2 : Pl.lv xs k s a v = v := by unfold Pl.lv; rw [if_neg (fun h => hc' h.1)]
    have E1 := hide e1
    have E2 := hide e2
    have HM : Hid (Pl.nm m k s a = if (decide (m < 400) && Pl.accOk k s a v C) = true then m + 1 else m) := hide (by
      have h := HLOG.out; rw [e2] at h; rw [HC.out, h]; rfl)
    have HY : Hid (Pl.nl xs ys m k s a v = if (decide (m < 400) && Pl.accOk k s a v C) = true then ys ++ [k, s, a, v, C] else ys) := hide (by
      have h := HLOG.out; rw [e2] at h; rw [HC.out, h]; unfold Pl.nl; rw [e2]; rfl)
    clear hc' e1 e2
    go_wp2_with fail
    rw [← hX]
    clear hX
    refine (cNote X b base g2 xs ys m cu k s a v C BX.out HX.out OX.out hb n2 bm (by omega) (by have := HV.out; rw [E2.out] at this; omega) _ _ HM.out HY.out).mono ?_
    rintro e w4 ⟨g3, c3, rfl, hb4, ho4, hn4, hk4⟩
    have Q4 := hk4.blk QX.out (by omega) (by omega)
    have B4 := hide hb4
    have O4 := hide ho4
    have K4 := hide (((Since.refl w b (b + 1) g2).any KX.out).trans hk4)
    have y0 := Q4.cell (i := 0) rfl
    have y3 := Q4.cell (i := 3) rfl
    have y4 := Q4.cell (i := 4) rfl
    clear hb4 ho4 hk4 Q4
    cases hk2 : (k == 2)
    · have E3 : Hid (v = T) := hide (by rw [HT.out, if_neg (by simpa using hk2), E2.out])
      go_wp2_with fail
      go_quiet (fail)
      go_wp2_with fail
      go_ret2
      exact ⟨g3, c3, rII E3.out HC.out, by rw [E1.out]; exact B4.out, O4.out, hn4, K4.out.any (kept_drewN (Kept.refl 0 0 _) _)⟩
    · have E3 : Hid (0 = T) := hide (by rw [HT.out, if_pos (by simpa using hk2)])
      go_wp2_with fail
      go_quiet (fail)
      go_wp2_with fail
      go_ret2
      exact ⟨g3, c3, rII E3.out HC.out, by rw [E1.out]; exact B4.out, O4.out, hn4, K4.out.any (kept_drewN (Kept.refl 0 0 _) _)⟩
  · have hc' : Pl.code k s a = 0 := by rw [← HC.out]; simpa using hc
    have HC0 := hide hc'
    have HNL : Hid ((Pl.nb xs k s a v).length = 512) := hide (by rw [Pl.nb_len]; exact HX.out)
    have HM : Hid (Pl.nm m k s a = if (decide (m < 400) && Pl.accOk k s a (Pl.lv xs k s a v) C) = true then m + 1 else m) := hide (by
      have h := HLOG.out; rw [HC.out, h]; rfl)
    have HY : Hid (Pl.nl xs ys m k s a v = if (decide (m < 400) && Pl.accOk k s a (Pl.lv xs k s a v) C) = true then ys ++ [k, s, a, Pl.lv xs k s a v, C] else ys) := hide (by
      have h := HLOG.out; rw [HC.out, h]; unfold Pl.nl; rfl)
    clear hc'
    go_wp2_with fail
    rw [← hX]
    clear hX
    refine (cCarryOut X b w.heap.size base g2 xs ys m cu k s a v C BX.out QX.out HX.out HBY.out OX.out hb (by omega) (by omega) n2 (by omega) HASK.out HC0.out).mono ?_
    rintro e w3 ⟨rfl, hb3, hq3, ho3, hk3⟩
    have B3 := hide hb3
    have O3 := hide ho3
    have K3 := hide (since_two (g := g2) KX.out hk3 (Nat.le_refl _))
    have Q3 := hide hq3
    have z0 := hq3.cell (i := 0) rfl
    have z1 := hq3.cell (i := 1) rfl
    have z2 := hq3.cell (i := 2) rfl
    have z3 := hq3.cell (i := 3) rfl
    have z4 := hq3.cell (i := 4) rfl
    clear hb3 ho3 hk3 hq3
    go_wp2_with fail
    clear z0 z1 z2 z3 z4
    refine (cNote w3 b base g2 (Pl.nb xs k s a v) ys m cu k s a (Pl.lv xs k s a v) C B3.out HNL.out O3.out hb n2 bm (by have := HV.out; omega) (by have := HV.out; omega) _ _ HM.out HY.out).mono ?_
    rintro e w4 ⟨g3, c3, rfl, hb4, ho4, hn4, hk4⟩
    have Q4 := hk4.blk Q3.out (by omega) (by omega)
    have B4 := hide hb4
    have O4 := hide ho4
    have K4 := hide (K3.out.trans hk4)
    have y0 := Q4.cell (i := 0) rfl
    have y3 := Q4.cell (i := 3) rfl
    have y4 := Q4.cell (i := 4) rfl
    clear hb4 ho4 hk4 Q4
    cases hk2 : (k == 2)
    · have E3 : Hid (Pl.lv xs k s a v = T) := hide (by rw [HT.out, if_neg (by simpa using hk2)])
      go_wp2_with fail
      go_quiet (fail)
      go_wp2_with fail
      go_ret2
      exact ⟨g3, c3, rII E3.out HC.out, B4.out, O4.out, hn4, K4.out.any (kept_drewN (Kept.refl 0 0 _) _)⟩
    · have E3 : Hid (0 = T) := hide (by rw [HT.out, if_pos (by simpa using hk2)])
      go_wp2_with fail
      go_quiet (fail)
      go_wp2_with fail
      go_ret2
      exact ⟨g3, c3, rII E3.out HC.out, B4.out, O4.out, hn4, K4.out.any (kept_drewN (Kept.refl 0 0 _) _)⟩
/-- .. of a processor -/
theorem cTouchC (w : World) (lo b g : Nat) (c : Pl.Mc) (h : Bool) (k s a v T : Int) (hC : CAt w lo b g c h) (G : Pl.GM c) (hask : Pl.askOk k s a v = true) (HT : Hid (T = if k = 2 then 0 else Pl.lv c.bx k s a v)) :
    Calls Tryz.prog 136 #[.pointer (some ⟨b, 14, none⟩), .agg #[.int .i64 k, .int .i64 s, .int .i64 a, .int .i64 v, .int .i64 0]] w fun e w' => ∃ g', e = .returned (.tuple #[.int .i64 T, .int .i64 (Pl.code k s a)]) ∧ CAt w' lo b g' (c.acc k s a v) h ∧ Since w b (b + 1) g w' g' := by
  obtain ⟨cu, hB, hO⟩ := hC
  refine (cTouch w b lo g c.bx c.bl c.bm cu k s a v hB G.bx G.ok hO.l hO.lo' hO.ne G.bm hask T HT).mono ?_
  rintro e w' ⟨g3, c3, he, hb, ho, hn, hk⟩
  exact ⟨g3, he, ⟨c3, hb, ⟨ho, hO.lo', hn⟩⟩, hk⟩
end Go.Proofs.YtblddehlkaolbaaGreatDoor

namespace Go.Proofs.YtblddehlkaolbaaGreatDoor
open Go.RowKit
theorem Blk.all {w : World} {b : Nat} {cs : Array Value} {ty : TypeId} (h : Blk w b cs ty) (i : Nat) : w.cell? ⟨b, i, none⟩ = cs[i]? := by
  have e : w.heap[b]? = some (.cells cs ty (0, 0)) := h
  unfold World.cell?
  dsimp only
  rw [e]
  simp
theorem Blk.fz {w : World} {b : Nat} {cs : Array Value} {ty : TypeId} (h : Blk w b cs ty) (i : Nat) : w.frozen? ⟨b, i, none⟩ = false := h.frozen i
end Go.Proofs.YtblddehlkaolbaaGreatDoor

namespace Go.Proofs.YtblddehlkaolbaaGreatDoor
open Go.RowKit
set_option linter.unusedVariables false
theorem isFault (f : Pl.Ft) (w : World) : Calls Tryz.prog 34 #[.agg #[.int .i64 f.v, .int .i64 f.pc, .int .i64 f.ad, .int .i64 f.wo, .bool f.wr]] w fun e w' => e = .returned (.bool (f.v != 0)) ∧ Kept 0 0 w w' := by
  go_enter Tryz.func34, Tryz.ntmps34
  go_wp2
  go_ret
  exact ⟨rfl, kept_alloc _ _⟩
theorem acc5 {w : World} {q : Nat} {k s a v c : Int} {ty : TypeId} (h : Blk w q #[.int .i64 k, .int .i64 s, .int .i64 a, .int .i64 v, .int .i64 c] ty) : w.cell? ⟨q, 0, none⟩ = some (.int .i64 k) ∧ w.cell? ⟨q, 1, none⟩ = some (.int .i64 s) ∧ w.cell? ⟨q, 2, none⟩ = some (.int .i64 a) ∧ w.cell? ⟨q, 3, none⟩ = some (.int .i64 v) ∧ w.cell? ⟨q, 4, none⟩ = some (.int .i64 c) :=
  ⟨h.cell (i := 0) rfl, h.cell (i := 1) rfl, h.cell (i := 2) rfl, h.cell (i := 3) rfl, h.cell (i := 4) rfl⟩
set_option maxRecDepth 100000 in
set_option maxHeartbeats 4000000 in
theorem cAccess (w : World) (lo b g : Nat) (c : Pl.Mc) (h : Bool) (k s a v : Int) (hC : CAt w lo b g c h) (G : Pl.GM c) (hask : Pl.askOk k s a v = true) (V : Int) (HV : Hid (V = if k = 2 then 0 else Pl.lv c.bx k s a v)) (F : Pl.Ft) (HF : Hid (F = Pl.Mc.accF Pl.ftNo k s a)) :
    Calls Tryz.prog 94 #[.pointer (some ⟨b, 0, none⟩), .agg #[.int .i64 k, .int .i64 s, .int .i64 a, .int .i64 v, .int .i64 0]] w fun e w' => ∃ g', e = .returned (.tuple #[.int .i64 V, .agg (ftC F)]) ∧ CAt w' lo b g' (c.acc k s a v) h ∧ Since w b (b + 1) g w' g' := by
  obtain ⟨l0, l1, l2, l3, l4⟩ := hC.lt
  have HC := hide ((hC.alloc (.cells #[.int .i64 k, .int .i64 s, .int .i64 a, .int .i64 v, .int .i64 0] 110)).alloc (.cells (ftC Pl.ftNo) 38))
  have A0 := hide ((Blk.new w #[.int .i64 k, .int .i64 s, .int .i64 a, .int .i64 v, .int .i64 0] 110).alloc (.cells (ftC Pl.ftNo) 38))
  have F0 := Blk.new (w.alloc (.cells #[.int .i64 k, .int .i64 s, .int .i64 a, .int .i64 v, .int .i64 0] 110)) (ftC Pl.ftNo) 38
  simp only [World.size_alloc] at F0
  replace F0 := hide F0
  have K0 := hide (kept_new (kept_alloc w (.cells #[.int .i64 k, .int .i64 s, .int .i64 a, .int .i64 v, .int .i64 0] 110)) (.cells (ftC Pl.ftNo) 38))
  have HG := hide G
  have HASK := hide hask
  clear hC G hask
  obtain ⟨X, hX⟩ : ∃ X : World, (w.alloc (.cells #[.int .i64 k, .int .i64 s, .int .i64 a, .int .i64 v, .int .i64 0] 110)).alloc (.cells (ftC Pl.ftNo) 38) = X := ⟨_, rfl⟩
  rw [hX] at HC A0 F0 K0
  obtain ⟨a0, a1, a2, a3, a4⟩ := acc5 A0.out
  have hX' : (w.alloc (.cells #[.int .i64 k, .int .i64 s, .int .i64 a, .int .i64 v, .int .i64 0] 110)).alloc (.cells #[.int .i64 0, .int .i64 0, .int .i64 0, .int .i64 0, .bool false] 38) = X := hX
  clear hX
  go_enter Tryz.func94, Tryz.ntmps94
  go_wp2_with fail
  clear hX'
  go_region_held3 (fun w' => w'.cell? ⟨w.heap.size, 0, none⟩ = some (.int .i64 k) ∧ w'.cell? ⟨w.heap.size, 1, none⟩ = some (.int .i64 s) ∧ w'.cell? ⟨w.heap.size, 2, none⟩ = some (.int .i64 a) ∧ w'.cell? ⟨w.heap.size, 3, none⟩ = some (.int .i64 v) ∧ w'.cell? ⟨w.heap.size, 4, none⟩ = some (.int .i64 0)) (first | exact acc5 A3.out | exact acc5 (show Blk _ _ _ _ from A0.out) | go_keep)
    (first | (go_at_call 136; refine (cTouchC _ lo b g c h k s a v V HC.out.drew HG.out HASK.out HV).mono ?_; rintro e w3 ⟨g', rfl, hc3, hs3⟩; have C3 := hide hc3; have S3 := hide (((Since.refl w b (b + 1) g).any (kept_drew K0.out)).trans hs3); have A3 := hide (hs3.blk (show Blk X.drew _ _ _ from A0.out) (by omega) (by omega)); have F3 := hide (hs3.blk (show Blk X.drew _ _ _ from F0.out) (by omega) (by omega)); have n3 := hs3.ne (b := w.heap.size + 1) F0.out.lt (by omega); clear hc3 hs3))
  clear a0 a1 a2 a3 a4
  obtain ⟨a0, a1, a2, a3, a4⟩ := acc5 A3.out
  have p := (show Blk w3 (w.heap.size + 1) #[.int .i64 0, .int .i64 0, .int .i64 0, .int .i64 0, .bool false] 38 from F3.out).all
  have z := F3.out.fz
  obtain ⟨C, hCd⟩ : ∃ C, C = Pl.code k s a := ⟨_, rfl⟩
  rw [← hCd]
  unfold Pl.Mc.accF at HF
  rw [← hCd] at HF
  have V0 : Hid (¬ C = 0 → V = 0) := hide (by
    intro hn
    rw [HV.out]
    split
    · rfl
    · rename_i h2
      obtain ⟨_, _, _, _, h5⟩ := Pl.ask_ok HASK.out
      rw [show v = 0 by omega]
      unfold Pl.lv
      rw [if_neg (by rw [← hCd]; exact fun q => hn q.1)])
  clear hCd HV
  cases h0 : (C == 0)
  · have EV := hide (V0.out (by simpa using h0))
    have e1 : (C != 0) = true := by simpa using h0
    rw [e1] at HF
    cases h2 : (C == 2)
    · rw [h2] at HF
      have q : F = ⟨2, 0, a, 0, k == 2⟩ := HF.out
      subst q
      clear HF e1
      go_wp2_with fail
      go_region
      go_wp2_with fail
      have K5 := kept_drew (((((kept_one w3 (w.heap.size + 1) 0 (.int .i64 2)).one 1 (.int .i64 0)).one 2 (.int .i64 a)).one 3 (.int .i64 0)).one 4 (.bool (k == 2)))
      refine bodyPost_ret (v := .tuple #[.int .i64 0, .agg #[.int .i64 2, .int .i64 0, .int .i64 a, .int .i64 0, .bool (k == 2)]]) ?_ rfl ⟨g', by rw [EV.out]; rfl, C3.out.kept K5 (by omega) (by omega), S3.out.mine K5 (by omega)⟩
      rw [results_tc rfl]; go_simp
    · rw [h2] at HF
      have q : F = ⟨3, 0, a, 0, k == 2⟩ := HF.out
      subst q
      clear HF e1
      go_wp2_with fail
      go_region
      go_wp2_with fail
      have K5 := kept_drew (((((kept_one w3 (w.heap.size + 1) 0 (.int .i64 3)).one 1 (.int .i64 0)).one 2 (.int .i64 a)).one 3 (.int .i64 0)).one 4 (.bool (k == 2)))
      refine bodyPost_ret (v := .tuple #[.int .i64 0, .agg #[.int .i64 3, .int .i64 0, .int .i64 a, .int .i64 0, .bool (k == 2)]]) ?_ rfl ⟨g', by rw [EV.out]; rfl, C3.out.kept K5 (by omega) (by omega), S3.out.mine K5 (by omega)⟩
      rw [results_tc rfl]; go_simp
  · have e1 : (C != 0) = false := by simpa using h0
    rw [e1] at HF
    have q : F = Pl.ftNo := HF.out
    subst q
    clear HF e1
    go_wp2_with fail
    have K5 := ((((kept_one w3 (w.heap.size + 1) 0 (.int .i64 0)).one 1 (.int .i64 0)).one 2 (.int .i64 0)).one 3 (.int .i64 0)).one 4 (.bool false)
    refine bodyPost_ret (v := .tuple #[.int .i64 V, .agg #[.int .i64 0, .int .i64 0, .int .i64 0, .int .i64 0, .bool false]]) ?_ rfl ⟨g', rfl, C3.out.kept K5 (by omega) (by omega), S3.out.mine K5 (by omega)⟩
    rw [results_tc rfl]; go_simp
end Go.Proofs.YtblddehlkaolbaaGreatDoor

namespace Go.Proofs.YtblddehlkaolbaaGreatDoor
open Go.RowKit
set_option linter.unusedVariables false
theorem wayOf0 (k e : Int) (w : World) : Calls Tryz.prog 178 #[.agg #[.int .i64 0, .int .i64 k, .int .i64 e]] w fun r w' => r = .returned (.iface 189 (.agg #[.int .i64 k])) ∧ Kept 0 0 w w' := by
  go_enter Tryz.func178, Tryz.ntmps178
  go_wp2
  go_ret
  exact ⟨rfl, kept_alloc w _⟩
theorem wayOf1 (k e : Int) (w : World) : Calls Tryz.prog 178 #[.agg #[.int .i64 1, .int .i64 k, .int .i64 e]] w fun r w' => r = .returned (.iface 190 (.agg #[.int .i64 k])) ∧ Kept 0 0 w w' := by
  go_enter Tryz.func178, Tryz.ntmps178
  go_wp2
  go_ret
  exact ⟨rfl, kept_alloc w _⟩
theorem wayOf2 (k e : Int) (w : World) : Calls Tryz.prog 178 #[.agg #[.int .i64 2, .int .i64 k, .int .i64 e]] w fun r w' => r = .returned (.iface 200 (.agg #[.int .i64 k])) ∧ Kept 0 0 w w' := by
  go_enter Tryz.func178, Tryz.ntmps178
  go_wp2
  go_ret
  exact ⟨rfl, kept_alloc w _⟩
theorem wayOf3 (k e : Int) (w : World) : Calls Tryz.prog 178 #[.agg #[.int .i64 3, .int .i64 k, .int .i64 e]] w fun r w' => r = .returned (.iface 201 (.agg #[.int .i64 k])) ∧ Kept 0 0 w w' := by
  go_enter Tryz.func178, Tryz.ntmps178
  go_wp2
  go_ret
  exact ⟨rfl, kept_alloc w _⟩
theorem wayOf4 (k e : Int) (w : World) : Calls Tryz.prog 178 #[.agg #[.int .i64 4, .int .i64 k, .int .i64 e]] w fun r w' => r = .returned (.iface 202 (.agg #[.int .i64 k])) ∧ Kept 0 0 w w' := by
  go_enter Tryz.func178, Tryz.ntmps178
  go_wp2
  go_ret
  exact ⟨rfl, kept_alloc w _⟩
theorem wayOf5 (k e : Int) (w : World) : Calls Tryz.prog 178 #[.agg #[.int .i64 5, .int .i64 k, .int .i64 e]] w fun r w' => r = .returned (.iface 204 (.agg #[.int .i64 k, .int .i64 e])) ∧ Kept 0 0 w w' := by
  go_enter Tryz.func178, Tryz.ntmps178
  go_wp2
  go_ret
  exact ⟨rfl, kept_alloc w _⟩
theorem wayOf6 (k e : Int) (w : World) : Calls Tryz.prog 178 #[.agg #[.int .i64 6, .int .i64 k, .int .i64 e]] w fun r w' => r = .returned (.iface 205 (.agg #[.int .i64 e])) ∧ Kept 0 0 w w' := by
  go_enter Tryz.func178, Tryz.ntmps178
  go_wp2
  go_ret
  exact ⟨rfl, kept_alloc w _⟩
theorem wayOf7 (k e : Int) (w : World) : Calls Tryz.prog 178 #[.agg #[.int .i64 7, .int .i64 k, .int .i64 e]] w fun r w' => r = .returned (.iface 192 (.agg #[.int .i64 e])) ∧ Kept 0 0 w w' := by
  go_enter Tryz.func178, Tryz.ntmps178
  go_wp2
  go_ret
  exact ⟨rfl, kept_alloc w _⟩
theorem wayOfNo (m k e : Int) (w : World) (h : Pl.modeOk m = false) : Calls Tryz.prog 178 #[.agg #[.int .i64 m, .int .i64 k, .int .i64 e]] w fun r w' => r = .returned .nilIface ∧ Kept 0 0 w w' := by
  obtain ⟨n0, n1, n2, n3, n4, n5, n6, n7⟩ : ¬ m = 0 ∧ ¬ m = 1 ∧ ¬ m = 2 ∧ ¬ m = 3 ∧ ¬ m = 4 ∧ ¬ m = 5 ∧ ¬ m = 6 ∧ ¬ m = 7 := by
    simp [Pl.modeOk, Pl.within] at h
    omega
  go_enter Tryz.func178, Tryz.ntmps178
  go_wp2
  go_ret
  exact ⟨rfl, kept_alloc w _⟩
theorem operand0 (k e : Int) (w : World) : Calls Tryz.prog 265 #[.agg #[.int .i64 k]] w fun r w' => r = .returned (.agg #[.int .i64 0, .int .i64 k, .int .i64 0]) ∧ Kept 0 0 w w' := by
  go_enter Tryz.func265, Tryz.ntmps265
  go_wp2
  refine bodyPost_ret (v := .agg #[.int .i64 0, .int .i64 k, .int .i64 0]) ?_ rfl ⟨rfl, kept_new (kept_alloc w _) _⟩
  rw [results_one rfl]; go_simp
theorem operand1 (k e : Int) (w : World) : Calls Tryz.prog 266 #[.agg #[.int .i64 k]] w fun r w' => r = .returned (.agg #[.int .i64 1, .int .i64 k, .int .i64 0]) ∧ Kept 0 0 w w' := by
  go_enter Tryz.func266, Tryz.ntmps266
  go_wp2
  refine bodyPost_ret (v := .agg #[.int .i64 1, .int .i64 k, .int .i64 0]) ?_ rfl ⟨rfl, kept_new (kept_alloc w _) _⟩
  rw [results_one rfl]; go_simp
theorem operand2 (k e : Int) (w : World) : Calls Tryz.prog 268 #[.agg #[.int .i64 k]] w fun r w' => r = .returned (.agg #[.int .i64 2, .int .i64 k, .int .i64 0]) ∧ Kept 0 0 w w' := by
  go_enter Tryz.func268, Tryz.ntmps268
  go_wp2
  refine bodyPost_ret (v := .agg #[.int .i64 2, .int .i64 k, .int .i64 0]) ?_ rfl ⟨rfl, kept_new (kept_alloc w _) _⟩
  rw [results_one rfl]; go_simp
theorem operand3 (k e : Int) (w : World) : Calls Tryz.prog 269 #[.agg #[.int .i64 k]] w fun r w' => r = .returned (.agg #[.int .i64 3, .int .i64 k, .int .i64 0]) ∧ Kept 0 0 w w' := by
  go_enter Tryz.func269, Tryz.ntmps269
  go_wp2
  refine bodyPost_ret (v := .agg #[.int .i64 3, .int .i64 k, .int .i64 0]) ?_ rfl ⟨rfl, kept_new (kept_alloc w _) _⟩
  rw [results_one rfl]; go_simp
theorem operand4 (k e : Int) (w : World) : Calls Tryz.prog 270 #[.agg #[.int .i64 k]] w fun r w' => r = .returned (.agg #[.int .i64 4, .int .i64 k, .int .i64 0]) ∧ Kept 0 0 w w' := by
  go_enter Tryz.func270, Tryz.ntmps270
  go_wp2
  refine bodyPost_ret (v := .agg #[.int .i64 4, .int .i64 k, .int .i64 0]) ?_ rfl ⟨rfl, kept_new (kept_alloc w _) _⟩
  rw [results_one rfl]; go_simp
theorem operand5 (k e : Int) (w : World) : Calls Tryz.prog 271 #[.agg #[.int .i64 k, .int .i64 e]] w fun r w' => r = .returned (.agg #[.int .i64 5, .int .i64 k, .int .i64 e]) ∧ Kept 0 0 w w' := by
  go_enter Tryz.func271, Tryz.ntmps271
  go_wp2
  refine bodyPost_ret (v := .agg #[.int .i64 5, .int .i64 k, .int .i64 e]) ?_ rfl ⟨rfl, kept_new (kept_alloc w _) _⟩
  rw [results_one rfl]; go_simp
theorem operand6 (k e : Int) (w : World) : Calls Tryz.prog 272 #[.agg #[.int .i64 e]] w fun r w' => r = .returned (.agg #[.int .i64 6, .int .i64 0, .int .i64 e]) ∧ Kept 0 0 w w' := by
  go_enter Tryz.func272, Tryz.ntmps272
  go_wp2
  refine bodyPost_ret (v := .agg #[.int .i64 6, .int .i64 0, .int .i64 e]) ?_ rfl ⟨rfl, kept_new (kept_alloc w _) _⟩
  rw [results_one rfl]; go_simp
theorem operand7 (k e : Int) (w : World) : Calls Tryz.prog 267 #[.agg #[.int .i64 e]] w fun r w' => r = .returned (.agg #[.int .i64 7, .int .i64 0, .int .i64 e]) ∧ Kept 0 0 w w' := by
  go_enter Tryz.func267, Tryz.ntmps267
  go_wp2
  refine bodyPost_ret (v := .agg #[.int .i64 7, .int .i64 0, .int .i64 e]) ?_ rfl ⟨rfl, kept_new (kept_alloc w _) _⟩
  rw [results_one rfl]; go_simp
theorem fn0 (a : Array Value) (w : World) : (callFunc 265 a).run Tryz.prog w = .ok (.enter 265 a) w := by kernel_rfl
theorem meth0 (v : Value) (w : World) : (method 346 189 v "loop.example/g00389/impl.operand").run Tryz.prog w = .ok (265, v) w := by kernel_rfl
theorem fn1 (a : Array Value) (w : World) : (callFunc 266 a).run Tryz.prog w = .ok (.enter 266 a) w := by kernel_rfl
theorem meth1 (v : Value) (w : World) : (method 346 190 v "loop.example/g00389/impl.operand").run Tryz.prog w = .ok (266, v) w := by kernel_rfl
theorem fn2 (a : Array Value) (w : World) : (callFunc 268 a).run Tryz.prog w = .ok (.enter 268 a) w := by kernel_rfl
theorem meth2 (v : Value) (w : World) : (method 346 200 v "loop.example/g00389/impl.operand").run Tryz.prog w = .ok (268, v) w := by kernel_rfl
theorem fn3 (a : Array Value) (w : World) : (callFunc 269 a).run Tryz.prog w = .ok (.enter 269 a) w := by kernel_rfl
theorem meth3 (v : Value) (w : World) : (method 346 201 v "loop.example/g00389/impl.operand").run Tryz.prog w = .ok (269, v) w := by kernel_rfl
theorem fn4 (a : Array Value) (w : World) : (callFunc 270 a).run Tryz.prog w = .ok (.enter 270 a) w := by kernel_rfl
theorem meth4 (v : Value) (w : World) : (method 346 202 v "loop.example/g00389/impl.operand").run Tryz.prog w = .ok (270, v) w := by kernel_rfl
theorem fn5 (a : Array Value) (w : World) : (callFunc 271 a).run Tryz.prog w = .ok (.enter 271 a) w := by kernel_rfl
theorem meth5 (v : Value) (w : World) : (method 346 204 v "loop.example/g00389/impl.operand").run Tryz.prog w = .ok (271, v) w := by kernel_rfl
theorem fn6 (a : Array Value) (w : World) : (callFunc 272 a).run Tryz.prog w = .ok (.enter 272 a) w := by kernel_rfl
theorem meth6 (v : Value) (w : World) : (method 346 205 v "loop.example/g00389/impl.operand").run Tryz.prog w = .ok (272, v) w := by kernel_rfl
theorem fn7 (a : Array Value) (w : World) : (callFunc 267 a).run Tryz.prog w = .ok (.enter 267 a) w := by kernel_rfl
theorem meth7 (v : Value) (w : World) : (method 346 192 v "loop.example/g00389/impl.operand").run Tryz.prog w = .ok (267, v) w := by kernel_rfl
end Go.Proofs.YtblddehlkaolbaaGreatDoor

namespace Go.Proofs.YtblddehlkaolbaaGreatDoor
open Go.RowKit
set_option linter.unusedVariables false
theorem ta02 (v : Value) (w : World) : (Instr.typeAssert (.iface 189 v) 160 200 true).run Tryz.prog w = .ok (.tuple #[.agg #[.int .i64 0], .bool false]) w := by kernel_rfl
theorem ta03 (v : Value) (w : World) : (Instr.typeAssert (.iface 189 v) 160 201 true).run Tryz.prog w = .ok (.tuple #[.agg #[.int .i64 0], .bool false]) w := by kernel_rfl
theorem ta04 (v : Value) (w : World) : (Instr.typeAssert (.iface 189 v) 160 202 true).run Tryz.prog w = .ok (.tuple #[.agg #[.int .i64 0], .bool false]) w := by kernel_rfl
theorem ta05 (v : Value) (w : World) : (Instr.typeAssert (.iface 189 v) 160 204 true).run Tryz.prog w = .ok (.tuple #[.agg #[.int .i64 0, .int .i64 0], .bool false]) w := by kernel_rfl
theorem ta06 (v : Value) (w : World) : (Instr.typeAssert (.iface 189 v) 160 205 true).run Tryz.prog w = .ok (.tuple #[.agg #[.int .i64 0], .bool false]) w := by kernel_rfl
theorem ta07 (v : Value) (w : World) : (Instr.typeAssert (.iface 189 v) 160 192 true).run Tryz.prog w = .ok (.tuple #[.agg #[.int .i64 0], .bool false]) w := by kernel_rfl
theorem ta12 (v : Value) (w : World) : (Instr.typeAssert (.iface 190 v) 160 200 true).run Tryz.prog w = .ok (.tuple #[.agg #[.int .i64 0], .bool false]) w := by kernel_rfl
theorem ta13 (v : Value) (w : World) : (Instr.typeAssert (.iface 190 v) 160 201 true).run Tryz.prog w = .ok (.tuple #[.agg #[.int .i64 0], .bool false]) w := by kernel_rfl
theorem ta14 (v : Value) (w : World) : (Instr.typeAssert (.iface 190 v) 160 202 true).run Tryz.prog w = .ok (.tuple #[.agg #[.int .i64 0], .bool false]) w := by kernel_rfl
theorem ta15 (v : Value) (w : World) : (Instr.typeAssert (.iface 190 v) 160 204 true).run Tryz.prog w = .ok (.tuple #[.agg #[.int .i64 0, .int .i64 0], .bool false]) w := by kernel_rfl
theorem ta16 (v : Value) (w : World) : (Instr.typeAssert (.iface 190 v) 160 205 true).run Tryz.prog w = .ok (.tuple #[.agg #[.int .i64 0], .bool false]) w := by kernel_rfl
theorem ta17 (v : Value) (w : World) : (Instr.typeAssert (.iface 190 v) 160 192 true).run Tryz.prog w = .ok (.tuple #[.agg #[.int .i64 0], .bool false]) w := by kernel_rfl
theorem ta22 (v : Value) (w : World) : (Instr.typeAssert (.iface 200 v) 160 200 true).run Tryz.prog w = .ok (.tuple #[v, .bool true]) w := by kernel_rfl
theorem ta23 (v : Value) (w : World) : (Instr.typeAssert (.iface 200 v) 160 201 true).run Tryz.prog w = .ok (.tuple #[.agg #[.int .i64 0], .bool false]) w := by kernel_rfl
theorem ta24 (v : Value) (w : World) : (Instr.typeAssert (.iface 200 v) 160 202 true).run Tryz.prog w = .ok (.tuple #[.agg #[.int .i64 0], .bool false]) w := by kernel_rfl
theorem ta25 (v : Value) (w : World) : (Instr.typeAssert (.iface 200 v) 160 204 true).run Tryz.prog w = .ok (.tuple #[.agg #[.int .i64 0, .int .i64 0], .bool false]) w := by kernel_rfl
theorem ta26 (v : Value) (w : World) : (Instr.typeAssert (.iface 200 v) 160 205 true).run Tryz.prog w = .ok (.tuple #[.agg #[.int .i64 0], .bool false]) w := by kernel_rfl
theorem ta27 (v : Value) (w : World) : (Instr.typeAssert (.iface 200 v) 160 192 true).run Tryz.prog w = .ok (.tuple #[.agg #[.int .i64 0], .bool false]) w := by kernel_rfl
theorem ta32 (v : Value) (w : World) : (Instr.typeAssert (.iface 201 v) 160 200 true).run Tryz.prog w = .ok (.tuple #[.agg #[.int .i64 0], .bool false]) w := by kernel_rfl
theorem ta33 (v : Value) (w : World) : (Instr.typeAssert (.iface 201 v) 160 201 true).run Tryz.prog w = .ok (.tuple #[v, .bool true]) w := by kernel_rfl
theorem ta34 (v : Value) (w : World) : (Instr.typeAssert (.iface 201 v) 160 202 true).run Tryz.prog w = .ok (.tuple #[.agg #[.int .i64 0], .bool false]) w := by kernel_rfl
theorem ta35 (v : Value) (w : World) : (Instr.typeAssert (.iface 201 v) 160 204 true).run Tryz.prog w = .ok (.tuple #[.agg #[.int .i64 0, .int .i64 0], .bool false]) w := by kernel_rfl
theorem ta36 (v : Value) (w : World) : (Instr.typeAssert (.iface 201 v) 160 205 true).run Tryz.prog w = .ok (.tuple #[.agg #[.int .i64 0], .bool false]) w := by kernel_rfl
theorem ta37 (v : Value) (w : World) : (Instr.typeAssert (.iface 201 v) 160 192 true).run Tryz.prog w = .ok (.tuple #[.agg #[.int .i64 0], .bool false]) w := by kernel_rfl
theorem ta42 (v : Value) (w : World) : (Instr.typeAssert (.iface 202 v) 160 200 true).run Tryz.prog w = .ok (.tuple #[.agg #[.int .i64 0], .bool false]) w := by kernel_rfl
theorem ta43 (v : Value) (w : World) : (Instr.typeAssert (.iface 202 v) 160 201 true).run Tryz.prog w = .ok (.tuple #[.agg #[.int .i64 0], .bool false]) w := by kernel_rfl
theorem ta44 (v : Value) (w : World) : (Instr.typeAssert (.iface 202 v) 160 202 true).run Tryz.prog w = .ok (.tuple #[v, .bool true]) w := by kernel_rfl
theorem ta45 (v : Value) (w : World) : (Instr.typeAssert (.iface 202 v) 160 204 true).run Tryz.prog w = .ok (.tuple #[.agg #[.int .i64 0, .int .i64 0], .bool false]) w := by kernel_rfl
theorem ta46 (v : Value) (w : World) : (Instr.typeAssert (.iface 202 v) 160 205 true).run Tryz.prog w = .ok (.tuple #[.agg #[.int .i64 0], .bool false]) w := by kernel_rfl
theorem ta47 (v : Value) (w : World) : (Instr.typeAssert (.iface 202 v) 160 192 true).run Tryz.prog w = .ok (.tuple #[.agg #[.int .i64 0], .bool false]) w := by kernel_rfl
theorem ta52 (v : Value) (w : World) : (Instr.typeAssert (.iface 204 v) 160 200 true).run Tryz.prog w = .ok (.tuple #[.agg #[.int .i64 0], .bool false]) w := by kernel_rfl
theorem ta53 (v : Value) (w : World) : (Instr.typeAssert (.iface 204 v) 160 201 true).run Tryz.prog w = .ok (.tuple #[.agg #[.int .i64 0], .bool false]) w := by kernel_rfl
theorem ta54 (v : Value) (w : World) : (Instr.typeAssert (.iface 204 v) 160 202 true).run Tryz.prog w = .ok (.tuple #[.agg #[.int .i64 0], .bool false]) w := by kernel_rfl
theorem ta55 (v : Value) (w : World) : (Instr.typeAssert (.iface 204 v) 160 204 true).run Tryz.prog w = .ok (.tuple #[v, .bool true]) w := by kernel_rfl
theorem ta56 (v : Value) (w : World) : (Instr.typeAssert (.iface 204 v) 160 205 true).run Tryz.prog w = .ok (.tuple #[.agg #[.int .i64 0], .bool false]) w := by kernel_rfl
theorem ta57 (v : Value) (w : World) : (Instr.typeAssert (.iface 204 v) 160 192 true).run Tryz.prog w = .ok (.tuple #[.agg #[.int .i64 0], .bool false]) w := by kernel_rfl
theorem ta62 (v : Value) (w : World) : (Instr.typeAssert (.iface 205 v) 160 200 true).run Tryz.prog w = .ok (.tuple #[.agg #[.int .i64 0], .bool false]) w := by kernel_rfl
theorem ta63 (v : Value) (w : World) : (Instr.typeAssert (.iface 205 v) 160 201 true).run Tryz.prog w = .ok (.tuple #[.agg #[.int .i64 0], .bool false]) w := by kernel_rfl
theorem ta64 (v : Value) (w : World) : (Instr.typeAssert (.iface 205 v) 160 202 true).run Tryz.prog w = .ok (.tuple #[.agg #[.int .i64 0], .bool false]) w := by kernel_rfl
theorem ta65 (v : Value) (w : World) : (Instr.typeAssert (.iface 205 v) 160 204 true).run Tryz.prog w = .ok (.tuple #[.agg #[.int .i64 0, .int .i64 0], .bool false]) w := by kernel_rfl
theorem ta66 (v : Value) (w : World) : (Instr.typeAssert (.iface 205 v) 160 205 true).run Tryz.prog w = .ok (.tuple #[v, .bool true]) w := by kernel_rfl
theorem ta67 (v : Value) (w : World) : (Instr.typeAssert (.iface 205 v) 160 192 true).run Tryz.prog w = .ok (.tuple #[.agg #[.int .i64 0], .bool false]) w := by kernel_rfl
theorem ta72 (v : Value) (w : World) : (Instr.typeAssert (.iface 192 v) 160 200 true).run Tryz.prog w = .ok (.tuple #[.agg #[.int .i64 0], .bool false]) w := by kernel_rfl
theorem ta73 (v : Value) (w : World) : (Instr.typeAssert (.iface 192 v) 160 201 true).run Tryz.prog w = .ok (.tuple #[.agg #[.int .i64 0], .bool false]) w := by kernel_rfl
theorem ta74 (v : Value) (w : World) : (Instr.typeAssert (.iface 192 v) 160 202 true).run Tryz.prog w = .ok (.tuple #[.agg #[.int .i64 0], .bool false]) w := by kernel_rfl
theorem ta75 (v : Value) (w : World) : (Instr.typeAssert (.iface 192 v) 160 204 true).run Tryz.prog w = .ok (.tuple #[.agg #[.int .i64 0, .int .i64 0], .bool false]) w := by kernel_rfl
theorem ta76 (v : Value) (w : World) : (Instr.typeAssert (.iface 192 v) 160 205 true).run Tryz.prog w = .ok (.tuple #[.agg #[.int .i64 0], .bool false]) w := by kernel_rfl
theorem ta77 (v : Value) (w : World) : (Instr.typeAssert (.iface 192 v) 160 192 true).run Tryz.prog w = .ok (.tuple #[v, .bool true]) w := by kernel_rfl
theorem hasExt0 (v : Value) (w : World) : Calls Tryz.prog 201 #[.iface 189 v] w fun r w' => r = .returned (.bool false) ∧ w' = w := by
  have t5 := ta05
  have t6 := ta06
  have t7 := ta07
  go_enter Tryz.func201, Tryz.ntmps201
  go_wp2
  go_ret
  exact ⟨rfl, rfl⟩
theorem hasExt1 (v : Value) (w : World) : Calls Tryz.prog 201 #[.iface 190 v] w fun r w' => r = .returned (.bool false) ∧ w' = w := by
  have t5 := ta15
  have t6 := ta16
  have t7 := ta17
  go_enter Tryz.func201, Tryz.ntmps201
  go_wp2
  go_ret
  exact ⟨rfl, rfl⟩
theorem hasExt2 (v : Value) (w : World) : Calls Tryz.prog 201 #[.iface 200 v] w fun r w' => r = .returned (.bool false) ∧ w' = w := by
  have t5 := ta25
  have t6 := ta26
  have t7 := ta27
  go_enter Tryz.func201, Tryz.ntmps201
  go_wp2
  go_ret
  exact ⟨rfl, rfl⟩
theorem hasExt3 (v : Value) (w : World) : Calls Tryz.prog 201 #[.iface 201 v] w fun r w' => r = .returned (.bool false) ∧ w' = w := by
  have t5 := ta35
  have t6 := ta36
  have t7 := ta37
  go_enter Tryz.func201, Tryz.ntmps201
  go_wp2
  go_ret
  exact ⟨rfl, rfl⟩
theorem hasExt4 (v : Value) (w : World) : Calls Tryz.prog 201 #[.iface 202 v] w fun r w' => r = .returned (.bool false) ∧ w' = w := by
  have t5 := ta45
  have t6 := ta46
  have t7 := ta47
  go_enter Tryz.func201, Tryz.ntmps201
  go_wp2
  go_ret
  exact ⟨rfl, rfl⟩
theorem hasExt5 (v : Value) (w : World) : Calls Tryz.prog 201 #[.iface 204 v] w fun r w' => r = .returned (.bool true) ∧ w' = w := by
  have t5 := ta55
  have t6 := ta56
  have t7 := ta57
  go_enter Tryz.func201, Tryz.ntmps201
  go_wp2
  go_ret
  exact ⟨rfl, rfl⟩
theorem hasExt6 (v : Value) (w : World) : Calls Tryz.prog 201 #[.iface 205 v] w fun r w' => r = .returned (.bool true) ∧ w' = w := by
  have t5 := ta65
  have t6 := ta66
  have t7 := ta67
  go_enter Tryz.func201, Tryz.ntmps201
  go_wp2
  go_ret
  exact ⟨rfl, rfl⟩
theorem hasExt7 (v : Value) (w : World) : Calls Tryz.prog 201 #[.iface 192 v] w fun r w' => r = .returned (.bool true) ∧ w' = w := by
  have t5 := ta75
  have t6 := ta76
  have t7 := ta77
  go_enter Tryz.func201, Tryz.ntmps201
  go_wp2
  go_ret
  exact ⟨rfl, rfl⟩
end Go.Proofs.YtblddehlkaolbaaGreatDoor

namespace Go.Proofs.YtblddehlkaolbaaGreatDoor
open Go.RowKit
set_option linter.unusedVariables false

/-- a number that an int holds -/
def W64 (n : Int) : Prop := -9223372036854775808 ≤ n ∧ n ≤ 9223372036854775807
end Go.Proofs.YtblddehlkaolbaaGreatDoor

namespace Go.Proofs.YtblddehlkaolbaaGreatDoor
open Go.RowKit
set_option linter.unusedVariables false
set_option linter.unusedSimpArgs false
theorem store_func (a : Addr) (fn : Fn) (m : Mode) (w : World) : (store a (.func fn #[] #[]) m).run Tryz.prog w = stored Tryz.prog w a (.func fn #[] #[]) m := run_store Tryz.prog w a _ m rfl
theorem undrew {B : Nat} {w wt : World} (h : Below B w.drew wt) : Below B w wt := ⟨h.os, h.tape, h.output, h.size, h.block⟩
/-- a row of bits, laid in block b -/
def Box (w : World) (b : Nat) (v s x f : Int) (t : Bool) : Prop := w.heap[b]? = some (.cells #[.int .i64 v, .int .i64 s, .int .i64 x, .int .i64 f, .bool t] 207)
theorem Box.later {w wt : World} {b : Nat} {v s x f : Int} {t : Bool} (h : Box w b v s x f t) (hb : Below w.heap.size w wt) : Box wt b v s x f t := by
  have lt : b < w.heap.size := by
    unfold Box at h
    rcases Nat.lt_or_ge b w.heap.size with h' | h'
    · exact h'
    · rw [Array.getElem?_eq_none h'] at h; cases h
  exact (hb.block b lt).trans h
theorem Box.cells {w : World} {b : Nat} {v s x f : Int} {t : Bool} (h : Box w b v s x f t) :
    w.cell? ⟨b, 0, none⟩ = some (.int .i64 v) ∧ w.cell? ⟨b, 1, none⟩ = some (.int .i64 s) ∧ w.cell? ⟨b, 2, none⟩ = some (.int .i64 x) ∧ w.cell? ⟨b, 3, none⟩ = some (.int .i64 f) ∧ w.cell? ⟨b, 4, none⟩ = some (.bool t) ∧
    w.frozen? ⟨b, 0, none⟩ = false ∧ w.frozen? ⟨b, 1, none⟩ = false ∧ w.frozen? ⟨b, 2, none⟩ = false ∧ w.frozen? ⟨b, 3, none⟩ = false ∧ w.frozen? ⟨b, 4, none⟩ = false := by
  unfold Box at h
  refine ⟨?_, ?_, ?_, ?_, ?_, ?_, ?_, ?_, ?_, ?_⟩ <;> simp [World.cell?, World.frozen?, h]
theorem results_box {fn : Func} {p : Tmp} (h : fn.results = #[.cell p 207]) (tmps : Array Value) {w : World} {b : Nat} {v s x f : Int} {t : Bool} (hp : tmps.getD p undef = .pointer (some ⟨b, 0, none⟩)) (hB : Box w b v s x f t) :
    (results fn tmps).run Tryz.prog w = .ok (.agg #[.int .i64 v, .int .i64 s, .int .i64 x, .int .i64 f, .bool t]) w :=
  results_cell_row h tmps w b _ _ _ _ hp hB (Tryz.underlying207) rfl (by kernel_rfl)
theorem Box.set {w : World} {b : Nat} {v s x f v' s' x' f' : Int} {t t' : Bool} (h : Box w b v s x f t) :
    Box (((((w.setCell ⟨b, 0, none⟩ (.int .i64 v')).setCell ⟨b, 1, none⟩ (.int .i64 s')).setCell ⟨b, 2, none⟩ (.int .i64 x')).setCell ⟨b, 3, none⟩ (.int .i64 f')).setCell ⟨b, 4, none⟩ (.bool t')) b v' s' x' f' t' := by
  unfold Box at h ⊢
  simp [World.setCell, Array.getElem?_modify, h]
theorem Box.new0 (w : World) (v s x f : Int) (t : Bool) : Box (w.alloc (.cells #[.int .i64 v, .int .i64 s, .int .i64 x, .int .i64 f, .bool t] 207)) w.heap.size v s x f t := heap_alloc_new w _
theorem Box.two {w : World} {b : Nat} {v s x f : Int} {t : Bool} (h : Box w b v s x f t) (o1 o2 : Obj) : Box ((w.alloc o1).alloc o2) b v s x f t :=
  h.later (((Below.refl _ w).alloc (Nat.le_refl _) o1).alloc (by simp) o2)
theorem Box.set4 {w : World} {b : Nat} {v s x f : Int} {t t' : Bool} (h : Box w b v s x f t) : Box (w.setCell ⟨b, 4, none⟩ (.bool t')) b v s x f t' := by
  unfold Box at h ⊢
  simp [World.setCell, Array.getElem?_modify, h]
theorem Below.set5 {B : Nat} {a w : World} (h : Below B a w) {b : Nat} (hb : B ≤ b) (v0 v1 v2 v3 v4 : Value) :
    Below B a (((((w.setCell ⟨b, 0, none⟩ v0).setCell ⟨b, 1, none⟩ v1).setCell ⟨b, 2, none⟩ v2).setCell ⟨b, 3, none⟩ v3).setCell ⟨b, 4, none⟩ v4) :=
  ((((h.setCell hb _).setCell hb _).setCell hb _).setCell hb _).setCell hb _
theorem Box.new1 (w : World) (v s x f : Int) (t : Bool) (o1 : Obj) (o2 : Obj) : Box (((w.alloc (.cells #[.int .i64 v, .int .i64 s, .int .i64 x, .int .i64 f, .bool t] 207)).alloc o1).alloc o2) w.heap.size v s x f t := by
  unfold Box
  rw [Below.heap_alloc _ _ _ (by simp <;> omega), Below.heap_alloc _ _ _ (by simp)]
  exact heap_alloc_new w _
theorem Box.new2 (w : World) (v s x f : Int) (t : Bool) (o1 : Obj) (o2 : Obj) : Box (((w.alloc o1).alloc (.cells #[.int .i64 v, .int .i64 s, .int .i64 x, .int .i64 f, .bool t] 207)).alloc o2) (w.heap.size + 1) v s x f t := by
  unfold Box
  rw [Below.heap_alloc _ _ _ (by simp)]
  exact heap_alloc2_new w _ _

end Go.Proofs.YtblddehlkaolbaaGreatDoor

