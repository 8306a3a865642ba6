/- What the models of chapter 4 that only look answer, for every argument. What the models of PeekWord and SameMemory answer, for every argument. What an access does to a bus, in numbers: plain arithmetic; no Go text is spoken of here. Instructions in numbers: plain arithmetic; no Go text is spoken of here. Conditions in numbers: plain arithmetic; no Go text is spoken of here. Bits moved one place at a time, so often, and back; how many are 1; the other way round: plain arithmetic; no Go text is spoken of here. A step of a processor in numbers: plain arithmetic; no Go text is spoken of here. What the laws' own functions over Cpu and Fault do: size, comparison, marks. What the laws' toCpu does: a copy, each list in a new block of its own. What the model's tests of words and operands answer. -/
import Derived.Test.YtblddehlkaolbaaGreatJF1
import Derived.BigQuiet
import Derived.Deep.QuietTactic
namespace Go.Proofs.YtblddehlkaolbaaGreat
open Go.RowKit
set_option linter.unusedVariables false

theorem l4Addr (a : Int) (w : World) : Calls Tryz.prog 76 #[.int .i64 a] w fun e w' => e = .returned (.bool (Pl.addr a)) ∧ w' = w := by
  go_enter Tryz.func76, Tryz.ntmps76
  go_wp2_with fail
  refine (l1In _ _ _ _).mono ?_
  rintro e w' ⟨rfl, rfl⟩
  go_wp2_with fail
  go_ret
  exact ⟨rfl, rfl⟩
theorem l4Kind (a : Int) (w : World) : Calls Tryz.prog 90 #[.int .i64 a] w fun e w' => e = .returned (.int .i64 (Pl.kind a)) ∧ w' = w := by
  by_cases h1 : 512 ≤ a
  · have E : Hid (Pl.kind a = 1) := hide (by simp [Pl.kind, h1])
    go_enter Tryz.func90, Tryz.ntmps90
    go_wp2
    go_ret
    exact ⟨rI E.out.symm, rfl⟩
  · cases h2 : (decide ((448 : Int) ≤ a) && decide (a ≤ 495))
    · cases h3 : (decide ((384 : Int) ≤ a) && decide (a ≤ 447))
      all_goals
        have E : Hid (Pl.kind a = if (decide ((384 : Int) ≤ a) && decide (a ≤ 447)) then 3 else 0) := hide (by
          simp at h2
          have : ¬ (448 ≤ a ∧ a ≤ 495) := by omega
          simp [Pl.kind, h1, this])
        rw [h3] at E
        go_enter Tryz.func90, Tryz.ntmps90
        go_wp2_with fail
        refine (l1In _ _ _ _).mono ?_
        rintro e w' ⟨rfl, rfl⟩
        rw [h2]
        go_wp2_with fail
        refine (l1In _ _ _ _).mono ?_
        rintro e w' ⟨rfl, rfl⟩
        rw [h3]
        go_wp2_with fail
        go_ret
        exact ⟨rI E.out.symm, rfl⟩
    · have E : Hid (Pl.kind a = 1) := hide (by simp at h2; simp [Pl.kind, h2])
      go_enter Tryz.func90, Tryz.ntmps90
      go_wp2_with fail
      refine (l1In _ _ _ _).mono ?_
      rintro e w' ⟨rfl, rfl⟩
      rw [h2]
      go_wp2_with fail
      go_ret
      exact ⟨rI E.out.symm, rfl⟩
theorem l4Access (k s a v c : Int) (w : World) : Calls Tryz.prog 51 #[.agg #[.int .i64 k, .int .i64 s, .int .i64 a, .int .i64 v, .int .i64 c]] w fun e w' => e = .returned (.bool (Pl.accOk k s a v c)) ∧ ∃ o, w' = w.alloc o := by
  cases h1 : (decide (1 ≤ k) && decide (k ≤ 3))
  · go_enter Tryz.func51, Tryz.ntmps51
    go_wp2_with (first | (go_at_call 50; refine (l1In _ _ _ _).mono ?_; rintro e w' ⟨rfl, rfl⟩; rw [h1]) | (go_at_call 75; refine (l1Value _ _ _).mono ?_; rintro e w' ⟨rfl, rfl⟩) | (go_at_call 76; refine (l4Addr _ _).mono ?_; rintro e w' ⟨rfl, rfl⟩))
    go_ret
    exact ⟨rB (by unfold Pl.accOk Pl.accKind; rw [h1]; simp), _, rfl⟩
  · cases h2 : Pl.okv s v
    · go_enter Tryz.func51, Tryz.ntmps51
      go_wp2_with (first | (go_at_call 50; refine (l1In _ _ _ _).mono ?_; rintro e w' ⟨rfl, rfl⟩; rw [h1]) | (go_at_call 75; refine (l1Value _ _ _).mono ?_; rintro e w' ⟨rfl, rfl⟩; rw [h2]) | (go_at_call 76; refine (l4Addr _ _).mono ?_; rintro e w' ⟨rfl, rfl⟩))
      go_ret
      exact ⟨rB (by unfold Pl.accOk Pl.accKind; rw [h1, h2]; simp), _, rfl⟩
    · cases h3 : Pl.addr a
      · go_enter Tryz.func51, Tryz.ntmps51
        go_wp2_with (first | (go_at_call 50; refine (l1In _ _ _ _).mono ?_; rintro e w' ⟨rfl, rfl⟩; rw [h1]) | (go_at_call 75; refine (l1Value _ _ _).mono ?_; rintro e w' ⟨rfl, rfl⟩; rw [h2]) | (go_at_call 76; refine (l4Addr _ _).mono ?_; rintro e w' ⟨rfl, rfl⟩; rw [h3]))
        go_ret
        exact ⟨rB (by unfold Pl.accOk Pl.accKind; rw [h1, h2, h3]; simp), _, rfl⟩
      · cases h4 : (decide (0 ≤ c) && decide (c ≤ 3))
        · go_enter Tryz.func51, Tryz.ntmps51
          go_wp2_with (first | (go_at_call 50; refine (l1In _ _ _ _).mono ?_; rintro e w' ⟨rfl, rfl⟩; first | rw [h1] | rw [h4]) | (go_at_call 75; refine (l1Value _ _ _).mono ?_; rintro e w' ⟨rfl, rfl⟩; rw [h2]) | (go_at_call 76; refine (l4Addr _ _).mono ?_; rintro e w' ⟨rfl, rfl⟩; rw [h3]))
          go_ret
          exact ⟨rB (by unfold Pl.accOk Pl.accKind; rw [h1, h2, h3, h4]; simp), _, rfl⟩
        · cases h5 : (k != 3)
          · cases h6 : (c != 0)
            all_goals
              go_enter Tryz.func51, Tryz.ntmps51
              go_wp2_with (first | (go_at_call 50; refine (l1In _ _ _ _).mono ?_; rintro e w' ⟨rfl, rfl⟩; first | rw [h1] | rw [h4]) | (go_at_call 75; refine (l1Value _ _ _).mono ?_; rintro e w' ⟨rfl, rfl⟩; rw [h2]) | (go_at_call 76; refine (l4Addr _ _).mono ?_; rintro e w' ⟨rfl, rfl⟩; rw [h3]))
              go_ret
              exact ⟨rB (by unfold Pl.accOk Pl.accKind; rw [h1, h2, h3, h4, h5, h6]; simp), _, rfl⟩
          · go_enter Tryz.func51, Tryz.ntmps51
            go_wp2_with (first | (go_at_call 50; refine (l1In _ _ _ _).mono ?_; rintro e w' ⟨rfl, rfl⟩; first | rw [h1] | rw [h4]) | (go_at_call 75; refine (l1Value _ _ _).mono ?_; rintro e w' ⟨rfl, rfl⟩; rw [h2]) | (go_at_call 76; refine (l4Addr _ _).mono ?_; rintro e w' ⟨rfl, rfl⟩; rw [h3]))
            go_ret
            exact ⟨rB (by unfold Pl.accOk Pl.accKind; rw [h1, h2, h3, h4, h5]; simp), _, rfl⟩

theorem specGoodBus (w : World) (a b : Option Addr) (ca cb m : Nat) (xs ys : List Int) (ha : IRow w a xs) (hb : IRow w b ys) (lx : xs.length ≤ 2000000) (ly : ys.length = 5 * m) (bm : m ≤ 2000000) :
    Calls Tryz.prog 28 #[.agg #[.slice a xs.length ca, .slice b m cb]] w fun e w' => e = .returned (.bool (Pl.goodBus xs ys m)) ∧ Kept 0 0 w w' := by
  have HA := hide ha
  have HB := hide hb
  have HY := hide ly
  clear ha hb ly
  go_enter Tryz.func28, Tryz.ntmps28
  go_wp2
  have HK0 := hide (kept_alloc w (.cells #[.slice a xs.length ca, .slice b m cb] 42))
  have HW := hide (Blk.new w #[.slice a xs.length ca, .slice b m cb] 42)
  obtain ⟨W, hW⟩ : ∃ W : World, W = w.alloc (.cells #[.slice a xs.length ca, .slice b m cb] 42) := ⟨_, rfl⟩
  rw [← hW] at HK0 HW ⊢
  clear hW
  go_loopw [4, 8] (fun _ j wr => ∃ k : Nat, k ≤ m ∧ j = .int .i64 k ∧ (∀ i, i < k → Pl.accAt ys i = true) ∧ Kept 0 0 W wr) (fun _ j _ => m - (intOf j).toNat)
  case atStart => exact ⟨0, Nat.zero_le _, rfl, fun i hi => absurd hi (Nat.not_lt_zero i), Kept.refl _ _ _⟩
  case round =>
    obtain ⟨k, hk, rfl, heq, hkept⟩ := hrel
    have HE := hide heq
    have HK := hide hkept
    clear heq hkept
    by_cases hlt : k < m
    · obtain ⟨g1, o1, rfl, p0, p1, p2, p3, p4⟩ := (HB.out.keptS (HK0.out.trans HK.out)).five HY.out hlt
      cases hb : Pl.accAt ys k
      · have hb2 : Pl.accOk (el ys (k * 5)) (el ys (k * 5 + 1)) (el ys (k * 5 + 2)) (el ys (k * 5 + 3)) (el ys (k * 5 + 4)) = false := hb
        clear hb
        go_wp2_with (go_at_call 51; refine (l4Access _ _ _ _ _ _).mono ?_; rintro e w' ⟨rfl, o, rfl⟩; rw [hb2])
        go_ret
        exact ⟨rB (by unfold Pl.goodBus; rw [Pl.accsOk_no hlt hb2]; rfl), HK0.out.trans (kept_new (kept_new HK.out _) _)⟩
      · have hb2 : Pl.accOk (el ys (k * 5)) (el ys (k * 5 + 1)) (el ys (k * 5 + 2)) (el ys (k * 5 + 3)) (el ys (k * 5 + 4)) = true := hb
        clear hb
        go_wp2_with (go_at_call 51; refine (l4Access _ _ _ _ _ _).mono ?_; rintro e w' ⟨rfl, o, rfl⟩; rw [hb2])
        go_roundw
        case rel => exact ⟨k + 1, by omega, by go_num, snoc_all HE.out hb2, kept_new (kept_new HK.out _) _⟩
        case measure => simp [intOf]; omega
    · have HA1 : Hid (Pl.accsOk ys m = true) := hide (Pl.accsOk_of (fun i hi => HE.out i (by omega)))
      have B := HW.out.kept0 HK.out
      have c0 := B.cell (i := 0) rfl
      have c1 := B.cell (i := 1) rfl
      have HX := hide (HA.out.keptS (HK0.out.trans HK.out))
      clear B
      have G : Hid (Pl.goodBus xs ys m = (((xs.length : Int) == 512) && (Pl.bytesOk xs && decide ((m : Int) ≤ 400)))) := hide (by
        unfold Pl.goodBus
        rw [HA1.out, Bool.true_and]
        congr 1
        · rw [Bool.eq_iff_iff]; simp; omega
        · congr 1; rw [Bool.eq_iff_iff]; simp; omega)
      cases h1 : ((xs.length : Int) == 512)
      · go_wp2_with fail
        go_ret
        exact ⟨rB (by rw [G.out, h1]; rfl), HK0.out.trans HK.out⟩
      · cases h2 : Pl.bytesOk xs
        · go_wp2_with fail
          refine (l4Bytes _ a ca xs HX.out lx).mono ?_
          rintro e w' ⟨rfl, rfl⟩
          rw [h2]
          go_wp2_with fail
          go_ret
          exact ⟨rB (by rw [G.out, h1, h2]; rfl), HK0.out.trans HK.out⟩
        · cases h3 : decide ((m : Int) ≤ 400)
          all_goals
            go_wp2_with fail
            refine (l4Bytes _ a ca xs HX.out lx).mono ?_
            rintro e w' ⟨rfl, rfl⟩
            rw [h2]
            go_wp2_with fail
            go_ret
            exact ⟨rB (by rw [G.out, h1, h2, h3]; rfl), HK0.out.trans HK.out⟩
end Go.Proofs.YtblddehlkaolbaaGreat

namespace Go.Proofs.YtblddehlkaolbaaGreat
open Go.RowKit
set_option linter.unusedVariables false

namespace Pl
theorem goodBus_ok {xs ys : List Int} {m : Nat} (h : goodBus xs ys m = true) : xs.length = 512 ∧ bytesOk xs = true ∧ m ≤ 400 ∧ accsOk ys m = true := by
  simp only [goodBus, Bool.and_eq_true, decide_eq_true_eq] at h
  exact ⟨h.2.1, h.2.2.1, h.2.2.2, h.1⟩
theorem code_low {k s a : Int} (h : code k s a = 0) (a0 : 0 ≤ a) : a ≤ 511 ∧ a + s - 1 ≤ 511 := by
  unfold code at h
  split at h
  · cases h
  · split at h
    · cases h
    · rename_i h1 h2
      have k1 : ¬ kind a = 1 := fun e => h2 (.inl e)
      have k2 : ¬ kind (a + s - 1) = 1 := fun e => h2 (.inr e)
      constructor
      · refine Decidable.byContradiction fun q => k1 ?_
        have : 512 ≤ a := by omega
        simp [kind, this]
      · refine Decidable.byContradiction fun q => k2 ?_
        have : 512 ≤ a + s - 1 := by omega
        simp [kind, this]
theorem word_or {h l : Int} (h0 : 0 ≤ h) (h1 : h ≤ 255) (l0 : 0 ≤ l) (l1 : l ≤ 255) : bits .or .i64 (h * 256) l = h * 256 + l :=
  bits_join .i64 62 (by decide) wraps_i64 8 (h * 256) l (by omega) (by omega) (by omega) (by omega) (by omega) (by omega)
end Pl

set_option maxHeartbeats 1000000 in
theorem l4Code (k s a : Int) (w : World) (s0 : 1 ≤ s) (s1 : s ≤ 2) (a0 : 0 ≤ a) (a1 : a ≤ 65535) :
    Calls Tryz.prog 77 #[.int .i64 k, .int .i64 s, .int .i64 a] w fun e w' => e = .returned (.int .i64 (Pl.code k s a)) ∧ w' = w := by
  have hA := Pl.and1 a
  have G : Hid (Pl.code k s a = if ((s == 2) && (a % 2 == 1)) then 2 else if ((Pl.kind a == 1) || (Pl.kind (a + s - 1) == 1)) then 1 else if ((k == 2) && ((Pl.kind a == 3) || (Pl.kind (a + s - 1) == 3))) then 3 else 0) := hide (by
    unfold Pl.code; simp only [Bool.and_eq_true, Bool.or_eq_true, beq_iff_eq])
  cases h1 : (s == 2)
  · cases h3 : (Pl.kind a == 1)
    · cases h4 : (Pl.kind (a + s - 1) == 1)
      · cases h5 : (k == 2)
        · rw [h1, h3, h4, h5] at G
          go_enter Tryz.func77, Tryz.ntmps77
          go_wp2_with (go_at_call 90; refine (l4Kind _ _).mono ?_; rintro e w' ⟨rfl, rfl⟩)
          go_ret
          exact ⟨rI (by rw [G.out]; simp), rfl⟩
        · cases h6 : (Pl.kind a == 3)
          · cases h7 : (Pl.kind (a + s - 1) == 3)
            · rw [h1, h3, h4, h5, h6, h7] at G
              go_enter Tryz.func77, Tryz.ntmps77
              go_wp2_with (go_at_call 90; refine (l4Kind _ _).mono ?_; rintro e w' ⟨rfl, rfl⟩)
              go_ret
              exact ⟨rI (by rw [G.out]; simp), rfl⟩
            · rw [h1, h3, h4, h5, h6, h7] at G
              go_enter Tryz.func77, Tryz.ntmps77
              go_wp2_with (go_at_call 90; refine (l4Kind _ _).mono ?_; rintro e w' ⟨rfl, rfl⟩)
              go_ret
              exact ⟨rI (by rw [G.out]; simp), rfl⟩
          · rw [h1, h3, h4, h5, h6] at G
            go_enter Tryz.func77, Tryz.ntmps77
            go_wp2_with (go_at_call 90; refine (l4Kind _ _).mono ?_; rintro e w' ⟨rfl, rfl⟩)
            go_ret
            exact ⟨rI (by rw [G.out]; simp), rfl⟩
      · rw [h1, h3, h4] at G
        go_enter Tryz.func77, Tryz.ntmps77
        go_wp2_with (go_at_call 90; refine (l4Kind _ _).mono ?_; rintro e w' ⟨rfl, rfl⟩)
        go_ret
        exact ⟨rI (by rw [G.out]; simp), rfl⟩
    · rw [h1, h3] at G
      go_enter Tryz.func77, Tryz.ntmps77
      go_wp2_with (go_at_call 90; refine (l4Kind _ _).mono ?_; rintro e w' ⟨rfl, rfl⟩)
      go_ret
      exact ⟨rI (by rw [G.out]; simp), rfl⟩
  · cases h2 : (a % 2 == 1)
    · cases h3 : (Pl.kind a == 1)
      · cases h4 : (Pl.kind (a + s - 1) == 1)
        · cases h5 : (k == 2)
          · rw [h1, h2, h3, h4, h5] at G
            go_enter Tryz.func77, Tryz.ntmps77
            go_wp2_with (go_at_call 90; refine (l4Kind _ _).mono ?_; rintro e w' ⟨rfl, rfl⟩)
            go_ret
            exact ⟨rI (by rw [G.out]; simp), rfl⟩
          · cases h6 : (Pl.kind a == 3)
            · cases h7 : (Pl.kind (a + s - 1) == 3)
              · rw [h1, h2, h3, h4, h5, h6, h7] at G
                go_enter Tryz.func77, Tryz.ntmps77
                go_wp2_with (go_at_call 90; refine (l4Kind _ _).mono ?_; rintro e w' ⟨rfl, rfl⟩)
                go_ret
                exact ⟨rI (by rw [G.out]; simp), rfl⟩
              · rw [h1, h2, h3, h4, h5, h6, h7] at G
                go_enter Tryz.func77, Tryz.ntmps77
                go_wp2_with (go_at_call 90; refine (l4Kind _ _).mono ?_; rintro e w' ⟨rfl, rfl⟩)
                go_ret
                exact ⟨rI (by rw [G.out]; simp), rfl⟩
            · rw [h1, h2, h3, h4, h5, h6] at G
              go_enter Tryz.func77, Tryz.ntmps77
              go_wp2_with (go_at_call 90; refine (l4Kind _ _).mono ?_; rintro e w' ⟨rfl, rfl⟩)
              go_ret
              exact ⟨rI (by rw [G.out]; simp), rfl⟩
        · rw [h1, h2, h3, h4] at G
          go_enter Tryz.func77, Tryz.ntmps77
          go_wp2_with (go_at_call 90; refine (l4Kind _ _).mono ?_; rintro e w' ⟨rfl, rfl⟩)
          go_ret
          exact ⟨rI (by rw [G.out]; simp), rfl⟩
      · rw [h1, h2, h3] at G
        go_enter Tryz.func77, Tryz.ntmps77
        go_wp2_with (go_at_call 90; refine (l4Kind _ _).mono ?_; rintro e w' ⟨rfl, rfl⟩)
        go_ret
        exact ⟨rI (by rw [G.out]; simp), rfl⟩
    · rw [h1, h2] at G
      go_enter Tryz.func77, Tryz.ntmps77
      go_wp2_with (go_at_call 90; refine (l4Kind _ _).mono ?_; rintro e w' ⟨rfl, rfl⟩)
      go_ret
      exact ⟨rI (by rw [G.out]; simp), rfl⟩

end Go.Proofs.YtblddehlkaolbaaGreat

namespace Go.Proofs.YtblddehlkaolbaaGreat.Pl
set_option linter.unusedVariables false
/-- what lies there, of a size -/
def rd (xs : List Int) (s : Int) (i : Nat) : Int := if s = 1 then el xs i else el xs i * 256 + el xs (i + 1)
/-- .. behind so many bytes -/
def rdK (xs : List Int) (i k : Nat) : Int := if k = 0 then 0 else if k = 1 then el xs i else el xs i * 256 + el xs (i + 1)

def askOk (k s a v : Int) : Bool := accKind k && (okv s v && (addr a && ((k == 2) || (v == 0))))
/-- the value that the log is told -/
def lv (xs : List Int) (k s a v : Int) : Int := if code k s a = 0 ∧ ¬ k = 2 then rd xs s a.toNat else v
/-- a value laid there, of a size -/
def wr (xs : List Int) (s : Int) (i : Nat) (v : Int) : List Int := if s = 1 then xs.set i v else (xs.set i (v / 256)).set (i + 1) (v % 256)
def nb (xs : List Int) (k s a v : Int) : List Int := if code k s a = 0 ∧ k = 2 then wr xs s a.toNat v else xs
def logs (m : Nat) (k s a : Int) : Bool := decide (m < 400) && ((k != 3) || (code k s a != 0))
def nl (xs ys : List Int) (m : Nat) (k s a v : Int) : List Int := if logs m k s a = true then ys ++ [k, s, a, lv xs k s a v, code k s a] else ys
def nm (m : Nat) (k s a : Int) : Nat := if logs m k s a = true then m + 1 else m
theorem wr_len (xs : List Int) (s : Int) (i : Nat) (v : Int) : (wr xs s i v).length = xs.length := by unfold wr; split <;> simp
theorem nb_len (xs : List Int) (k s a v : Int) : (nb xs k s a v).length = xs.length := by unfold nb; split <;> simp [wr_len]
theorem nl_len {xs ys : List Int} {m : Nat} (k s a v : Int) (h : ys.length = 5 * m) : (nl xs ys m k s a v).length = 5 * nm m k s a := by
  unfold nl nm
  split
  · simp [h]; omega
  · exact h
theorem nm_le {m : Nat} (k s a : Int) (h : m ≤ 400) : nm m k s a ≤ 400 := by
  unfold nm logs
  split
  · rename_i h1; simp at h1; omega
  · exact h
theorem ask_ok {k s a v : Int} (h : askOk k s a v = true) : (1 ≤ k ∧ k ≤ 3) ∧ ((s = 1 ∧ v ≤ 255) ∨ (s = 2 ∧ v ≤ 65535)) ∧ 0 ≤ v ∧ (0 ≤ a ∧ a ≤ 65535) ∧ (k = 2 ∨ v = 0) := by
  simp only [askOk, accKind, addr, Bool.and_eq_true, Bool.or_eq_true, decide_eq_true_eq, beq_iff_eq] at h
  obtain ⟨h1, h2, h3, h4⟩ := h
  have := top_ok h2
  refine ⟨h1, ?_, ?_, h3, h4⟩
  · omega
  · omega
/-- parts begin at even addresses: a word's two bytes lie in one -/
theorem kind_even {a : Int} (h : ¬ a % 2 = 1) : kind (a + 2 - 1) = kind a := by
  unfold kind
  by_cases h1 : 512 ≤ a ∨ (448 ≤ a ∧ a ≤ 495)
  · rw [if_pos h1, if_pos (by omega)]
  · rw [if_neg h1, if_neg (by omega)]
    by_cases h2 : 384 ≤ a ∧ a ≤ 447
    · rw [if_pos h2, if_pos (by omega)]
    · rw [if_neg h2, if_neg (by omega)]
theorem code_part {k s a : Int} (hs : s = 1 ∨ s = 2) : code k s a = if s = 2 ∧ a % 2 = 1 then 2 else if kind a = 3 ∧ ¬ k = 2 then 0 else kind a := by
  have kv : kind a = 0 ∨ kind a = 1 ∨ kind a = 3 := by
    unfold kind
    split
    · exact .inr (.inl rfl)
    · split
      · exact .inr (.inr rfl)
      · exact .inl rfl
  unfold code
  by_cases h : s = 2 ∧ a % 2 = 1
  · rw [if_pos h, if_pos h]
  · rw [if_neg h, if_neg h]
    have e : kind (a + s - 1) = kind a := by
      rcases hs with rfl | rfl
      · rw [show a + 1 - 1 = a by omega]
      · exact kind_even (fun q => h ⟨rfl, q⟩)
    rw [e]
    rcases kv with q | q | q <;> rw [q] <;> by_cases hk : k = 2 <;> simp [hk]
end Go.Proofs.YtblddehlkaolbaaGreat.Pl

namespace Go.Proofs.YtblddehlkaolbaaGreat.Pl
set_option linter.unusedVariables false
structure In where
  op : Int
  z : Int
  r : Int
  m : Int
  k : Int
  e : Int
  s : Int
def inNo : In := ⟨0, 0, 0, 0, 0, 0, 0⟩
def memM (m : Int) : Bool := within m 2 6
def plainM (m : Int) : Bool := (m == 2) || ((m == 5) || (m == 6))
def zeroO (m k e : Int) : Bool := (m == 0) && ((k == 0) && (e == 0))
def nowO (m e : Int) : Bool := (m == 7) && decide (e ≤ 1023)
def byteNow (x : In) : Bool := ((x.m == 7) && (x.z == 1)) && decide (255 < x.e)
def inBase (x : In) : Bool := (decide (x.z = 1) || decide (x.z = 2)) && (within x.r 0 3 && (opOk x.m x.k x.e && (within x.s 0 7 && !byteNow x)))
def inKind (x : In) : Bool :=
  bif (x.op == 1) || ((x.op == 3) || ((x.op == 4) || ((x.op == 5) || ((x.op == 6) || ((x.op == 7) || (x.op == 8)))))) then (x.s == 0) && ((x.z == 2) || !(x.m == 1))
  else bif x.op == 2 then (x.s == 0) && ((x.m == 0) || memM x.m)
  else bif x.op == 9 then (x.z == 2) && (x.s == 0)
  else bif x.op == 10 then ((x.z == 2) && (x.s == 0)) && plainM x.m
  else bif x.op == 11 then ((x.r == 0) && decide (x.s ≤ 3)) && ((x.m == 0) || memM x.m)
  else bif x.op == 12 then (x.m == 0)
  else bif x.op == 13 then ((x.z == 2) && decide (x.r ≤ 1)) && (x.m == 7)
  else bif x.op == 14 then (((x.z == 2) && (x.r == 0)) && decide (x.s ≤ 1)) && plainM x.m
  else bif (x.op == 16) || (x.op == 17) then ((x.z == 2) && (x.s == 0)) && !(x.m == 1)
  else bif x.op == 18 then ((!(x.z == 2)) && decide (x.s ≤ 1)) && (x.m == 0)
  else bif x.op == 19 then (x.z == 2) && ((((x.s == 0) && (x.r == 0)) && nowO x.m x.e) || ((x.s == 1) && zeroO x.m x.k x.e))
  else bif x.op == 15 then (bif x.s == 3 then ((x.z == 2) && (x.r == 0)) && nowO x.m x.e else (((x.z == 2) && decide (x.s ≤ 6)) && zeroO x.m x.k x.e) && (decide (3 < x.s) || (x.r == 0)))
  else false
def inOk (x : In) : Bool := inBase x && inKind x
/-- the first word of an instruction -/
def word1 (x : In) : Int := x.op * 2048 + (x.z - 1) * 1024 + x.r * 256 + x.m * 32 + x.k * 8 + x.s
def longW (w : Int) : Int := if extM (w / 32 % 8) = true then 2 else 1
def decode (w v : Int) : In := ⟨w / 2048, w / 1024 % 2 + 1, w / 256 % 4, w / 32 % 8, w / 8 % 4, if longW w = 2 then v else 0, w % 8⟩
theorem modeR {x : In} (h : inOk x = true) : 1 ≤ x.op ∧ x.op ≤ 19 ∧ (x.z = 1 ∨ x.z = 2) ∧ 0 ≤ x.r ∧ x.r ≤ 3 ∧ 0 ≤ x.m ∧ x.m ≤ 7 ∧ 0 ≤ x.k ∧ x.k ≤ 3 ∧ 0 ≤ x.e ∧ x.e ≤ 65535 ∧ 0 ≤ x.s ∧ x.s ≤ 7 ∧ (extM x.m = false → x.e = 0) := by
  obtain ⟨op, z, r, m, k, e, s⟩ := x
  unfold inOk at h
  rw [Bool.and_eq_true] at h
  obtain ⟨h1, h2⟩ := h
  have hop : 1 ≤ op ∧ op ≤ 19 := by
    have : op = 1 ∨ op = 2 ∨ op = 3 ∨ op = 4 ∨ op = 5 ∨ op = 6 ∨ op = 7 ∨ op = 8 ∨ op = 9 ∨ op = 10 ∨ op = 11 ∨ op = 12 ∨ op = 13 ∨ op = 14 ∨ op = 15 ∨ op = 16 ∨ op = 17 ∨ op = 18 ∨ op = 19 := by
      by_cases q1 : op = 1; · simp [q1]
      by_cases q2 : op = 2; · simp [q2]
      by_cases q3 : op = 3; · simp [q3]
      by_cases q4 : op = 4; · simp [q4]
      by_cases q5 : op = 5; · simp [q5]
      by_cases q6 : op = 6; · simp [q6]
      by_cases q7 : op = 7; · simp [q7]
      by_cases q8 : op = 8; · simp [q8]
      by_cases q9 : op = 9; · simp [q9]
      by_cases q10 : op = 10; · simp [q10]
      by_cases q11 : op = 11; · simp [q11]
      by_cases q12 : op = 12; · simp [q12]
      by_cases q13 : op = 13; · simp [q13]
      by_cases q14 : op = 14; · simp [q14]
      by_cases q15 : op = 15; · simp [q15]
      by_cases q16 : op = 16; · simp [q16]
      by_cases q17 : op = 17; · simp [q17]
      by_cases q18 : op = 18; · simp [q18]
      by_cases q19 : op = 19; · simp [q19]
      simp [inKind, q1, q2, q3, q4, q5, q6, q7, q8, q9, q10, q11, q12, q13, q14, q15, q16, q17, q18, q19] at h2
    omega
  simp [inBase, opOk, modeOk, within, wordOk] at h1
  obtain ⟨hz, hr, ⟨hm, hk, _, he, hx⟩, hs, _⟩ := h1
  refine ⟨hop.1, hop.2, hz, hr.1, hr.2, hm.1, hm.2, hk.1, hk.2, he.1, he.2, hs.1, hs.2, fun q => ?_⟩
  rcases hx with hx | hx
  · rw [q] at hx; cases hx
  · exact hx
end Go.Proofs.YtblddehlkaolbaaGreat.Pl

namespace Go.Proofs.YtblddehlkaolbaaGreat.Pl
set_option linter.unusedVariables false
/-- the flags, each by itself -/
def cF (f : Int) : Bool := f % 2 == 1
def vF (f : Int) : Bool := f / 2 % 2 == 1
def zF (f : Int) : Bool := f / 4 % 2 == 1
def nF (f : Int) : Bool := f / 8 % 2 == 1
/-- what an even condition tells -/
def ev (c f : Int) : Bool :=
  bif c == 2 then !cF f && !zF f else bif c == 4 then !cF f else bif c == 6 then !zF f else bif c == 8 then !vF f
  else bif c == 10 then !nF f else bif c == 12 then nF f == vF f else bif c == 14 then (nF f == vF f) && !zF f else true
def tst (k f : Int) : Bool := ev (k - k % 2) f == (k % 2 == 0)
/- the bits of flags, one at a time -/
end Go.Proofs.YtblddehlkaolbaaGreat.Pl

namespace Go.Proofs.YtblddehlkaolbaaGreat.Pl
set_option linter.unusedVariables false

/-- the highest bit -/
def hi (s v : Int) : Int := if top s / 2 ≤ v then 1 else 0
/-- what falls out -/
def fell (k s v : Int) : Int := if k % 2 = 0 then hi s v else v % 2
/-- what comes in -/
def inn (k s x v : Int) : Int := if k = 1 then hi s v else if k = 4 ∨ k = 5 then fell k s v else if 6 ≤ k then x else 0
def nv (k s x v : Int) : Int := if k % 2 = 0 then v * 2 % top s + inn k s x v else v / 2 + inn k s x v * (top s / 2)
def nx (k s x v : Int) : Int := if k = 4 ∨ k = 5 then x else fell k s v
/-- a value and the kept bit, one place on -/
def stp (k s : Int) (p : Int × Int) : Int × Int := (nv k s p.2 p.1, nx k s p.2 p.1)
def st (k s : Int) (p : Int × Int) : Nat → Int × Int
  | 0 => p
  | n + 1 => stp k s (st k s p n)
/-! ### what a call answers -/
end Go.Proofs.YtblddehlkaolbaaGreat.Pl

namespace Go.Proofs.YtblddehlkaolbaaGreat.Pl
set_option linter.unusedVariables false

/-- a processor -/
structure Cp where
  r : Rg
  bx : List Int
  bl : List Int
  bm : Nat
  st : Bool
  ha : Bool
/-- a fault -/
structure Ft where
  v : Int
  pc : Int
  ad : Int
  wo : Int
  wr : Bool
/-- a step on its way -/
structure Mc where
  r : Rg
  bx : List Int
  bl : List Int
  bm : Nat
  st : Bool
  f : Ft
def ftNo : Ft := ⟨0, 0, 0, 0, false⟩
def cpOk (c : Cp) : Bool := rgOk c.r && (goodBus c.bx c.bl c.bm && !(c.st && c.ha))
namespace Mc
def fine (c : Mc) : Bool := c.f.v == 0
def ofC (c : Cp) : Mc := ⟨c.r, c.bx, c.bl, c.bm, c.st, ftNo⟩
def accF (f : Ft) (k s a : Int) : Ft := bif (code k s a != 0) && (f.v == 0) then { f with v := bif code k s a == 2 then 3 else 2, ad := a, wr := k == 2 } else f
def acc (c : Mc) (k s a v : Int) : Mc := { c with bx := nb c.bx k s a v, bl := nl c.bx c.bl c.bm k s a v, bm := nm c.bm k s a, f := accF c.f k s a }
def accV (c : Mc) (k s a v : Int) : Int := lv c.bx k s a v
def setA (c : Mc) (k : Nat) (v : Int) : Mc := { c with r := { c.r with ys := c.r.ys.set k v } }
def setP (c : Mc) (v : Int) : Mc := { c with r := { c.r with p := v } }
def setF (c : Mc) (v : Int) : Mc := { c with r := { c.r with f := v } }
def setR (c : Mc) (r : Rg) : Mc := { c with r := r }
def spA (c : Mc) : Int := (el c.r.ys 3 - 2) % 65536
def push (c : Mc) (v : Int) : Mc := bif (c.acc 2 2 c.spA v).fine then (c.acc 2 2 c.spA v).setA 3 c.spA else c.acc 2 2 c.spA v
/- the instruction at PC -/
def fe0 (c : Mc) : Mc := { c with f := { c.f with pc := c.r.p } }
def fe1 (c : Mc) : Mc := c.fe0.acc 3 2 c.r.p 0
def feW (c : Mc) : Int := c.fe0.accV 3 2 c.r.p 0
def fe2 (c : Mc) : Mc := { c.fe1 with f := { c.fe1.f with wo := c.feW } }
def feA (c : Mc) : Int := (c.r.p + 2) % 65536
def fe3 (c : Mc) : Mc := bif longW c.feW == 2 then c.fe2.acc 3 2 c.feA 0 else c.fe2
def feN (c : Mc) : Int := bif longW c.feW == 2 then c.fe2.accV 3 2 c.feA 0 else 0
def feX (c : Mc) : In := decode c.feW c.feN
def fe4 (c : Mc) : Mc := { c.fe3 with f := { c.fe3.f with v := 4 } }
def fetch (c : Mc) : Mc := bif !c.fe1.fine then c.fe1 else bif !c.fe3.fine then c.fe3 else bif !inOk c.feX then c.fe4 else c.fe3
def fetI (c : Mc) : In := bif c.fe1.fine && (c.fe3.fine && inOk c.feX) then c.feX else inNo
def fetN (c : Mc) : Int := bif c.fe1.fine && (c.fe3.fine && inOk c.feX) then longW c.feW else 0
/- operands -/
def low (c : Mc) (z k : Int) : Int := el c.r.xs k.toNat % top z
def inReg (m : Int) : Bool := (m == 0) || ((m == 1) || (m == 7))
def plc (c : Mc) (z m k e : Int) : Mc := c.setR (placeR c.r z m k e)
def read (c : Mc) (z m k e : Int) : Mc := bif inReg m then c else (c.plc z m k e).acc 1 z (placeV c.r z m k e) 0
def readV (c : Mc) (z m k e : Int) : Int := bif m == 0 then c.low z k else bif m == 1 then el c.r.ys k.toNat else bif m == 7 then e else (c.plc z m k e).accV 1 z (placeV c.r z m k e) 0
def readA (c : Mc) (z m k e : Int) : Int := bif inReg m then 0 else placeV c.r z m k e
def write (c : Mc) (z m k a v : Int) : Mc := bif m == 0 then c.setR (putR c.r z k v) else c.acc 2 z a v
def place (c : Mc) (z m k e : Int) : Mc := bif m == 0 then c else c.plc z m k e
def plcA (c : Mc) (z m k e : Int) : Int := bif m == 0 then 0 else placeV c.r z m k e
def put (c : Mc) (z k v : Int) : Mc := c.setR (putR c.r z k v)
def one0 (c : Mc) (x : In) : Mc := (((c.place x.z x.m x.k x.e).write x.z x.m x.k (c.plcA x.z x.m x.k x.e) 0)).setF (logF x.z c.r.f 0)
def one' (c d : Mc) (x : In) (a v : Int) : Mc :=
  bif x.s == 1 then (d.write x.z x.m x.k a (subV x.z 0 0 v)).setF (subF x.z 0 0 v)
  else bif x.s == 2 then (d.write x.z x.m x.k a (top x.z - 1 - v)).setF (logF x.z c.r.f (top x.z - 1 - v))
  else d.setF (logF x.z c.r.f v)
def one (c : Mc) (x : In) : Mc :=
  bif x.s == 0 then c.one0 x
  else bif (c.read x.z x.m x.k x.e).fine then c.one' (c.read x.z x.m x.k x.e) x (c.readA x.z x.m x.k x.e) (c.readV x.z x.m x.k x.e) else c.read x.z x.m x.k x.e
def jump (c : Mc) (x : In) (at_ : Int) : Mc :=
  bif x.op == 13 then (bif tst (x.s + 8 * x.r) c.r.f then c.setP ((at_ + 2 + x.e) % 65536) else c)
  else bif x.s == 1 then (bif ((c.place 2 x.m x.k x.e).push c.r.p).fine then ((c.place 2 x.m x.k x.e).push c.r.p).setP (c.plcA 2 x.m x.k x.e) else (c.place 2 x.m x.k x.e).push c.r.p)
  else (c.place 2 x.m x.k x.e).setP (c.plcA 2 x.m x.k x.e)
/- a step -/
end Mc
end Go.Proofs.YtblddehlkaolbaaGreat.Pl

namespace Go.Proofs.YtblddehlkaolbaaGreat
open Go.RowKit
set_option linter.unusedVariables false
/-- a processor's four lists: each in a block of its own, of the span -/
structure CpSl (w : World) (lo hi : Nat) (c : Pl.Cp) (a b e q : Option Addr) : Prop where
  d : SlotIn w lo hi a c.r.xs
  a' : SlotIn w lo hi b c.r.ys
  b' : SlotIn w lo hi e c.bx
  l : SlotIn w lo hi q c.bl
  n1 : ∀ g, blk a = some g → blk b ≠ some g
  n2 : ∀ g, blk a = some g → blk e ≠ some g
  n3 : ∀ g, blk a = some g → blk q ≠ some g
  n4 : ∀ g, blk b = some g → blk e ≠ some g
  n5 : ∀ g, blk b = some g → blk q ≠ some g
  n6 : ∀ g, blk e = some g → blk q ≠ some g
theorem CpSl.kept {w w' : World} {l h lo hi : Nat} {c : Pl.Cp} {a b e q : Option Addr} (s : CpSl w l h c a b e q) (k : Kept lo hi w w') (hd : h ≤ lo ∨ hi ≤ l ∨ hi ≤ lo) : CpSl w' l h c a b e q :=
  ⟨s.d.kept k hd, s.a'.kept k hd, s.b'.kept k hd, s.l.kept k hd, s.n1, s.n2, s.n3, s.n4, s.n5, s.n6⟩
def szC (n m k j : Nat) (left : Int) : Int := if szB n m left < 0 then -1 else szB k j (szB n m left)
theorem szC_neg {n m k j : Nat} {left : Int} (h : ¬ szC n m k j left < 0) : (n : Int) + (m : Int) + (k : Int) + (j : Int) ≤ left := by
  unfold szC at h
  split at h
  · exact absurd (by decide) h
  · rename_i h1
    have a1 := szB_neg h1
    have a2 := szB_neg h
    unfold szB at a2
    split at a2
    · omega
    · split at a2 <;> omega
theorem szB_hi {n m : Nat} {left : Int} (h : ¬ szB n m left < 0) : 0 ≤ szB n m left ∧ szB n m left ≤ left := by
  unfold szB at h ⊢
  split
  · rename_i h1; rw [if_pos h1] at h; exact absurd (by decide) h
  · rename_i h1
    rw [if_neg h1] at h
    split
    · rename_i h2; rw [if_pos h2] at h; exact absurd (by decide) h
    · omega
theorem szB_minus {n m : Nat} {left : Int} (h : szB n m left < 0) : szB n m left = -1 := by
  unfold szB at h ⊢
  split
  · rfl
  · rename_i h1
    rw [if_neg h1] at h
    split
    · rfl
    · rename_i h2; rw [if_neg h2] at h; omega
theorem szCpu (w : World) (c : Pl.Cp) (a b e q : Option Addr) (ca cb ce cq : Nat) (left : Int) (lx : c.r.xs.length ≤ 9223372036854775807) (ly : c.r.ys.length ≤ 9223372036854775807) (lb : c.bx.length ≤ 9223372036854775807) (lm : c.bm ≤ 9223372036854775807) (l0 : 0 ≤ left) (l1 : left ≤ 2000000) :
    Calls Tryz.prog 4 #[.agg #[.slice a c.r.xs.length ca, .slice b c.r.ys.length cb, .int .i64 c.r.o, .int .i64 c.r.p, .int .i64 c.r.f, .int .i64 c.r.m, .bool c.r.s, .bool c.r.t, .slice e c.bx.length ce, .slice q c.bm cq, .bool c.st, .bool c.ha], .int .i64 left] w fun r w' => r = .returned (.int .i64 (szC c.r.xs.length c.r.ys.length c.bx.length c.bm left)) ∧ Kept 0 0 w w' := by
  have K0 := hide (kept_alloc w (.cells #[.slice a c.r.xs.length ca, .slice b c.r.ys.length cb, .int .i64 c.r.o, .int .i64 c.r.p, .int .i64 c.r.f, .int .i64 c.r.m, .bool c.r.s, .bool c.r.t, .slice e c.bx.length ce, .slice q c.bm cq, .bool c.st, .bool c.ha] 29))
  have B0 := hide (Blk.new w #[.slice a c.r.xs.length ca, .slice b c.r.ys.length cb, .int .i64 c.r.o, .int .i64 c.r.p, .int .i64 c.r.f, .int .i64 c.r.m, .bool c.r.s, .bool c.r.t, .slice e c.bx.length ce, .slice q c.bm cq, .bool c.st, .bool c.ha] 29)
  by_cases h : szB c.r.xs.length c.r.ys.length left < 0
  · have E : Hid (szC c.r.xs.length c.r.ys.length c.bx.length c.bm left = -1) := hide (by simp [szC, h])
    have e1 := szB_minus h
    go_enter Tryz.func4, Tryz.ntmps4
    go_wp2_with fail
    refine (szRegs _ _ _ _ _ _ _ _ _ _ _ _ _ left lx ly l0 l1).mono ?_
    rintro e9 w1 ⟨rfl, k⟩
    rw [e1]
    have HK := hide (K0.out.trans k)
    clear k
    go_wp2_with fail
    go_ret
    exact ⟨rI E.out.symm, HK.out⟩
  · obtain ⟨s0, s1⟩ := szB_hi h
    have E : Hid (szC c.r.xs.length c.r.ys.length c.bx.length c.bm left = szB c.bx.length c.bm (szB c.r.xs.length c.r.ys.length left)) := hide (by simp [szC, h])
    revert h s0 s1 E
    generalize hS : szB c.r.xs.length c.r.ys.length left = S
    have HS := hide hS
    clear hS
    intro h s0 s1 E
    by_cases h2 : szB c.bx.length c.bm S < 0
    all_goals
      have E2 := hide (fun q => @szB_minus c.bx.length c.bm S q)
      go_enter Tryz.func4, Tryz.ntmps4
      go_wp2_with fail
      refine (szRegs _ _ _ _ _ _ _ _ _ _ _ _ _ left lx ly l0 l1).mono ?_
      rintro e9 w1 ⟨rfl, k⟩
      rw [HS.out]
      have HK := hide (K0.out.trans k)
      have B1 := hide (B0.out.kept0 k)
      clear k
      have i8 := B1.out.cell (i := 8) rfl
      have i9 := B1.out.cell (i := 9) rfl
      go_wp2_with fail
      refine (szBus _ _ _ _ _ _ _ S lb lm s0 (by omega)).mono ?_
      rintro e9 w2 ⟨rfl, k⟩
      have HK2 := hide (HK.out.trans k)
      clear k i8 i9
      go_wp2_with fail
      go_ret
      first
        | exact ⟨rI E.out.symm, HK2.out⟩
        | exact ⟨rI (by rw [E.out, E2.out h2]), HK2.out⟩
theorem eqFault (w : World) (f : Pl.Ft) :
    Calls Tryz.prog 9 #[.agg #[.int .i64 f.v, .int .i64 f.pc, .int .i64 f.ad, .int .i64 f.wo, .bool f.wr], .agg #[.int .i64 f.v, .int .i64 f.pc, .int .i64 f.ad, .int .i64 f.wo, .bool f.wr]] w fun r w' => r = .returned (.bool true) ∧ Kept 0 0 w w' := by
  have HK0 := hide (kept_new (kept_alloc w (.cells #[.int .i64 f.v, .int .i64 f.pc, .int .i64 f.ad, .int .i64 f.wo, .bool f.wr] 36)) (.cells #[.int .i64 f.v, .int .i64 f.pc, .int .i64 f.ad, .int .i64 f.wo, .bool f.wr] 36))
  go_enter Tryz.func9, Tryz.ntmps9
  go_wp2_with fail
  go_ret
  exact ⟨rfl, HK0.out⟩
set_option maxHeartbeats 4000000 in
theorem eqCpu (w : World) (c : Pl.Cp) (a b e q a2 b2 e2 q2 : Option Addr) (ca cb ce cq ca2 cb2 ce2 cq2 : Nat) (ha : IRow w a c.r.xs) (hb : IRow w b c.r.ys) (he : IRow w e c.bx) (hq : IRow w q c.bl) (ha2 : IRow w a2 c.r.xs) (hb2 : IRow w b2 c.r.ys) (he2 : IRow w e2 c.bx) (hq2 : IRow w q2 c.bl) (lx : c.r.xs.length ≤ 2000000) (ly : c.r.ys.length ≤ 2000000) (lb : c.bx.length ≤ 2000000) (ll : c.bl.length = 5 * c.bm) (lm : c.bm ≤ 2000000) :
    Calls Tryz.prog 10 #[.agg #[.slice a c.r.xs.length ca, .slice b c.r.ys.length cb, .int .i64 c.r.o, .int .i64 c.r.p, .int .i64 c.r.f, .int .i64 c.r.m, .bool c.r.s, .bool c.r.t, .slice e c.bx.length ce, .slice q c.bm cq, .bool c.st, .bool c.ha], .agg #[.slice a2 c.r.xs.length ca2, .slice b2 c.r.ys.length cb2, .int .i64 c.r.o, .int .i64 c.r.p, .int .i64 c.r.f, .int .i64 c.r.m, .bool c.r.s, .bool c.r.t, .slice e2 c.bx.length ce2, .slice q2 c.bm cq2, .bool c.st, .bool c.ha]] w fun r w' => r = .returned (.bool true) ∧ Kept 0 0 w w' := by
  have K0 := hide (kept_new (kept_alloc w (.cells #[.slice a c.r.xs.length ca, .slice b c.r.ys.length cb, .int .i64 c.r.o, .int .i64 c.r.p, .int .i64 c.r.f, .int .i64 c.r.m, .bool c.r.s, .bool c.r.t, .slice e c.bx.length ce, .slice q c.bm cq, .bool c.st, .bool c.ha] 44)) (.cells #[.slice a2 c.r.xs.length ca2, .slice b2 c.r.ys.length cb2, .int .i64 c.r.o, .int .i64 c.r.p, .int .i64 c.r.f, .int .i64 c.r.m, .bool c.r.s, .bool c.r.t, .slice e2 c.bx.length ce2, .slice q2 c.bm cq2, .bool c.st, .bool c.ha] 44))
  have B0 := (Blk.new w #[.slice a c.r.xs.length ca, .slice b c.r.ys.length cb, .int .i64 c.r.o, .int .i64 c.r.p, .int .i64 c.r.f, .int .i64 c.r.m, .bool c.r.s, .bool c.r.t, .slice e c.bx.length ce, .slice q c.bm cq, .bool c.st, .bool c.ha] 44).alloc (.cells #[.slice a2 c.r.xs.length ca2, .slice b2 c.r.ys.length cb2, .int .i64 c.r.o, .int .i64 c.r.p, .int .i64 c.r.f, .int .i64 c.r.m, .bool c.r.s, .bool c.r.t, .slice e2 c.bx.length ce2, .slice q2 c.bm cq2, .bool c.st, .bool c.ha] 44)
  have B1 := Blk.new (w.alloc (.cells #[.slice a c.r.xs.length ca, .slice b c.r.ys.length cb, .int .i64 c.r.o, .int .i64 c.r.p, .int .i64 c.r.f, .int .i64 c.r.m, .bool c.r.s, .bool c.r.t, .slice e c.bx.length ce, .slice q c.bm cq, .bool c.st, .bool c.ha] 44)) #[.slice a2 c.r.xs.length ca2, .slice b2 c.r.ys.length cb2, .int .i64 c.r.o, .int .i64 c.r.p, .int .i64 c.r.f, .int .i64 c.r.m, .bool c.r.s, .bool c.r.t, .slice e2 c.bx.length ce2, .slice q2 c.bm cq2, .bool c.st, .bool c.ha] 44
  simp only [World.size_alloc] at B1
  obtain ⟨X, hX⟩ : ∃ X : World, (w.alloc (.cells #[.slice a c.r.xs.length ca, .slice b c.r.ys.length cb, .int .i64 c.r.o, .int .i64 c.r.p, .int .i64 c.r.f, .int .i64 c.r.m, .bool c.r.s, .bool c.r.t, .slice e c.bx.length ce, .slice q c.bm cq, .bool c.st, .bool c.ha] 44)).alloc (.cells #[.slice a2 c.r.xs.length ca2, .slice b2 c.r.ys.length cb2, .int .i64 c.r.o, .int .i64 c.r.p, .int .i64 c.r.f, .int .i64 c.r.m, .bool c.r.s, .bool c.r.t, .slice e2 c.bx.length ce2, .slice q2 c.bm cq2, .bool c.st, .bool c.ha] 44) = X := ⟨_, rfl⟩
  rw [hX] at K0 B0 B1
  have HB0 := hide B0
  have HB1 := hide B1
  have i0 := B0.cell (i := 0) rfl
  have i1 := B0.cell (i := 1) rfl
  have i2 := B0.cell (i := 2) rfl
  have i3 := B0.cell (i := 3) rfl
  have i4 := B0.cell (i := 4) rfl
  have i5 := B0.cell (i := 5) rfl
  have i6 := B0.cell (i := 6) rfl
  have i7 := B0.cell (i := 7) rfl
  have i8 := B0.cell (i := 8) rfl
  have i9 := B0.cell (i := 9) rfl
  have i10 := B0.cell (i := 10) rfl
  have i11 := B0.cell (i := 11) rfl
  have j0 := B1.cell (i := 0) rfl
  have j1 := B1.cell (i := 1) rfl
  have j2 := B1.cell (i := 2) rfl
  have j3 := B1.cell (i := 3) rfl
  have j4 := B1.cell (i := 4) rfl
  have j5 := B1.cell (i := 5) rfl
  have j6 := B1.cell (i := 6) rfl
  have j7 := B1.cell (i := 7) rfl
  have j8 := B1.cell (i := 8) rfl
  have j9 := B1.cell (i := 9) rfl
  have j10 := B1.cell (i := 10) rfl
  have j11 := B1.cell (i := 11) rfl
  have HL := hide ll
  have HE := hide (he.keptS K0.out)
  have HQ := hide (hq.keptS K0.out)
  have HE2 := hide (he2.keptS K0.out)
  have HQ2 := hide (hq2.keptS K0.out)
  have HA := hide (ha.keptS K0.out)
  have HB := hide (hb.keptS K0.out)
  have HA2 := hide (ha2.keptS K0.out)
  have HBB2 := hide (hb2.keptS K0.out)
  clear B0 B1 ll ha hb he hq ha2 hb2 he2 hq2
  go_enter Tryz.func10, Tryz.ntmps10
  go_wp2_with fail
  refine (eqRegs _ c.r.o c.r.p c.r.f c.r.m c.r.s c.r.t a b a2 b2 ca cb ca2 cb2 c.r.xs c.r.ys HA.out HB.out HA2.out HBB2.out lx ly).mono ?_
  rintro e9 w1 ⟨rfl, k⟩
  have K1 := hide (K0.out.trans k)
  have C0 := hide (HB0.out.kept0 k)
  have C1 := hide (HB1.out.kept0 k)
  have HE' := hide (HE.out.keptS k)
  have HQ' := hide (HQ.out.keptS k)
  have HE2' := hide (HE2.out.keptS k)
  have HQ2' := hide (HQ2.out.keptS k)
  clear k i0 j0 i1 j1 i2 j2 i3 j3 i4 j4 i5 j5 i6 j6 i7 j7 i8 j8 i9 j9 i10 j10 i11 j11
  have i8 := C0.out.cell (i := 8) rfl
  have i9 := C0.out.cell (i := 9) rfl
  have i10 := C0.out.cell (i := 10) rfl
  have i11 := C0.out.cell (i := 11) rfl
  have j8 := C1.out.cell (i := 8) rfl
  have j9 := C1.out.cell (i := 9) rfl
  have j10 := C1.out.cell (i := 10) rfl
  have j11 := C1.out.cell (i := 11) rfl
  go_wp2_with fail
  refine (eqBus _ e q e2 q2 ce cq ce2 cq2 c.bm c.bm c.bx c.bl c.bx c.bl HE'.out HQ'.out HE2'.out HQ2'.out lb lb HL.out HL.out lm lm).mono ?_
  rintro e9 w2 ⟨rfl, k⟩
  rw [show (decide (c.bx = c.bx) && decide (c.bl = c.bl)) = true from by simp]
  have K2 := hide (K1.out.trans k)
  have D0 := hide (C0.out.kept0 k)
  have D1 := hide (C1.out.kept0 k)
  clear k i8 i9 i10 i11 j8 j9 j10 j11
  have i10 := D0.out.cell (i := 10) rfl
  have i11 := D0.out.cell (i := 11) rfl
  have j10 := D1.out.cell (i := 10) rfl
  have j11 := D1.out.cell (i := 11) rfl
  go_wp2_with fail
  go_ret
  exact ⟨rfl, K2.out⟩
end Go.Proofs.YtblddehlkaolbaaGreat

namespace Go.Proofs.YtblddehlkaolbaaGreat
open Go.RowKit
set_option linter.unusedVariables false
set_option maxRecDepth 100000 in
set_option maxHeartbeats 8000000 in
theorem toCpu (w : World) (c : Pl.Cp) (a b e q : Option Addr) (ca cb ce cq : Nat) (ha : IRow w a c.r.xs) (hb : IRow w b c.r.ys) (he : IRow w e c.bx) (hq : IRow w q c.bl) (lx : c.r.xs.length ≤ 2000000) (ly : c.r.ys.length ≤ 2000000) (lb : c.bx.length ≤ 2000000) (ll : c.bl.length = 5 * c.bm) (lm : c.bm ≤ 2000000) :
    Calls Tryz.prog 6 #[.agg #[.slice a c.r.xs.length ca, .slice b c.r.ys.length cb, .int .i64 c.r.o, .int .i64 c.r.p, .int .i64 c.r.f, .int .i64 c.r.m, .bool c.r.s, .bool c.r.t, .slice e c.bx.length ce, .slice q c.bm cq, .bool c.st, .bool c.ha]] w fun r w' => ∃ g1 g2 g3 g4 : Nat, r = .returned (.agg #[.slice (some ⟨g1, 0, none⟩) c.r.xs.length c.r.xs.length, .slice (some ⟨g2, 0, none⟩) c.r.ys.length c.r.ys.length, .int .i64 c.r.o, .int .i64 c.r.p, .int .i64 c.r.f, .int .i64 c.r.m, .bool c.r.s, .bool c.r.t, .slice (some ⟨g3, 0, none⟩) c.bx.length c.bx.length, .slice (some ⟨g4, 0, none⟩) c.bm c.bm, .bool c.st, .bool c.ha]) ∧ CpSl w' w.heap.size w'.heap.size c (some ⟨g1, 0, none⟩) (some ⟨g2, 0, none⟩) (some ⟨g3, 0, none⟩) (some ⟨g4, 0, none⟩) ∧ Kept 0 0 w w' := by
  have k0 : Kept 0 0 w (((w.alloc (.cells #[.slice a c.r.xs.length ca, .slice b c.r.ys.length cb, .int .i64 c.r.o, .int .i64 c.r.p, .int .i64 c.r.f, .int .i64 c.r.m, .bool c.r.s, .bool c.r.t, .slice e c.bx.length ce, .slice q c.bm cq, .bool c.st, .bool c.ha] 29)).alloc (.cells #[.slice none 0 0, .slice none 0 0, .int .i64 0, .int .i64 0, .int .i64 0, .int .i64 0, .bool false, .bool false, .slice none 0 0, .slice none 0 0, .bool false, .bool false] 44)).alloc (.cells #[.slice none 0 0, .slice none 0 0, .int .i64 0, .int .i64 0, .int .i64 0, .int .i64 0, .bool false, .bool false, .slice none 0 0, .slice none 0 0, .bool false, .bool false] 44)) := kept_new (kept_new (kept_alloc _ _) _) _
  have BA := ((Blk.new w #[.slice a c.r.xs.length ca, .slice b c.r.ys.length cb, .int .i64 c.r.o, .int .i64 c.r.p, .int .i64 c.r.f, .int .i64 c.r.m, .bool c.r.s, .bool c.r.t, .slice e c.bx.length ce, .slice q c.bm cq, .bool c.st, .bool c.ha] 29).alloc (.cells #[.slice none 0 0, .slice none 0 0, .int .i64 0, .int .i64 0, .int .i64 0, .int .i64 0, .bool false, .bool false, .slice none 0 0, .slice none 0 0, .bool false, .bool false] 44)).alloc (.cells #[.slice none 0 0, .slice none 0 0, .int .i64 0, .int .i64 0, .int .i64 0, .int .i64 0, .bool false, .bool false, .slice none 0 0, .slice none 0 0, .bool false, .bool false] 44)
  have BR := (Blk.new (w.alloc (.cells #[.slice a c.r.xs.length ca, .slice b c.r.ys.length cb, .int .i64 c.r.o, .int .i64 c.r.p, .int .i64 c.r.f, .int .i64 c.r.m, .bool c.r.s, .bool c.r.t, .slice e c.bx.length ce, .slice q c.bm cq, .bool c.st, .bool c.ha] 29)) #[.slice none 0 0, .slice none 0 0, .int .i64 0, .int .i64 0, .int .i64 0, .int .i64 0, .bool false, .bool false, .slice none 0 0, .slice none 0 0, .bool false, .bool false] 44).alloc (.cells #[.slice none 0 0, .slice none 0 0, .int .i64 0, .int .i64 0, .int .i64 0, .int .i64 0, .bool false, .bool false, .slice none 0 0, .slice none 0 0, .bool false, .bool false] 44)
  have BO := Blk.new ((w.alloc (.cells #[.slice a c.r.xs.length ca, .slice b c.r.ys.length cb, .int .i64 c.r.o, .int .i64 c.r.p, .int .i64 c.r.f, .int .i64 c.r.m, .bool c.r.s, .bool c.r.t, .slice e c.bx.length ce, .slice q c.bm cq, .bool c.st, .bool c.ha] 29)).alloc (.cells #[.slice none 0 0, .slice none 0 0, .int .i64 0, .int .i64 0, .int .i64 0, .int .i64 0, .bool false, .bool false, .slice none 0 0, .slice none 0 0, .bool false, .bool false] 44)) #[.slice none 0 0, .slice none 0 0, .int .i64 0, .int .i64 0, .int .i64 0, .int .i64 0, .bool false, .bool false, .slice none 0 0, .slice none 0 0, .bool false, .bool false] 44
  simp only [World.size_alloc] at BR BO
  obtain ⟨X, hX⟩ : ∃ X : World, (((w.alloc (.cells #[.slice a c.r.xs.length ca, .slice b c.r.ys.length cb, .int .i64 c.r.o, .int .i64 c.r.p, .int .i64 c.r.f, .int .i64 c.r.m, .bool c.r.s, .bool c.r.t, .slice e c.bx.length ce, .slice q c.bm cq, .bool c.st, .bool c.ha] 29)).alloc (.cells #[.slice none 0 0, .slice none 0 0, .int .i64 0, .int .i64 0, .int .i64 0, .int .i64 0, .bool false, .bool false, .slice none 0 0, .slice none 0 0, .bool false, .bool false] 44)).alloc (.cells #[.slice none 0 0, .slice none 0 0, .int .i64 0, .int .i64 0, .int .i64 0, .int .i64 0, .bool false, .bool false, .slice none 0 0, .slice none 0 0, .bool false, .bool false] 44)) = X := ⟨_, rfl⟩
  rw [hX] at k0 BA BR BO
  have n0 := BO.lt
  have K0 := hide k0
  have HBA := hide BA
  have HBR := hide BR
  have HBO := hide BO
  have HA := hide (ha.keptS k0)
  have HB := hide (hb.keptS k0)
  have HE := hide he
  have HQ := hide hq
  have HL := hide ll
  have i0 := BA.cell (i := 0) rfl
  have i1 := BA.cell (i := 1) rfl
  have i2 := BA.cell (i := 2) rfl
  have i3 := BA.cell (i := 3) rfl
  have i4 := BA.cell (i := 4) rfl
  have i5 := BA.cell (i := 5) rfl
  have i6 := BA.cell (i := 6) rfl
  have i7 := BA.cell (i := 7) rfl
  have i8 := BA.cell (i := 8) rfl
  have i9 := BA.cell (i := 9) rfl
  have i10 := BA.cell (i := 10) rfl
  have i11 := BA.cell (i := 11) rfl
  clear k0 BA BR BO ha hb he hq ll
  go_enter Tryz.func6, Tryz.ntmps6
  go_wp2_with fail
  refine (toRegs _ c.r.o c.r.p c.r.f c.r.m c.r.s c.r.t a b ca cb c.r.xs c.r.ys HA.out HB.out lx ly).mono ?_
  rintro e9 w1 ⟨g1, g2, rfl, o1, o2, l1, l2, l3, k⟩
  have HA1 := hide (HBA.out.kept0 k)
  have HR1 := hide (HBR.out.kept0 k)
  have HO1 := hide (HBO.out.kept0 k)
  have K1 := hide (K0.out.trans k)
  have k1s := k.size
  have OW1 := hide o1
  have OW2 := hide o2
  clear k o1 o2 i0 i1 i2 i3 i4 i5 i6 i7 i8 i9 i10 i11
  have o0 := HO1.out.cell (i := 0) rfl
  have of0 := HO1.out.frozen 0
  have o1 := HO1.out.cell (i := 1) rfl
  have of1 := HO1.out.frozen 1
  have o2 := HO1.out.cell (i := 2) rfl
  have of2 := HO1.out.frozen 2
  have o3 := HO1.out.cell (i := 3) rfl
  have of3 := HO1.out.frozen 3
  have o4 := HO1.out.cell (i := 4) rfl
  have of4 := HO1.out.frozen 4
  have o5 := HO1.out.cell (i := 5) rfl
  have of5 := HO1.out.frozen 5
  have o6 := HO1.out.cell (i := 6) rfl
  have of6 := HO1.out.frozen 6
  have o7 := HO1.out.cell (i := 7) rfl
  have of7 := HO1.out.frozen 7
  have K2 : Kept 0 0 w ((((((((w1.setCell ⟨w.heap.size + 2, 0, none⟩ (.slice (some ⟨g1, 0, none⟩) c.r.xs.length c.r.xs.length)).setCell ⟨w.heap.size + 2, 1, none⟩ (.slice (some ⟨g2, 0, none⟩) c.r.ys.length c.r.ys.length)).setCell ⟨w.heap.size + 2, 2, none⟩ (.int .i64 c.r.o)).setCell ⟨w.heap.size + 2, 3, none⟩ (.int .i64 c.r.p)).setCell ⟨w.heap.size + 2, 4, none⟩ (.int .i64 c.r.f)).setCell ⟨w.heap.size + 2, 5, none⟩ (.int .i64 c.r.m)).setCell ⟨w.heap.size + 2, 6, none⟩ (.bool c.r.s)).setCell ⟨w.heap.size + 2, 7, none⟩ (.bool c.r.t)) := (kept_set (kept_set (kept_set (kept_set (kept_set (kept_set (kept_set (kept_set K1.out _ _ _ (.inr (by omega))) _ _ _ (.inr (by omega))) _ _ _ (.inr (by omega))) _ _ _ (.inr (by omega))) _ _ _ (.inr (by omega))) _ _ _ (.inr (by omega))) _ _ _ (.inr (by omega))) _ _ _ (.inr (by omega)))
  have HO2_0 : Blk (w1.setCell ⟨w.heap.size + 2, 0, none⟩ (.slice (some ⟨g1, 0, none⟩) c.r.xs.length c.r.xs.length)) (w.heap.size + 2) #[.slice (some ⟨g1, 0, none⟩) c.r.xs.length c.r.xs.length, .slice none 0 0, .int .i64 0, .int .i64 0, .int .i64 0, .int .i64 0, .bool false, .bool false, .slice none 0 0, .slice none 0 0, .bool false, .bool false] 44 := HO1.out.set 0 (.slice (some ⟨g1, 0, none⟩) c.r.xs.length c.r.xs.length)
  have HO2_1 : Blk ((w1.setCell ⟨w.heap.size + 2, 0, none⟩ (.slice (some ⟨g1, 0, none⟩) c.r.xs.length c.r.xs.length)).setCell ⟨w.heap.size + 2, 1, none⟩ (.slice (some ⟨g2, 0, none⟩) c.r.ys.length c.r.ys.length)) (w.heap.size + 2) #[.slice (some ⟨g1, 0, none⟩) c.r.xs.length c.r.xs.length, .slice (some ⟨g2, 0, none⟩) c.r.ys.length c.r.ys.length, .int .i64 0, .int .i64 0, .int .i64 0, .int .i64 0, .bool false, .bool false, .slice none 0 0, .slice none 0 0, .bool false, .bool false] 44 := HO2_0.set 1 (.slice (some ⟨g2, 0, none⟩) c.r.ys.length c.r.ys.length)
  have HO2_2 : Blk (((w1.setCell ⟨w.heap.size + 2, 0, none⟩ (.slice (some ⟨g1, 0, none⟩) c.r.xs.length c.r.xs.length)).setCell ⟨w.heap.size + 2, 1, none⟩ (.slice (some ⟨g2, 0, none⟩) c.r.ys.length c.r.ys.length)).setCell ⟨w.heap.size + 2, 2, none⟩ (.int .i64 c.r.o)) (w.heap.size + 2) #[.slice (some ⟨g1, 0, none⟩) c.r.xs.length c.r.xs.length, .slice (some ⟨g2, 0, none⟩) c.r.ys.length c.r.ys.length, .int .i64 c.r.o, .int .i64 0, .int .i64 0, .int .i64 0, .bool false, .bool false, .slice none 0 0, .slice none 0 0, .bool false, .bool false] 44 := HO2_1.set 2 (.int .i64 c.r.o)
  have HO2_3 : Blk ((((w1.setCell ⟨w.heap.size + 2, 0, none⟩ (.slice (some ⟨g1, 0, none⟩) c.r.xs.length c.r.xs.length)).setCell ⟨w.heap.size + 2, 1, none⟩ (.slice (some ⟨g2, 0, none⟩) c.r.ys.length c.r.ys.length)).setCell ⟨w.heap.size + 2, 2, none⟩ (.int .i64 c.r.o)).setCell ⟨w.heap.size + 2, 3, none⟩ (.int .i64 c.r.p)) (w.heap.size + 2) #[.slice (some ⟨g1, 0, none⟩) c.r.xs.length c.r.xs.length, .slice (some ⟨g2, 0, none⟩) c.r.ys.length c.r.ys.length, .int .i64 c.r.o, .int .i64 c.r.p, .int .i64 0, .int .i64 0, .bool false, .bool false, .slice none 0 0, .slice none 0 0, .bool false, .bool false] 44 := HO2_2.set 3 (.int .i64 c.r.p)
  have HO2_4 : Blk (((((w1.setCell ⟨w.heap.size + 2, 0, none⟩ (.slice (some ⟨g1, 0, none⟩) c.r.xs.length c.r.xs.length)).setCell ⟨w.heap.size + 2, 1, none⟩ (.slice (some ⟨g2, 0, none⟩) c.r.ys.length c.r.ys.length)).setCell ⟨w.heap.size + 2, 2, none⟩ (.int .i64 c.r.o)).setCell ⟨w.heap.size + 2, 3, none⟩ (.int .i64 c.r.p)).setCell ⟨w.heap.size + 2, 4, none⟩ (.int .i64 c.r.f)) (w.heap.size + 2) #[.slice (some ⟨g1, 0, none⟩) c.r.xs.length c.r.xs.length, .slice (some ⟨g2, 0, none⟩) c.r.ys.length c.r.ys.length, .int .i64 c.r.o, .int .i64 c.r.p, .int .i64 c.r.f, .int .i64 0, .bool false, .bool false, .slice none 0 0, .slice none 0 0, .bool false, .bool false] 44 := HO2_3.set 4 (.int .i64 c.r.f)
  have HO2_5 : Blk ((((((w1.setCell ⟨w.heap.size + 2, 0, none⟩ (.slice (some ⟨g1, 0, none⟩) c.r.xs.length c.r.xs.length)).setCell ⟨w.heap.size + 2, 1, none⟩ (.slice (some ⟨g2, 0, none⟩) c.r.ys.length c.r.ys.length)).setCell ⟨w.heap.size + 2, 2, none⟩ (.int .i64 c.r.o)).setCell ⟨w.heap.size + 2, 3, none⟩ (.int .i64 c.r.p)).setCell ⟨w.heap.size + 2, 4, none⟩ (.int .i64 c.r.f)).setCell ⟨w.heap.size + 2, 5, none⟩ (.int .i64 c.r.m)) (w.heap.size + 2) #[.slice (some ⟨g1, 0, none⟩) c.r.xs.length c.r.xs.length, .slice (some ⟨g2, 0, none⟩) c.r.ys.length c.r.ys.length, .int .i64 c.r.o, .int .i64 c.r.p, .int .i64 c.r.f, .int .i64 c.r.m, .bool false, .bool false, .slice none 0 0, .slice none 0 0, .bool false, .bool false] 44 := HO2_4.set 5 (.int .i64 c.r.m)
  have HO2_6 : Blk (((((((w1.setCell ⟨w.heap.size + 2, 0, none⟩ (.slice (some ⟨g1, 0, none⟩) c.r.xs.length c.r.xs.length)).setCell ⟨w.heap.size + 2, 1, none⟩ (.slice (some ⟨g2, 0, none⟩) c.r.ys.length c.r.ys.length)).setCell ⟨w.heap.size + 2, 2, none⟩ (.int .i64 c.r.o)).setCell ⟨w.heap.size + 2, 3, none⟩ (.int .i64 c.r.p)).setCell ⟨w.heap.size + 2, 4, none⟩ (.int .i64 c.r.f)).setCell ⟨w.heap.size + 2, 5, none⟩ (.int .i64 c.r.m)).setCell ⟨w.heap.size + 2, 6, none⟩ (.bool c.r.s)) (w.heap.size + 2) #[.slice (some ⟨g1, 0, none⟩) c.r.xs.length c.r.xs.length, .slice (some ⟨g2, 0, none⟩) c.r.ys.length c.r.ys.length, .int .i64 c.r.o, .int .i64 c.r.p, .int .i64 c.r.f, .int .i64 c.r.m, .bool c.r.s, .bool false, .slice none 0 0, .slice none 0 0, .bool false, .bool false] 44 := HO2_5.set 6 (.bool c.r.s)
  have HO2 : Blk ((((((((w1.setCell ⟨w.heap.size + 2, 0, none⟩ (.slice (some ⟨g1, 0, none⟩) c.r.xs.length c.r.xs.length)).setCell ⟨w.heap.size + 2, 1, none⟩ (.slice (some ⟨g2, 0, none⟩) c.r.ys.length c.r.ys.length)).setCell ⟨w.heap.size + 2, 2, none⟩ (.int .i64 c.r.o)).setCell ⟨w.heap.size + 2, 3, none⟩ (.int .i64 c.r.p)).setCell ⟨w.heap.size + 2, 4, none⟩ (.int .i64 c.r.f)).setCell ⟨w.heap.size + 2, 5, none⟩ (.int .i64 c.r.m)).setCell ⟨w.heap.size + 2, 6, none⟩ (.bool c.r.s)).setCell ⟨w.heap.size + 2, 7, none⟩ (.bool c.r.t)) (w.heap.size + 2) #[.slice (some ⟨g1, 0, none⟩) c.r.xs.length c.r.xs.length, .slice (some ⟨g2, 0, none⟩) c.r.ys.length c.r.ys.length, .int .i64 c.r.o, .int .i64 c.r.p, .int .i64 c.r.f, .int .i64 c.r.m, .bool c.r.s, .bool c.r.t, .slice none 0 0, .slice none 0 0, .bool false, .bool false] 44 := HO2_6.set 7 (.bool c.r.t)
  have HA2 : Blk ((((((((w1.setCell ⟨w.heap.size + 2, 0, none⟩ (.slice (some ⟨g1, 0, none⟩) c.r.xs.length c.r.xs.length)).setCell ⟨w.heap.size + 2, 1, none⟩ (.slice (some ⟨g2, 0, none⟩) c.r.ys.length c.r.ys.length)).setCell ⟨w.heap.size + 2, 2, none⟩ (.int .i64 c.r.o)).setCell ⟨w.heap.size + 2, 3, none⟩ (.int .i64 c.r.p)).setCell ⟨w.heap.size + 2, 4, none⟩ (.int .i64 c.r.f)).setCell ⟨w.heap.size + 2, 5, none⟩ (.int .i64 c.r.m)).setCell ⟨w.heap.size + 2, 6, none⟩ (.bool c.r.s)).setCell ⟨w.heap.size + 2, 7, none⟩ (.bool c.r.t)) w.heap.size #[.slice a c.r.xs.length ca, .slice b c.r.ys.length cb, .int .i64 c.r.o, .int .i64 c.r.p, .int .i64 c.r.f, .int .i64 c.r.m, .bool c.r.s, .bool c.r.t, .slice e c.bx.length ce, .slice q c.bm cq, .bool c.st, .bool c.ha] 29 := ((((((((HA1.out.other _ _ _ (by omega)).other _ _ _ (by omega)).other _ _ _ (by omega)).other _ _ _ (by omega)).other _ _ _ (by omega)).other _ _ _ (by omega)).other _ _ _ (by omega)).other _ _ _ (by omega))
  have HR2 : Blk ((((((((w1.setCell ⟨w.heap.size + 2, 0, none⟩ (.slice (some ⟨g1, 0, none⟩) c.r.xs.length c.r.xs.length)).setCell ⟨w.heap.size + 2, 1, none⟩ (.slice (some ⟨g2, 0, none⟩) c.r.ys.length c.r.ys.length)).setCell ⟨w.heap.size + 2, 2, none⟩ (.int .i64 c.r.o)).setCell ⟨w.heap.size + 2, 3, none⟩ (.int .i64 c.r.p)).setCell ⟨w.heap.size + 2, 4, none⟩ (.int .i64 c.r.f)).setCell ⟨w.heap.size + 2, 5, none⟩ (.int .i64 c.r.m)).setCell ⟨w.heap.size + 2, 6, none⟩ (.bool c.r.s)).setCell ⟨w.heap.size + 2, 7, none⟩ (.bool c.r.t)) (w.heap.size + 1) #[.slice none 0 0, .slice none 0 0, .int .i64 0, .int .i64 0, .int .i64 0, .int .i64 0, .bool false, .bool false, .slice none 0 0, .slice none 0 0, .bool false, .bool false] 44 := ((((((((HR1.out.other _ _ _ (by omega)).other _ _ _ (by omega)).other _ _ _ (by omega)).other _ _ _ (by omega)).other _ _ _ (by omega)).other _ _ _ (by omega)).other _ _ _ (by omega)).other _ _ _ (by omega))
  have P1 : Own ((((((((w1.setCell ⟨w.heap.size + 2, 0, none⟩ (.slice (some ⟨g1, 0, none⟩) c.r.xs.length c.r.xs.length)).setCell ⟨w.heap.size + 2, 1, none⟩ (.slice (some ⟨g2, 0, none⟩) c.r.ys.length c.r.ys.length)).setCell ⟨w.heap.size + 2, 2, none⟩ (.int .i64 c.r.o)).setCell ⟨w.heap.size + 2, 3, none⟩ (.int .i64 c.r.p)).setCell ⟨w.heap.size + 2, 4, none⟩ (.int .i64 c.r.f)).setCell ⟨w.heap.size + 2, 5, none⟩ (.int .i64 c.r.m)).setCell ⟨w.heap.size + 2, 6, none⟩ (.bool c.r.s)).setCell ⟨w.heap.size + 2, 7, none⟩ (.bool c.r.t)) g1 c.r.xs := ((((((((OW1.out.setOther _ _ _ (by omega)).setOther _ _ _ (by omega)).setOther _ _ _ (by omega)).setOther _ _ _ (by omega)).setOther _ _ _ (by omega)).setOther _ _ _ (by omega)).setOther _ _ _ (by omega)).setOther _ _ _ (by omega))
  have P2 : Own ((((((((w1.setCell ⟨w.heap.size + 2, 0, none⟩ (.slice (some ⟨g1, 0, none⟩) c.r.xs.length c.r.xs.length)).setCell ⟨w.heap.size + 2, 1, none⟩ (.slice (some ⟨g2, 0, none⟩) c.r.ys.length c.r.ys.length)).setCell ⟨w.heap.size + 2, 2, none⟩ (.int .i64 c.r.o)).setCell ⟨w.heap.size + 2, 3, none⟩ (.int .i64 c.r.p)).setCell ⟨w.heap.size + 2, 4, none⟩ (.int .i64 c.r.f)).setCell ⟨w.heap.size + 2, 5, none⟩ (.int .i64 c.r.m)).setCell ⟨w.heap.size + 2, 6, none⟩ (.bool c.r.s)).setCell ⟨w.heap.size + 2, 7, none⟩ (.bool c.r.t)) g2 c.r.ys := ((((((((OW2.out.setOther _ _ _ (by omega)).setOther _ _ _ (by omega)).setOther _ _ _ (by omega)).setOther _ _ _ (by omega)).setOther _ _ _ (by omega)).setOther _ _ _ (by omega)).setOther _ _ _ (by omega)).setOther _ _ _ (by omega))
  have szY : ((((((((w1.setCell ⟨w.heap.size + 2, 0, none⟩ (.slice (some ⟨g1, 0, none⟩) c.r.xs.length c.r.xs.length)).setCell ⟨w.heap.size + 2, 1, none⟩ (.slice (some ⟨g2, 0, none⟩) c.r.ys.length c.r.ys.length)).setCell ⟨w.heap.size + 2, 2, none⟩ (.int .i64 c.r.o)).setCell ⟨w.heap.size + 2, 3, none⟩ (.int .i64 c.r.p)).setCell ⟨w.heap.size + 2, 4, none⟩ (.int .i64 c.r.f)).setCell ⟨w.heap.size + 2, 5, none⟩ (.int .i64 c.r.m)).setCell ⟨w.heap.size + 2, 6, none⟩ (.bool c.r.s)).setCell ⟨w.heap.size + 2, 7, none⟩ (.bool c.r.t)).heap.size = w1.heap.size := by simp [World.setCell]
  obtain ⟨Y, hY⟩ : ∃ Y : World, ((((((((w1.setCell ⟨w.heap.size + 2, 0, none⟩ (.slice (some ⟨g1, 0, none⟩) c.r.xs.length c.r.xs.length)).setCell ⟨w.heap.size + 2, 1, none⟩ (.slice (some ⟨g2, 0, none⟩) c.r.ys.length c.r.ys.length)).setCell ⟨w.heap.size + 2, 2, none⟩ (.int .i64 c.r.o)).setCell ⟨w.heap.size + 2, 3, none⟩ (.int .i64 c.r.p)).setCell ⟨w.heap.size + 2, 4, none⟩ (.int .i64 c.r.f)).setCell ⟨w.heap.size + 2, 5, none⟩ (.int .i64 c.r.m)).setCell ⟨w.heap.size + 2, 6, none⟩ (.bool c.r.s)).setCell ⟨w.heap.size + 2, 7, none⟩ (.bool c.r.t)) = Y := ⟨_, rfl⟩
  rw [hY] at K2 HO2 HA2 HR2 P1 P2 szY
  replace K2 := hide K2
  clear HO2_0 HO2_1 HO2_2 HO2_3 HO2_4 HO2_5 HO2_6
  replace HO2 := hide HO2
  replace HA2 := hide HA2
  replace HR2 := hide HR2
  replace P1 := hide P1
  replace P2 := hide P2
  have i8 := HA2.out.cell (i := 8) rfl
  have i9 := HA2.out.cell (i := 9) rfl
  go_wp2_with fail
  clear hX hY o0 of0 o1 of1 o2 of2 o3 of3 o4 of4 o5 of5 o6 of6 o7 of7 i8 i9
  refine (toBus _ e q ce cq c.bm c.bx c.bl (HE.out.keptS K2.out) (HQ.out.keptS K2.out) lb HL.out lm).mono ?_
  rintro e9 w2 ⟨g3, g4, rfl, o3, o4, l4, l5, l6, k⟩
  have EA := hide (HA2.out.kept0 k)
  have ER := hide (HR2.out.kept0 k)
  have EO := hide (HO2.out.kept0 k)
  have K3 := hide (K2.out.trans k)
  have k3s := k.size
  have P3 := hide (P1.out.keptS k (by omega))
  have P4 := hide (P2.out.keptS k (by omega))
  have P5 := hide o3
  have P6 := hide o4
  clear k o3 o4
  have o8 := EO.out.cell (i := 8) rfl
  have of8 := EO.out.frozen 8
  have o9 := EO.out.cell (i := 9) rfl
  have of9 := EO.out.frozen 9
  have o10 := EO.out.cell (i := 10) rfl
  have of10 := EO.out.frozen 10
  have o11 := EO.out.cell (i := 11) rfl
  have of11 := EO.out.frozen 11
  have i10 := EA.out.cell (i := 10) rfl
  have i11 := EA.out.cell (i := 11) rfl
  have K4 : Kept 0 0 w ((((w2.setCell ⟨w.heap.size + 2, 8, none⟩ (.slice (some ⟨g3, 0, none⟩) c.bx.length c.bx.length)).setCell ⟨w.heap.size + 2, 9, none⟩ (.slice (some ⟨g4, 0, none⟩) c.bm c.bm)).setCell ⟨w.heap.size + 2, 10, none⟩ (.bool c.st)).setCell ⟨w.heap.size + 2, 11, none⟩ (.bool c.ha)) := (kept_set (kept_set (kept_set (kept_set K3.out _ _ _ (.inr (by omega))) _ _ _ (.inr (by omega))) _ _ _ (.inr (by omega))) _ _ _ (.inr (by omega)))
  have FO_0 : Blk (w2.setCell ⟨w.heap.size + 2, 8, none⟩ (.slice (some ⟨g3, 0, none⟩) c.bx.length c.bx.length)) (w.heap.size + 2) #[.slice (some ⟨g1, 0, none⟩) c.r.xs.length c.r.xs.length, .slice (some ⟨g2, 0, none⟩) c.r.ys.length c.r.ys.length, .int .i64 c.r.o, .int .i64 c.r.p, .int .i64 c.r.f, .int .i64 c.r.m, .bool c.r.s, .bool c.r.t, .slice (some ⟨g3, 0, none⟩) c.bx.length c.bx.length, .slice none 0 0, .bool false, .bool false] 44 := EO.out.set 8 (.slice (some ⟨g3, 0, none⟩) c.bx.length c.bx.length)
  have FO_1 : Blk ((w2.setCell ⟨w.heap.size + 2, 8, none⟩ (.slice (some ⟨g3, 0, none⟩) c.bx.length c.bx.length)).setCell ⟨w.heap.size + 2, 9, none⟩ (.slice (some ⟨g4, 0, none⟩) c.bm c.bm)) (w.heap.size + 2) #[.slice (some ⟨g1, 0, none⟩) c.r.xs.length c.r.xs.length, .slice (some ⟨g2, 0, none⟩) c.r.ys.length c.r.ys.length, .int .i64 c.r.o, .int .i64 c.r.p, .int .i64 c.r.f, .int .i64 c.r.m, .bool c.r.s, .bool c.r.t, .slice (some ⟨g3, 0, none⟩) c.bx.length c.bx.length, .slice (some ⟨g4, 0, none⟩) c.bm c.bm, .bool false, .bool false] 44 := FO_0.set 9 (.slice (some ⟨g4, 0, none⟩) c.bm c.bm)
  have FO_2 : Blk (((w2.setCell ⟨w.heap.size + 2, 8, none⟩ (.slice (some ⟨g3, 0, none⟩) c.bx.length c.bx.length)).setCell ⟨w.heap.size + 2, 9, none⟩ (.slice (some ⟨g4, 0, none⟩) c.bm c.bm)).setCell ⟨w.heap.size + 2, 10, none⟩ (.bool c.st)) (w.heap.size + 2) #[.slice (some ⟨g1, 0, none⟩) c.r.xs.length c.r.xs.length, .slice (some ⟨g2, 0, none⟩) c.r.ys.length c.r.ys.length, .int .i64 c.r.o, .int .i64 c.r.p, .int .i64 c.r.f, .int .i64 c.r.m, .bool c.r.s, .bool c.r.t, .slice (some ⟨g3, 0, none⟩) c.bx.length c.bx.length, .slice (some ⟨g4, 0, none⟩) c.bm c.bm, .bool c.st, .bool false] 44 := FO_1.set 10 (.bool c.st)
  have FO : Blk ((((w2.setCell ⟨w.heap.size + 2, 8, none⟩ (.slice (some ⟨g3, 0, none⟩) c.bx.length c.bx.length)).setCell ⟨w.heap.size + 2, 9, none⟩ (.slice (some ⟨g4, 0, none⟩) c.bm c.bm)).setCell ⟨w.heap.size + 2, 10, none⟩ (.bool c.st)).setCell ⟨w.heap.size + 2, 11, none⟩ (.bool c.ha)) (w.heap.size + 2) #[.slice (some ⟨g1, 0, none⟩) c.r.xs.length c.r.xs.length, .slice (some ⟨g2, 0, none⟩) c.r.ys.length c.r.ys.length, .int .i64 c.r.o, .int .i64 c.r.p, .int .i64 c.r.f, .int .i64 c.r.m, .bool c.r.s, .bool c.r.t, .slice (some ⟨g3, 0, none⟩) c.bx.length c.bx.length, .slice (some ⟨g4, 0, none⟩) c.bm c.bm, .bool c.st, .bool c.ha] 44 := FO_2.set 11 (.bool c.ha)
  have FR : Blk ((((w2.setCell ⟨w.heap.size + 2, 8, none⟩ (.slice (some ⟨g3, 0, none⟩) c.bx.length c.bx.length)).setCell ⟨w.heap.size + 2, 9, none⟩ (.slice (some ⟨g4, 0, none⟩) c.bm c.bm)).setCell ⟨w.heap.size + 2, 10, none⟩ (.bool c.st)).setCell ⟨w.heap.size + 2, 11, none⟩ (.bool c.ha)) (w.heap.size + 1) #[.slice none 0 0, .slice none 0 0, .int .i64 0, .int .i64 0, .int .i64 0, .int .i64 0, .bool false, .bool false, .slice none 0 0, .slice none 0 0, .bool false, .bool false] 44 := ((((ER.out.other _ _ _ (by omega)).other _ _ _ (by omega)).other _ _ _ (by omega)).other _ _ _ (by omega))
  have Q1 : Own ((((w2.setCell ⟨w.heap.size + 2, 8, none⟩ (.slice (some ⟨g3, 0, none⟩) c.bx.length c.bx.length)).setCell ⟨w.heap.size + 2, 9, none⟩ (.slice (some ⟨g4, 0, none⟩) c.bm c.bm)).setCell ⟨w.heap.size + 2, 10, none⟩ (.bool c.st)).setCell ⟨w.heap.size + 2, 11, none⟩ (.bool c.ha)) g1 c.r.xs := ((((P3.out.setOther _ _ _ (by omega)).setOther _ _ _ (by omega)).setOther _ _ _ (by omega)).setOther _ _ _ (by omega))
  have Q2 : Own ((((w2.setCell ⟨w.heap.size + 2, 8, none⟩ (.slice (some ⟨g3, 0, none⟩) c.bx.length c.bx.length)).setCell ⟨w.heap.size + 2, 9, none⟩ (.slice (some ⟨g4, 0, none⟩) c.bm c.bm)).setCell ⟨w.heap.size + 2, 10, none⟩ (.bool c.st)).setCell ⟨w.heap.size + 2, 11, none⟩ (.bool c.ha)) g2 c.r.ys := ((((P4.out.setOther _ _ _ (by omega)).setOther _ _ _ (by omega)).setOther _ _ _ (by omega)).setOther _ _ _ (by omega))
  have Q3 : Own ((((w2.setCell ⟨w.heap.size + 2, 8, none⟩ (.slice (some ⟨g3, 0, none⟩) c.bx.length c.bx.length)).setCell ⟨w.heap.size + 2, 9, none⟩ (.slice (some ⟨g4, 0, none⟩) c.bm c.bm)).setCell ⟨w.heap.size + 2, 10, none⟩ (.bool c.st)).setCell ⟨w.heap.size + 2, 11, none⟩ (.bool c.ha)) g3 c.bx := ((((P5.out.setOther _ _ _ (by omega)).setOther _ _ _ (by omega)).setOther _ _ _ (by omega)).setOther _ _ _ (by omega))
  have Q4 : Own ((((w2.setCell ⟨w.heap.size + 2, 8, none⟩ (.slice (some ⟨g3, 0, none⟩) c.bx.length c.bx.length)).setCell ⟨w.heap.size + 2, 9, none⟩ (.slice (some ⟨g4, 0, none⟩) c.bm c.bm)).setCell ⟨w.heap.size + 2, 10, none⟩ (.bool c.st)).setCell ⟨w.heap.size + 2, 11, none⟩ (.bool c.ha)) g4 c.bl := ((((P6.out.setOther _ _ _ (by omega)).setOther _ _ _ (by omega)).setOther _ _ _ (by omega)).setOther _ _ _ (by omega))
  have szV : ((((w2.setCell ⟨w.heap.size + 2, 8, none⟩ (.slice (some ⟨g3, 0, none⟩) c.bx.length c.bx.length)).setCell ⟨w.heap.size + 2, 9, none⟩ (.slice (some ⟨g4, 0, none⟩) c.bm c.bm)).setCell ⟨w.heap.size + 2, 10, none⟩ (.bool c.st)).setCell ⟨w.heap.size + 2, 11, none⟩ (.bool c.ha)).heap.size = w2.heap.size := by simp [World.setCell]
  obtain ⟨V, hV⟩ : ∃ V : World, ((((w2.setCell ⟨w.heap.size + 2, 8, none⟩ (.slice (some ⟨g3, 0, none⟩) c.bx.length c.bx.length)).setCell ⟨w.heap.size + 2, 9, none⟩ (.slice (some ⟨g4, 0, none⟩) c.bm c.bm)).setCell ⟨w.heap.size + 2, 10, none⟩ (.bool c.st)).setCell ⟨w.heap.size + 2, 11, none⟩ (.bool c.ha)) = V := ⟨_, rfl⟩
  rw [hV] at K4 FO FR Q1 Q2 Q3 Q4 szV
  replace K4 := hide K4
  clear FO_0 FO_1 FO_2
  replace FO := hide FO
  replace FR := hide FR
  replace Q1 := hide Q1
  replace Q2 := hide Q2
  replace Q3 := hide Q3
  replace Q4 := hide Q4
  have m0 := FO.out.cell (i := 0) rfl
  have m1 := FO.out.cell (i := 1) rfl
  have m2 := FO.out.cell (i := 2) rfl
  have m3 := FO.out.cell (i := 3) rfl
  have m4 := FO.out.cell (i := 4) rfl
  have m5 := FO.out.cell (i := 5) rfl
  have m6 := FO.out.cell (i := 6) rfl
  have m7 := FO.out.cell (i := 7) rfl
  have m8 := FO.out.cell (i := 8) rfl
  have m9 := FO.out.cell (i := 9) rfl
  have m10 := FO.out.cell (i := 10) rfl
  have m11 := FO.out.cell (i := 11) rfl
  have r0 := FR.out.cell (i := 0) rfl
  have rf0 := FR.out.frozen 0
  have r1 := FR.out.cell (i := 1) rfl
  have rf1 := FR.out.frozen 1
  have r2 := FR.out.cell (i := 2) rfl
  have rf2 := FR.out.frozen 2
  have r3 := FR.out.cell (i := 3) rfl
  have rf3 := FR.out.frozen 3
  have r4 := FR.out.cell (i := 4) rfl
  have rf4 := FR.out.frozen 4
  have r5 := FR.out.cell (i := 5) rfl
  have rf5 := FR.out.frozen 5
  have r6 := FR.out.cell (i := 6) rfl
  have rf6 := FR.out.frozen 6
  have r7 := FR.out.cell (i := 7) rfl
  have rf7 := FR.out.frozen 7
  have r8 := FR.out.cell (i := 8) rfl
  have rf8 := FR.out.frozen 8
  have r9 := FR.out.cell (i := 9) rfl
  have rf9 := FR.out.frozen 9
  have r10 := FR.out.cell (i := 10) rfl
  have rf10 := FR.out.frozen 10
  have r11 := FR.out.cell (i := 11) rfl
  have rf11 := FR.out.frozen 11
  go_wp2_with fail
  clear hV
  have FF_0 : Blk (V.setCell ⟨w.heap.size + 1, 0, none⟩ (.slice (some ⟨g1, 0, none⟩) c.r.xs.length c.r.xs.length)) (w.heap.size + 1) #[.slice (some ⟨g1, 0, none⟩) c.r.xs.length c.r.xs.length, .slice none 0 0, .int .i64 0, .int .i64 0, .int .i64 0, .int .i64 0, .bool false, .bool false, .slice none 0 0, .slice none 0 0, .bool false, .bool false] 44 := FR.out.set 0 (.slice (some ⟨g1, 0, none⟩) c.r.xs.length c.r.xs.length)
  have FF_1 : Blk ((V.setCell ⟨w.heap.size + 1, 0, none⟩ (.slice (some ⟨g1, 0, none⟩) c.r.xs.length c.r.xs.length)).setCell ⟨w.heap.size + 1, 1, none⟩ (.slice (some ⟨g2, 0, none⟩) c.r.ys.length c.r.ys.length)) (w.heap.size + 1) #[.slice (some ⟨g1, 0, none⟩) c.r.xs.length c.r.xs.length, .slice (some ⟨g2, 0, none⟩) c.r.ys.length c.r.ys.length, .int .i64 0, .int .i64 0, .int .i64 0, .int .i64 0, .bool false, .bool false, .slice none 0 0, .slice none 0 0, .bool false, .bool false] 44 := FF_0.set 1 (.slice (some ⟨g2, 0, none⟩) c.r.ys.length c.r.ys.length)
  have FF_2 : Blk (((V.setCell ⟨w.heap.size + 1, 0, none⟩ (.slice (some ⟨g1, 0, none⟩) c.r.xs.length c.r.xs.length)).setCell ⟨w.heap.size + 1, 1, none⟩ (.slice (some ⟨g2, 0, none⟩) c.r.ys.length c.r.ys.length)).setCell ⟨w.heap.size + 1, 2, none⟩ (.int .i64 c.r.o)) (w.heap.size + 1) #[.slice (some ⟨g1, 0, none⟩) c.r.xs.length c.r.xs.length, .slice (some ⟨g2, 0, none⟩) c.r.ys.length c.r.ys.length, .int .i64 c.r.o, .int .i64 0, .int .i64 0, .int .i64 0, .bool false, .bool false, .slice none 0 0, .slice none 0 0, .bool false, .bool false] 44 := FF_1.set 2 (.int .i64 c.r.o)
  have FF_3 : Blk ((((V.setCell ⟨w.heap.size + 1, 0, none⟩ (.slice (some ⟨g1, 0, none⟩) c.r.xs.length c.r.xs.length)).setCell ⟨w.heap.size + 1, 1, none⟩ (.slice (some ⟨g2, 0, none⟩) c.r.ys.length c.r.ys.length)).setCell ⟨w.heap.size + 1, 2, none⟩ (.int .i64 c.r.o)).setCell ⟨w.heap.size + 1, 3, none⟩ (.int .i64 c.r.p)) (w.heap.size + 1) #[.slice (some ⟨g1, 0, none⟩) c.r.xs.length c.r.xs.length, .slice (some ⟨g2, 0, none⟩) c.r.ys.length c.r.ys.length, .int .i64 c.r.o, .int .i64 c.r.p, .int .i64 0, .int .i64 0, .bool false, .bool false, .slice none 0 0, .slice none 0 0, .bool false, .bool false] 44 := FF_2.set 3 (.int .i64 c.r.p)
  have FF_4 : Blk (((((V.setCell ⟨w.heap.size + 1, 0, none⟩ (.slice (some ⟨g1, 0, none⟩) c.r.xs.length c.r.xs.length)).setCell ⟨w.heap.size + 1, 1, none⟩ (.slice (some ⟨g2, 0, none⟩) c.r.ys.length c.r.ys.length)).setCell ⟨w.heap.size + 1, 2, none⟩ (.int .i64 c.r.o)).setCell ⟨w.heap.size + 1, 3, none⟩ (.int .i64 c.r.p)).setCell ⟨w.heap.size + 1, 4, none⟩ (.int .i64 c.r.f)) (w.heap.size + 1) #[.slice (some ⟨g1, 0, none⟩) c.r.xs.length c.r.xs.length, .slice (some ⟨g2, 0, none⟩) c.r.ys.length c.r.ys.length, .int .i64 c.r.o, .int .i64 c.r.p, .int .i64 c.r.f, .int .i64 0, .bool false, .bool false, .slice none 0 0, .slice none 0 0, .bool false, .bool false] 44 := FF_3.set 4 (.int .i64 c.r.f)
  have FF_5 : Blk ((((((V.setCell ⟨w.heap.size + 1, 0, none⟩ (.slice (some ⟨g1, 0, none⟩) c.r.xs.length c.r.xs.length)).setCell ⟨w.heap.size + 1, 1, none⟩ (.slice (some ⟨g2, 0, none⟩) c.r.ys.length c.r.ys.length)).setCell ⟨w.heap.size + 1, 2, none⟩ (.int .i64 c.r.o)).setCell ⟨w.heap.size + 1, 3, none⟩ (.int .i64 c.r.p)).setCell ⟨w.heap.size + 1, 4, none⟩ (.int .i64 c.r.f)).setCell ⟨w.heap.size + 1, 5, none⟩ (.int .i64 c.r.m)) (w.heap.size + 1) #[.slice (some ⟨g1, 0, none⟩) c.r.xs.length c.r.xs.length, .slice (some ⟨g2, 0, none⟩) c.r.ys.length c.r.ys.length, .int .i64 c.r.o, .int .i64 c.r.p, .int .i64 c.r.f, .int .i64 c.r.m, .bool false, .bool false, .slice none 0 0, .slice none 0 0, .bool false, .bool false] 44 := FF_4.set 5 (.int .i64 c.r.m)
  have FF_6 : Blk (((((((V.setCell ⟨w.heap.size + 1, 0, none⟩ (.slice (some ⟨g1, 0, none⟩) c.r.xs.length c.r.xs.length)).setCell ⟨w.heap.size + 1, 1, none⟩ (.slice (some ⟨g2, 0, none⟩) c.r.ys.length c.r.ys.length)).setCell ⟨w.heap.size + 1, 2, none⟩ (.int .i64 c.r.o)).setCell ⟨w.heap.size + 1, 3, none⟩ (.int .i64 c.r.p)).setCell ⟨w.heap.size + 1, 4, none⟩ (.int .i64 c.r.f)).setCell ⟨w.heap.size + 1, 5, none⟩ (.int .i64 c.r.m)).setCell ⟨w.heap.size + 1, 6, none⟩ (.bool c.r.s)) (w.heap.size + 1) #[.slice (some ⟨g1, 0, none⟩) c.r.xs.length c.r.xs.length, .slice (some ⟨g2, 0, none⟩) c.r.ys.length c.r.ys.length, .int .i64 c.r.o, .int .i64 c.r.p, .int .i64 c.r.f, .int .i64 c.r.m, .bool c.r.s, .bool false, .slice none 0 0, .slice none 0 0, .bool false, .bool false] 44 := FF_5.set 6 (.bool c.r.s)
  have FF_7 : Blk ((((((((V.setCell ⟨w.heap.size + 1, 0, none⟩ (.slice (some ⟨g1, 0, none⟩) c.r.xs.length c.r.xs.length)).setCell ⟨w.heap.size + 1, 1, none⟩ (.slice (some ⟨g2, 0, none⟩) c.r.ys.length c.r.ys.length)).setCell ⟨w.heap.size + 1, 2, none⟩ (.int .i64 c.r.o)).setCell ⟨w.heap.size + 1, 3, none⟩ (.int .i64 c.r.p)).setCell ⟨w.heap.size + 1, 4, none⟩ (.int .i64 c.r.f)).setCell ⟨w.heap.size + 1, 5, none⟩ (.int .i64 c.r.m)).setCell ⟨w.heap.size + 1, 6, none⟩ (.bool c.r.s)).setCell ⟨w.heap.size + 1, 7, none⟩ (.bool c.r.t)) (w.heap.size + 1) #[.slice (some ⟨g1, 0, none⟩) c.r.xs.length c.r.xs.length, .slice (some ⟨g2, 0, none⟩) c.r.ys.length c.r.ys.length, .int .i64 c.r.o, .int .i64 c.r.p, .int .i64 c.r.f, .int .i64 c.r.m, .bool c.r.s, .bool c.r.t, .slice none 0 0, .slice none 0 0, .bool false, .bool false] 44 := FF_6.set 7 (.bool c.r.t)
  have FF_8 : Blk (((((((((V.setCell ⟨w.heap.size + 1, 0, none⟩ (.slice (some ⟨g1, 0, none⟩) c.r.xs.length c.r.xs.length)).setCell ⟨w.heap.size + 1, 1, none⟩ (.slice (some ⟨g2, 0, none⟩) c.r.ys.length c.r.ys.length)).setCell ⟨w.heap.size + 1, 2, none⟩ (.int .i64 c.r.o)).setCell ⟨w.heap.size + 1, 3, none⟩ (.int .i64 c.r.p)).setCell ⟨w.heap.size + 1, 4, none⟩ (.int .i64 c.r.f)).setCell ⟨w.heap.size + 1, 5, none⟩ (.int .i64 c.r.m)).setCell ⟨w.heap.size + 1, 6, none⟩ (.bool c.r.s)).setCell ⟨w.heap.size + 1, 7, none⟩ (.bool c.r.t)).setCell ⟨w.heap.size + 1, 8, none⟩ (.slice (some ⟨g3, 0, none⟩) c.bx.length c.bx.length)) (w.heap.size + 1) #[.slice (some ⟨g1, 0, none⟩) c.r.xs.length c.r.xs.length, .slice (some ⟨g2, 0, none⟩) c.r.ys.length c.r.ys.length, .int .i64 c.r.o, .int .i64 c.r.p, .int .i64 c.r.f, .int .i64 c.r.m, .bool c.r.s, .bool c.r.t, .slice (some ⟨g3, 0, none⟩) c.bx.length c.bx.length, .slice none 0 0, .bool false, .bool false] 44 := FF_7.set 8 (.slice (some ⟨g3, 0, none⟩) c.bx.length c.bx.length)
  have FF_9 : Blk ((((((((((V.setCell ⟨w.heap.size + 1, 0, none⟩ (.slice (some ⟨g1, 0, none⟩) c.r.xs.length c.r.xs.length)).setCell ⟨w.heap.size + 1, 1, none⟩ (.slice (some ⟨g2, 0, none⟩) c.r.ys.length c.r.ys.length)).setCell ⟨w.heap.size + 1, 2, none⟩ (.int .i64 c.r.o)).setCell ⟨w.heap.size + 1, 3, none⟩ (.int .i64 c.r.p)).setCell ⟨w.heap.size + 1, 4, none⟩ (.int .i64 c.r.f)).setCell ⟨w.heap.size + 1, 5, none⟩ (.int .i64 c.r.m)).setCell ⟨w.heap.size + 1, 6, none⟩ (.bool c.r.s)).setCell ⟨w.heap.size + 1, 7, none⟩ (.bool c.r.t)).setCell ⟨w.heap.size + 1, 8, none⟩ (.slice (some ⟨g3, 0, none⟩) c.bx.length c.bx.length)).setCell ⟨w.heap.size + 1, 9, none⟩ (.slice (some ⟨g4, 0, none⟩) c.bm c.bm)) (w.heap.size + 1) #[.slice (some ⟨g1, 0, none⟩) c.r.xs.length c.r.xs.length, .slice (some ⟨g2, 0, none⟩) c.r.ys.length c.r.ys.length, .int .i64 c.r.o, .int .i64 c.r.p, .int .i64 c.r.f, .int .i64 c.r.m, .bool c.r.s, .bool c.r.t, .slice (some ⟨g3, 0, none⟩) c.bx.length c.bx.length, .slice (some ⟨g4, 0, none⟩) c.bm c.bm, .bool false, .bool false] 44 := FF_8.set 9 (.slice (some ⟨g4, 0, none⟩) c.bm c.bm)
  have FF_10 : Blk (((((((((((V.setCell ⟨w.heap.size + 1, 0, none⟩ (.slice (some ⟨g1, 0, none⟩) c.r.xs.length c.r.xs.length)).setCell ⟨w.heap.size + 1, 1, none⟩ (.slice (some ⟨g2, 0, none⟩) c.r.ys.length c.r.ys.length)).setCell ⟨w.heap.size + 1, 2, none⟩ (.int .i64 c.r.o)).setCell ⟨w.heap.size + 1, 3, none⟩ (.int .i64 c.r.p)).setCell ⟨w.heap.size + 1, 4, none⟩ (.int .i64 c.r.f)).setCell ⟨w.heap.size + 1, 5, none⟩ (.int .i64 c.r.m)).setCell ⟨w.heap.size + 1, 6, none⟩ (.bool c.r.s)).setCell ⟨w.heap.size + 1, 7, none⟩ (.bool c.r.t)).setCell ⟨w.heap.size + 1, 8, none⟩ (.slice (some ⟨g3, 0, none⟩) c.bx.length c.bx.length)).setCell ⟨w.heap.size + 1, 9, none⟩ (.slice (some ⟨g4, 0, none⟩) c.bm c.bm)).setCell ⟨w.heap.size + 1, 10, none⟩ (.bool c.st)) (w.heap.size + 1) #[.slice (some ⟨g1, 0, none⟩) c.r.xs.length c.r.xs.length, .slice (some ⟨g2, 0, none⟩) c.r.ys.length c.r.ys.length, .int .i64 c.r.o, .int .i64 c.r.p, .int .i64 c.r.f, .int .i64 c.r.m, .bool c.r.s, .bool c.r.t, .slice (some ⟨g3, 0, none⟩) c.bx.length c.bx.length, .slice (some ⟨g4, 0, none⟩) c.bm c.bm, .bool c.st, .bool false] 44 := FF_9.set 10 (.bool c.st)
  have FF : Blk ((((((((((((V.setCell ⟨w.heap.size + 1, 0, none⟩ (.slice (some ⟨g1, 0, none⟩) c.r.xs.length c.r.xs.length)).setCell ⟨w.heap.size + 1, 1, none⟩ (.slice (some ⟨g2, 0, none⟩) c.r.ys.length c.r.ys.length)).setCell ⟨w.heap.size + 1, 2, none⟩ (.int .i64 c.r.o)).setCell ⟨w.heap.size + 1, 3, none⟩ (.int .i64 c.r.p)).setCell ⟨w.heap.size + 1, 4, none⟩ (.int .i64 c.r.f)).setCell ⟨w.heap.size + 1, 5, none⟩ (.int .i64 c.r.m)).setCell ⟨w.heap.size + 1, 6, none⟩ (.bool c.r.s)).setCell ⟨w.heap.size + 1, 7, none⟩ (.bool c.r.t)).setCell ⟨w.heap.size + 1, 8, none⟩ (.slice (some ⟨g3, 0, none⟩) c.bx.length c.bx.length)).setCell ⟨w.heap.size + 1, 9, none⟩ (.slice (some ⟨g4, 0, none⟩) c.bm c.bm)).setCell ⟨w.heap.size + 1, 10, none⟩ (.bool c.st)).setCell ⟨w.heap.size + 1, 11, none⟩ (.bool c.ha)) (w.heap.size + 1) #[.slice (some ⟨g1, 0, none⟩) c.r.xs.length c.r.xs.length, .slice (some ⟨g2, 0, none⟩) c.r.ys.length c.r.ys.length, .int .i64 c.r.o, .int .i64 c.r.p, .int .i64 c.r.f, .int .i64 c.r.m, .bool c.r.s, .bool c.r.t, .slice (some ⟨g3, 0, none⟩) c.bx.length c.bx.length, .slice (some ⟨g4, 0, none⟩) c.bm c.bm, .bool c.st, .bool c.ha] 44 := FF_10.set 11 (.bool c.ha)
  refine bodyPost_ret (v := .agg #[.slice (some ⟨g1, 0, none⟩) c.r.xs.length c.r.xs.length, .slice (some ⟨g2, 0, none⟩) c.r.ys.length c.r.ys.length, .int .i64 c.r.o, .int .i64 c.r.p, .int .i64 c.r.f, .int .i64 c.r.m, .bool c.r.s, .bool c.r.t, .slice (some ⟨g3, 0, none⟩) c.bx.length c.bx.length, .slice (some ⟨g4, 0, none⟩) c.bm c.bm, .bool c.st, .bool c.ha]) ?_ rfl ⟨g1, g2, g3, g4, rfl, ⟨.inr ⟨g1, rfl, by omega, ?_, ?_⟩, .inr ⟨g2, rfl, by omega, ?_, ?_⟩, .inr ⟨g3, rfl, by omega, ?_, ?_⟩, .inr ⟨g4, rfl, by omega, ?_, ?_⟩, ?_, ?_, ?_, ?_, ?_, ?_⟩, ?_⟩
  · exact results_cell_row rfl _ _ _ _ _ (0, 0) _ rfl FF Tryz.underlying44 rfl (by kernel_rfl)
  · simp [World.setCell]; omega
  · exact ((((((((((((Q1.out.setOther _ _ _ (by omega)).setOther _ _ _ (by omega)).setOther _ _ _ (by omega)).setOther _ _ _ (by omega)).setOther _ _ _ (by omega)).setOther _ _ _ (by omega)).setOther _ _ _ (by omega)).setOther _ _ _ (by omega)).setOther _ _ _ (by omega)).setOther _ _ _ (by omega)).setOther _ _ _ (by omega)).setOther _ _ _ (by omega))
  · simp [World.setCell]; omega
  · exact ((((((((((((Q2.out.setOther _ _ _ (by omega)).setOther _ _ _ (by omega)).setOther _ _ _ (by omega)).setOther _ _ _ (by omega)).setOther _ _ _ (by omega)).setOther _ _ _ (by omega)).setOther _ _ _ (by omega)).setOther _ _ _ (by omega)).setOther _ _ _ (by omega)).setOther _ _ _ (by omega)).setOther _ _ _ (by omega)).setOther _ _ _ (by omega))
  · simp [World.setCell]; omega
  · exact ((((((((((((Q3.out.setOther _ _ _ (by omega)).setOther _ _ _ (by omega)).setOther _ _ _ (by omega)).setOther _ _ _ (by omega)).setOther _ _ _ (by omega)).setOther _ _ _ (by omega)).setOther _ _ _ (by omega)).setOther _ _ _ (by omega)).setOther _ _ _ (by omega)).setOther _ _ _ (by omega)).setOther _ _ _ (by omega)).setOther _ _ _ (by omega))
  · simp [World.setCell]; omega
  · exact ((((((((((((Q4.out.setOther _ _ _ (by omega)).setOther _ _ _ (by omega)).setOther _ _ _ (by omega)).setOther _ _ _ (by omega)).setOther _ _ _ (by omega)).setOther _ _ _ (by omega)).setOther _ _ _ (by omega)).setOther _ _ _ (by omega)).setOther _ _ _ (by omega)).setOther _ _ _ (by omega)).setOther _ _ _ (by omega)).setOther _ _ _ (by omega))
  · intro g h1 h2; simp [blk] at h1 h2; omega
  · intro g h1 h2; simp [blk] at h1 h2; omega
  · intro g h1 h2; simp [blk] at h1 h2; omega
  · intro g h1 h2; simp [blk] at h1 h2; omega
  · intro g h1 h2; simp [blk] at h1 h2; omega
  · intro g h1 h2; simp [blk] at h1 h2; omega
  · exact (kept_set (kept_set (kept_set (kept_set (kept_set (kept_set (kept_set (kept_set (kept_set (kept_set (kept_set (kept_set K4.out _ _ _ (.inr (by omega))) _ _ _ (.inr (by omega))) _ _ _ (.inr (by omega))) _ _ _ (.inr (by omega))) _ _ _ (.inr (by omega))) _ _ _ (.inr (by omega))) _ _ _ (.inr (by omega))) _ _ _ (.inr (by omega))) _ _ _ (.inr (by omega))) _ _ _ (.inr (by omega))) _ _ _ (.inr (by omega))) _ _ _ (.inr (by omega)))
end Go.Proofs.YtblddehlkaolbaaGreat

namespace Go.Proofs.YtblddehlkaolbaaGreat
open Go.RowKit
set_option linter.unusedVariables false
theorem specWord (n : Int) (w : World) : Calls Tryz.prog 48 #[.int .i64 n] w fun e w' => e = .returned (.bool (Pl.wordOk n)) ∧ w' = w := by
  go_enter Tryz.func48, Tryz.ntmps48
  go_wp2_with (go_at_call 50; refine (l1In _ _ _ _).mono ?_; rintro e w' ⟨rfl, hw⟩; have hw2 := hw.symm; clear hw; subst hw2)
  go_ret
  exact ⟨rfl, rfl⟩
theorem specExtM (n : Int) (w : World) : Calls Tryz.prog 56 #[.int .i64 n] w fun e w' => e = .returned (.bool (Pl.extM n)) ∧ w' = w := by
  go_enter Tryz.func56, Tryz.ntmps56
  go_wp2
  go_ret
  exact ⟨rfl, rfl⟩
set_option maxHeartbeats 4000000 in
theorem specGoodOperand (w : World) (m k e : Int) :
    Calls Tryz.prog 58 #[.agg #[.int .i64 m, .int .i64 k, .int .i64 e]] w fun r w' => r = .returned (.bool (Pl.opOk m k e)) ∧ Kept 0 0 w w' := by
  have HK := hide (kept_alloc w (.cells #[.int .i64 m, .int .i64 k, .int .i64 e] 32))
  have G : Hid (Pl.opOk m k e = (Pl.modeOk m && (Pl.within k 0 3 && ((decide (m < 6) || (k == 0)) && (Pl.wordOk e && (Pl.extM m || (e == 0))))))) := hide rfl
  cases h1 : Pl.modeOk m
  · go_enter Tryz.func58, Tryz.ntmps58
    go_wp2_with (first | (go_at_call 50; refine (l1In _ _ _ _).mono ?_; rintro e w' ⟨rfl, hw⟩; have hw2 := hw.symm; clear hw; subst hw2; rw [show (decide (0 ≤ m) && decide (m ≤ 7)) = Pl.modeOk m from rfl, h1]; have Z1 : True := trivial))
    go_ret
    exact ⟨rB (by rw [G.out, h1]; simp), HK.out⟩
  · cases h2 : Pl.within k 0 3
    · go_enter Tryz.func58, Tryz.ntmps58
      go_wp2_with (first | (go_at_call 50; have z := Z1; refine (l1In _ _ _ _).mono ?_; rintro e w' ⟨rfl, hw⟩; have hw2 := hw.symm; clear hw; subst hw2; rw [show (decide (0 ≤ k) && decide (k ≤ 3)) = Pl.within k 0 3 from rfl, h2]) | (go_at_call 50; refine (l1In _ _ _ _).mono ?_; rintro e w' ⟨rfl, hw⟩; have hw2 := hw.symm; clear hw; subst hw2; rw [show (decide (0 ≤ m) && decide (m ≤ 7)) = Pl.modeOk m from rfl, h1]; have Z1 : True := trivial))
      go_ret
      exact ⟨rB (by rw [G.out, h1, h2]; simp), HK.out⟩
    · cases h3 : decide (6 ≤ m)
      · have q3 : decide (m < 6) = true := by simp at h3 ⊢; omega
        cases h4 : Pl.wordOk e
        · go_enter Tryz.func58, Tryz.ntmps58
          go_wp2_with (first | (go_at_call 50; have z := Z1; refine (l1In _ _ _ _).mono ?_; rintro e w' ⟨rfl, hw⟩; have hw2 := hw.symm; clear hw; subst hw2; rw [show (decide (0 ≤ k) && decide (k ≤ 3)) = Pl.within k 0 3 from rfl, h2]) | (go_at_call 50; refine (l1In _ _ _ _).mono ?_; rintro e w' ⟨rfl, hw⟩; have hw2 := hw.symm; clear hw; subst hw2; rw [show (decide (0 ≤ m) && decide (m ≤ 7)) = Pl.modeOk m from rfl, h1]; have Z1 : True := trivial) | (go_at_call 48; refine (specWord _ _).mono ?_; rintro e w' ⟨rfl, hw⟩; have hw2 := hw.symm; clear hw; subst hw2; rw [h4]))
          go_ret
          exact ⟨rB (by rw [G.out, h1, h2, q3, h4]; simp), HK.out⟩
        · cases h5 : Pl.extM m
          · cases h6 : (e == 0)
            all_goals
              go_enter Tryz.func58, Tryz.ntmps58
              go_wp2_with (first | (go_at_call 50; have z := Z1; refine (l1In _ _ _ _).mono ?_; rintro e w' ⟨rfl, hw⟩; have hw2 := hw.symm; clear hw; subst hw2; rw [show (decide (0 ≤ k) && decide (k ≤ 3)) = Pl.within k 0 3 from rfl, h2]) | (go_at_call 50; refine (l1In _ _ _ _).mono ?_; rintro e w' ⟨rfl, hw⟩; have hw2 := hw.symm; clear hw; subst hw2; rw [show (decide (0 ≤ m) && decide (m ≤ 7)) = Pl.modeOk m from rfl, h1]; have Z1 : True := trivial) | (go_at_call 48; refine (specWord _ _).mono ?_; rintro e w' ⟨rfl, hw⟩; have hw2 := hw.symm; clear hw; subst hw2; rw [h4]) | (go_at_call 56; refine (specExtM _ _).mono ?_; rintro e w' ⟨rfl, hw⟩; have hw2 := hw.symm; clear hw; subst hw2; rw [h5]))
              go_ret
              exact ⟨rB (by rw [G.out, h1, h2, q3, h4, h5, h6]; simp), HK.out⟩
          · go_enter Tryz.func58, Tryz.ntmps58
            go_wp2_with (first | (go_at_call 50; have z := Z1; refine (l1In _ _ _ _).mono ?_; rintro e w' ⟨rfl, hw⟩; have hw2 := hw.symm; clear hw; subst hw2; rw [show (decide (0 ≤ k) && decide (k ≤ 3)) = Pl.within k 0 3 from rfl, h2]) | (go_at_call 50; refine (l1In _ _ _ _).mono ?_; rintro e w' ⟨rfl, hw⟩; have hw2 := hw.symm; clear hw; subst hw2; rw [show (decide (0 ≤ m) && decide (m ≤ 7)) = Pl.modeOk m from rfl, h1]; have Z1 : True := trivial) | (go_at_call 48; refine (specWord _ _).mono ?_; rintro e w' ⟨rfl, hw⟩; have hw2 := hw.symm; clear hw; subst hw2; rw [h4]) | (go_at_call 56; refine (specExtM _ _).mono ?_; rintro e w' ⟨rfl, hw⟩; have hw2 := hw.symm; clear hw; subst hw2; rw [h5]))
            go_ret
            exact ⟨rB (by rw [G.out, h1, h2, q3, h4, h5]; simp), HK.out⟩
      · have q3 : decide (m < 6) = false := by simp at h3 ⊢; omega
        cases h7 : (k != 0)
        · have q7 : (k == 0) = true := by simpa using h7
          cases h4 : Pl.wordOk e
          · go_enter Tryz.func58, Tryz.ntmps58
            go_wp2_with (first | (go_at_call 50; have z := Z1; refine (l1In _ _ _ _).mono ?_; rintro e w' ⟨rfl, hw⟩; have hw2 := hw.symm; clear hw; subst hw2; rw [show (decide (0 ≤ k) && decide (k ≤ 3)) = Pl.within k 0 3 from rfl, h2]) | (go_at_call 50; refine (l1In _ _ _ _).mono ?_; rintro e w' ⟨rfl, hw⟩; have hw2 := hw.symm; clear hw; subst hw2; rw [show (decide (0 ≤ m) && decide (m ≤ 7)) = Pl.modeOk m from rfl, h1]; have Z1 : True := trivial) | (go_at_call 48; refine (specWord _ _).mono ?_; rintro e w' ⟨rfl, hw⟩; have hw2 := hw.symm; clear hw; subst hw2; rw [h4]))
            go_ret
            exact ⟨rB (by rw [G.out, h1, h2, q3, q7, h4]; simp), HK.out⟩
          · cases h5 : Pl.extM m
            · cases h6 : (e == 0)
              all_goals
                go_enter Tryz.func58, Tryz.ntmps58
                go_wp2_with (first | (go_at_call 50; have z := Z1; refine (l1In _ _ _ _).mono ?_; rintro e w' ⟨rfl, hw⟩; have hw2 := hw.symm; clear hw; subst hw2; rw [show (decide (0 ≤ k) && decide (k ≤ 3)) = Pl.within k 0 3 from rfl, h2]) | (go_at_call 50; refine (l1In _ _ _ _).mono ?_; rintro e w' ⟨rfl, hw⟩; have hw2 := hw.symm; clear hw; subst hw2; rw [show (decide (0 ≤ m) && decide (m ≤ 7)) = Pl.modeOk m from rfl, h1]; have Z1 : True := trivial) | (go_at_call 48; refine (specWord _ _).mono ?_; rintro e w' ⟨rfl, hw⟩; have hw2 := hw.symm; clear hw; subst hw2; rw [h4]) | (go_at_call 56; refine (specExtM _ _).mono ?_; rintro e w' ⟨rfl, hw⟩; have hw2 := hw.symm; clear hw; subst hw2; rw [h5]))
                go_ret
                exact ⟨rB (by rw [G.out, h1, h2, q3, q7, h4, h5, h6]; simp), HK.out⟩
            · go_enter Tryz.func58, Tryz.ntmps58
              go_wp2_with (first | (go_at_call 50; have z := Z1; refine (l1In _ _ _ _).mono ?_; rintro e w' ⟨rfl, hw⟩; have hw2 := hw.symm; clear hw; subst hw2; rw [show (decide (0 ≤ k) && decide (k ≤ 3)) = Pl.within k 0 3 from rfl, h2]) | (go_at_call 50; refine (l1In _ _ _ _).mono ?_; rintro e w' ⟨rfl, hw⟩; have hw2 := hw.symm; clear hw; subst hw2; rw [show (decide (0 ≤ m) && decide (m ≤ 7)) = Pl.modeOk m from rfl, h1]; have Z1 : True := trivial) | (go_at_call 48; refine (specWord _ _).mono ?_; rintro e w' ⟨rfl, hw⟩; have hw2 := hw.symm; clear hw; subst hw2; rw [h4]) | (go_at_call 56; refine (specExtM _ _).mono ?_; rintro e w' ⟨rfl, hw⟩; have hw2 := hw.symm; clear hw; subst hw2; rw [h5]))
              go_ret
              exact ⟨rB (by rw [G.out, h1, h2, q3, q7, h4, h5]; simp), HK.out⟩
        · have q7 : (k == 0) = false := by simpa using h7
          go_enter Tryz.func58, Tryz.ntmps58
          go_wp2_with (first | (go_at_call 50; have z := Z1; refine (l1In _ _ _ _).mono ?_; rintro e w' ⟨rfl, hw⟩; have hw2 := hw.symm; clear hw; subst hw2; rw [show (decide (0 ≤ k) && decide (k ≤ 3)) = Pl.within k 0 3 from rfl, h2]) | (go_at_call 50; refine (l1In _ _ _ _).mono ?_; rintro e w' ⟨rfl, hw⟩; have hw2 := hw.symm; clear hw; subst hw2; rw [show (decide (0 ≤ m) && decide (m ≤ 7)) = Pl.modeOk m from rfl, h1]; have Z1 : True := trivial))
          go_ret
          exact ⟨rB (by rw [G.out, h1, h2, q3, q7]; simp), HK.out⟩
end Go.Proofs.YtblddehlkaolbaaGreat

