/- Registers in numbers, and what is done to them: plain arithmetic; no Go text is spoken of here. A bus in numbers: its bytes as a list, its log as the row of its accesses' numbers: plain arithmetic; no Go text is spoken of here. What the model's test of bytes answers. What the model's test of a size answers. What the model's test of a value of a size answers, for every argument; none changes the world. What the models of chapter 4 that only look answer, for every argument. What the models of PeekWord and SameMemory answer, for every argument. What an access does to a bus, in numbers: plain arithmetic; no Go text is spoken of here. Instructions in numbers: plain arithmetic; no Go text is spoken of here. Bits moved one place at a time, so often, and back; how many are 1; the other way round: plain arithmetic; no Go text is spoken of here. A step of a processor in numbers: plain arithmetic; no Go text is spoken of here. What the laws' own functions over Cpu and Fault do: size, comparison, marks. -/
import Derived.Test.YtblddehlkaolbaaJU1
namespace Go.Proofs.Ytblddehlkaolbaa.Pl
set_option linter.unusedVariables false

structure Rg where
  xs : List Int
  ys : List Int
  o : Int
  p : Int
  f : Int
  m : Int
  s : Bool
  t : Bool
def rgNo : Rg := ⟨[], [], 0, 0, 0, 0, false, false⟩
def within (n lo hi : Int) : Bool := decide (lo ≤ n) && decide (n ≤ hi)
def wordOk (n : Int) : Bool := within n 0 65535
def fourOk (xs : List Int) : Bool := xs.all wordOk && decide ((xs.length : Int) = 4)
def rgOk (r : Rg) : Bool := fourOk r.xs && (fourOk r.ys && (wordOk r.o && (wordOk r.p && (within r.f 0 31 && within r.m 0 7))))
def putR (r : Rg) (z k v : Int) : Rg := { r with xs := r.xs.set k.toNat (if z = 1 then el r.xs k.toNat / 256 * 256 + v else v) }
def byN (z k : Int) : Int := if z = 1 ∧ k ≠ 3 then 1 else 2
def placeV (r : Rg) (z m k e : Int) : Int := if m = 4 then (el r.ys k.toNat - byN z k) % 65536 else if m = 5 then (el r.ys k.toNat + e) % 65536 else if m = 6 then e else el r.ys k.toNat
def placeR (r : Rg) (z m k e : Int) : Rg := if m = 3 then { r with ys := r.ys.set k.toNat ((el r.ys k.toNat + byN z k) % 65536) } else if m = 4 then { r with ys := r.ys.set k.toNat ((el r.ys k.toNat - byN z k) % 65536) } else r
/-- what holds of good registers -/
structure Good (r : Rg) : Prop where
  d4 : r.xs.length = 4
  a4 : r.ys.length = 4
  dw : ∀ i, i < 4 → 0 ≤ el r.xs i ∧ el r.xs i ≤ 65535
  aw : ∀ i, i < 4 → 0 ≤ el r.ys i ∧ el r.ys i ≤ 65535
  o0 : 0 ≤ r.o
  o1 : r.o ≤ 65535
  f0 : 0 ≤ r.f
  f1 : r.f ≤ 31
  m0 : 0 ≤ r.m
  m1 : r.m ≤ 7
theorem four_of {xs : List Int} (h : fourOk xs = true) : xs.length = 4 ∧ ∀ i, i < 4 → 0 ≤ el xs i ∧ el xs i ≤ 65535 := by
  simp only [fourOk, Bool.and_eq_true, decide_eq_true_eq] at h
  obtain ⟨h1, h2⟩ := h
  refine ⟨by omega, fun i hi => ?_⟩
  have hl : i < xs.length := by omega
  have := List.all_eq_true.1 h1 (xs[i]'hl) (List.getElem_mem hl)
  simp only [wordOk, within, Bool.and_eq_true, decide_eq_true_eq] at this
  simpa [el, List.getElem?_eq_getElem hl] using this
theorem good_of {r : Rg} (h : rgOk r = true) : Good r := by
  simp only [rgOk, Bool.and_eq_true, wordOk, within, decide_eq_true_eq] at h
  obtain ⟨h1, h2, ⟨h3, h4⟩, _, ⟨h5, h6⟩, h7, h8⟩ := h
  obtain ⟨a1, a2⟩ := four_of h1
  obtain ⟨b1, b2⟩ := four_of h2
  exact ⟨a1, b1, a2, b2, h3, h4, h5, h6, h7, h8⟩
theorem all_no {xs : List Int} {i : Nat} (hi : i < xs.length) (h : wordOk (el xs i) = false) : fourOk xs = false := by
  cases e : fourOk xs
  · rfl
  · simp only [fourOk, Bool.and_eq_true] at e
    have := List.all_eq_true.1 e.1 (xs[i]'hi) (List.getElem_mem hi)
    simp [el, List.getElem?_eq_getElem hi] at h
    rw [h] at this; cases this
theorem all_of {xs : List Int} (h : ∀ i, i < xs.length → wordOk (el xs i) = true) : fourOk xs = decide ((xs.length : Int) = 4) := by
  have : xs.all wordOk = true := by
    rw [List.all_eq_true]
    intro x hx
    obtain ⟨i, hi, rfl⟩ := List.getElem_of_mem hx
    have := h i hi
    simpa [el, List.getElem?_eq_getElem hi] using this
  unfold fourOk
  rw [this, Bool.true_and]
end Go.Proofs.Ytblddehlkaolbaa.Pl

namespace Go.Proofs.Ytblddehlkaolbaa.Pl
set_option linter.unusedVariables false

def kind (a : Int) : Int := if 512 ≤ a ∨ (448 ≤ a ∧ a ≤ 495) then 1 else if 384 ≤ a ∧ a ≤ 447 then 3 else 0
def addr (a : Int) : Bool := decide (0 ≤ a) && decide (a ≤ 65535)
def byteOk (v : Int) : Bool := decide (0 ≤ v) && decide (v ≤ 255)
def bytesOk (xs : List Int) : Bool := xs.all byteOk
def accKind (k : Int) : Bool := decide (1 ≤ k) && decide (k ≤ 3)
def accOk (k s a v c : Int) : Bool := accKind k && (okv s v && (addr a && ((decide (0 ≤ c) && decide (c ≤ 3)) && (k != 3 || c != 0))))
def accAt (ys : List Int) (i : Nat) : Bool := accOk (el ys (i * 5)) (el ys (i * 5 + 1)) (el ys (i * 5 + 2)) (el ys (i * 5 + 3)) (el ys (i * 5 + 4))
def accsOk (ys : List Int) (m : Nat) : Bool := (List.range m).all (accAt ys)
def goodBus (xs ys : List Int) (m : Nat) : Bool := accsOk ys m && (decide (xs.length = 512) && (bytesOk xs && decide (m ≤ 400)))
/-- what an access is told -/
def code (k s a : Int) : Int :=
  if s = 2 ∧ a % 2 = 1 then 2 else if kind a = 1 ∨ kind (a + s - 1) = 1 then 1 else if k = 2 ∧ (kind a = 3 ∨ kind (a + s - 1) = 3) then 3 else 0

theorem bytesOk_at {xs : List Int} (h : bytesOk xs = true) (i : Nat) (hi : i < xs.length) : 0 ≤ el xs i ∧ el xs i ≤ 255 := by
  have := List.all_eq_true.1 h (xs[i]) (List.getElem_mem hi)
  simp [byteOk] at this
  simpa [el, hi] using this
theorem bytesOk_no {xs : List Int} {i : Nat} (hi : i < xs.length) (h : byteOk (el xs i) = false) : bytesOk xs = false := by
  cases e : bytesOk xs
  · rfl
  · have := bytesOk_at e i hi
    simp [byteOk] at h
    omega
theorem bytesOk_of {xs : List Int} (h : ∀ i, i < xs.length → byteOk (el xs i) = true) : bytesOk xs = true := by
  unfold bytesOk
  rw [List.all_eq_true]
  intro x hx
  obtain ⟨i, hi, rfl⟩ := List.getElem_of_mem hx
  simpa [el, hi] using h i hi
theorem accsOk_no {ys : List Int} {m i : Nat} (hi : i < m) (h : accAt ys i = false) : accsOk ys m = false := by
  cases e : accsOk ys m
  · rfl
  · have := List.all_eq_true.1 e i (List.mem_range.2 hi)
    rw [h] at this; cases this
theorem accsOk_of {ys : List Int} {m : Nat} (h : ∀ i, i < m → accAt ys i = true) : accsOk ys m = true := by
  unfold accsOk
  rw [List.all_eq_true]
  intro i hi
  exact h i (List.mem_range.1 hi)
end Go.Proofs.Ytblddehlkaolbaa.Pl

namespace Go.Proofs.Ytblddehlkaolbaa
open Go.RowKit
set_option linter.unusedVariables false

theorem l4Bytes (w : World) (a : Option Addr) (ca : Nat) (xs : List Int) (ha : IRow w a xs) (lx : xs.length ≤ 2000000) :
    Calls Try.prog 62 #[.slice a xs.length ca] w fun e w' => e = .returned (.bool (Pl.bytesOk xs)) ∧ w' = w := by
  have HA := hide ha
  clear ha
  go_enter Try.func62, Try.ntmps62
  go_wp2
  go_loop [4, 7] (fun _ j => ∃ k : Nat, k ≤ xs.length ∧ j = .int .i64 k ∧ ∀ i, i < k → Pl.byteOk (el xs i) = true) (fun _ j => xs.length - (intOf j).toNat)
  case atStart => exact ⟨0, Nat.zero_le _, rfl, fun i hi => absurd hi (Nat.not_lt_zero i)⟩
  case round =>
    obtain ⟨k, hk, rfl, heq⟩ := hrel
    have HE := hide heq
    clear heq
    by_cases hlt : k < xs.length
    · obtain ⟨g1, o1, rfl, hc1⟩ := HA.out k hlt
      rw [show xs[k]?.getD 0 = el xs k from rfl] at hc1
      cases hb : (decide (0 ≤ el xs k) && decide (el xs k ≤ 255))
      · go_wp2_with (go_at_call 63; refine (l1In _ _ _ _).mono ?_; rintro e w' ⟨rfl, rfl⟩; rw [hb])
        go_ret
        exact ⟨rB (Pl.bytesOk_no hlt hb).symm, rfl⟩
      · go_wp2_with (go_at_call 63; refine (l1In _ _ _ _).mono ?_; rintro e w' ⟨rfl, rfl⟩; rw [hb])
        go_round
        case rel => exact ⟨k + 1, by omega, by go_num, snoc_all HE.out hb⟩
        case measure => simp [intOf]; omega
    · go_wp2
      go_ret
      exact ⟨rB (Pl.bytesOk_of (fun i hi => HE.out i (by omega))).symm, rfl⟩
end Go.Proofs.Ytblddehlkaolbaa

namespace Go.Proofs.Ytblddehlkaolbaa
open Go.RowKit
set_option linter.unusedVariables false

theorem l1Size_no (s : Int) (w : World) (h1 : ¬ s = 1) (h2 : ¬ s = 2) : Calls Try.prog 100 #[.int .i64 s] w fun e w' => e = .returned (.bool false) ∧ w' = w := by
  have k1 : (s == 1) = false := by simpa using h1
  have k2 : (s == 2) = false := by simpa using h2
  go_enter Try.func100, Try.ntmps100
  go_wp2
  go_ret
  exact ⟨rfl, rfl⟩

theorem l1Size1 (w : World) : Calls Try.prog 100 #[.int .i64 1] w fun e w' => e = .returned (.bool true) ∧ w' = w := by
  go_enter Try.func100, Try.ntmps100
  go_wp2
  go_ret
  exact ⟨rfl, rfl⟩

theorem l1Size2 (w : World) : Calls Try.prog 100 #[.int .i64 2] w fun e w' => e = .returned (.bool true) ∧ w' = w := by
  go_enter Try.func100, Try.ntmps100
  go_wp2
  go_ret
  exact ⟨rfl, rfl⟩
end Go.Proofs.Ytblddehlkaolbaa

namespace Go.Proofs.Ytblddehlkaolbaa
open Go.RowKit
set_option linter.unusedVariables false

theorem l1Top1 (w : World) : Calls Try.prog 101 #[.int .i64 1] w fun e w' => e = .returned (.int .i64 256) ∧ w' = w := by
  go_enter Try.func101, Try.ntmps101
  go_wp2
  go_ret
  exact ⟨rfl, rfl⟩

theorem l1Top2 (w : World) : Calls Try.prog 101 #[.int .i64 2] w fun e w' => e = .returned (.int .i64 65536) ∧ w' = w := by
  go_enter Try.func101, Try.ntmps101
  go_wp2
  go_ret
  exact ⟨rfl, rfl⟩

theorem l1Value (s v : Int) (w : World) :
    Calls Try.prog 92 #[.int .i64 s, .int .i64 v] w fun e w' => e = .returned (.bool (Pl.okv s v)) ∧ w' = w := by
  by_cases h1 : s = 1
  · subst h1
    go_enter Try.func92, Try.ntmps92
    go_wp2_with fail
    refine (l1Size1 _).mono ?_
    rintro e w' ⟨rfl, rfl⟩
    go_wp2_with fail
    refine (l1Top1 _).mono ?_
    rintro e w' ⟨rfl, rfl⟩
    go_wp2_with fail
    refine (l1In _ _ _ _).mono ?_
    rintro e w' ⟨rfl, rfl⟩
    go_wp2_with fail
    go_ret
    exact ⟨rB (by rw [Bool.eq_iff_iff]; simp [Pl.okv, Pl.top]; omega), rfl⟩
  · by_cases h2 : s = 2
    · subst h2
      go_enter Try.func92, Try.ntmps92
      go_wp2_with fail
      refine (l1Size2 _).mono ?_
      rintro e w' ⟨rfl, rfl⟩
      go_wp2_with fail
      refine (l1Top2 _).mono ?_
      rintro e w' ⟨rfl, rfl⟩
      go_wp2_with fail
      refine (l1In _ _ _ _).mono ?_
      rintro e w' ⟨rfl, rfl⟩
      go_wp2_with fail
      go_ret
      exact ⟨rB (by rw [Bool.eq_iff_iff]; simp [Pl.okv, Pl.top]; omega), rfl⟩
    · go_enter Try.func92, Try.ntmps92
      go_wp2_with fail
      refine (l1Size_no s _ h1 h2).mono ?_
      rintro e w' ⟨rfl, rfl⟩
      go_wp2_with fail
      go_ret
      exact ⟨rB (by simp [Pl.okv, h1, h2]), rfl⟩

end Go.Proofs.Ytblddehlkaolbaa

namespace Go.Proofs.Ytblddehlkaolbaa
open Go.RowKit
set_option linter.unusedVariables false

theorem l4Addr (a : Int) (w : World) : Calls Try.prog 93 #[.int .i64 a] w fun e w' => e = .returned (.bool (Pl.addr a)) ∧ w' = w := by
  go_enter Try.func93, Try.ntmps93
  go_wp2_with fail
  refine (l1In _ _ _ _).mono ?_
  rintro e w' ⟨rfl, rfl⟩
  go_wp2_with fail
  go_ret
  exact ⟨rfl, rfl⟩
theorem l4Kind (a : Int) (w : World) : Calls Try.prog 108 #[.int .i64 a] w fun e w' => e = .returned (.int .i64 (Pl.kind a)) ∧ w' = w := by
  by_cases h1 : 512 ≤ a
  · have E : Hid (Pl.kind a = 1) := hide (by simp [Pl.kind, h1])
    go_enter Try.func108, Try.ntmps108
    go_wp2
    go_ret
    exact ⟨rI E.out.symm, rfl⟩
  · cases h2 : (decide ((448 : Int) ≤ a) && decide (a ≤ 495))
    · cases h3 : (decide ((384 : Int) ≤ a) && decide (a ≤ 447))
      all_goals
        have E : Hid (Pl.kind a = if (decide ((384 : Int) ≤ a) && decide (a ≤ 447)) then 3 else 0) := hide (by
          simp at h2
          have : ¬ (448 ≤ a ∧ a ≤ 495) := by omega
          simp [Pl.kind, h1, this])
        rw [h3] at E
        go_enter Try.func108, Try.ntmps108
        go_wp2_with fail
        refine (l1In _ _ _ _).mono ?_
        rintro e w' ⟨rfl, rfl⟩
        rw [h2]
        go_wp2_with fail
        refine (l1In _ _ _ _).mono ?_
        rintro e w' ⟨rfl, rfl⟩
        rw [h3]
        go_wp2_with fail
        go_ret
        exact ⟨rI E.out.symm, rfl⟩
    · have E : Hid (Pl.kind a = 1) := hide (by simp at h2; simp [Pl.kind, h2])
      go_enter Try.func108, Try.ntmps108
      go_wp2_with fail
      refine (l1In _ _ _ _).mono ?_
      rintro e w' ⟨rfl, rfl⟩
      rw [h2]
      go_wp2_with fail
      go_ret
      exact ⟨rI E.out.symm, rfl⟩
theorem l4Access (k s a v c : Int) (w : World) : Calls Try.prog 76 #[.agg #[.int .i64 k, .int .i64 s, .int .i64 a, .int .i64 v, .int .i64 c]] w fun e w' => e = .returned (.bool (Pl.accOk k s a v c)) ∧ ∃ o, w' = w.alloc o := by
  cases h1 : (decide (1 ≤ k) && decide (k ≤ 3))
  · go_enter Try.func76, Try.ntmps76
    go_wp2_with (first | (go_at_call 63; refine (l1In _ _ _ _).mono ?_; rintro e w' ⟨rfl, rfl⟩; rw [h1]) | (go_at_call 92; refine (l1Value _ _ _).mono ?_; rintro e w' ⟨rfl, rfl⟩) | (go_at_call 93; refine (l4Addr _ _).mono ?_; rintro e w' ⟨rfl, rfl⟩))
    go_ret
    exact ⟨rB (by unfold Pl.accOk Pl.accKind; rw [h1]; simp), _, rfl⟩
  · cases h2 : Pl.okv s v
    · go_enter Try.func76, Try.ntmps76
      go_wp2_with (first | (go_at_call 63; refine (l1In _ _ _ _).mono ?_; rintro e w' ⟨rfl, rfl⟩; rw [h1]) | (go_at_call 92; refine (l1Value _ _ _).mono ?_; rintro e w' ⟨rfl, rfl⟩; rw [h2]) | (go_at_call 93; refine (l4Addr _ _).mono ?_; rintro e w' ⟨rfl, rfl⟩))
      go_ret
      exact ⟨rB (by unfold Pl.accOk Pl.accKind; rw [h1, h2]; simp), _, rfl⟩
    · cases h3 : Pl.addr a
      · go_enter Try.func76, Try.ntmps76
        go_wp2_with (first | (go_at_call 63; refine (l1In _ _ _ _).mono ?_; rintro e w' ⟨rfl, rfl⟩; rw [h1]) | (go_at_call 92; refine (l1Value _ _ _).mono ?_; rintro e w' ⟨rfl, rfl⟩; rw [h2]) | (go_at_call 93; refine (l4Addr _ _).mono ?_; rintro e w' ⟨rfl, rfl⟩; rw [h3]))
        go_ret
        exact ⟨rB (by unfold Pl.accOk Pl.accKind; rw [h1, h2, h3]; simp), _, rfl⟩
      · cases h4 : (decide (0 ≤ c) && decide (c ≤ 3))
        · go_enter Try.func76, Try.ntmps76
          go_wp2_with (first | (go_at_call 63; refine (l1In _ _ _ _).mono ?_; rintro e w' ⟨rfl, rfl⟩; first | rw [h1] | rw [h4]) | (go_at_call 92; refine (l1Value _ _ _).mono ?_; rintro e w' ⟨rfl, rfl⟩; rw [h2]) | (go_at_call 93; refine (l4Addr _ _).mono ?_; rintro e w' ⟨rfl, rfl⟩; rw [h3]))
          go_ret
          exact ⟨rB (by unfold Pl.accOk Pl.accKind; rw [h1, h2, h3, h4]; simp), _, rfl⟩
        · cases h5 : (k != 3)
          · cases h6 : (c != 0)
            all_goals
              go_enter Try.func76, Try.ntmps76
              go_wp2_with (first | (go_at_call 63; refine (l1In _ _ _ _).mono ?_; rintro e w' ⟨rfl, rfl⟩; first | rw [h1] | rw [h4]) | (go_at_call 92; refine (l1Value _ _ _).mono ?_; rintro e w' ⟨rfl, rfl⟩; rw [h2]) | (go_at_call 93; refine (l4Addr _ _).mono ?_; rintro e w' ⟨rfl, rfl⟩; rw [h3]))
              go_ret
              exact ⟨rB (by unfold Pl.accOk Pl.accKind; rw [h1, h2, h3, h4, h5, h6]; simp), _, rfl⟩
          · go_enter Try.func76, Try.ntmps76
            go_wp2_with (first | (go_at_call 63; refine (l1In _ _ _ _).mono ?_; rintro e w' ⟨rfl, rfl⟩; first | rw [h1] | rw [h4]) | (go_at_call 92; refine (l1Value _ _ _).mono ?_; rintro e w' ⟨rfl, rfl⟩; rw [h2]) | (go_at_call 93; refine (l4Addr _ _).mono ?_; rintro e w' ⟨rfl, rfl⟩; rw [h3]))
            go_ret
            exact ⟨rB (by unfold Pl.accOk Pl.accKind; rw [h1, h2, h3, h4, h5]; simp), _, rfl⟩

theorem specGoodBus (w : World) (a b : Option Addr) (ca cb m : Nat) (xs ys : List Int) (ha : IRow w a xs) (hb : IRow w b ys) (lx : xs.length ≤ 2000000) (ly : ys.length = 5 * m) (bm : m ≤ 2000000) :
    Calls Try.prog 41 #[.agg #[.slice a xs.length ca, .slice b m cb]] w fun e w' => e = .returned (.bool (Pl.goodBus xs ys m)) ∧ Kept 0 0 w w' := by
  have HA := hide ha
  have HB := hide hb
  have HY := hide ly
  clear ha hb ly
  go_enter Try.func41, Try.ntmps41
  go_wp2
  have HK0 := hide (kept_alloc w (.cells #[.slice a xs.length ca, .slice b m cb] 27))
  have HW := hide (Blk.new w #[.slice a xs.length ca, .slice b m cb] 27)
  obtain ⟨W, hW⟩ : ∃ W : World, W = w.alloc (.cells #[.slice a xs.length ca, .slice b m cb] 27) := ⟨_, rfl⟩
  rw [← hW] at HK0 HW ⊢
  clear hW
  go_loopw [4, 8] (fun _ j wr => ∃ k : Nat, k ≤ m ∧ j = .int .i64 k ∧ (∀ i, i < k → Pl.accAt ys i = true) ∧ Kept 0 0 W wr) (fun _ j _ => m - (intOf j).toNat)
  case atStart => exact ⟨0, Nat.zero_le _, rfl, fun i hi => absurd hi (Nat.not_lt_zero i), Kept.refl _ _ _⟩
  case round =>
    obtain ⟨k, hk, rfl, heq, hkept⟩ := hrel
    have HE := hide heq
    have HK := hide hkept
    clear heq hkept
    by_cases hlt : k < m
    · obtain ⟨g1, o1, rfl, p0, p1, p2, p3, p4⟩ := (HB.out.keptS (HK0.out.trans HK.out)).five HY.out hlt
      cases hb : Pl.accAt ys k
      · have hb2 : Pl.accOk (el ys (k * 5)) (el ys (k * 5 + 1)) (el ys (k * 5 + 2)) (el ys (k * 5 + 3)) (el ys (k * 5 + 4)) = false := hb
        clear hb
        go_wp2_with (go_at_call 76; refine (l4Access _ _ _ _ _ _).mono ?_; rintro e w' ⟨rfl, o, rfl⟩; rw [hb2])
        go_ret
        exact ⟨rB (by unfold Pl.goodBus; rw [Pl.accsOk_no hlt hb2]; rfl), HK0.out.trans (kept_new (kept_new HK.out _) _)⟩
      · have hb2 : Pl.accOk (el ys (k * 5)) (el ys (k * 5 + 1)) (el ys (k * 5 + 2)) (el ys (k * 5 + 3)) (el ys (k * 5 + 4)) = true := hb
        clear hb
        go_wp2_with (go_at_call 76; refine (l4Access _ _ _ _ _ _).mono ?_; rintro e w' ⟨rfl, o, rfl⟩; rw [hb2])
        go_roundw
        case rel => exact ⟨k + 1, by omega, by go_num, snoc_all HE.out hb2, kept_new (kept_new HK.out _) _⟩
        case measure => simp [intOf]; omega
    · have HA1 : Hid (Pl.accsOk ys m = true) := hide (Pl.accsOk_of (fun i hi => HE.out i (by omega)))
      have B := HW.out.kept0 HK.out
      have c0 := B.cell (i := 0) rfl
      have c1 := B.cell (i := 1) rfl
      have HX := hide (HA.out.keptS (HK0.out.trans HK.out))
      clear B
      have G : Hid (Pl.goodBus xs ys m = (((xs.length : Int) == 512) && (Pl.bytesOk xs && decide ((m : Int) ≤ 400)))) := hide (by
        unfold Pl.goodBus
        rw [HA1.out, Bool.true_and]
        congr 1
        · rw [Bool.eq_iff_iff]; simp; omega
        · congr 1; rw [Bool.eq_iff_iff]; simp; omega)
      cases h1 : ((xs.length : Int) == 512)
      · go_wp2_with fail
        go_ret
        exact ⟨rB (by rw [G.out, h1]; rfl), HK0.out.trans HK.out⟩
      · cases h2 : Pl.bytesOk xs
        · go_wp2_with fail
          refine (l4Bytes _ a ca xs HX.out lx).mono ?_
          rintro e w' ⟨rfl, rfl⟩
          rw [h2]
          go_wp2_with fail
          go_ret
          exact ⟨rB (by rw [G.out, h1, h2]; rfl), HK0.out.trans HK.out⟩
        · cases h3 : decide ((m : Int) ≤ 400)
          all_goals
            go_wp2_with fail
            refine (l4Bytes _ a ca xs HX.out lx).mono ?_
            rintro e w' ⟨rfl, rfl⟩
            rw [h2]
            go_wp2_with fail
            go_ret
            exact ⟨rB (by rw [G.out, h1, h2, h3]; rfl), HK0.out.trans HK.out⟩
end Go.Proofs.Ytblddehlkaolbaa

namespace Go.Proofs.Ytblddehlkaolbaa
open Go.RowKit
set_option linter.unusedVariables false

namespace Pl
theorem goodBus_ok {xs ys : List Int} {m : Nat} (h : goodBus xs ys m = true) : xs.length = 512 ∧ bytesOk xs = true ∧ m ≤ 400 ∧ accsOk ys m = true := by
  simp only [goodBus, Bool.and_eq_true, decide_eq_true_eq] at h
  exact ⟨h.2.1, h.2.2.1, h.2.2.2, h.1⟩
theorem code_low {k s a : Int} (h : code k s a = 0) (a0 : 0 ≤ a) : a ≤ 511 ∧ a + s - 1 ≤ 511 := by
  unfold code at h
  split at h
  · cases h
  · split at h
    · cases h
    · rename_i h1 h2
      have k1 : ¬ kind a = 1 := fun e => h2 (.inl e)
      have k2 : ¬ kind (a + s - 1) = 1 := fun e => h2 (.inr e)
      constructor
      · refine Decidable.byContradiction fun q => k1 ?_
        have : 512 ≤ a := by omega
        simp [kind, this]
      · refine Decidable.byContradiction fun q => k2 ?_
        have : 512 ≤ a + s - 1 := by omega
        simp [kind, this]
theorem word_or {h l : Int} (h0 : 0 ≤ h) (h1 : h ≤ 255) (l0 : 0 ≤ l) (l1 : l ≤ 255) : bits .or .i64 (h * 256) l = h * 256 + l :=
  bits_join .i64 62 (by decide) wraps_i64 8 (h * 256) l (by omega) (by omega) (by omega) (by omega) (by omega) (by omega)
end Pl

set_option maxHeartbeats 1000000 in
theorem l4Code (k s a : Int) (w : World) (s0 : 1 ≤ s) (s1 : s ≤ 2) (a0 : 0 ≤ a) (a1 : a ≤ 65535) :
    Calls Try.prog 104 #[.int .i64 k, .int .i64 s, .int .i64 a] w fun e w' => e = .returned (.int .i64 (Pl.code k s a)) ∧ w' = w := by
  have hA := Pl.and1 a
  have G : Hid (Pl.code k s a = if ((s == 2) && (a % 2 == 1)) then 2 else if ((Pl.kind a == 1) || (Pl.kind (a + s - 1) == 1)) then 1 else if ((k == 2) && ((Pl.kind a == 3) || (Pl.kind (a + s - 1) == 3))) then 3 else 0) := hide (by
    unfold Pl.code; simp only [Bool.and_eq_true, Bool.or_eq_true, beq_iff_eq])
  cases h1 : (s == 2)
  · cases h3 : (Pl.kind a == 1)
    · cases h4 : (Pl.kind (a + s - 1) == 1)
      · cases h5 : (k == 2)
        · rw [h1, h3, h4, h5] at G
          go_enter Try.func104, Try.ntmps104
          go_wp2_with (go_at_call 108; refine (l4Kind _ _).mono ?_; rintro e w' ⟨rfl, rfl⟩)
          go_ret
          exact ⟨rI (by rw [G.out]; simp), rfl⟩
        · cases h6 : (Pl.kind a == 3)
          · cases h7 : (Pl.kind (a + s - 1) == 3)
            · rw [h1, h3, h4, h5, h6, h7] at G
              go_enter Try.func104, Try.ntmps104
              go_wp2_with (go_at_call 108; refine (l4Kind _ _).mono ?_; rintro e w' ⟨rfl, rfl⟩)
              go_ret
              exact ⟨rI (by rw [G.out]; simp), rfl⟩
            · rw [h1, h3, h4, h5, h6, h7] at G
              go_enter Try.func104, Try.ntmps104
              go_wp2_with (go_at_call 108; refine (l4Kind _ _).mono ?_; rintro e w' ⟨rfl, rfl⟩)
              go_ret
              exact ⟨rI (by rw [G.out]; simp), rfl⟩
          · rw [h1, h3, h4, h5, h6] at G
            go_enter Try.func104, Try.ntmps104
            go_wp2_with (go_at_call 108; refine (l4Kind _ _).mono ?_; rintro e w' ⟨rfl, rfl⟩)
            go_ret
            exact ⟨rI (by rw [G.out]; simp), rfl⟩
      · rw [h1, h3, h4] at G
        go_enter Try.func104, Try.ntmps104
        go_wp2_with (go_at_call 108; refine (l4Kind _ _).mono ?_; rintro e w' ⟨rfl, rfl⟩)
        go_ret
        exact ⟨rI (by rw [G.out]; simp), rfl⟩
    · rw [h1, h3] at G
      go_enter Try.func104, Try.ntmps104
      go_wp2_with (go_at_call 108; refine (l4Kind _ _).mono ?_; rintro e w' ⟨rfl, rfl⟩)
      go_ret
      exact ⟨rI (by rw [G.out]; simp), rfl⟩
  · cases h2 : (a % 2 == 1)
    · cases h3 : (Pl.kind a == 1)
      · cases h4 : (Pl.kind (a + s - 1) == 1)
        · cases h5 : (k == 2)
          · rw [h1, h2, h3, h4, h5] at G
            go_enter Try.func104, Try.ntmps104
            go_wp2_with (go_at_call 108; refine (l4Kind _ _).mono ?_; rintro e w' ⟨rfl, rfl⟩)
            go_ret
            exact ⟨rI (by rw [G.out]; simp), rfl⟩
          · cases h6 : (Pl.kind a == 3)
            · cases h7 : (Pl.kind (a + s - 1) == 3)
              · rw [h1, h2, h3, h4, h5, h6, h7] at G
                go_enter Try.func104, Try.ntmps104
                go_wp2_with (go_at_call 108; refine (l4Kind _ _).mono ?_; rintro e w' ⟨rfl, rfl⟩)
                go_ret
                exact ⟨rI (by rw [G.out]; simp), rfl⟩
              · rw [h1, h2, h3, h4, h5, h6, h7] at G
                go_enter Try.func104, Try.ntmps104
                go_wp2_with (go_at_call 108; refine (l4Kind _ _).mono ?_; rintro e w' ⟨rfl, rfl⟩)
                go_ret
                exact ⟨rI (by rw [G.out]; simp), rfl⟩
            · rw [h1, h2, h3, h4, h5, h6] at G
              go_enter Try.func104, Try.ntmps104
              go_wp2_with (go_at_call 108; refine (l4Kind _ _).mono ?_; rintro e w' ⟨rfl, rfl⟩)
              go_ret
              exact ⟨rI (by rw [G.out]; simp), rfl⟩
        · rw [h1, h2, h3, h4] at G
          go_enter Try.func104, Try.ntmps104
          go_wp2_with (go_at_call 108; refine (l4Kind _ _).mono ?_; rintro e w' ⟨rfl, rfl⟩)
          go_ret
          exact ⟨rI (by rw [G.out]; simp), rfl⟩
      · rw [h1, h2, h3] at G
        go_enter Try.func104, Try.ntmps104
        go_wp2_with (go_at_call 108; refine (l4Kind _ _).mono ?_; rintro e w' ⟨rfl, rfl⟩)
        go_ret
        exact ⟨rI (by rw [G.out]; simp), rfl⟩
    · rw [h1, h2] at G
      go_enter Try.func104, Try.ntmps104
      go_wp2_with (go_at_call 108; refine (l4Kind _ _).mono ?_; rintro e w' ⟨rfl, rfl⟩)
      go_ret
      exact ⟨rI (by rw [G.out]; simp), rfl⟩

end Go.Proofs.Ytblddehlkaolbaa

namespace Go.Proofs.Ytblddehlkaolbaa.Pl
set_option linter.unusedVariables false
/-- what lies there, of a size -/
def rd (xs : List Int) (s : Int) (i : Nat) : Int := if s = 1 then el xs i else el xs i * 256 + el xs (i + 1)
/-- .. behind so many bytes -/
def rdK (xs : List Int) (i k : Nat) : Int := if k = 0 then 0 else if k = 1 then el xs i else el xs i * 256 + el xs (i + 1)

def askOk (k s a v : Int) : Bool := accKind k && (okv s v && (addr a && ((k == 2) || (v == 0))))
/-- the value that the log is told -/
def lv (xs : List Int) (k s a v : Int) : Int := if code k s a = 0 ∧ ¬ k = 2 then rd xs s a.toNat else v
/-- a value laid there, of a size -/
def wr (xs : List Int) (s : Int) (i : Nat) (v : Int) : List Int := if s = 1 then xs.set i v else (xs.set i (v / 256)).set (i + 1) (v % 256)
def nb (xs : List Int) (k s a v : Int) : List Int := if code k s a = 0 ∧ k = 2 then wr xs s a.toNat v else xs
def logs (m : Nat) (k s a : Int) : Bool := decide (m < 400) && ((k != 3) || (code k s a != 0))
def nl (xs ys : List Int) (m : Nat) (k s a v : Int) : List Int := if logs m k s a = true then ys ++ [k, s, a, lv xs k s a v, code k s a] else ys
def nm (m : Nat) (k s a : Int) : Nat := if logs m k s a = true then m + 1 else m
theorem wr_len (xs : List Int) (s : Int) (i : Nat) (v : Int) : (wr xs s i v).length = xs.length := by unfold wr; split <;> simp
theorem nb_len (xs : List Int) (k s a v : Int) : (nb xs k s a v).length = xs.length := by unfold nb; split <;> simp [wr_len]
theorem nl_len {xs ys : List Int} {m : Nat} (k s a v : Int) (h : ys.length = 5 * m) : (nl xs ys m k s a v).length = 5 * nm m k s a := by
  unfold nl nm
  split
  · simp [h]; omega
  · exact h
theorem nm_le {m : Nat} (k s a : Int) (h : m ≤ 400) : nm m k s a ≤ 400 := by
  unfold nm logs
  split
  · rename_i h1; simp at h1; omega
  · exact h
theorem ask_ok {k s a v : Int} (h : askOk k s a v = true) : (1 ≤ k ∧ k ≤ 3) ∧ ((s = 1 ∧ v ≤ 255) ∨ (s = 2 ∧ v ≤ 65535)) ∧ 0 ≤ v ∧ (0 ≤ a ∧ a ≤ 65535) ∧ (k = 2 ∨ v = 0) := by
  simp only [askOk, accKind, addr, Bool.and_eq_true, Bool.or_eq_true, decide_eq_true_eq, beq_iff_eq] at h
  obtain ⟨h1, h2, h3, h4⟩ := h
  have := top_ok h2
  refine ⟨h1, ?_, ?_, h3, h4⟩
  · omega
  · omega
/-- parts begin at even addresses: a word's two bytes lie in one -/
theorem kind_even {a : Int} (h : ¬ a % 2 = 1) : kind (a + 2 - 1) = kind a := by
  unfold kind
  by_cases h1 : 512 ≤ a ∨ (448 ≤ a ∧ a ≤ 495)
  · rw [if_pos h1, if_pos (by omega)]
  · rw [if_neg h1, if_neg (by omega)]
    by_cases h2 : 384 ≤ a ∧ a ≤ 447
    · rw [if_pos h2, if_pos (by omega)]
    · rw [if_neg h2, if_neg (by omega)]
theorem code_part {k s a : Int} (hs : s = 1 ∨ s = 2) : code k s a = if s = 2 ∧ a % 2 = 1 then 2 else if kind a = 3 ∧ ¬ k = 2 then 0 else kind a := by
  have kv : kind a = 0 ∨ kind a = 1 ∨ kind a = 3 := by
    unfold kind
    split
    · exact .inr (.inl rfl)
    · split
      · exact .inr (.inr rfl)
      · exact .inl rfl
  unfold code
  by_cases h : s = 2 ∧ a % 2 = 1
  · rw [if_pos h, if_pos h]
  · rw [if_neg h, if_neg h]
    have e : kind (a + s - 1) = kind a := by
      rcases hs with rfl | rfl
      · rw [show a + 1 - 1 = a by omega]
      · exact kind_even (fun q => h ⟨rfl, q⟩)
    rw [e]
    rcases kv with q | q | q <;> rw [q] <;> by_cases hk : k = 2 <;> simp [hk]
end Go.Proofs.Ytblddehlkaolbaa.Pl

namespace Go.Proofs.Ytblddehlkaolbaa.Pl
set_option linter.unusedVariables false
structure In where
  op : Int
  z : Int
  r : Int
  m : Int
  k : Int
  e : Int
  s : Int
end Go.Proofs.Ytblddehlkaolbaa.Pl

namespace Go.Proofs.Ytblddehlkaolbaa.Pl
set_option linter.unusedVariables false

/-- the highest bit -/
def hi (s v : Int) : Int := if top s / 2 ≤ v then 1 else 0
/-- what falls out -/
def fell (k s v : Int) : Int := if k % 2 = 0 then hi s v else v % 2
/-- what comes in -/
def inn (k s x v : Int) : Int := if k = 1 then hi s v else if k = 4 ∨ k = 5 then fell k s v else if 6 ≤ k then x else 0
def nv (k s x v : Int) : Int := if k % 2 = 0 then v * 2 % top s + inn k s x v else v / 2 + inn k s x v * (top s / 2)
def nx (k s x v : Int) : Int := if k = 4 ∨ k = 5 then x else fell k s v
/-- a value and the kept bit, one place on -/
def stp (k s : Int) (p : Int × Int) : Int × Int := (nv k s p.2 p.1, nx k s p.2 p.1)
def st (k s : Int) (p : Int × Int) : Nat → Int × Int
  | 0 => p
  | n + 1 => stp k s (st k s p n)
/-! ### what a call answers -/
end Go.Proofs.Ytblddehlkaolbaa.Pl

namespace Go.Proofs.Ytblddehlkaolbaa.Pl
set_option linter.unusedVariables false

/-- a processor -/
structure Cp where
  r : Rg
  bx : List Int
  bl : List Int
  bm : Nat
  st : Bool
  ha : Bool
/-- a fault -/
structure Ft where
  v : Int
  pc : Int
  ad : Int
  wo : Int
  wr : Bool
/-- a step on its way -/
structure Mc where
  r : Rg
  bx : List Int
  bl : List Int
  bm : Nat
  st : Bool
  f : Ft
def ftNo : Ft := ⟨0, 0, 0, 0, false⟩
def cpNo : Cp := ⟨rgNo, [], [], 0, false, false⟩
def cpOk (c : Cp) : Bool := rgOk c.r && (goodBus c.bx c.bl c.bm && !(c.st && c.ha))
namespace Mc
def fine (c : Mc) : Bool := c.f.v == 0
def ofC (c : Cp) : Mc := ⟨c.r, c.bx, c.bl, c.bm, c.st, ftNo⟩
def cpu (c : Mc) (h : Bool) : Cp := ⟨c.r, c.bx, c.bl, c.bm, c.st, h⟩
def accF (f : Ft) (k s a : Int) : Ft := bif (code k s a != 0) && (f.v == 0) then { f with v := bif code k s a == 2 then 3 else 2, ad := a, wr := k == 2 } else f
def acc (c : Mc) (k s a v : Int) : Mc := { c with bx := nb c.bx k s a v, bl := nl c.bx c.bl c.bm k s a v, bm := nm c.bm k s a, f := accF c.f k s a }
def accV (c : Mc) (k s a v : Int) : Int := lv c.bx k s a v
def setA (c : Mc) (k : Nat) (v : Int) : Mc := { c with r := { c.r with ys := c.r.ys.set k v } }
def setF (c : Mc) (v : Int) : Mc := { c with r := { c.r with f := v } }
def setR (c : Mc) (r : Rg) : Mc := { c with r := r }
def spA (c : Mc) : Int := (el c.r.ys 3 - 2) % 65536
def push (c : Mc) (v : Int) : Mc := bif (c.acc 2 2 c.spA v).fine then (c.acc 2 2 c.spA v).setA 3 c.spA else c.acc 2 2 c.spA v
/- the instruction at PC -/
/- operands -/
def low (c : Mc) (z k : Int) : Int := el c.r.xs k.toNat % top z
def inReg (m : Int) : Bool := (m == 0) || ((m == 1) || (m == 7))
def plc (c : Mc) (z m k e : Int) : Mc := c.setR (placeR c.r z m k e)
def read (c : Mc) (z m k e : Int) : Mc := bif inReg m then c else (c.plc z m k e).acc 1 z (placeV c.r z m k e) 0
def readV (c : Mc) (z m k e : Int) : Int := bif m == 0 then c.low z k else bif m == 1 then el c.r.ys k.toNat else bif m == 7 then e else (c.plc z m k e).accV 1 z (placeV c.r z m k e) 0
def readA (c : Mc) (z m k e : Int) : Int := bif inReg m then 0 else placeV c.r z m k e
def write (c : Mc) (z m k a v : Int) : Mc := bif m == 0 then c.setR (putR c.r z k v) else c.acc 2 z a v
def place (c : Mc) (z m k e : Int) : Mc := bif m == 0 then c else c.plc z m k e
def plcA (c : Mc) (z m k e : Int) : Int := bif m == 0 then 0 else placeV c.r z m k e
def put (c : Mc) (z k v : Int) : Mc := c.setR (putR c.r z k v)
def one0 (c : Mc) (x : In) : Mc := (((c.place x.z x.m x.k x.e).write x.z x.m x.k (c.plcA x.z x.m x.k x.e) 0)).setF (logF x.z c.r.f 0)
def one' (c d : Mc) (x : In) (a v : Int) : Mc :=
  bif x.s == 1 then (d.write x.z x.m x.k a (subV x.z 0 0 v)).setF (subF x.z 0 0 v)
  else bif x.s == 2 then (d.write x.z x.m x.k a (top x.z - 1 - v)).setF (logF x.z c.r.f (top x.z - 1 - v))
  else d.setF (logF x.z c.r.f v)
def one (c : Mc) (x : In) : Mc :=
  bif x.s == 0 then c.one0 x
  else bif (c.read x.z x.m x.k x.e).fine then c.one' (c.read x.z x.m x.k x.e) x (c.readA x.z x.m x.k x.e) (c.readV x.z x.m x.k x.e) else c.read x.z x.m x.k x.e
/- a step -/
end Mc
end Go.Proofs.Ytblddehlkaolbaa.Pl

namespace Go.Proofs.Ytblddehlkaolbaa
open Go.RowKit
set_option linter.unusedVariables false
/-- of the blocks that were there all but two are as they were -/
structure KeptB (p q : Option Nat) (w w' : World) : Prop where
  os : w'.os = w.os
  tape : w'.tape = w.tape
  output : w'.output = w.output
  size : w.heap.size ≤ w'.heap.size
  block : ∀ k, k < w.heap.size → some k ≠ p → some k ≠ q → w'.heap[k]? = w.heap[k]?
theorem kb_of {p q : Option Nat} {w X w1 w2 : World} (k : Kept 0 0 w X) (g1 : X.grownBy w1 p) (g2 : w1.grownBy w2 q) : KeptB p q w w2 :=
  ⟨(g2.os.trans g1.os).trans k.os, (g2.tape.trans g1.tape).trans k.tape, (g2.output.trans g1.output).trans k.output, Nat.le_trans k.size (Nat.le_trans g1.size g2.size), fun i hi h1 h2 =>
    (g2.block i (Nat.lt_of_lt_of_le (Nat.lt_of_lt_of_le hi k.size) g1.size) h2).trans ((g1.block i (Nat.lt_of_lt_of_le hi k.size) h1).trans (k.block i hi (by omega)))⟩
theorem Own.keptB {w w' : World} {g : Nat} {xs : List Int} {p q : Option Nat} (h : Own w g xs) (k : KeptB p q w w') (h1 : some g ≠ p) (h2 : some g ≠ q) : Own w' g xs := by
  intro i hi
  obtain ⟨hc, hf⟩ := h i hi
  have e := k.block g (World.block_lt_of_cell? _ _ hc) h1 h2
  exact ⟨by rw [World.cell?_of_block (w := w) e]; exact hc, by rw [World.frozen?_of_block (w := w) e]; exact hf⟩
theorem SlotIn.keptB {w w' : World} {lo hi : Nat} {a : Option Addr} {xs : List Int} {p q : Option Nat} (h : SlotIn w lo hi a xs) (k : KeptB p q w w') (h1 : ∀ g, blk a = some g → some g ≠ p) (h2 : ∀ g, blk a = some g → some g ≠ q) : SlotIn w' lo hi a xs := by
  rcases h with h | ⟨g, ea, b0, b1, ho⟩
  · exact .inl h
  · exact .inr ⟨g, ea, b0, b1, ho.keptB k (h1 g (by rw [ea]; rfl)) (h2 g (by rw [ea]; rfl))⟩
theorem markRegs2 (w : World) (lo hi : Nat) (o pc fl mk : Int) (su tr : Bool) (a b : Option Addr) (ca cb : Nat) (xs ys : List Int) (q : Int) (ha : SlotIn w lo hi a xs) (hb : SlotIn w lo hi b ys) (hab : ∀ g, blk a = some g → blk b ≠ some g) (hh : hi ≤ w.heap.size) (lx : xs.length ≤ 2000000) (ly : ys.length ≤ 2000000) (q0 : 0 ≤ q) (q1 : q ≤ 10000000) :
    Calls Try.prog 34 #[.agg #[.slice a xs.length ca, .slice b ys.length cb, .int .i64 o, .int .i64 pc, .int .i64 fl, .int .i64 mk, .bool su, .bool tr], .int .i64 q] w fun e w' => e = .returned (.int .i64 (q + (xs.length : Int) + (ys.length : Int))) ∧ SlotIn w' lo hi a (marks q xs.length) ∧ SlotIn w' lo hi b (marks (q + (xs.length : Int)) ys.length) ∧ Kept lo hi w w' ∧ KeptB (blk a) (blk b) w w' := by
  have HA := hide ha
  have HB := hide hb
  have HAB := hide hab
  clear ha hb hab
  go_enter Try.func34, Try.ntmps34
  go_wp2_with fail
  have k0 := kept_alloc w (.cells #[.slice a xs.length ca, .slice b ys.length cb, .int .i64 o, .int .i64 pc, .int .i64 fl, .int .i64 mk, .bool su, .bool tr] 24)
  have s0 := HA.out.kept k0 (by omega)
  have t0 := HB.out.kept k0 (by omega)
  refine (markSlot _ lo ca a xs q (s0.slot (by simp; omega)) lx q0 (by omega)).mono ?_
  rintro e w1 ⟨rfl, s1, g1⟩
  have k1 := kept_row g1 s0.blk_in
  have s1' := s0.again s1
  have B0 := (Blk.new w #[.slice a xs.length ca, .slice b ys.length cb, .int .i64 o, .int .i64 pc, .int .i64 fl, .int .i64 mk, .bool su, .bool tr] 24).kept k1 (by omega)
  have c1 := B0.cell (i := 1) rfl
  have t1 : SlotIn w1 lo hi b ys := by
    rcases t0 with t | ⟨g, eb, b0, b1, ho⟩
    · exact .inl t
    · refine .inr ⟨g, eb, b0, b1, ho.kept g1 ?_⟩
      intro e
      exact HAB.out g e.symm (by rw [eb]; rfl)
  have HG1 := hide g1
  have HK0 := hide k0
  have HK1 := hide ((k0.any (lo := lo) (hi := hi)).trans k1)
  have HS1 := hide s1'
  have HT1 := hide t1
  clear k0 s0 t0 s1 g1 k1 s1' t1 B0
  go_wp2_with fail
  refine (markSlot _ lo cb b ys (q + (xs.length : Int)) (HT1.out.slot (Nat.le_trans hh HK1.out.size)) ly (by omega) (by omega)).mono ?_
  rintro e w2 ⟨rfl, s2, g2⟩
  have k2 := kept_row g2 HT1.out.blk_in
  have HS2 : Hid (SlotIn w2 lo hi a (marks q xs.length)) := hide (by
    rcases HS1.out with t | ⟨g, ea, b0, b1, ho⟩
    · exact .inl t
    · refine .inr ⟨g, ea, b0, b1, ho.kept g2 ?_⟩
      intro e
      exact HAB.out g (by rw [ea]; rfl) e.symm)
  have HT2 := hide (HT1.out.again s2)
  have HK2 := hide (HK1.out.trans k2)
  have HB2 := hide (kb_of HK0.out HG1.out g2)
  clear s2 g2 k2
  go_wp2_with fail
  go_ret
  exact ⟨rfl, HS2.out, HT2.out, HK2.out, HB2.out⟩

theorem markBus2 (w : World) (lo hi : Nat) (a b : Option Addr) (ca cb m : Nat) (xs ys : List Int) (q : Int) (ha : SlotIn w lo hi a xs) (hb : SlotIn w lo hi b ys) (hab : ∀ g, blk a = some g → blk b ≠ some g) (hh : hi ≤ w.heap.size) (lx : xs.length ≤ 2000000) (ly : ys.length = 5 * m) (bm : m ≤ 2000000) (q0 : 0 ≤ q) (q1 : q ≤ 10000000) :
    Calls Try.prog 35 #[.agg #[.slice a xs.length ca, .slice b m cb], .int .i64 q] w fun e w' => e = .returned (.int .i64 (q + (xs.length : Int) + 5 * (m : Int))) ∧ SlotIn w' lo hi a (marks q xs.length) ∧ SlotIn w' lo hi b (marks (q + (xs.length : Int)) (5 * m)) ∧ Kept lo hi w w' ∧ KeptB (blk a) (blk b) w w' := by
  have HY := hide ly
  have HA := hide ha
  have HB := hide hb
  have HAB := hide hab
  clear ly ha hb hab
  go_enter Try.func35, Try.ntmps35
  go_wp2_with fail
  have k0 := kept_alloc w (.cells #[.slice a xs.length ca, .slice b m cb] 27)
  have s0 := HA.out.kept k0 (by omega)
  have t0 := HB.out.kept k0 (by omega)
  refine (markSlot _ lo ca a xs q (s0.slot (by simp; omega)) lx q0 (by omega)).mono ?_
  rintro e w1 ⟨rfl, s1, g1⟩
  have k1 := kept_row g1 s0.blk_in
  have s1' := s0.again s1
  have B0 := (Blk.new w #[.slice a xs.length ca, .slice b m cb] 27).kept k1 (by omega)
  have c1 := B0.cell (i := 1) rfl
  have t1 : SlotIn w1 lo hi b ys := by
    rcases t0 with t | ⟨g, eb, b0, b1, ho⟩
    · exact .inl t
    · refine .inr ⟨g, eb, b0, b1, ho.kept g1 ?_⟩
      intro e
      exact HAB.out g e.symm (by rw [eb]; rfl)
  have HG1 := hide g1
  have HK0 := hide k0
  have HK1 := hide ((k0.any (lo := lo) (hi := hi)).trans k1)
  have HS1 := hide s1'
  have HT1 := hide t1
  clear k0 s0 t0 s1 g1 k1 s1' t1 B0
  go_wp2_with fail
  refine (markSlotA _ lo cb m b ys (q + (xs.length : Int)) (HT1.out.slot (Nat.le_trans hh HK1.out.size)) HY.out bm (by omega) (by omega)).mono ?_
  rintro e w2 ⟨rfl, s2, g2⟩
  have k2 := kept_row g2 HT1.out.blk_in
  have HS2 : Hid (SlotIn w2 lo hi a (marks q xs.length)) := hide (by
    rcases HS1.out with t | ⟨g, ea, b0, b1, ho⟩
    · exact .inl t
    · refine .inr ⟨g, ea, b0, b1, ho.kept g2 ?_⟩
      intro e
      exact HAB.out g (by rw [ea]; rfl) e.symm)
  have HT2 := hide (HT1.out.again s2)
  have HK2 := hide (HK1.out.trans k2)
  have HB2 := hide (kb_of HK0.out HG1.out g2)
  clear s2 g2 k2
  go_wp2_with fail
  go_ret
  exact ⟨rfl, HS2.out, HT2.out, HK2.out, HB2.out⟩

/-- a processor's four lists: each in a block of its own, of the span -/
structure CpSl (w : World) (lo hi : Nat) (c : Pl.Cp) (a b e q : Option Addr) : Prop where
  d : SlotIn w lo hi a c.r.xs
  a' : SlotIn w lo hi b c.r.ys
  b' : SlotIn w lo hi e c.bx
  l : SlotIn w lo hi q c.bl
  n1 : ∀ g, blk a = some g → blk b ≠ some g
  n2 : ∀ g, blk a = some g → blk e ≠ some g
  n3 : ∀ g, blk a = some g → blk q ≠ some g
  n4 : ∀ g, blk b = some g → blk e ≠ some g
  n5 : ∀ g, blk b = some g → blk q ≠ some g
  n6 : ∀ g, blk e = some g → blk q ≠ some g
theorem CpSl.kept {w w' : World} {l h lo hi : Nat} {c : Pl.Cp} {a b e q : Option Addr} (s : CpSl w l h c a b e q) (k : Kept lo hi w w') (hd : h ≤ lo ∨ hi ≤ l ∨ hi ≤ lo) : CpSl w' l h c a b e q :=
  ⟨s.d.kept k hd, s.a'.kept k hd, s.b'.kept k hd, s.l.kept k hd, s.n1, s.n2, s.n3, s.n4, s.n5, s.n6⟩
def szC (n m k j : Nat) (left : Int) : Int := if szB n m left < 0 then -1 else szB k j (szB n m left)
theorem szC_neg {n m k j : Nat} {left : Int} (h : ¬ szC n m k j left < 0) : (n : Int) + (m : Int) + (k : Int) + (j : Int) ≤ left := by
  unfold szC at h
  split at h
  · exact absurd (by decide) h
  · rename_i h1
    have a1 := szB_neg h1
    have a2 := szB_neg h
    unfold szB at a2
    split at a2
    · omega
    · split at a2 <;> omega
theorem szB_hi {n m : Nat} {left : Int} (h : ¬ szB n m left < 0) : 0 ≤ szB n m left ∧ szB n m left ≤ left := by
  unfold szB at h ⊢
  split
  · rename_i h1; rw [if_pos h1] at h; exact absurd (by decide) h
  · rename_i h1
    rw [if_neg h1] at h
    split
    · rename_i h2; rw [if_pos h2] at h; exact absurd (by decide) h
    · omega
theorem szB_minus {n m : Nat} {left : Int} (h : szB n m left < 0) : szB n m left = -1 := by
  unfold szB at h ⊢
  split
  · rfl
  · rename_i h1
    rw [if_neg h1] at h
    split
    · rfl
    · rename_i h2; rw [if_neg h2] at h; omega
theorem szCpu (w : World) (c : Pl.Cp) (a b e q : Option Addr) (ca cb ce cq : Nat) (left : Int) (lx : c.r.xs.length ≤ 9223372036854775807) (ly : c.r.ys.length ≤ 9223372036854775807) (lb : c.bx.length ≤ 9223372036854775807) (lm : c.bm ≤ 9223372036854775807) (l0 : 0 ≤ left) (l1 : left ≤ 2000000) :
    Calls Try.prog 16 #[.agg #[.slice a c.r.xs.length ca, .slice b c.r.ys.length cb, .int .i64 c.r.o, .int .i64 c.r.p, .int .i64 c.r.f, .int .i64 c.r.m, .bool c.r.s, .bool c.r.t, .slice e c.bx.length ce, .slice q c.bm cq, .bool c.st, .bool c.ha], .int .i64 left] w fun r w' => r = .returned (.int .i64 (szC c.r.xs.length c.r.ys.length c.bx.length c.bm left)) ∧ Kept 0 0 w w' := by
  have K0 := hide (kept_alloc w (.cells #[.slice a c.r.xs.length ca, .slice b c.r.ys.length cb, .int .i64 c.r.o, .int .i64 c.r.p, .int .i64 c.r.f, .int .i64 c.r.m, .bool c.r.s, .bool c.r.t, .slice e c.bx.length ce, .slice q c.bm cq, .bool c.st, .bool c.ha] 43))
  have B0 := hide (Blk.new w #[.slice a c.r.xs.length ca, .slice b c.r.ys.length cb, .int .i64 c.r.o, .int .i64 c.r.p, .int .i64 c.r.f, .int .i64 c.r.m, .bool c.r.s, .bool c.r.t, .slice e c.bx.length ce, .slice q c.bm cq, .bool c.st, .bool c.ha] 43)
  by_cases h : szB c.r.xs.length c.r.ys.length left < 0
  · have E : Hid (szC c.r.xs.length c.r.ys.length c.bx.length c.bm left = -1) := hide (by simp [szC, h])
    have e1 := szB_minus h
    go_enter Try.func16, Try.ntmps16
    go_wp2_with fail
    refine (szRegs _ _ _ _ _ _ _ _ _ _ _ _ _ left lx ly l0 l1).mono ?_
    rintro e9 w1 ⟨rfl, k⟩
    rw [e1]
    have HK := hide (K0.out.trans k)
    clear k
    go_wp2_with fail
    go_ret
    exact ⟨rI E.out.symm, HK.out⟩
  · obtain ⟨s0, s1⟩ := szB_hi h
    have E : Hid (szC c.r.xs.length c.r.ys.length c.bx.length c.bm left = szB c.bx.length c.bm (szB c.r.xs.length c.r.ys.length left)) := hide (by simp [szC, h])
    revert h s0 s1 E
    generalize hS : szB c.r.xs.length c.r.ys.length left = S
    have HS := hide hS
    clear hS
    intro h s0 s1 E
    by_cases h2 : szB c.bx.length c.bm S < 0
    all_goals
      have E2 := hide (fun q => @szB_minus c.bx.length c.bm S q)
      go_enter Try.func16, Try.ntmps16
      go_wp2_with fail
      refine (szRegs _ _ _ _ _ _ _ _ _ _ _ _ _ left lx ly l0 l1).mono ?_
      rintro e9 w1 ⟨rfl, k⟩
      rw [HS.out]
      have HK := hide (K0.out.trans k)
      have B1 := hide (B0.out.kept0 k)
      clear k
      have i8 := B1.out.cell (i := 8) rfl
      have i9 := B1.out.cell (i := 9) rfl
      go_wp2_with fail
      refine (szBus _ _ _ _ _ _ _ S lb lm s0 (by omega)).mono ?_
      rintro e9 w2 ⟨rfl, k⟩
      have HK2 := hide (HK.out.trans k)
      clear k i8 i9
      go_wp2_with fail
      go_ret
      first
        | exact ⟨rI E.out.symm, HK2.out⟩
        | exact ⟨rI (by rw [E.out, E2.out h2]), HK2.out⟩
set_option maxHeartbeats 4000000 in
theorem eqCpu (w : World) (c : Pl.Cp) (a b e q a2 b2 e2 q2 : Option Addr) (ca cb ce cq ca2 cb2 ce2 cq2 : Nat) (ha : IRow w a c.r.xs) (hb : IRow w b c.r.ys) (he : IRow w e c.bx) (hq : IRow w q c.bl) (ha2 : IRow w a2 c.r.xs) (hb2 : IRow w b2 c.r.ys) (he2 : IRow w e2 c.bx) (hq2 : IRow w q2 c.bl) (lx : c.r.xs.length ≤ 2000000) (ly : c.r.ys.length ≤ 2000000) (lb : c.bx.length ≤ 2000000) (ll : c.bl.length = 5 * c.bm) (lm : c.bm ≤ 2000000) :
    Calls Try.prog 11 #[.agg #[.slice a c.r.xs.length ca, .slice b c.r.ys.length cb, .int .i64 c.r.o, .int .i64 c.r.p, .int .i64 c.r.f, .int .i64 c.r.m, .bool c.r.s, .bool c.r.t, .slice e c.bx.length ce, .slice q c.bm cq, .bool c.st, .bool c.ha], .agg #[.slice a2 c.r.xs.length ca2, .slice b2 c.r.ys.length cb2, .int .i64 c.r.o, .int .i64 c.r.p, .int .i64 c.r.f, .int .i64 c.r.m, .bool c.r.s, .bool c.r.t, .slice e2 c.bx.length ce2, .slice q2 c.bm cq2, .bool c.st, .bool c.ha]] w fun r w' => r = .returned (.bool true) ∧ Kept 0 0 w w' := by
  have K0 := hide (kept_new (kept_alloc w (.cells #[.slice a c.r.xs.length ca, .slice b c.r.ys.length cb, .int .i64 c.r.o, .int .i64 c.r.p, .int .i64 c.r.f, .int .i64 c.r.m, .bool c.r.s, .bool c.r.t, .slice e c.bx.length ce, .slice q c.bm cq, .bool c.st, .bool c.ha] 29)) (.cells #[.slice a2 c.r.xs.length ca2, .slice b2 c.r.ys.length cb2, .int .i64 c.r.o, .int .i64 c.r.p, .int .i64 c.r.f, .int .i64 c.r.m, .bool c.r.s, .bool c.r.t, .slice e2 c.bx.length ce2, .slice q2 c.bm cq2, .bool c.st, .bool c.ha] 29))
  have B0 := (Blk.new w #[.slice a c.r.xs.length ca, .slice b c.r.ys.length cb, .int .i64 c.r.o, .int .i64 c.r.p, .int .i64 c.r.f, .int .i64 c.r.m, .bool c.r.s, .bool c.r.t, .slice e c.bx.length ce, .slice q c.bm cq, .bool c.st, .bool c.ha] 29).alloc (.cells #[.slice a2 c.r.xs.length ca2, .slice b2 c.r.ys.length cb2, .int .i64 c.r.o, .int .i64 c.r.p, .int .i64 c.r.f, .int .i64 c.r.m, .bool c.r.s, .bool c.r.t, .slice e2 c.bx.length ce2, .slice q2 c.bm cq2, .bool c.st, .bool c.ha] 29)
  have B1 := Blk.new (w.alloc (.cells #[.slice a c.r.xs.length ca, .slice b c.r.ys.length cb, .int .i64 c.r.o, .int .i64 c.r.p, .int .i64 c.r.f, .int .i64 c.r.m, .bool c.r.s, .bool c.r.t, .slice e c.bx.length ce, .slice q c.bm cq, .bool c.st, .bool c.ha] 29)) #[.slice a2 c.r.xs.length ca2, .slice b2 c.r.ys.length cb2, .int .i64 c.r.o, .int .i64 c.r.p, .int .i64 c.r.f, .int .i64 c.r.m, .bool c.r.s, .bool c.r.t, .slice e2 c.bx.length ce2, .slice q2 c.bm cq2, .bool c.st, .bool c.ha] 29
  simp only [World.size_alloc] at B1
  obtain ⟨X, hX⟩ : ∃ X : World, (w.alloc (.cells #[.slice a c.r.xs.length ca, .slice b c.r.ys.length cb, .int .i64 c.r.o, .int .i64 c.r.p, .int .i64 c.r.f, .int .i64 c.r.m, .bool c.r.s, .bool c.r.t, .slice e c.bx.length ce, .slice q c.bm cq, .bool c.st, .bool c.ha] 29)).alloc (.cells #[.slice a2 c.r.xs.length ca2, .slice b2 c.r.ys.length cb2, .int .i64 c.r.o, .int .i64 c.r.p, .int .i64 c.r.f, .int .i64 c.r.m, .bool c.r.s, .bool c.r.t, .slice e2 c.bx.length ce2, .slice q2 c.bm cq2, .bool c.st, .bool c.ha] 29) = X := ⟨_, rfl⟩
  rw [hX] at K0 B0 B1
  have HB0 := hide B0
  have HB1 := hide B1
  have i0 := B0.cell (i := 0) rfl
  have i1 := B0.cell (i := 1) rfl
  have i2 := B0.cell (i := 2) rfl
  have i3 := B0.cell (i := 3) rfl
  have i4 := B0.cell (i := 4) rfl
  have i5 := B0.cell (i := 5) rfl
  have i6 := B0.cell (i := 6) rfl
  have i7 := B0.cell (i := 7) rfl
  have i8 := B0.cell (i := 8) rfl
  have i9 := B0.cell (i := 9) rfl
  have i10 := B0.cell (i := 10) rfl
  have i11 := B0.cell (i := 11) rfl
  have j0 := B1.cell (i := 0) rfl
  have j1 := B1.cell (i := 1) rfl
  have j2 := B1.cell (i := 2) rfl
  have j3 := B1.cell (i := 3) rfl
  have j4 := B1.cell (i := 4) rfl
  have j5 := B1.cell (i := 5) rfl
  have j6 := B1.cell (i := 6) rfl
  have j7 := B1.cell (i := 7) rfl
  have j8 := B1.cell (i := 8) rfl
  have j9 := B1.cell (i := 9) rfl
  have j10 := B1.cell (i := 10) rfl
  have j11 := B1.cell (i := 11) rfl
  have HL := hide ll
  have HE := hide (he.keptS K0.out)
  have HQ := hide (hq.keptS K0.out)
  have HE2 := hide (he2.keptS K0.out)
  have HQ2 := hide (hq2.keptS K0.out)
  have HA := hide (ha.keptS K0.out)
  have HB := hide (hb.keptS K0.out)
  have HA2 := hide (ha2.keptS K0.out)
  have HBB2 := hide (hb2.keptS K0.out)
  clear B0 B1 ll ha hb he hq ha2 hb2 he2 hq2
  go_enter Try.func11, Try.ntmps11
  go_wp2_with fail
  refine (eqRegs _ c.r.o c.r.p c.r.f c.r.m c.r.s c.r.t a b a2 b2 ca cb ca2 cb2 c.r.xs c.r.ys HA.out HB.out HA2.out HBB2.out lx ly).mono ?_
  rintro e9 w1 ⟨rfl, k⟩
  have K1 := hide (K0.out.trans k)
  have C0 := hide (HB0.out.kept0 k)
  have C1 := hide (HB1.out.kept0 k)
  have HE' := hide (HE.out.keptS k)
  have HQ' := hide (HQ.out.keptS k)
  have HE2' := hide (HE2.out.keptS k)
  have HQ2' := hide (HQ2.out.keptS k)
  clear k i0 j0 i1 j1 i2 j2 i3 j3 i4 j4 i5 j5 i6 j6 i7 j7 i8 j8 i9 j9 i10 j10 i11 j11
  have i8 := C0.out.cell (i := 8) rfl
  have i9 := C0.out.cell (i := 9) rfl
  have i10 := C0.out.cell (i := 10) rfl
  have i11 := C0.out.cell (i := 11) rfl
  have j8 := C1.out.cell (i := 8) rfl
  have j9 := C1.out.cell (i := 9) rfl
  have j10 := C1.out.cell (i := 10) rfl
  have j11 := C1.out.cell (i := 11) rfl
  go_wp2_with fail
  refine (eqBus _ e q e2 q2 ce cq ce2 cq2 c.bm c.bm c.bx c.bl c.bx c.bl HE'.out HQ'.out HE2'.out HQ2'.out lb lb HL.out HL.out lm lm).mono ?_
  rintro e9 w2 ⟨rfl, k⟩
  rw [show (decide (c.bx = c.bx) && decide (c.bl = c.bl)) = true from by simp]
  have K2 := hide (K1.out.trans k)
  have D0 := hide (C0.out.kept0 k)
  have D1 := hide (C1.out.kept0 k)
  clear k i8 i9 i10 i11 j8 j9 j10 j11
  have i10 := D0.out.cell (i := 10) rfl
  have i11 := D0.out.cell (i := 11) rfl
  have j10 := D1.out.cell (i := 10) rfl
  have j11 := D1.out.cell (i := 11) rfl
  go_wp2_with fail
  go_ret
  exact ⟨rfl, K2.out⟩
/-- a processor whose lists hold marks from k on -/
def Pl.mkC (c : Pl.Cp) (k : Int) : Pl.Cp := { c with r := { c.r with xs := marks k c.r.xs.length, ys := marks (k + (c.r.xs.length : Int)) c.r.ys.length }, bx := marks (k + (c.r.xs.length : Int) + (c.r.ys.length : Int)) c.bx.length, bl := marks (k + (c.r.xs.length : Int) + (c.r.ys.length : Int) + (c.bx.length : Int)) (5 * c.bm) }
def Pl.mkN (c : Pl.Cp) (k : Int) : Int := k + (c.r.xs.length : Int) + (c.r.ys.length : Int) + (c.bx.length : Int) + 5 * (c.bm : Int)
set_option maxHeartbeats 4000000 in
theorem markCpu (w : World) (lo hi : Nat) (c : Pl.Cp) (a b e q : Option Addr) (ca cb ce cq : Nat) (hs : CpSl w lo hi c a b e q) (hh : hi ≤ w.heap.size) (lx : c.r.xs.length ≤ 2000000) (ly : c.r.ys.length ≤ 2000000) (lb : c.bx.length ≤ 2000000) (ll : c.bl.length = 5 * c.bm) (lm : c.bm ≤ 2000000) :
    Calls Try.prog 14 #[.agg #[.slice a c.r.xs.length ca, .slice b c.r.ys.length cb, .int .i64 c.r.o, .int .i64 c.r.p, .int .i64 c.r.f, .int .i64 c.r.m, .bool c.r.s, .bool c.r.t, .slice e c.bx.length ce, .slice q c.bm cq, .bool c.st, .bool c.ha], .int .i64 1] w fun r w' => r = .returned (.int .i64 (Pl.mkN c 1)) ∧ CpSl w' lo hi (Pl.mkC c 1) a b e q ∧ Kept lo hi w w' := by
  have E : Hid (Pl.mkN c 1 = 1 + (c.r.xs.length : Int) + (c.r.ys.length : Int) + (c.bx.length : Int) + 5 * (c.bm : Int)) := hide rfl
  have K0 := hide (kept_alloc w (.cells #[.slice a c.r.xs.length ca, .slice b c.r.ys.length cb, .int .i64 c.r.o, .int .i64 c.r.p, .int .i64 c.r.f, .int .i64 c.r.m, .bool c.r.s, .bool c.r.t, .slice e c.bx.length ce, .slice q c.bm cq, .bool c.st, .bool c.ha] 29))
  have B0 := Blk.new w #[.slice a c.r.xs.length ca, .slice b c.r.ys.length cb, .int .i64 c.r.o, .int .i64 c.r.p, .int .i64 c.r.f, .int .i64 c.r.m, .bool c.r.s, .bool c.r.t, .slice e c.bx.length ce, .slice q c.bm cq, .bool c.st, .bool c.ha] 29
  have HS := hide (hs.kept K0.out (by omega))
  have hsz : hi ≤ (w.alloc (.cells #[.slice a c.r.xs.length ca, .slice b c.r.ys.length cb, .int .i64 c.r.o, .int .i64 c.r.p, .int .i64 c.r.f, .int .i64 c.r.m, .bool c.r.s, .bool c.r.t, .slice e c.bx.length ce, .slice q c.bm cq, .bool c.st, .bool c.ha] 29)).heap.size := by simp; omega
  obtain ⟨X, hX⟩ : ∃ X : World, w.alloc (.cells #[.slice a c.r.xs.length ca, .slice b c.r.ys.length cb, .int .i64 c.r.o, .int .i64 c.r.p, .int .i64 c.r.f, .int .i64 c.r.m, .bool c.r.s, .bool c.r.t, .slice e c.bx.length ce, .slice q c.bm cq, .bool c.st, .bool c.ha] 29) = X := ⟨_, rfl⟩
  rw [hX] at K0 B0 HS hsz
  have HB0 := hide B0
  have i0 := B0.cell (i := 0) rfl
  have i1 := B0.cell (i := 1) rfl
  have i2 := B0.cell (i := 2) rfl
  have i3 := B0.cell (i := 3) rfl
  have i4 := B0.cell (i := 4) rfl
  have i5 := B0.cell (i := 5) rfl
  have i6 := B0.cell (i := 6) rfl
  have i7 := B0.cell (i := 7) rfl
  have i8 := B0.cell (i := 8) rfl
  have i9 := B0.cell (i := 9) rfl
  have i10 := B0.cell (i := 10) rfl
  have i11 := B0.cell (i := 11) rfl
  have HL := hide ll
  clear B0 ll hs
  go_enter Try.func14, Try.ntmps14
  go_wp2_with fail
  refine (markRegs2 _ lo hi c.r.o c.r.p c.r.f c.r.m c.r.s c.r.t a b ca cb c.r.xs c.r.ys 1 HS.out.d HS.out.a' HS.out.n1 hsz (by omega) (by omega) (by decide) (by decide)).mono ?_
  rintro e9 w1 ⟨rfl, s1, s2, k, kb⟩
  have K1 := hide ((K0.out.any (lo := lo) (hi := hi)).trans k)
  have C0 := hide (HB0.out.kept k (by omega))
  have HM1 := hide s1
  have HM2 := hide s2
  have HE := hide (HS.out.b'.keptB kb (fun g h1 h2 => HS.out.n2 g h2.symm h1) (fun g h1 h2 => HS.out.n4 g h2.symm h1))
  have HQ := hide (HS.out.l.keptB kb (fun g h1 h2 => HS.out.n3 g h2.symm h1) (fun g h1 h2 => HS.out.n5 g h2.symm h1))
  have hz1 := k.size
  clear k kb s1 s2 i0 i1 i2 i3 i4 i5 i6 i7 i8 i9 i10 i11
  have i8 := C0.out.cell (i := 8) rfl
  have i9 := C0.out.cell (i := 9) rfl
  go_wp2_with fail
  refine (markBus2 _ lo hi e q ce cq c.bm c.bx c.bl (1 + (c.r.xs.length : Int) + (c.r.ys.length : Int)) HE.out HQ.out HS.out.n6 (by omega) lb HL.out lm (by omega) (by omega)).mono ?_
  rintro e9 w2 ⟨rfl, s3, s4, k, kb⟩
  have K2 := hide (K1.out.trans k)
  have HM3 := hide s3
  have HM4 := hide s4
  have HN1 := hide (HM1.out.keptB kb (fun g h1 h2 => HS.out.n2 g h1 h2.symm) (fun g h1 h2 => HS.out.n3 g h1 h2.symm))
  have HN2 := hide (HM2.out.keptB kb (fun g h1 h2 => HS.out.n4 g h1 h2.symm) (fun g h1 h2 => HS.out.n5 g h1 h2.symm))
  clear k kb s3 s4 i8 i9
  go_wp2_with fail
  go_ret
  exact ⟨rI E.out.symm, ⟨HN1.out, HN2.out, HM3.out, HM4.out, HS.out.n1, HS.out.n2, HS.out.n3, HS.out.n4, HS.out.n5, HS.out.n6⟩, K2.out⟩
set_option maxHeartbeats 4000000 in
theorem heldCpu (w : World) (c : Pl.Cp) (a b e q : Option Addr) (ca cb ce cq : Nat) (ha : IRow w a (Pl.mkC c 1).r.xs) (hb : IRow w b (Pl.mkC c 1).r.ys) (he : IRow w e (Pl.mkC c 1).bx) (hq : IRow w q (Pl.mkC c 1).bl) (lx : c.r.xs.length ≤ 400000) (ly : c.r.ys.length ≤ 400000) (lb : c.bx.length ≤ 2000000) (lm : c.bm ≤ 2000000) :
    Calls Try.prog 15 #[.agg #[.slice a c.r.xs.length ca, .slice b c.r.ys.length cb, .int .i64 c.r.o, .int .i64 c.r.p, .int .i64 c.r.f, .int .i64 c.r.m, .bool c.r.s, .bool c.r.t, .slice e c.bx.length ce, .slice q c.bm cq, .bool c.st, .bool c.ha], .int .i64 1] w fun r w' => r = .returned (.int .i64 (Pl.mkN c 1)) ∧ Kept 0 0 w w' := by
  have E : Hid (Pl.mkN c 1 = 1 + (c.r.xs.length : Int) + (c.r.ys.length : Int) + (c.bx.length : Int) + 5 * (c.bm : Int)) := hide rfl
  have K0 := hide (kept_alloc w (.cells #[.slice a c.r.xs.length ca, .slice b c.r.ys.length cb, .int .i64 c.r.o, .int .i64 c.r.p, .int .i64 c.r.f, .int .i64 c.r.m, .bool c.r.s, .bool c.r.t, .slice e c.bx.length ce, .slice q c.bm cq, .bool c.st, .bool c.ha] 29))
  have B0 := Blk.new w #[.slice a c.r.xs.length ca, .slice b c.r.ys.length cb, .int .i64 c.r.o, .int .i64 c.r.p, .int .i64 c.r.f, .int .i64 c.r.m, .bool c.r.s, .bool c.r.t, .slice e c.bx.length ce, .slice q c.bm cq, .bool c.st, .bool c.ha] 29
  have HA := hide (ha.keptS K0.out)
  have HB := hide (hb.keptS K0.out)
  have HE := hide (he.keptS K0.out)
  have HQ := hide (hq.keptS K0.out)
  obtain ⟨X, hX⟩ : ∃ X : World, w.alloc (.cells #[.slice a c.r.xs.length ca, .slice b c.r.ys.length cb, .int .i64 c.r.o, .int .i64 c.r.p, .int .i64 c.r.f, .int .i64 c.r.m, .bool c.r.s, .bool c.r.t, .slice e c.bx.length ce, .slice q c.bm cq, .bool c.st, .bool c.ha] 29) = X := ⟨_, rfl⟩
  rw [hX] at K0 B0 HA HB HE HQ
  have HB0 := hide B0
  have i0 := B0.cell (i := 0) rfl
  have i1 := B0.cell (i := 1) rfl
  have i2 := B0.cell (i := 2) rfl
  have i3 := B0.cell (i := 3) rfl
  have i4 := B0.cell (i := 4) rfl
  have i5 := B0.cell (i := 5) rfl
  have i6 := B0.cell (i := 6) rfl
  have i7 := B0.cell (i := 7) rfl
  have i8 := B0.cell (i := 8) rfl
  have i9 := B0.cell (i := 9) rfl
  have i10 := B0.cell (i := 10) rfl
  have i11 := B0.cell (i := 11) rfl
  clear B0 ha hb he hq
  go_enter Try.func15, Try.ntmps15
  go_wp2_with fail
  refine (heldRegs _ c.r.o c.r.p c.r.f c.r.m c.r.s c.r.t a b ca cb c.r.xs.length c.r.ys.length 1 HA.out HB.out (by omega) (by omega) (by decide) (by decide)).mono ?_
  rintro e9 w1 ⟨rfl, k⟩
  have K1 := hide (K0.out.trans k)
  have C0 := hide (HB0.out.kept0 k)
  have HE' := hide (HE.out.keptS k)
  have HQ' := hide (HQ.out.keptS k)
  clear k i0 i1 i2 i3 i4 i5 i6 i7 i8 i9 i10 i11
  have i8 := C0.out.cell (i := 8) rfl
  have i9 := C0.out.cell (i := 9) rfl
  go_wp2_with fail
  refine (heldBus _ e q ce cq c.bx.length c.bm (1 + (c.r.xs.length : Int) + (c.r.ys.length : Int)) HE'.out HQ'.out lb lm (by omega) (by omega)).mono ?_
  rintro e9 w2 ⟨rfl, k⟩
  have K2 := hide (K1.out.trans k)
  clear k i8 i9
  go_wp2_with fail
  go_ret
  exact ⟨rI E.out.symm, K2.out⟩
end Go.Proofs.Ytblddehlkaolbaa

