/- What the program's functions of an access answer: its code; a value laid into the bytes. -/
import Derived.Test.YtbkafdphagmgpaaTouchPl
import Derived.Deep.RegionHeld3
import Derived.Deep.MidRow
namespace Go.Proofs.Ytbkafdphagmgpaa
open Go.RowKit
set_option linter.unusedVariables false

theorem codeOf (k s a v c : Int) (w : World) (hs : s = 1 ∨ s = 2) (a0 : 0 ≤ a) (a1 : a ≤ 65535) :
    Calls Try.prog 68 #[.agg #[.int .i64 k, .int .i64 s, .int .i64 a, .int .i64 v, .int .i64 c]] w fun e w' => e = .returned (.int .i64 (Pl.code k s a)) ∧ ∃ o, w' = w.alloc o := by
  have G : Hid (Pl.code k s a = if ((s == 2) && decide (a % 2 = 1)) then 2 else if ((Pl.kind a == 3) && (k != 2)) then 0 else Pl.kind a) := hide (by
    rw [Pl.code_part hs]
    simp only [Bool.and_eq_true, beq_iff_eq, decide_eq_true_eq, bne_iff_ne, ne_eq])
  cases h1 : (s == 2)
  · cases h3 : (Pl.kind a == 3)
    · rw [h1, h3] at G
      go_enter Try.func68, Try.ntmps68
      go_wp2_with (first | (go_at_call 55; refine (isOdd _ _ a0 a1).mono ?_; rintro e w' ⟨rfl, rfl⟩) | (go_at_call 56; refine (partOf _ _).mono ?_; rintro e w' ⟨rfl, rfl⟩))
      go_ret
      exact ⟨rI (by rw [G.out]; simp), _, rfl⟩
    · cases h4 : (k != 2)
      all_goals
        rw [h1, h3, h4] at G
        go_enter Try.func68, Try.ntmps68
        go_wp2_with (first | (go_at_call 55; refine (isOdd _ _ a0 a1).mono ?_; rintro e w' ⟨rfl, rfl⟩) | (go_at_call 56; refine (partOf _ _).mono ?_; rintro e w' ⟨rfl, rfl⟩))
        go_ret
        exact ⟨rI (by rw [G.out]; simp), _, rfl⟩
  · cases h2 : decide (a % 2 = 1)
    · cases h3 : (Pl.kind a == 3)
      · rw [h1, h2, h3] at G
        go_enter Try.func68, Try.ntmps68
        go_wp2_with (first | (go_at_call 55; refine (isOdd _ _ a0 a1).mono ?_; rintro e w' ⟨rfl, rfl⟩; rw [h2]) | (go_at_call 56; refine (partOf _ _).mono ?_; rintro e w' ⟨rfl, rfl⟩))
        go_ret
        exact ⟨rI (by rw [G.out]; simp), _, rfl⟩
      · cases h4 : (k != 2)
        all_goals
          rw [h1, h2, h3, h4] at G
          go_enter Try.func68, Try.ntmps68
          go_wp2_with (first | (go_at_call 55; refine (isOdd _ _ a0 a1).mono ?_; rintro e w' ⟨rfl, rfl⟩; rw [h2]) | (go_at_call 56; refine (partOf _ _).mono ?_; rintro e w' ⟨rfl, rfl⟩))
          go_ret
          exact ⟨rI (by rw [G.out]; simp), _, rfl⟩
    · rw [h1, h2] at G
      go_enter Try.func68, Try.ntmps68
      go_wp2_with (first | (go_at_call 55; refine (isOdd _ _ a0 a1).mono ?_; rintro e w' ⟨rfl, rfl⟩; rw [h2]) | (go_at_call 56; refine (partOf _ _).mono ?_; rintro e w' ⟨rfl, rfl⟩))
      go_ret
      exact ⟨rI (by rw [G.out]; simp), _, rfl⟩

/-- a board's cells: 512 bytes and the log -/
def brd (xs : List Int) (u : Value) : Array Value := (cellsOf xs).push u
theorem brd_at {xs : List Int} {u : Value} {i : Nat} (hi : i < xs.length) : (brd xs u)[i]? = some (.int .i64 (el xs i)) := by
  simp [brd, cellsOf, el, hi]
  rw [List.getElem?_append_left (by simpa using hi)]
  simp [hi]
theorem brd_log {xs : List Int} {u : Value} (hl : xs.length = 512) : (brd xs u)[512]? = some u := by
  simp [brd, cellsOf, hl]
theorem brd_set {xs : List Int} {u : Value} {i : Nat} {z : Int} (hi : i < xs.length) : (brd xs u).setIfInBounds i (.int .i64 z) = brd (xs.set i z) u := by
  apply Array.ext_getElem?
  intro j
  simp only [brd, cellsOf, Array.getElem?_setIfInBounds, Array.getElem?_push, List.getElem?_toArray, List.getElem?_map, List.getElem?_set]
  simp
  by_cases e : i = j
  · subst e
    simp [hi, show ¬ i = xs.length by omega, show i < xs.length + 1 by omega]
  · simp [e]
theorem Blk.setB {w : World} {b : Nat} {xs : List Int} {u : Value} {ty : TypeId} (h : Blk w b (brd xs u) ty) {i : Nat} (hi : i < xs.length) (z : Int) : Blk (w.setCell ⟨b, i, none⟩ (.int .i64 z)) b (brd (xs.set i z) u) ty := by
  have := h.set i (.int .i64 z)
  rwa [brd_set hi] at this

set_option maxHeartbeats 4000000 in
theorem memWrite1 (w : World) (b : Nat) (u : Value) (ty : TypeId) (xs : List Int) (n : Nat) (v : Int) (hB : Blk w b (brd xs u) ty) (lx : xs.length = 512) (hn : n + 1 ≤ 512) (v0 : 0 ≤ v) (v1 : v ≤ 255) :
    Calls Try.prog 72 #[.pointer (some ⟨b, 0, none⟩), .int .i64 1, .int .i64 n, .int .i64 v] w fun e w' => e = .returned (.tuple #[]) ∧ Blk w' b (brd (xs.set n v) u) ty ∧ Kept b (b + 1) w w' := by
  have HB := hide hB
  have LX := hide lx
  have c0 := hB.cell (brd_at (u := u) (i := n) (by omega))
  have f0 := hB.frozen n
  have e255 := Pl.and255 v
  have e0 : v % 256 = v := by omega
  rw [e0] at e255
  have i0 : (0 : Int) ≤ (n : Int) := by omega
  have i1 : (n : Int) < 512 := by omega
  clear hB lx e0
  go_enter Try.func72, Try.ntmps72
  go_wp2_with fail
  go_loopw [3, 8] (fun x i wr => (i = .int .i64 n ∧ x = .int .i64 v ∧ wr = w) ∨ (i = .int .i64 ((n : Int) - 1) ∧ Blk wr b (brd (xs.set n v) u) ty ∧ Kept b (b + 1) w wr)) (fun _ i _ => (intOf i - n + 1).toNat)
  case atStart => exact .inl ⟨by go_num, rfl, rfl⟩
  case round =>
    rcases hrel with ⟨rfl, rfl, rfl⟩ | ⟨rfl, hb, hk⟩
    · go_wp2
      go_roundw
      case rel => exact .inr ⟨rfl, HB.out.setB (by rw [LX.out]; omega) v, kept_set (Kept.refl _ _ _) _ _ _ (.inl (by omega))⟩
      case measure => simp [intOf]; omega
    · have HB2 := hide hb
      have HK2 := hide hk
      clear hb hk
      have hd : decide ((n : Int) ≤ (n : Int) - 1) = false := by simp; omega
      go_wp2
      go_end0
      exact ⟨rfl, HB2.out, HK2.out⟩

set_option maxRecDepth 100000 in
set_option maxHeartbeats 4000000 in
theorem memWrite2 (w : World) (b : Nat) (u : Value) (ty : TypeId) (xs : List Int) (n : Nat) (v : Int) (hB : Blk w b (brd xs u) ty) (lx : xs.length = 512) (hn : n + 2 ≤ 512) (v0 : 0 ≤ v) (v1 : v ≤ 65535) :
    Calls Try.prog 72 #[.pointer (some ⟨b, 0, none⟩), .int .i64 2, .int .i64 n, .int .i64 v] w fun e w' => e = .returned (.tuple #[]) ∧ Blk w' b (brd ((xs.set n (v / 256)).set (n + 1) (v % 256)) u) ty ∧ Kept b (b + 1) w w' := by
  have HB := hide hB
  have LX := hide lx
  have c1 := hB.cell (brd_at (u := u) (i := n + 1) (by omega))
  have f1 := hB.frozen (n + 1)
  have e255 := Pl.and255 v
  have e256 := Pl.and255 (v / 256)
  have e0 : v / 256 % 256 = v / 256 := by omega
  rw [e0] at e256
  have i0 : (0 : Int) ≤ (n : Int) := by omega
  have i1 : (n : Int) + 1 < 512 := by omega
  have i2 : (0 : Int) ≤ (n : Int) + 1 := by omega
  have i3 : (n : Int) < 512 := by omega
  clear hB lx e0
  go_enter Try.func72, Try.ntmps72
  go_wp2_with fail
  go_loopw [3, 8] (fun x i wr => (i = .int .i64 ((n : Int) + 1) ∧ x = .int .i64 v ∧ wr = w) ∨ (i = .int .i64 n ∧ x = .int .i64 (v / 256) ∧ Blk wr b (brd (xs.set (n + 1) (v % 256)) u) ty ∧ Kept b (b + 1) w wr) ∨ (i = .int .i64 ((n : Int) - 1) ∧ Blk wr b (brd ((xs.set (n + 1) (v % 256)).set n (v / 256)) u) ty ∧ Kept b (b + 1) w wr)) (fun _ i _ => (intOf i - n + 1).toNat)
  case atStart => exact .inl ⟨by go_num, rfl, rfl⟩
  case round =>
    rcases hrel with ⟨rfl, rfl, rfl⟩ | ⟨rfl, rfl, hb, hk⟩ | ⟨rfl, hb, hk⟩
    · go_wp2
      go_roundw
      case rel => exact .inr (.inl ⟨by go_num, by go_num, HB.out.setB (by rw [LX.out]; omega) _, kept_set (Kept.refl _ _ _) _ _ _ (.inl (by omega))⟩)
      case measure => simp [intOf]; omega
    · have HB2 := hide hb
      have HK2 := hide hk
      have c0 := hb.cell (brd_at (u := u) (i := n) (by rw [List.length_set, LX.out]; omega))
      have f0 := hb.frozen n
      clear hb hk c1 f1
      go_wp2
      go_roundw
      case rel => exact .inr (.inr ⟨rfl, HB2.out.setB (by rw [List.length_set, LX.out]; omega) _, kept_set HK2.out _ _ _ (.inl (by omega))⟩)
      case measure => simp [intOf]; omega
    · have HB2 := hide hb
      have HK2 := hide hk
      clear hb hk
      have hd : decide ((n : Int) ≤ (n : Int) - 1) = false := by simp; omega
      go_wp2
      go_end0
      refine ⟨rfl, ?_, HK2.out⟩
      have h := HB2.out
      rw [List.set_comm _ _ (by omega)] at h
      exact h

theorem memWrite (w : World) (b : Nat) (u : Value) (ty : TypeId) (xs : List Int) (s : Int) (n : Nat) (v : Int) (hB : Blk w b (brd xs u) ty) (lx : xs.length = 512) (hs : (s = 1 ∧ v ≤ 255) ∨ (s = 2 ∧ v ≤ 65535)) (hn : (n : Int) + s ≤ 512) (v0 : 0 ≤ v) :
    Calls Try.prog 72 #[.pointer (some ⟨b, 0, none⟩), .int .i64 s, .int .i64 n, .int .i64 v] w fun e w' => e = .returned (.tuple #[]) ∧ Blk w' b (brd (Pl.wr xs s n v) u) ty ∧ Kept b (b + 1) w w' := by
  rcases hs with ⟨rfl, hv⟩ | ⟨rfl, hv⟩
  · exact memWrite1 w b u ty xs n v hB lx (by omega) v0 hv
  · exact memWrite2 w b u ty xs n v hB lx (by omega) v0 hv
theorem memReadI (w : World) (xs : List Int) (s : Int) (n : Nat) (lx : xs.length = 512) (hb : Pl.bytesOk xs = true) (hs : s = 1 ∨ s = 2) (hn : (n : Int) + s ≤ 512) :
    Calls Try.prog 58 #[.agg (cellsOf xs), .int .i64 s, .int .i64 n] w fun e w' => e = .returned (.int .i64 (Pl.rd xs s n)) ∧ Kept 0 0 w w' := by
  rcases hs with rfl | rfl
  · exact memRead w xs 1 n lx hb (by decide) (by decide) (by omega)
  · exact memRead w xs 2 n lx hb (by decide) (by decide) (by omega)
end Go.Proofs.Ytbkafdphagmgpaa
