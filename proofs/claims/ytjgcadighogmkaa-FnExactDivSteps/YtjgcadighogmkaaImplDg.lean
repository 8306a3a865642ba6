/- The program's iterators over a word's digits: what each gives. -/
import Derived.Test.YtjgcadighogmkaaRngLaw
import Derived.Test.YtjgcadighogmkaaSpecBooth
namespace Go.Proofs.Ytjgcadighogmkaa
open Go.RowKit Go.Shelf
attribute [local go_sem] Oper.semAt_some
set_option linter.unusedVariables false
set_option linter.unusedSimpArgs false
abbrev encP (d : Nat → Int) (k : Nat) : Array Value := #[.int .i64 (k : Int), .int .i64 (d k)]
theorem plainDigits (v : Int) (w : World) : Calls Try.prog 48 #[.int .i64 v] w fun e w' => e = .returned (.func (.func 66) #[] #[.pointer (some ⟨w.heap.size, 0, none⟩)]) ∧ w' = w.alloc (.cells #[.int .i64 v] 3) := by
  go_enter Try.func48, Try.ntmps48
  go_wp2
  go_ret
  exact ⟨rfl, rfl⟩
theorem boothDigits (v : Int) (w : World) : Calls Try.prog 39 #[.int .i64 v] w fun e w' => e = .returned (.func (.func 62) #[] #[.pointer (some ⟨w.heap.size, 0, none⟩)]) ∧ w' = w.alloc (.cells #[.int .i64 v] 3) := by
  go_enter Try.func39, Try.ntmps39
  go_wp2
  go_ret
  exact ⟨rfl, rfl⟩
theorem signedDigits (v : Int) (w : World) : Calls Try.prog 44 #[.int .i64 v] w fun e w' => e = .returned (.func (.func 64) #[] #[.pointer (some ⟨w.heap.size, 0, none⟩)]) ∧ w' = w.alloc (.cells #[.int .i64 v] 3) := by
  go_enter Try.func44, Try.ntmps44
  go_wp2
  go_ret
  exact ⟨rfl, rfl⟩
theorem bitsDown (v : Int) (w : World) : Calls Try.prog 55 #[.int .i64 v] w fun e w' => e = .returned (.func (.func 68) #[] #[.pointer (some ⟨w.heap.size, 0, none⟩)]) ∧ w' = w.alloc (.cells #[.int .i64 v] 3) := by
  go_enter Try.func55, Try.ntmps55
  go_wp2
  go_ret
  exact ⟨rfl, rfl⟩
set_option maxHeartbeats 4000000 in
theorem plainGives {v : Int} (h : Pl.wOk v = true) (b : Nat) : Gives Try.prog 66 #[.pointer (some ⟨b, 0, none⟩)] b (.cells #[.int .i64 v] 3 (0, 0)) (encP (Pl.wbit v)) 16 := fun l J W hb hJ hY h0 => by
  have hv := Pl.wOk_ok h
  refine (callsIn_wide (n := 9)).1 (callsIn_of_wp Try.func66 rfl trivial ?_ rfl)
  simp only [Try.ntmps66, List.size_toArray, List.length_cons, List.length_nil, Nat.reduceAdd, Nat.reduceSub, Array.replicate_succ, Array.replicate_zero, List.push_toArray, List.append_toArray, List.nil_append, List.cons_append]
  gi_wp2
  gi_loopw [4] (fun p wr => ∃ k : Nat, p = .int .i64 (k : Int) ∧ k ≤ 16 ∧ J k wr ∧ W.heap.size ≤ wr.heap.size ∧ Boxed wr b 3 (.int .i64 v)) (fun p wr => 16 - (intOf p).toNat)
  case atStart => exact ⟨0, rfl, by omega, h0, Nat.le_refl _, hb⟩
  case round =>
    obtain ⟨k, rfl, hk, hj, hs, hB⟩ := hrel
    have hcell := hB.cell
    by_cases hlt : k < 16
    · have ht : ((k : Int) < 16) := by omega
      obtain ⟨fn, tmps, assign, body, hy, hR⟩ := yield_any 8 (hY k wr hlt hj hs)
      dsimp only [encP] at hy
      rw [← bit_at] at hy
      gi_wp2
      refine hR.mono ?_
      rintro e W3 ⟨rfl, hj3, hk3⟩
      have hB3 := hk3.at hB (.inr rfl)
      have hs3 := hk3.size
      gi_wp2
      go_roundw
      case rel => exact ⟨k + 1, by simp, by omega, hj3, by omega, hB3⟩
      case measure => simp [intOf]; omega
    · have ht : ¬ ((k : Int) < 16) := by omega
      have e : k = 16 := by omega
      subst e
      gi_wp2
      go_end0
      exact ⟨⟨_, rfl⟩, hj⟩

/-- the bits of a word, the highest first -/
abbrev encD (v : Int) (k : Nat) : Array Value := #[.int .i64 (Pl.wbit v (15 - k))]
set_option maxHeartbeats 4000000 in
theorem downGives {v : Int} (h : Pl.wOk v = true) (b : Nat) : Gives Try.prog 68 #[.pointer (some ⟨b, 0, none⟩)] b (.cells #[.int .i64 v] 3 (0, 0)) (encD v) 16 := fun l J W hb hJ hY h0 => by
  have hv := Pl.wOk_ok h
  refine (callsIn_wide (n := 9)).1 (callsIn_of_wp Try.func68 rfl trivial ?_ rfl)
  simp only [Try.ntmps68, List.size_toArray, List.length_cons, List.length_nil, Nat.reduceAdd, Nat.reduceSub, Array.replicate_succ, Array.replicate_zero, List.push_toArray, List.append_toArray, List.nil_append, List.cons_append]
  gi_wp2
  gi_loopw [3] (fun p wr => ∃ k : Nat, p = .int .i64 (15 - (k : Int)) ∧ k ≤ 16 ∧ J k wr ∧ W.heap.size ≤ wr.heap.size ∧ Boxed wr b 3 (.int .i64 v)) (fun p wr => (intOf p + 1).toNat)
  case atStart => exact ⟨0, rfl, by omega, h0, Nat.le_refl _, hb⟩
  case round =>
    obtain ⟨k, rfl, hk, hj, hs, hB⟩ := hrel
    have hcell := hB.cell
    by_cases hlt : k < 16
    · obtain ⟨fn, tmps, assign, body, hy, hR⟩ := yield_any 8 (hY k wr hlt hj hs)
      dsimp only [encD] at hy
      obtain ⟨q, hq⟩ : ∃ q : Nat, 15 - k = q := ⟨_, rfl⟩
      have hq2 : 15 - (k : Int) = (q : Int) := by omega
      have HQ : Hid (15 - k = q ∧ q ≤ 15) := ⟨hq, by omega⟩
      rw [hq] at hy
      rw [hq2]
      clear hq
      rw [← bit_at] at hy
      have ht : 0 ≤ (q : Int) := by omega
      have hq3 : (q : Int) ≤ 15 := by omega
      clear hq2
      gi_wp2
      refine hR.mono ?_
      rintro e W3 ⟨rfl, hj3, hk3⟩
      have hB3 := hk3.at hB (.inr rfl)
      have hs3 := hk3.size
      gi_wp2
      go_roundw
      case rel => exact ⟨k + 1, by have := HQ.out; congr 1; omega, by omega, hj3, by omega, hB3⟩
      case measure => have := HQ.out; simp [intOf]
    · have e : k = 16 := by omega
      subst e
      gi_wp2
      go_end0
      exact ⟨⟨_, rfl⟩, hj⟩
end Go.Proofs.Ytjgcadighogmkaa
