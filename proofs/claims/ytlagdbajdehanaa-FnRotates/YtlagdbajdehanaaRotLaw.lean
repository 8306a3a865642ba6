/- What the law on turning asks of numbers: as many places as bits bring a value back; as many bits are 1 as before: plain arithmetic. -/
import Derived.Test.YtlagdbajdehanaaShfLaw
namespace Go.Proofs.Ytlagdbajdehanaa.Pl
set_option linter.unusedVariables false

theorem st_add (k s : Int) (p : Int × Int) (a b : Nat) : st k s p (a + b) = st k s (st k s p a) b := by
  induction b with
  | zero => rfl
  | succ b ih => rw [← Nat.add_assoc, st, ih, ← st]
theorem turn1 {r q x : Int} (h : r * 2 % 256 + (if 128 ≤ r then 1 else 0) = q) : stp 4 1 (r, x) = (q, x) := by
  rw [← h]; rfl
theorem turn2 {r q x : Int} (h : r * 2 % 65536 + (if 32768 ≤ r then 1 else 0) = q) : stp 4 2 (r, x) = (q, x) := by
  rw [← h]; rfl
theorem turn1_0 {v x : Int} (h0 : 0 ≤ v) (h1 : v < 256) : stp 4 1 (v, x) = ((v % 128 * 2 + v / 128), x) := by
  refine turn1 ?_
  split <;> omega
theorem turn1_1 {v x : Int} (h0 : 0 ≤ v) (h1 : v < 256) : stp 4 1 ((v % 128 * 2 + v / 128), x) = ((v % 64 * 4 + v / 64), x) := by
  refine turn1 ?_
  obtain ⟨h, l, c, e⟩ : ∃ h l : Int, (0 ≤ h ∧ h < 2 ∧ 0 ≤ l ∧ l < 64) ∧ (v = h * 128 + l ∨ v = h * 128 + 64 + l) := ⟨v / 128, v % 64, by omega, by omega⟩
  rcases e with rfl | rfl
  · rw [show (h * 128 + l) / 128 = h from by omega, show (h * 128 + l) % 128 = l from by omega, show (h * 128 + l) / 64 = h * 2 + 0 from by omega, show (h * 128 + l) % 64 = l from by omega]
    split <;> omega
  · rw [show (h * 128 + 64 + l) / 128 = h from by omega, show (h * 128 + 64 + l) % 128 = 64 + l from by omega, show (h * 128 + 64 + l) / 64 = h * 2 + 1 from by omega, show (h * 128 + 64 + l) % 64 = l from by omega]
    split <;> omega
theorem turn1_2 {v x : Int} (h0 : 0 ≤ v) (h1 : v < 256) : stp 4 1 ((v % 64 * 4 + v / 64), x) = ((v % 32 * 8 + v / 32), x) := by
  refine turn1 ?_
  obtain ⟨h, l, c, e⟩ : ∃ h l : Int, (0 ≤ h ∧ h < 4 ∧ 0 ≤ l ∧ l < 32) ∧ (v = h * 64 + l ∨ v = h * 64 + 32 + l) := ⟨v / 64, v % 32, by omega, by omega⟩
  rcases e with rfl | rfl
  · rw [show (h * 64 + l) / 64 = h from by omega, show (h * 64 + l) % 64 = l from by omega, show (h * 64 + l) / 32 = h * 2 + 0 from by omega, show (h * 64 + l) % 32 = l from by omega]
    split <;> omega
  · rw [show (h * 64 + 32 + l) / 64 = h from by omega, show (h * 64 + 32 + l) % 64 = 32 + l from by omega, show (h * 64 + 32 + l) / 32 = h * 2 + 1 from by omega, show (h * 64 + 32 + l) % 32 = l from by omega]
    split <;> omega
theorem turn1_3 {v x : Int} (h0 : 0 ≤ v) (h1 : v < 256) : stp 4 1 ((v % 32 * 8 + v / 32), x) = ((v % 16 * 16 + v / 16), x) := by
  refine turn1 ?_
  obtain ⟨h, l, c, e⟩ : ∃ h l : Int, (0 ≤ h ∧ h < 8 ∧ 0 ≤ l ∧ l < 16) ∧ (v = h * 32 + l ∨ v = h * 32 + 16 + l) := ⟨v / 32, v % 16, by omega, by omega⟩
  rcases e with rfl | rfl
  · rw [show (h * 32 + l) / 32 = h from by omega, show (h * 32 + l) % 32 = l from by omega, show (h * 32 + l) / 16 = h * 2 + 0 from by omega, show (h * 32 + l) % 16 = l from by omega]
    split <;> omega
  · rw [show (h * 32 + 16 + l) / 32 = h from by omega, show (h * 32 + 16 + l) % 32 = 16 + l from by omega, show (h * 32 + 16 + l) / 16 = h * 2 + 1 from by omega, show (h * 32 + 16 + l) % 16 = l from by omega]
    split <;> omega
theorem turn1_4 {v x : Int} (h0 : 0 ≤ v) (h1 : v < 256) : stp 4 1 ((v % 16 * 16 + v / 16), x) = ((v % 8 * 32 + v / 8), x) := by
  refine turn1 ?_
  obtain ⟨h, l, c, e⟩ : ∃ h l : Int, (0 ≤ h ∧ h < 16 ∧ 0 ≤ l ∧ l < 8) ∧ (v = h * 16 + l ∨ v = h * 16 + 8 + l) := ⟨v / 16, v % 8, by omega, by omega⟩
  rcases e with rfl | rfl
  · rw [show (h * 16 + l) / 16 = h from by omega, show (h * 16 + l) % 16 = l from by omega, show (h * 16 + l) / 8 = h * 2 + 0 from by omega, show (h * 16 + l) % 8 = l from by omega]
    split <;> omega
  · rw [show (h * 16 + 8 + l) / 16 = h from by omega, show (h * 16 + 8 + l) % 16 = 8 + l from by omega, show (h * 16 + 8 + l) / 8 = h * 2 + 1 from by omega, show (h * 16 + 8 + l) % 8 = l from by omega]
    split <;> omega
theorem turn1_5 {v x : Int} (h0 : 0 ≤ v) (h1 : v < 256) : stp 4 1 ((v % 8 * 32 + v / 8), x) = ((v % 4 * 64 + v / 4), x) := by
  refine turn1 ?_
  obtain ⟨h, l, c, e⟩ : ∃ h l : Int, (0 ≤ h ∧ h < 32 ∧ 0 ≤ l ∧ l < 4) ∧ (v = h * 8 + l ∨ v = h * 8 + 4 + l) := ⟨v / 8, v % 4, by omega, by omega⟩
  rcases e with rfl | rfl
  · rw [show (h * 8 + l) / 8 = h from by omega, show (h * 8 + l) % 8 = l from by omega, show (h * 8 + l) / 4 = h * 2 + 0 from by omega, show (h * 8 + l) % 4 = l from by omega]
    split <;> omega
  · rw [show (h * 8 + 4 + l) / 8 = h from by omega, show (h * 8 + 4 + l) % 8 = 4 + l from by omega, show (h * 8 + 4 + l) / 4 = h * 2 + 1 from by omega, show (h * 8 + 4 + l) % 4 = l from by omega]
    split <;> omega
theorem turn1_6 {v x : Int} (h0 : 0 ≤ v) (h1 : v < 256) : stp 4 1 ((v % 4 * 64 + v / 4), x) = ((v % 2 * 128 + v / 2), x) := by
  refine turn1 ?_
  obtain ⟨h, l, c, e⟩ : ∃ h l : Int, (0 ≤ h ∧ h < 64 ∧ 0 ≤ l ∧ l < 2) ∧ (v = h * 4 + l ∨ v = h * 4 + 2 + l) := ⟨v / 4, v % 2, by omega, by omega⟩
  rcases e with rfl | rfl
  · rw [show (h * 4 + l) / 4 = h from by omega, show (h * 4 + l) % 4 = l from by omega, show (h * 4 + l) / 2 = h * 2 + 0 from by omega, show (h * 4 + l) % 2 = l from by omega]
    split <;> omega
  · rw [show (h * 4 + 2 + l) / 4 = h from by omega, show (h * 4 + 2 + l) % 4 = 2 + l from by omega, show (h * 4 + 2 + l) / 2 = h * 2 + 1 from by omega, show (h * 4 + 2 + l) % 2 = l from by omega]
    split <;> omega
theorem turn1_7 {v x : Int} (h0 : 0 ≤ v) (h1 : v < 256) : stp 4 1 ((v % 2 * 128 + v / 2), x) = (v, x) := by
  refine turn1 ?_
  obtain ⟨h, l, c, e⟩ : ∃ h l : Int, (0 ≤ h ∧ h < 128 ∧ 0 ≤ l ∧ l < 1) ∧ (v = h * 2 + l ∨ v = h * 2 + 1 + l) := ⟨v / 2, v % 1, by omega, by omega⟩
  rcases e with rfl | rfl
  · rw [show (h * 2 + l) / 2 = h from by omega, show (h * 2 + l) % 2 = l from by omega]
    split <;> omega
  · rw [show (h * 2 + 1 + l) / 2 = h from by omega, show (h * 2 + 1 + l) % 2 = 1 + l from by omega]
    split <;> omega
theorem turn2_0 {v x : Int} (h0 : 0 ≤ v) (h1 : v < 65536) : stp 4 2 (v, x) = ((v % 32768 * 2 + v / 32768), x) := by
  refine turn2 ?_
  split <;> omega
theorem turn2_1 {v x : Int} (h0 : 0 ≤ v) (h1 : v < 65536) : stp 4 2 ((v % 32768 * 2 + v / 32768), x) = ((v % 16384 * 4 + v / 16384), x) := by
  refine turn2 ?_
  obtain ⟨h, l, c, e⟩ : ∃ h l : Int, (0 ≤ h ∧ h < 2 ∧ 0 ≤ l ∧ l < 16384) ∧ (v = h * 32768 + l ∨ v = h * 32768 + 16384 + l) := ⟨v / 32768, v % 16384, by omega, by omega⟩
  rcases e with rfl | rfl
  · rw [show (h * 32768 + l) / 32768 = h from by omega, show (h * 32768 + l) % 32768 = l from by omega, show (h * 32768 + l) / 16384 = h * 2 + 0 from by omega, show (h * 32768 + l) % 16384 = l from by omega]
    split <;> omega
  · rw [show (h * 32768 + 16384 + l) / 32768 = h from by omega, show (h * 32768 + 16384 + l) % 32768 = 16384 + l from by omega, show (h * 32768 + 16384 + l) / 16384 = h * 2 + 1 from by omega, show (h * 32768 + 16384 + l) % 16384 = l from by omega]
    split <;> omega
theorem turn2_2 {v x : Int} (h0 : 0 ≤ v) (h1 : v < 65536) : stp 4 2 ((v % 16384 * 4 + v / 16384), x) = ((v % 8192 * 8 + v / 8192), x) := by
  refine turn2 ?_
  obtain ⟨h, l, c, e⟩ : ∃ h l : Int, (0 ≤ h ∧ h < 4 ∧ 0 ≤ l ∧ l < 8192) ∧ (v = h * 16384 + l ∨ v = h * 16384 + 8192 + l) := ⟨v / 16384, v % 8192, by omega, by omega⟩
  rcases e with rfl | rfl
  · rw [show (h * 16384 + l) / 16384 = h from by omega, show (h * 16384 + l) % 16384 = l from by omega, show (h * 16384 + l) / 8192 = h * 2 + 0 from by omega, show (h * 16384 + l) % 8192 = l from by omega]
    split <;> omega
  · rw [show (h * 16384 + 8192 + l) / 16384 = h from by omega, show (h * 16384 + 8192 + l) % 16384 = 8192 + l from by omega, show (h * 16384 + 8192 + l) / 8192 = h * 2 + 1 from by omega, show (h * 16384 + 8192 + l) % 8192 = l from by omega]
    split <;> omega
theorem turn2_3 {v x : Int} (h0 : 0 ≤ v) (h1 : v < 65536) : stp 4 2 ((v % 8192 * 8 + v / 8192), x) = ((v % 4096 * 16 + v / 4096), x) := by
  refine turn2 ?_
  obtain ⟨h, l, c, e⟩ : ∃ h l : Int, (0 ≤ h ∧ h < 8 ∧ 0 ≤ l ∧ l < 4096) ∧ (v = h * 8192 + l ∨ v = h * 8192 + 4096 + l) := ⟨v / 8192, v % 4096, by omega, by omega⟩
  rcases e with rfl | rfl
  · rw [show (h * 8192 + l) / 8192 = h from by omega, show (h * 8192 + l) % 8192 = l from by omega, show (h * 8192 + l) / 4096 = h * 2 + 0 from by omega, show (h * 8192 + l) % 4096 = l from by omega]
    split <;> omega
  · rw [show (h * 8192 + 4096 + l) / 8192 = h from by omega, show (h * 8192 + 4096 + l) % 8192 = 4096 + l from by omega, show (h * 8192 + 4096 + l) / 4096 = h * 2 + 1 from by omega, show (h * 8192 + 4096 + l) % 4096 = l from by omega]
    split <;> omega
theorem turn2_4 {v x : Int} (h0 : 0 ≤ v) (h1 : v < 65536) : stp 4 2 ((v % 4096 * 16 + v / 4096), x) = ((v % 2048 * 32 + v / 2048), x) := by
  refine turn2 ?_
  obtain ⟨h, l, c, e⟩ : ∃ h l : Int, (0 ≤ h ∧ h < 16 ∧ 0 ≤ l ∧ l < 2048) ∧ (v = h * 4096 + l ∨ v = h * 4096 + 2048 + l) := ⟨v / 4096, v % 2048, by omega, by omega⟩
  rcases e with rfl | rfl
  · rw [show (h * 4096 + l) / 4096 = h from by omega, show (h * 4096 + l) % 4096 = l from by omega, show (h * 4096 + l) / 2048 = h * 2 + 0 from by omega, show (h * 4096 + l) % 2048 = l from by omega]
    split <;> omega
  · rw [show (h * 4096 + 2048 + l) / 4096 = h from by omega, show (h * 4096 + 2048 + l) % 4096 = 2048 + l from by omega, show (h * 4096 + 2048 + l) / 2048 = h * 2 + 1 from by omega, show (h * 4096 + 2048 + l) % 2048 = l from by omega]
    split <;> omega
theorem turn2_5 {v x : Int} (h0 : 0 ≤ v) (h1 : v < 65536) : stp 4 2 ((v % 2048 * 32 + v / 2048), x) = ((v % 1024 * 64 + v / 1024), x) := by
  refine turn2 ?_
  obtain ⟨h, l, c, e⟩ : ∃ h l : Int, (0 ≤ h ∧ h < 32 ∧ 0 ≤ l ∧ l < 1024) ∧ (v = h * 2048 + l ∨ v = h * 2048 + 1024 + l) := ⟨v / 2048, v % 1024, by omega, by omega⟩
  rcases e with rfl | rfl
  · rw [show (h * 2048 + l) / 2048 = h from by omega, show (h * 2048 + l) % 2048 = l from by omega, show (h * 2048 + l) / 1024 = h * 2 + 0 from by omega, show (h * 2048 + l) % 1024 = l from by omega]
    split <;> omega
  · rw [show (h * 2048 + 1024 + l) / 2048 = h from by omega, show (h * 2048 + 1024 + l) % 2048 = 1024 + l from by omega, show (h * 2048 + 1024 + l) / 1024 = h * 2 + 1 from by omega, show (h * 2048 + 1024 + l) % 1024 = l from by omega]
    split <;> omega
theorem turn2_6 {v x : Int} (h0 : 0 ≤ v) (h1 : v < 65536) : stp 4 2 ((v % 1024 * 64 + v / 1024), x) = ((v % 512 * 128 + v / 512), x) := by
  refine turn2 ?_
  obtain ⟨h, l, c, e⟩ : ∃ h l : Int, (0 ≤ h ∧ h < 64 ∧ 0 ≤ l ∧ l < 512) ∧ (v = h * 1024 + l ∨ v = h * 1024 + 512 + l) := ⟨v / 1024, v % 512, by omega, by omega⟩
  rcases e with rfl | rfl
  · rw [show (h * 1024 + l) / 1024 = h from by omega, show (h * 1024 + l) % 1024 = l from by omega, show (h * 1024 + l) / 512 = h * 2 + 0 from by omega, show (h * 1024 + l) % 512 = l from by omega]
    split <;> omega
  · rw [show (h * 1024 + 512 + l) / 1024 = h from by omega, show (h * 1024 + 512 + l) % 1024 = 512 + l from by omega, show (h * 1024 + 512 + l) / 512 = h * 2 + 1 from by omega, show (h * 1024 + 512 + l) % 512 = l from by omega]
    split <;> omega
theorem turn2_7 {v x : Int} (h0 : 0 ≤ v) (h1 : v < 65536) : stp 4 2 ((v % 512 * 128 + v / 512), x) = ((v % 256 * 256 + v / 256), x) := by
  refine turn2 ?_
  obtain ⟨h, l, c, e⟩ : ∃ h l : Int, (0 ≤ h ∧ h < 128 ∧ 0 ≤ l ∧ l < 256) ∧ (v = h * 512 + l ∨ v = h * 512 + 256 + l) := ⟨v / 512, v % 256, by omega, by omega⟩
  rcases e with rfl | rfl
  · rw [show (h * 512 + l) / 512 = h from by omega, show (h * 512 + l) % 512 = l from by omega, show (h * 512 + l) / 256 = h * 2 + 0 from by omega, show (h * 512 + l) % 256 = l from by omega]
    split <;> omega
  · rw [show (h * 512 + 256 + l) / 512 = h from by omega, show (h * 512 + 256 + l) % 512 = 256 + l from by omega, show (h * 512 + 256 + l) / 256 = h * 2 + 1 from by omega, show (h * 512 + 256 + l) % 256 = l from by omega]
    split <;> omega
theorem turn2_8 {v x : Int} (h0 : 0 ≤ v) (h1 : v < 65536) : stp 4 2 ((v % 256 * 256 + v / 256), x) = ((v % 128 * 512 + v / 128), x) := by
  refine turn2 ?_
  obtain ⟨h, l, c, e⟩ : ∃ h l : Int, (0 ≤ h ∧ h < 256 ∧ 0 ≤ l ∧ l < 128) ∧ (v = h * 256 + l ∨ v = h * 256 + 128 + l) := ⟨v / 256, v % 128, by omega, by omega⟩
  rcases e with rfl | rfl
  · rw [show (h * 256 + l) / 256 = h from by omega, show (h * 256 + l) % 256 = l from by omega, show (h * 256 + l) / 128 = h * 2 + 0 from by omega, show (h * 256 + l) % 128 = l from by omega]
    split <;> omega
  · rw [show (h * 256 + 128 + l) / 256 = h from by omega, show (h * 256 + 128 + l) % 256 = 128 + l from by omega, show (h * 256 + 128 + l) / 128 = h * 2 + 1 from by omega, show (h * 256 + 128 + l) % 128 = l from by omega]
    split <;> omega
theorem turn2_9 {v x : Int} (h0 : 0 ≤ v) (h1 : v < 65536) : stp 4 2 ((v % 128 * 512 + v / 128), x) = ((v % 64 * 1024 + v / 64), x) := by
  refine turn2 ?_
  obtain ⟨h, l, c, e⟩ : ∃ h l : Int, (0 ≤ h ∧ h < 512 ∧ 0 ≤ l ∧ l < 64) ∧ (v = h * 128 + l ∨ v = h * 128 + 64 + l) := ⟨v / 128, v % 64, by omega, by omega⟩
  rcases e with rfl | rfl
  · rw [show (h * 128 + l) / 128 = h from by omega, show (h * 128 + l) % 128 = l from by omega, show (h * 128 + l) / 64 = h * 2 + 0 from by omega, show (h * 128 + l) % 64 = l from by omega]
    split <;> omega
  · rw [show (h * 128 + 64 + l) / 128 = h from by omega, show (h * 128 + 64 + l) % 128 = 64 + l from by omega, show (h * 128 + 64 + l) / 64 = h * 2 + 1 from by omega, show (h * 128 + 64 + l) % 64 = l from by omega]
    split <;> omega
theorem turn2_10 {v x : Int} (h0 : 0 ≤ v) (h1 : v < 65536) : stp 4 2 ((v % 64 * 1024 + v / 64), x) = ((v % 32 * 2048 + v / 32), x) := by
  refine turn2 ?_
  obtain ⟨h, l, c, e⟩ : ∃ h l : Int, (0 ≤ h ∧ h < 1024 ∧ 0 ≤ l ∧ l < 32) ∧ (v = h * 64 + l ∨ v = h * 64 + 32 + l) := ⟨v / 64, v % 32, by omega, by omega⟩
  rcases e with rfl | rfl
  · rw [show (h * 64 + l) / 64 = h from by omega, show (h * 64 + l) % 64 = l from by omega, show (h * 64 + l) / 32 = h * 2 + 0 from by omega, show (h * 64 + l) % 32 = l from by omega]
    split <;> omega
  · rw [show (h * 64 + 32 + l) / 64 = h from by omega, show (h * 64 + 32 + l) % 64 = 32 + l from by omega, show (h * 64 + 32 + l) / 32 = h * 2 + 1 from by omega, show (h * 64 + 32 + l) % 32 = l from by omega]
    split <;> omega
theorem turn2_11 {v x : Int} (h0 : 0 ≤ v) (h1 : v < 65536) : stp 4 2 ((v % 32 * 2048 + v / 32), x) = ((v % 16 * 4096 + v / 16), x) := by
  refine turn2 ?_
  obtain ⟨h, l, c, e⟩ : ∃ h l : Int, (0 ≤ h ∧ h < 2048 ∧ 0 ≤ l ∧ l < 16) ∧ (v = h * 32 + l ∨ v = h * 32 + 16 + l) := ⟨v / 32, v % 16, by omega, by omega⟩
  rcases e with rfl | rfl
  · rw [show (h * 32 + l) / 32 = h from by omega, show (h * 32 + l) % 32 = l from by omega, show (h * 32 + l) / 16 = h * 2 + 0 from by omega, show (h * 32 + l) % 16 = l from by omega]
    split <;> omega
  · rw [show (h * 32 + 16 + l) / 32 = h from by omega, show (h * 32 + 16 + l) % 32 = 16 + l from by omega, show (h * 32 + 16 + l) / 16 = h * 2 + 1 from by omega, show (h * 32 + 16 + l) % 16 = l from by omega]
    split <;> omega
theorem turn2_12 {v x : Int} (h0 : 0 ≤ v) (h1 : v < 65536) : stp 4 2 ((v % 16 * 4096 + v / 16), x) = ((v % 8 * 8192 + v / 8), x) := by
  refine turn2 ?_
  obtain ⟨h, l, c, e⟩ : ∃ h l : Int, (0 ≤ h ∧ h < 4096 ∧ 0 ≤ l ∧ l < 8) ∧ (v = h * 16 + l ∨ v = h * 16 + 8 + l) := ⟨v / 16, v % 8, by omega, by omega⟩
  rcases e with rfl | rfl
  · rw [show (h * 16 + l) / 16 = h from by omega, show (h * 16 + l) % 16 = l from by omega, show (h * 16 + l) / 8 = h * 2 + 0 from by omega, show (h * 16 + l) % 8 = l from by omega]
    split <;> omega
  · rw [show (h * 16 + 8 + l) / 16 = h from by omega, show (h * 16 + 8 + l) % 16 = 8 + l from by omega, show (h * 16 + 8 + l) / 8 = h * 2 + 1 from by omega, show (h * 16 + 8 + l) % 8 = l from by omega]
    split <;> omega
theorem turn2_13 {v x : Int} (h0 : 0 ≤ v) (h1 : v < 65536) : stp 4 2 ((v % 8 * 8192 + v / 8), x) = ((v % 4 * 16384 + v / 4), x) := by
  refine turn2 ?_
  obtain ⟨h, l, c, e⟩ : ∃ h l : Int, (0 ≤ h ∧ h < 8192 ∧ 0 ≤ l ∧ l < 4) ∧ (v = h * 8 + l ∨ v = h * 8 + 4 + l) := ⟨v / 8, v % 4, by omega, by omega⟩
  rcases e with rfl | rfl
  · rw [show (h * 8 + l) / 8 = h from by omega, show (h * 8 + l) % 8 = l from by omega, show (h * 8 + l) / 4 = h * 2 + 0 from by omega, show (h * 8 + l) % 4 = l from by omega]
    split <;> omega
  · rw [show (h * 8 + 4 + l) / 8 = h from by omega, show (h * 8 + 4 + l) % 8 = 4 + l from by omega, show (h * 8 + 4 + l) / 4 = h * 2 + 1 from by omega, show (h * 8 + 4 + l) % 4 = l from by omega]
    split <;> omega
theorem turn2_14 {v x : Int} (h0 : 0 ≤ v) (h1 : v < 65536) : stp 4 2 ((v % 4 * 16384 + v / 4), x) = ((v % 2 * 32768 + v / 2), x) := by
  refine turn2 ?_
  obtain ⟨h, l, c, e⟩ : ∃ h l : Int, (0 ≤ h ∧ h < 16384 ∧ 0 ≤ l ∧ l < 2) ∧ (v = h * 4 + l ∨ v = h * 4 + 2 + l) := ⟨v / 4, v % 2, by omega, by omega⟩
  rcases e with rfl | rfl
  · rw [show (h * 4 + l) / 4 = h from by omega, show (h * 4 + l) % 4 = l from by omega, show (h * 4 + l) / 2 = h * 2 + 0 from by omega, show (h * 4 + l) % 2 = l from by omega]
    split <;> omega
  · rw [show (h * 4 + 2 + l) / 4 = h from by omega, show (h * 4 + 2 + l) % 4 = 2 + l from by omega, show (h * 4 + 2 + l) / 2 = h * 2 + 1 from by omega, show (h * 4 + 2 + l) % 2 = l from by omega]
    split <;> omega
theorem turn2_15 {v x : Int} (h0 : 0 ≤ v) (h1 : v < 65536) : stp 4 2 ((v % 2 * 32768 + v / 2), x) = (v, x) := by
  refine turn2 ?_
  obtain ⟨h, l, c, e⟩ : ∃ h l : Int, (0 ≤ h ∧ h < 32768 ∧ 0 ≤ l ∧ l < 1) ∧ (v = h * 2 + l ∨ v = h * 2 + 1 + l) := ⟨v / 2, v % 1, by omega, by omega⟩
  rcases e with rfl | rfl
  · rw [show (h * 2 + l) / 2 = h from by omega, show (h * 2 + l) % 2 = l from by omega]
    split <;> omega
  · rw [show (h * 2 + 1 + l) / 2 = h from by omega, show (h * 2 + 1 + l) % 2 = 1 + l from by omega]
    split <;> omega
theorem whole1 {v x : Int} (h0 : 0 ≤ v) (h1 : v < 256) : st 4 1 (v, x) 8 = (v, x) := by
  simp only [st]
  rw [turn1_0 h0 h1 (x := x), turn1_1 h0 h1 (x := x), turn1_2 h0 h1 (x := x), turn1_3 h0 h1 (x := x), turn1_4 h0 h1 (x := x), turn1_5 h0 h1 (x := x), turn1_6 h0 h1 (x := x), turn1_7 h0 h1 (x := x)]
theorem whole2 {v x : Int} (h0 : 0 ≤ v) (h1 : v < 65536) : st 4 2 (v, x) 16 = (v, x) := by
  simp only [st]
  rw [turn2_0 h0 h1 (x := x), turn2_1 h0 h1 (x := x), turn2_2 h0 h1 (x := x), turn2_3 h0 h1 (x := x), turn2_4 h0 h1 (x := x), turn2_5 h0 h1 (x := x), turn2_6 h0 h1 (x := x), turn2_7 h0 h1 (x := x), turn2_8 h0 h1 (x := x), turn2_9 h0 h1 (x := x), turn2_10 h0 h1 (x := x), turn2_11 h0 h1 (x := x), turn2_12 h0 h1 (x := x), turn2_13 h0 h1 (x := x), turn2_14 h0 h1 (x := x), turn2_15 h0 h1 (x := x)]
theorem whole4 {s : Int} {p : Int × Int} (h : Fit s p) : st 4 s p (8 * s).toNat = p := by
  obtain ⟨hs, v0, v1, _, _⟩ := h
  obtain ⟨v, x⟩ := p
  simp only at v0 v1
  rcases top12 hs with ⟨rfl, e⟩ | ⟨rfl, e⟩ <;> rw [e] at v1
  · exact whole1 v0 v1
  · exact whole2 v0 v1
theorem whole5 {s : Int} {p : Int × Int} (h : Fit s p) : st 5 s p (8 * s).toNat = p := by
  have a := st_back (k := 5) (by decide) (by decide) (8 * s).toNat h
  have b := whole4 (st_fit (k := 5) h (8 * s).toNat)
  exact b.symm.trans a
theorem whole {k s : Int} {p : Int × Int} (h : Fit s p) (hk : k = 4 ∨ k = 5) (q : Nat) : st k s p ((8 * s).toNat * q) = p := by
  induction q with
  | zero => rfl
  | succ q ih =>
    rw [Nat.mul_succ, st_add, ih]
    rcases hk with rfl | rfl
    · exact whole4 h
    · exact whole5 h

theorem law_turn {k s f v n : Int} (h : rbOk k s f v n = true) : byOk k s f v n = true ∧ rbV k s f v n = v ∧ 4 ≤ k ∧ k ≤ 7 ∧ (s = 1 ∨ s = 2) ∧ okv s v = true ∧ okv s (byVal k s f v n) = true ∧ onesV s v = pop 16 v ∧ onesV s (byVal k s f v n) = pop 16 (byVal k s f v n) ∧
    (k ≤ 5 → pop 16 v = pop 16 (byVal k s f v n)) ∧ (5 < k → pop 16 v + f / 16 = pop 16 (byVal k s f v n) + byFl k s f v n / 16) ∧ (k ≤ 5 → n % (8 * s) = 0 → byVal k s f v n = v) ∧ 0 ≤ n ∧ n ≤ 63 ∧ 0 ≤ f ∧ f ≤ 31 := by
  have hv : rbV k s f v n = v := by simp [rbV, h]
  simp only [rbOk, Bool.and_eq_true, decide_eq_true_eq] at h
  obtain ⟨hb, k4⟩ := h
  obtain ⟨k0, k1, hs, v0, v1, n0, n1, f0, f1, hf⟩ := byOk_fit hb
  have ho : okv s v = true := (goodK_ok (byOk_ok hb).1).2.2.1
  obtain ⟨_, u0, u1, _, _⟩ := st_fit (k := k) hf n.toNat
  have hu : okv s (byVal k s f v n) = true := by
    rw [byVal_is hb]
    rcases top12 hs with ⟨rfl, e⟩ | ⟨rfl, e⟩
    · exact okv_mk1 u0 (by rw [e] at u1; exact u1)
    · exact okv_mk2 u0 (by rw [e] at u1; exact u1)
  have hp := pop_turned (k := k) hf k4 k1 n.toNat
  rw [← byVal_is hb] at hp
  have hF := byF_bd (k := k) hf n.toNat
  rw [← byFl_is hb] at hF
  refine ⟨hb, hv, k4, k1, hs, ho, hu, by simp [onesV, ho], by simp [onesV, hu], ?_, ?_, ?_, n0, n1, f0, f1⟩
  · intro hk
    simp only [hk, if_true, Int.add_zero] at hp
    exact hp.symm
  · intro hk
    have : ¬ k ≤ 5 := by omega
    simp only [this, if_false] at hp
    rw [hF.2.2]
    exact hp.symm
  · intro hk hn
    obtain ⟨q, hq⟩ : ∃ q : Nat, n.toNat = (8 * s).toNat * q := by
      rcases hs with rfl | rfl
      · exact ⟨n.toNat / 8, by simp at hn ⊢; omega⟩
      · exact ⟨n.toNat / 16, by simp at hn ⊢; omega⟩
    rw [byVal_is hb, hq, whole hf (by omega)]
end Go.Proofs.Ytlagdbajdehanaa.Pl
