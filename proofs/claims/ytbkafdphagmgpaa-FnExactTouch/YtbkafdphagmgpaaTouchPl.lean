/- What an access does to a bus, in numbers: plain arithmetic; no Go text is spoken of here. -/
import Derived.Test.YtbkafdphagmgpaaImplMem
import Derived.Test.YtbkafdphagmgpaaSpecPeek
namespace Go.Proofs.Ytbkafdphagmgpaa.Pl
set_option linter.unusedVariables false

def askOk (k s a v : Int) : Bool := accKind k && (okv s v && (addr a && ((k == 2) || (v == 0))))
def tOk (xs ys : List Int) (m : Nat) (k s a v : Int) : Bool := goodBus xs ys m && askOk k s a v
/-- the value that the log is told -/
def lv (xs : List Int) (k s a v : Int) : Int := if code k s a = 0 ∧ ¬ k = 2 then rd xs s a.toNat else v
/-- a value laid there, of a size -/
def wr (xs : List Int) (s : Int) (i : Nat) (v : Int) : List Int := if s = 1 then xs.set i v else (xs.set i (v / 256)).set (i + 1) (v % 256)
def nb (xs : List Int) (k s a v : Int) : List Int := if code k s a = 0 ∧ k = 2 then wr xs s a.toNat v else xs
def logs (m : Nat) (k s a : Int) : Bool := decide (m < 400) && ((k != 3) || (code k s a != 0))
def nl (xs ys : List Int) (m : Nat) (k s a v : Int) : List Int := if logs m k s a = true then ys ++ [k, s, a, lv xs k s a v, code k s a] else ys
def nm (m : Nat) (k s a : Int) : Nat := if logs m k s a = true then m + 1 else m
/-- what Touch answers -/
def tB (xs ys : List Int) (m : Nat) (k s a v : Int) : List Int := if tOk xs ys m k s a v = true then nb xs k s a v else []
def tL (xs ys : List Int) (m : Nat) (k s a v : Int) : List Int := if tOk xs ys m k s a v = true then nl xs ys m k s a v else []
def tN (xs ys : List Int) (m : Nat) (k s a v : Int) : Nat := if tOk xs ys m k s a v = true then nm m k s a else 0
def tV (xs ys : List Int) (m : Nat) (k s a v : Int) : Int := if tOk xs ys m k s a v = true then (if k = 2 then 0 else lv xs k s a v) else 0
def tC (xs ys : List Int) (m : Nat) (k s a v : Int) : Int := if tOk xs ys m k s a v = true then code k s a else 0

theorem wr_len (xs : List Int) (s : Int) (i : Nat) (v : Int) : (wr xs s i v).length = xs.length := by unfold wr; split <;> simp
theorem nb_len (xs : List Int) (k s a v : Int) : (nb xs k s a v).length = xs.length := by unfold nb; split <;> simp [wr_len]
theorem nl_len {xs ys : List Int} {m : Nat} (k s a v : Int) (h : ys.length = 5 * m) : (nl xs ys m k s a v).length = 5 * nm m k s a := by
  unfold nl nm
  split
  · simp [h]; omega
  · exact h
theorem nm_le {m : Nat} (k s a : Int) (h : m ≤ 400) : nm m k s a ≤ 400 := by
  unfold nm logs
  split
  · rename_i h1; simp at h1; omega
  · exact h
theorem tB_len (xs ys : List Int) (m : Nat) (k s a v : Int) : (tB xs ys m k s a v).length ≤ 512 := by
  unfold tB
  split
  · rename_i h
    simp only [tOk, Bool.and_eq_true] at h
    rw [nb_len, (goodBus_ok h.1).1]
    exact Nat.le_refl _
  · exact Nat.zero_le _
theorem tL_len {xs ys : List Int} {m : Nat} (k s a v : Int) (h : ys.length = 5 * m) : (tL xs ys m k s a v).length = 5 * tN xs ys m k s a v := by
  unfold tL tN
  split
  · exact nl_len k s a v h
  · rfl
theorem tN_le (xs ys : List Int) (m : Nat) (k s a v : Int) : tN xs ys m k s a v ≤ 400 := by
  unfold tN
  split
  · rename_i h
    simp only [tOk, Bool.and_eq_true] at h
    exact nm_le k s a (goodBus_ok h.1).2.2.1
  · exact Nat.zero_le _
theorem ask_ok {k s a v : Int} (h : askOk k s a v = true) : (1 ≤ k ∧ k ≤ 3) ∧ ((s = 1 ∧ v ≤ 255) ∨ (s = 2 ∧ v ≤ 65535)) ∧ 0 ≤ v ∧ (0 ≤ a ∧ a ≤ 65535) ∧ (k = 2 ∨ v = 0) := by
  simp only [askOk, accKind, addr, Bool.and_eq_true, Bool.or_eq_true, decide_eq_true_eq, beq_iff_eq] at h
  obtain ⟨h1, h2, h3, h4⟩ := h
  have := top_ok h2
  refine ⟨h1, ?_, ?_, h3, h4⟩
  · omega
  · omega
/-- parts begin at even addresses: a word's two bytes lie in one -/
theorem kind_even {a : Int} (h : ¬ a % 2 = 1) : kind (a + 2 - 1) = kind a := by
  unfold kind
  by_cases h1 : 512 ≤ a ∨ (448 ≤ a ∧ a ≤ 495)
  · rw [if_pos h1, if_pos (by omega)]
  · rw [if_neg h1, if_neg (by omega)]
    by_cases h2 : 384 ≤ a ∧ a ≤ 447
    · rw [if_pos h2, if_pos (by omega)]
    · rw [if_neg h2, if_neg (by omega)]
theorem code_part {k s a : Int} (hs : s = 1 ∨ s = 2) : code k s a = if s = 2 ∧ a % 2 = 1 then 2 else if kind a = 3 ∧ ¬ k = 2 then 0 else kind a := by
  have kv : kind a = 0 ∨ kind a = 1 ∨ kind a = 3 := by
    unfold kind
    split
    · exact .inr (.inl rfl)
    · split
      · exact .inr (.inr rfl)
      · exact .inl rfl
  unfold code
  by_cases h : s = 2 ∧ a % 2 = 1
  · rw [if_pos h, if_pos h]
  · rw [if_neg h, if_neg h]
    have e : kind (a + s - 1) = kind a := by
      rcases hs with rfl | rfl
      · rw [show a + 1 - 1 = a by omega]
      · exact kind_even (fun q => h ⟨rfl, q⟩)
    rw [e]
    rcases kv with q | q | q <;> rw [q] <;> by_cases hk : k = 2 <;> simp [hk]
end Go.Proofs.Ytbkafdphagmgpaa.Pl
