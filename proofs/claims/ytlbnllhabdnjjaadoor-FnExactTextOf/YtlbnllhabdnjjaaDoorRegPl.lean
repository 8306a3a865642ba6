/- Registers in numbers, and what is done to them: plain arithmetic; no Go text is spoken of here. -/
import Derived.Test.YtlbnllhabdnjjaaDoorFrame
namespace Go.Proofs.YtlbnllhabdnjjaaDoor.Pl
set_option linter.unusedVariables false

structure Rg where
  xs : List Int
  ys : List Int
  o : Int
  p : Int
  f : Int
  m : Int
  s : Bool
  t : Bool
def rgNew : Rg := ⟨[0, 0, 0, 0], [0, 0, 0, 0], 0, 0, 0, 7, true, false⟩
def rgNo : Rg := ⟨[], [], 0, 0, 0, 0, false, false⟩
def within (n lo hi : Int) : Bool := decide (lo ≤ n) && decide (n ≤ hi)
def wordOk (n : Int) : Bool := within n 0 65535
def fourOk (xs : List Int) : Bool := xs.all wordOk && decide ((xs.length : Int) = 4)
def rgOk (r : Rg) : Bool := fourOk r.xs && (fourOk r.ys && (wordOk r.o && (wordOk r.p && (within r.f 0 31 && within r.m 0 7))))
def extM (m : Int) : Bool := decide (5 ≤ m)
def modeOk (m : Int) : Bool := within m 0 7
def opOk (m r e : Int) : Bool := modeOk m && (within r 0 3 && ((decide (m < 6) || (r == 0)) && (wordOk e && (extM m || (e == 0)))))
def fl1 (b : Bool) (n : Int) : Int := if b then n else 0
def status (r : Rg) : Int := r.f + 32 * r.m + fl1 r.s 256 + fl1 r.t 512
def stSuper (n : Int) : Bool := decide (n / 256 % 2 = 1)
def stTrace (n : Int) : Bool := decide (n / 512 % 2 = 1)
def withR (r : Rg) (n : Int) : Rg :=
  if stSuper n = r.s then { r with s := stSuper n, t := stTrace n, m := n / 32 % 8, f := n % 32 }
  else { r with ys := r.ys.set 3 r.o, o := el r.ys 3, s := stSuper n, t := stTrace n, m := n / 32 % 8, f := n % 32 }
def putR (r : Rg) (z k v : Int) : Rg := { r with xs := r.xs.set k.toNat (if z = 1 then el r.xs k.toNat / 256 * 256 + v else v) }
def byN (z k : Int) : Int := if z = 1 ∧ k ≠ 3 then 1 else 2
def placeV (r : Rg) (z m k e : Int) : Int := if m = 4 then (el r.ys k.toNat - byN z k) % 65536 else if m = 5 then (el r.ys k.toNat + e) % 65536 else if m = 6 then e else el r.ys k.toNat
def placeR (r : Rg) (z m k e : Int) : Rg := if m = 3 then { r with ys := r.ys.set k.toNat ((el r.ys k.toNat + byN z k) % 65536) } else if m = 4 then { r with ys := r.ys.set k.toNat ((el r.ys k.toNat - byN z k) % 65536) } else r
/-- what holds of good registers -/
structure Good (r : Rg) : Prop where
  d4 : r.xs.length = 4
  a4 : r.ys.length = 4
  dw : ∀ i, i < 4 → 0 ≤ el r.xs i ∧ el r.xs i ≤ 65535
  aw : ∀ i, i < 4 → 0 ≤ el r.ys i ∧ el r.ys i ≤ 65535
  o0 : 0 ≤ r.o
  o1 : r.o ≤ 65535
  f0 : 0 ≤ r.f
  f1 : r.f ≤ 31
  m0 : 0 ≤ r.m
  m1 : r.m ≤ 7
theorem four_of {xs : List Int} (h : fourOk xs = true) : xs.length = 4 ∧ ∀ i, i < 4 → 0 ≤ el xs i ∧ el xs i ≤ 65535 := by
  simp only [fourOk, Bool.and_eq_true, decide_eq_true_eq] at h
  obtain ⟨h1, h2⟩ := h
  refine ⟨by omega, fun i hi => ?_⟩
  have hl : i < xs.length := by omega
  have := List.all_eq_true.1 h1 (xs[i]'hl) (List.getElem_mem hl)
  simp only [wordOk, within, Bool.and_eq_true, decide_eq_true_eq] at this
  simpa [el, List.getElem?_eq_getElem hl] using this
theorem good_of {r : Rg} (h : rgOk r = true) : Good r := by
  simp only [rgOk, Bool.and_eq_true, wordOk, within, decide_eq_true_eq] at h
  obtain ⟨h1, h2, ⟨h3, h4⟩, _, ⟨h5, h6⟩, h7, h8⟩ := h
  obtain ⟨a1, a2⟩ := four_of h1
  obtain ⟨b1, b2⟩ := four_of h2
  exact ⟨a1, b1, a2, b2, h3, h4, h5, h6, h7, h8⟩
theorem all_no {xs : List Int} {i : Nat} (hi : i < xs.length) (h : wordOk (el xs i) = false) : fourOk xs = false := by
  cases e : fourOk xs
  · rfl
  · simp only [fourOk, Bool.and_eq_true] at e
    have := List.all_eq_true.1 e.1 (xs[i]'hi) (List.getElem_mem hi)
    simp [el, List.getElem?_eq_getElem hi] at h
    rw [h] at this; cases this
theorem all_of {xs : List Int} (h : ∀ i, i < xs.length → wordOk (el xs i) = true) : fourOk xs = decide ((xs.length : Int) = 4) := by
  have : xs.all wordOk = true := by
    rw [List.all_eq_true]
    intro x hx
    obtain ⟨i, hi, rfl⟩ := List.getElem_of_mem hx
    have := h i hi
    simpa [el, List.getElem?_eq_getElem hi] using this
  unfold fourOk
  rw [this, Bool.true_and]
theorem len4 (r : Rg) : (r.ys.set 3 r.o).length = r.ys.length := by simp
def soOk (r : Rg) : Bool := rgOk r
def soV (r : Rg) : Int := if rgOk r = true then status r else 0
def wsOk (r : Rg) (n : Int) : Bool := rgOk r && within n 0 1023
def wsR (r : Rg) (n : Int) : Rg := if wsOk r n = true then withR r n else rgNo
def pdOk (r : Rg) (z k v : Int) : Bool := rgOk r && (okv z v && within k 0 3)
def pdR (r : Rg) (z k v : Int) : Rg := if pdOk r z k v = true then putR r z k v else rgNo
def plcOk (r : Rg) (z m k e : Int) : Bool := rgOk r && ((decide (z = 1) || decide (z = 2)) && (opOk m k e && (!(m == 0) && (!(m == 1) && !(m == 7)))))
def plcR (r : Rg) (z m k e : Int) : Rg := if plcOk r z m k e = true then placeR r z m k e else rgNo
def plcV (r : Rg) (z m k e : Int) : Int := if plcOk r z m k e = true then placeV r z m k e else 0
end Go.Proofs.YtlbnllhabdnjjaaDoor.Pl
