/- Which flags of a row are dead, as the program tells it. A bus in numbers: its bytes as a list, its log as the row of its accesses' numbers: plain arithmetic; no Go text is spoken of here. What the laws' measure of a list answers. What the laws' own functions over lists of accesses do (structs of five whole numbers, laid one behind the other): compare, copy, mark, look for the marks. A list of n accesses is spoken of as the row of its 5 * n numbers. What the laws' own functions do that copy a list of accesses, mark it, and look for the marks. What the laws' own functions over a bus do (a struct of two lists: bytes, accesses): its size, copy, comparison, marks. What the program's small functions of chapter 4 answer: addresses, parts, accesses; none writes. What the program does with a unit's list: its instructions, the part of it that is straight, its skips. What the program makes of a row: its skips, its unit. -/
import Derived.Test.YtbppfbkkphhjnaaGreatCN7
import Derived.Deep.LoopGhost
import Derived.Test.YtbppfbkkphhjnaaGreatCN1
import Derived.RegionTactic
import Derived.ChangeAlike
import Derived.BigRegion
import Derived.Deep.RegionWith
import Derived.Laws.Rows
import Derived.Laws.ResultCell
import Derived.Test.YtbppfbkkphhjnaaGreatCN4
import Derived.Test.YtbppfbkkphhjnaaGreatCN6
namespace Go.Proofs.YtbppfbkkphhjnaaGreat
open Go.RowKit
set_option linter.unusedVariables false
set_option maxRecDepth 20000 in
set_option maxHeartbeats 8000000 in
theorem implDeadIn (w : World) (a : Option Addr) (ca n : Nat) (ys : List Int) (ha : Came w a ys) (ly : ys.length = 7 * n) (hn : n ≤ 16) (hr : Pl.rowS ys n = true) : Calls Tryz.prog 112 #[.slice a n ca] w fun e' w' => e' = .returned (.slice (some ⟨w.heap.size, 0, none⟩) n n) ∧ BOwn w' w.heap.size (Pl.deads ys n n) ∧ Kept 0 0 w w' ∧ w.heap.size < w'.heap.size := by
  have HA := hide ha
  have HY := hide ly
  have HR := hide hr
  clear ha ly hr
  have mk := mkB n hn
  have B := bown_newN w n
  rw [← Pl.deads_zero ys n] at B
  have K : Kept 0 0 w (w.alloc (.cells (Array.replicate n (.bool false)) 4)) := kept_alloc _ _
  have S : w.heap.size < (w.alloc (.cells (Array.replicate n (.bool false)) 4)).heap.size := by rw [World.size_alloc]; omega
  go_enter Tryz.func112, Tryz.ntmps112
  go_wp2_with fail
  go_step3
  go_wp2_with fail
  go_step3
  go_wp2_with fail
  clear mk
  generalize w.alloc (.cells (Array.replicate n (.bool false)) 4) = W0 at *
  go_loopg [4] n (fun gn lf wr => gn ≤ n ∧ lf = .int .i64 (gn : Int) ∧ (gn = 0 ∨ Pl.needs ys n (n - gn) = 31) ∧ BOwn wr w.heap.size (Pl.deads ys n (n - gn)) ∧ Kept 0 0 w wr ∧ w.heap.size < wr.heap.size)
  case atStart => exact ⟨Nat.le_refl _, rfl, .inr (by rw [Nat.sub_self]; rfl), by rw [Nat.sub_self]; exact B, K, S⟩
  case round =>
    obtain ⟨hg, rfl, hN, hown, hK, hS⟩ := hrel
    have HN := hide hN
    have HO1 := hide hown
    have HK1 := hide hK
    have HS1 := hide hS
    clear hN hown hK hS B K S
    cases gk with
    | zero =>
      have h0 : ¬ ((0 : Int) < ((0 : Nat) : Int)) := by omega
      go_wp2_with fail
      (first | rw [Exit.noGoto_ret] | skip)
      go_ret
      exact ⟨rfl, by rw [Nat.sub_zero] at HO1; exact HO1.out, HK1.out, HS1.out⟩
    | succ go =>
      have h1 : (0 : Int) < ((go + 1 : Nat) : Int) := by omega
      have h2 : (0 : Int) < (go : Int) + 1 := by omega
      have E31 : Hid (Pl.needs ys n (n - (go + 1)) = 31) := hide (by rcases HN.out with h | h <;> first | omega | exact h)
      go_wp2_with fail
      clear h1 h2
      go_loopg [4, 5] (go + 1) (fun g2 lf nd wy => g2 ≤ go + 1 ∧ lf = .int .i64 (g2 : Int) ∧ nd = iv (Pl.needs ys n (n - g2)) ∧ BOwn wy w.heap.size (Pl.deads ys n (n - g2)) ∧ Kept 0 0 w wy ∧ w.heap.size < wy.heap.size)
      case atStart => exact ⟨Nat.le_refl _, rfl, by rw [E31.out], HO1.out, HK1.out, HS1.out⟩
      case round =>
        obtain ⟨hg2, rfl, rfl, hown, hK, hS⟩ := hrel
        clear HO1 HK1 HS1 E31 HN
        have HO := hide hown
        have HK := hide hK
        have HS := hide hS
        clear hown hK hS
        cases gk with
        | zero =>
          have h0 : ¬ ((0 : Int) < ((0 : Nat) : Int)) := by omega
          go_wp2_with fail
          go_roundg 0
          case measure => omega
          case rel => exact ⟨by omega, rfl, .inl rfl, HO.out, HK.out, HS.out⟩
        | succ k =>
          have hk : k < n := by omega
          have h1 : (0 : Int) < ((k + 1 : Nat) : Int) := by omega
          have h2 : (0 : Int) < (k : Int) + 1 := by omega
          have ew1 : IntKind.i64.wrap (((k + 1 : Nat) : Int) - 1) = (k : Int) := by rw [IntKind.wrap_i64]; omega
          have ew2 : IntKind.i64.wrap (k : Int) = (k : Int) := by rw [IntKind.wrap_i64]; omega
          obtain ⟨g1, o1, rfl, p0, p1, p2, p3, p4, p5, p6⟩ := (HA.out.1.keptS HK.out).at7 HY.out hk
          have B0 := hide (Blk.new wr #[iv (el ys (k * 7)), iv (el ys (k * 7 + 1)), iv (el ys (k * 7 + 2)), iv (el ys (k * 7 + 3)), iv (el ys (k * 7 + 4)), iv (el ys (k * 7 + 5)), iv (el ys (k * 7 + 6))] 104)
          have D0 := hide (Pl.inD_of (Pl.rowS_at HR.out hk))
          have F0 := hide (Pl.needs_in (i := n - (k + 1)) HR.out (by omega))
          have NB : Hid (Pl.needs ys n (n - k) = Pl.needB (Pl.inAt ys k) (Pl.needs ys n (n - (k + 1)))) := hide (by
            rw [show n - k = (n - (k + 1)) + 1 from by omega]
            show Pl.needB (Pl.inAt ys (n - (n - (k + 1) + 1))) _ = _
            rw [show n - (n - (k + 1) + 1) = k from by omega])
          have DS : Hid ((Pl.deads ys n (n - (k + 1))).set k (Pl.deadB (Pl.inAt ys k) (Pl.needs ys n (n - (k + 1)))) = Pl.deads ys n (n - k)) := hide (by
            have q := Pl.deads_set ys n (n - (k + 1)) (by omega)
            rw [show n - (n - (k + 1) + 1) = k from by omega, show n - (k + 1) + 1 = n - k from by omega] at q
            exact q)
          obtain ⟨N, hN⟩ : ∃ N, N = Pl.needs ys n (n - (k + 1)) := ⟨_, rfl⟩
          rw [← hN] at NB DS F0 ⊢
          obtain ⟨DD, hDD⟩ : ∃ DD, DD = Pl.deadB (Pl.inAt ys k) N := ⟨_, rfl⟩
          rw [← hDD] at DS
          have HDD := hide hDD
          have HNN := hide hN
          clear hN hDD
          have hki : (k : Int) < (n : Int) := by omega
          have hki0 : (0 : Int) ≤ (k : Int) := by omega
          have hne : wr.heap.size ≠ w.heap.size := by have := HS.out; omega
          cases hf : Pl.mayF (Pl.inAt ys k)
          · go_wp2_with (first | (go_at_call 141; refine (areDeadI _ (el ys (k * 7)) (el ys (k * 7 + 1)) (el ys (k * 7 + 2)) (el ys (k * 7 + 3)) (el ys (k * 7 + 4)) (el ys (k * 7 + 5)) (el ys (k * 7 + 6)) N D0.out).mono ?_; rw [show Pl.deadB ⟨el ys (k * 7), el ys (k * 7 + 1), el ys (k * 7 + 2), el ys (k * 7 + 3), el ys (k * 7 + 4), el ys (k * 7 + 5), el ys (k * 7 + 6)⟩ N = Pl.deadB (Pl.inAt ys k) N from rfl, ← HDD.out]; rintro e9 w2 ⟨rfl, k2⟩; have B2 := hide (B0.out.kept0 k2); have K2 := hide ((kept_new HK.out _).trans k2); have p2 := B2.out.all; have O2 := hide (HO.out.keptS ((kept_alloc wr _).trans k2) (by omega)); obtain ⟨hc2, hf2⟩ := O2.out k (by rw [Pl.deads_len]; omega); have q3 := (B2.out.other w.heap.size k (.bool DD) hne).all; have s2 : wr.heap.size < w2.heap.size := B2.out.lt; clear k2) | (go_at_call 142; refine (implMayF _ (el ys (k * 7)) (el ys (k * 7 + 1)) (el ys (k * 7 + 2)) (el ys (k * 7 + 3)) (el ys (k * 7 + 4)) (el ys (k * 7 + 5)) (el ys (k * 7 + 6)) D0.out).mono ?_; rw [show Pl.mayF ⟨el ys (k * 7), el ys (k * 7 + 1), el ys (k * 7 + 2), el ys (k * 7 + 3), el ys (k * 7 + 4), el ys (k * 7 + 5), el ys (k * 7 + 6)⟩ = Pl.mayF (Pl.inAt ys k) from rfl, hf]; rintro e9 w3 ⟨rfl, k3⟩; have O3 := hide ((O2.out.set DD).keptS k3 (by omega)); have B3 := hide ((B2.out.other w.heap.size k (.bool DD) hne).kept0 k3); have K3 := hide ((kept_set K2.out _ _ _ (.inr (Nat.le_refl _))).trans k3); have SZ3 : w.heap.size < w3.heap.size := (by have := B3.out.lt; have := HS.out; omega); clear k3))
            clear q3 p2 hc2 hf2
            go_region_held3 (fun w' => w'.cell? ⟨wr.heap.size, 0, none⟩ = some (iv (el ys (k * 7))) ∧ w'.cell? ⟨wr.heap.size, 1, none⟩ = some (iv (el ys (k * 7 + 1))) ∧ w'.cell? ⟨wr.heap.size, 2, none⟩ = some (iv (el ys (k * 7 + 2))) ∧ w'.cell? ⟨wr.heap.size, 3, none⟩ = some (iv (el ys (k * 7 + 3))) ∧ w'.cell? ⟨wr.heap.size, 4, none⟩ = some (iv (el ys (k * 7 + 4))) ∧ w'.cell? ⟨wr.heap.size, 5, none⟩ = some (iv (el ys (k * 7 + 5))) ∧ w'.cell? ⟨wr.heap.size, 6, none⟩ = some (iv (el ys (k * 7 + 6)))) (first | with_reducible exact B5.out.c7 | with_reducible exact B4.out.c7 | exact (show Blk _ _ _ _ from B3.out).c7) (first | (go_at_call 144; have z9 := B4; refine (implSets _ (el ys (k * 7)) (el ys (k * 7 + 1)) (el ys (k * 7 + 2)) (el ys (k * 7 + 3)) (el ys (k * 7 + 4)) (el ys (k * 7 + 5)) (el ys (k * 7 + 6)) D0.out).mono ?_; rw [show Pl.sets ⟨el ys (k * 7), el ys (k * 7 + 1), el ys (k * 7 + 2), el ys (k * 7 + 3), el ys (k * 7 + 4), el ys (k * 7 + 5), el ys (k * 7 + 6)⟩ = Pl.sets (Pl.inAt ys k) from rfl]; rintro e9 w5 ⟨rfl, k5⟩; have B5 := hide (B4.out.kept0 k5); have K5 := hide (K4.out.trans k5); have O5 := hide (O4.out.keptS k5 (by omega)); clear k5) | (go_at_call 143; refine (implReads _ (el ys (k * 7)) (el ys (k * 7 + 1)) (el ys (k * 7 + 2)) (el ys (k * 7 + 3)) (el ys (k * 7 + 4)) (el ys (k * 7 + 5)) (el ys (k * 7 + 6)) D0.out).mono ?_; rw [show Pl.reads ⟨el ys (k * 7), el ys (k * 7 + 1), el ys (k * 7 + 2), el ys (k * 7 + 3), el ys (k * 7 + 4), el ys (k * 7 + 5), el ys (k * 7 + 6)⟩ = Pl.reads (Pl.inAt ys k) from rfl]; rintro e9 w4 ⟨rfl, kd⟩; have k4 := undrewK kd; have B4 := hide (B3.out.kept0 k4); have K4 := hide (K3.out.trans k4); have O4 := hide (O3.out.keptS k4 (by omega)); clear kd k4))
            go_wp2_with fail
            go_roundg k
            case measure => omega
            case rel => exact ⟨by omega, rfl, by rw [NB.out, Pl.needB_none D0.out F0.out hf], by rw [← DS.out]; exact O5.out, K5.out, by have := B5.out.lt; have := HS.out; omega⟩
          · go_wp2_with (first | (go_at_call 141; refine (areDeadI _ (el ys (k * 7)) (el ys (k * 7 + 1)) (el ys (k * 7 + 2)) (el ys (k * 7 + 3)) (el ys (k * 7 + 4)) (el ys (k * 7 + 5)) (el ys (k * 7 + 6)) N D0.out).mono ?_; rw [show Pl.deadB ⟨el ys (k * 7), el ys (k * 7 + 1), el ys (k * 7 + 2), el ys (k * 7 + 3), el ys (k * 7 + 4), el ys (k * 7 + 5), el ys (k * 7 + 6)⟩ N = Pl.deadB (Pl.inAt ys k) N from rfl, ← HDD.out]; rintro e9 w2 ⟨rfl, k2⟩; have B2 := hide (B0.out.kept0 k2); have K2 := hide ((kept_new HK.out _).trans k2); have p2 := B2.out.all; have O2 := hide (HO.out.keptS ((kept_alloc wr _).trans k2) (by omega)); obtain ⟨hc2, hf2⟩ := O2.out k (by rw [Pl.deads_len]; omega); have q3 := (B2.out.other w.heap.size k (.bool DD) hne).all; have s2 : wr.heap.size < w2.heap.size := B2.out.lt; clear k2) | (go_at_call 142; refine (implMayF _ (el ys (k * 7)) (el ys (k * 7 + 1)) (el ys (k * 7 + 2)) (el ys (k * 7 + 3)) (el ys (k * 7 + 4)) (el ys (k * 7 + 5)) (el ys (k * 7 + 6)) D0.out).mono ?_; rw [show Pl.mayF ⟨el ys (k * 7), el ys (k * 7 + 1), el ys (k * 7 + 2), el ys (k * 7 + 3), el ys (k * 7 + 4), el ys (k * 7 + 5), el ys (k * 7 + 6)⟩ = Pl.mayF (Pl.inAt ys k) from rfl, hf]; rintro e9 w3 ⟨rfl, k3⟩; have O3 := hide ((O2.out.set DD).keptS k3 (by omega)); have B3 := hide ((B2.out.other w.heap.size k (.bool DD) hne).kept0 k3); have K3 := hide ((kept_set K2.out _ _ _ (.inr (Nat.le_refl _))).trans k3); have SZ3 : w.heap.size < w3.heap.size := (by have := B3.out.lt; have := HS.out; omega); clear k3))
            go_roundg k
            case measure => omega
            case rel => exact ⟨by omega, rfl, .inr (by rw [NB.out, Pl.needB_fault D0.out F0.out hf]), by rw [← DS.out]; exact O3.out, K3.out, SZ3⟩
end Go.Proofs.YtbppfbkkphhjnaaGreat

namespace Go.Proofs.YtbppfbkkphhjnaaGreat.Pl
set_option linter.unusedVariables false

def kind (a : Int) : Int := if 512 ≤ a ∨ (448 ≤ a ∧ a ≤ 495) then 1 else if 384 ≤ a ∧ a ≤ 447 then 3 else 0
def addr (a : Int) : Bool := decide (0 ≤ a) && decide (a ≤ 65535)
def byteOk (v : Int) : Bool := decide (0 ≤ v) && decide (v ≤ 255)
def bytesOk (xs : List Int) : Bool := xs.all byteOk
def accKind (k : Int) : Bool := decide (1 ≤ k) && decide (k ≤ 3)
def accOk (k s a v c : Int) : Bool := accKind k && (okv s v && (addr a && ((decide (0 ≤ c) && decide (c ≤ 3)) && (k != 3 || c != 0))))
def accAt (ys : List Int) (i : Nat) : Bool := accOk (el ys (i * 5)) (el ys (i * 5 + 1)) (el ys (i * 5 + 2)) (el ys (i * 5 + 3)) (el ys (i * 5 + 4))
def accsOk (ys : List Int) (m : Nat) : Bool := (List.range m).all (accAt ys)
def goodBus (xs ys : List Int) (m : Nat) : Bool := accsOk ys m && (decide (xs.length = 512) && (bytesOk xs && decide (m ≤ 400)))
/-- what an access is told -/
def code (k s a : Int) : Int :=
  if s = 2 ∧ a % 2 = 1 then 2 else if kind a = 1 ∨ kind (a + s - 1) = 1 then 1 else if k = 2 ∧ (kind a = 3 ∨ kind (a + s - 1) = 3) then 3 else 0

theorem bytesOk_at {xs : List Int} (h : bytesOk xs = true) (i : Nat) (hi : i < xs.length) : 0 ≤ el xs i ∧ el xs i ≤ 255 := by
  have := List.all_eq_true.1 h (xs[i]) (List.getElem_mem hi)
  simp [byteOk] at this
  simpa [el, hi] using this
theorem bytesOk_no {xs : List Int} {i : Nat} (hi : i < xs.length) (h : byteOk (el xs i) = false) : bytesOk xs = false := by
  cases e : bytesOk xs
  · rfl
  · have := bytesOk_at e i hi
    simp [byteOk] at h
    omega
theorem bytesOk_of {xs : List Int} (h : ∀ i, i < xs.length → byteOk (el xs i) = true) : bytesOk xs = true := by
  unfold bytesOk
  rw [List.all_eq_true]
  intro x hx
  obtain ⟨i, hi, rfl⟩ := List.getElem_of_mem hx
  simpa [el, hi] using h i hi
theorem accsOk_no {ys : List Int} {m i : Nat} (hi : i < m) (h : accAt ys i = false) : accsOk ys m = false := by
  cases e : accsOk ys m
  · rfl
  · have := List.all_eq_true.1 e i (List.mem_range.2 hi)
    rw [h] at this; cases this
theorem accsOk_of {ys : List Int} {m : Nat} (h : ∀ i, i < m → accAt ys i = true) : accsOk ys m = true := by
  unfold accsOk
  rw [List.all_eq_true]
  intro i hi
  exact h i (List.mem_range.1 hi)
end Go.Proofs.YtbppfbkkphhjnaaGreat.Pl

namespace Go.Proofs.YtbppfbkkphhjnaaGreat
open Go.RowKit
set_option linter.unusedVariables false
theorem szIntS (w : World) (a : Option Addr) (ca n : Nat) (left : Int) (hn : n ≤ 9223372036854775807) (l0 : 0 ≤ left) (l1 : left ≤ 2000000) :
    Calls Tryz.prog 30 #[.slice a n ca, iv left] w fun e w' => e = .returned (iv (if left - (n : Int) < 0 then -1 else left - (n : Int))) ∧ w' = w := by
  by_cases h : left - (n : Int) < 0
  all_goals
    go_enter Tryz.func30, Tryz.ntmps30
    go_wp2
    go_ret
    exact ⟨rfl, rfl⟩
end Go.Proofs.YtbppfbkkphhjnaaGreat

namespace Go.Proofs.YtbppfbkkphhjnaaGreat
open Go.RowKit
set_option linter.unusedVariables false

/-- five numbers, each like the other's -/
def five (a b c d e a' b' c' d' e' : Int) : Bool := decide (a = a' ∧ b = b' ∧ c = c' ∧ d = d' ∧ e = e')

theorem IRow.five {w : World} {a : Option Addr} {xs : List Int} (h : IRow w a xs) {n k : Nat} (hl : xs.length = 5 * n) (hk : k < n) :
    ∃ g off : Nat, a = some ⟨g, off, none⟩ ∧ w.cell? ⟨g, off + k * 5, none⟩ = some (iv (el xs (k * 5))) ∧ w.cell? ⟨g, off + k * 5 + 1, none⟩ = some (iv (el xs (k * 5 + 1))) ∧ w.cell? ⟨g, off + k * 5 + 2, none⟩ = some (iv (el xs (k * 5 + 2))) ∧
      w.cell? ⟨g, off + k * 5 + 3, none⟩ = some (iv (el xs (k * 5 + 3))) ∧ w.cell? ⟨g, off + k * 5 + 4, none⟩ = some (iv (el xs (k * 5 + 4))) := by
  obtain ⟨g, off, ea, c0⟩ := h (k * 5) (by omega)
  have pick : ∀ j, j < 5 → w.cell? ⟨g, off + k * 5 + j, none⟩ = some (iv (el xs (k * 5 + j))) := by
    intro j hj
    obtain ⟨g', off', ea', c⟩ := h (k * 5 + j) (by omega)
    rw [ea] at ea'
    cases ea'
    rw [Nat.add_assoc]; exact c
  exact ⟨g, off, ea, c0, pick 1 (by decide), pick 2 (by decide), pick 3 (by decide), pick 4 (by decide)⟩

theorem Own.five {w : World} {g : Nat} {xs : List Int} (h : Own w g xs) {n k : Nat} (hl : xs.length = 5 * n) (hk : k < n) :
    (w.cell? ⟨g, k * 5, none⟩ = some (iv (el xs (k * 5))) ∧ w.cell? ⟨g, k * 5 + 1, none⟩ = some (iv (el xs (k * 5 + 1))) ∧ w.cell? ⟨g, k * 5 + 2, none⟩ = some (iv (el xs (k * 5 + 2))) ∧ w.cell? ⟨g, k * 5 + 3, none⟩ = some (iv (el xs (k * 5 + 3))) ∧ w.cell? ⟨g, k * 5 + 4, none⟩ = some (iv (el xs (k * 5 + 4)))) ∧
    w.frozen? ⟨g, k * 5, none⟩ = false ∧ w.frozen? ⟨g, k * 5 + 1, none⟩ = false ∧ w.frozen? ⟨g, k * 5 + 2, none⟩ = false ∧ w.frozen? ⟨g, k * 5 + 3, none⟩ = false ∧ w.frozen? ⟨g, k * 5 + 4, none⟩ = false :=
  ⟨⟨(h (k * 5) (by omega)).1, (h (k * 5 + 1) (by omega)).1, (h (k * 5 + 2) (by omega)).1, (h (k * 5 + 3) (by omega)).1, (h (k * 5 + 4) (by omega)).1⟩,
   (h (k * 5) (by omega)).2, (h (k * 5 + 1) (by omega)).2, (h (k * 5 + 2) (by omega)).2, (h (k * 5 + 3) (by omega)).2, (h (k * 5 + 4) (by omega)).2⟩

theorem snoc5 {p : Nat → Prop} {k : Nat} (h : ∀ i, i < k * 5 → p i) (h0 : p (k * 5)) (h1 : p (k * 5 + 1)) (h2 : p (k * 5 + 2)) (h3 : p (k * 5 + 3)) (h4 : p (k * 5 + 4)) : ∀ i, i < (k + 1) * 5 → p i := by
  intro i hi
  by_cases e : i < k * 5
  · exact h i e
  · obtain rfl | rfl | rfl | rfl | rfl : i = k * 5 ∨ i = k * 5 + 1 ∨ i = k * 5 + 2 ∨ i = k * 5 + 3 ∨ i = k * 5 + 4 := by omega
    all_goals assumption

theorem eqAccess (a b c d e a' b' c' d' e' : Int) (w : World) :
    Calls Tryz.prog 82 #[.agg #[iv a, iv b, iv c, iv d, iv e], .agg #[iv a', iv b', iv c', iv d', iv e']] w fun r w' => r = .returned (.bool (five a b c d e a' b' c' d' e')) ∧ ∃ o1 o2, w' = (w.alloc o1).alloc o2 := by
  have F : Hid (five a b c d e a' b' c' d' e' = (!(a != a') && (!(b != b') && (!(c != c') && (!(d != d') && !(e != e')))))) := hide (by unfold five; rw [Bool.eq_iff_iff]; simp)
  cases ka : (a != a')
  · cases kb : (b != b')
    · cases kc : (c != c')
      · cases kd : (d != d')
        · cases ke : (e != e')
          all_goals
            go_enter Tryz.func82, Tryz.ntmps82
            go_wp2
            go_ret
            exact ⟨rB (by rw [F.out, ka, kb, kc, kd, ke]; rfl), _, _, rfl⟩
        · go_enter Tryz.func82, Tryz.ntmps82
          go_wp2
          go_ret
          exact ⟨rB (by rw [F.out, kd]; simp), _, _, rfl⟩
      · go_enter Tryz.func82, Tryz.ntmps82
        go_wp2
        go_ret
        exact ⟨rB (by rw [F.out, kc]; simp), _, _, rfl⟩
    · go_enter Tryz.func82, Tryz.ntmps82
      go_wp2
      go_ret
      exact ⟨rB (by rw [F.out, kb]; simp), _, _, rfl⟩
  · go_enter Tryz.func82, Tryz.ntmps82
    go_wp2
    go_ret
    exact ⟨rB (by rw [F.out, ka]; simp), _, _, rfl⟩

set_option maxHeartbeats 2000000 in
theorem eqAccessS (w : World) (a b : Option Addr) (ca cb n m : Nat) (xs ys : List Int) (ha : IRow w a xs) (hb : IRow w b ys) (lx : xs.length = 5 * n) (ly : ys.length = 5 * m) (bx : n ≤ 2000000) (by_ : m ≤ 2000000) :
    Calls Tryz.prog 42 #[.slice a n ca, .slice b m cb] w fun e w' => e = .returned (.bool (decide (xs = ys))) ∧ w.grownBy w' none := by
  by_cases hl : n = m
  · subst hl
    have HX := hide lx
    have HY := hide ly
    clear lx ly
    go_enter Tryz.func42, Tryz.ntmps42
    go_wp2
    go_loopw [5] (fun j wr => ∃ k : Nat, k ≤ n ∧ j = iv k ∧ (∀ i, i < k * 5 → el xs i = el ys i) ∧ w.grownBy wr none) (fun j _ => n - (intOf j).toNat)
    case atStart => exact ⟨0, Nat.zero_le _, rfl, fun i hi => absurd hi (by omega), World.grownBy.refl _ _⟩
    case round =>
      obtain ⟨k, hk, rfl, heq, hg⟩ := hrel
      have HE := hide heq
      clear heq
      by_cases hlt : k < n
      · obtain ⟨g1, o1, rfl, p0, p1, p2, p3, p4⟩ := (ha.kept hg).five HX.out hlt
        obtain ⟨g2, o2, rfl, q0, q1, q2, q3, q4⟩ := (hb.kept hg).five HY.out hlt
        clear ha hb
        cases hf : five (el xs (k * 5)) (el xs (k * 5 + 1)) (el xs (k * 5 + 2)) (el xs (k * 5 + 3)) (el xs (k * 5 + 4)) (el ys (k * 5)) (el ys (k * 5 + 1)) (el ys (k * 5 + 2)) (el ys (k * 5 + 3)) (el ys (k * 5 + 4))
        · go_wp2
          go_region_with (go_at_call 82; refine (eqAccess _ _ _ _ _ _ _ _ _ _ _).mono ?_; rintro e w' ⟨rfl, o5, o6, rfl⟩)
          all_goals
            go_wp2
            go_ret
            refine ⟨rB ?_, grownBy_drew (grownBy_alloc (grownBy_alloc hg _) _)⟩
            symm; rw [decide_eq_false_iff_not]; intro e
            simp [five, e] at hf
        · go_wp2
          go_region_with (go_at_call 82; refine (eqAccess _ _ _ _ _ _ _ _ _ _ _).mono ?_; rintro e w' ⟨rfl, o5, o6, rfl⟩)
          all_goals
            go_wp2
            go_roundw
            case rel =>
              simp only [five, decide_eq_true_eq] at hf
              obtain ⟨f0, f1, f2, f3, f4⟩ := hf
              exact ⟨k + 1, by omega, by go_num, snoc5 HE.out f0 f1 f2 f3 f4, grownBy_drew (grownBy_alloc (grownBy_alloc hg _) _)⟩
            case measure => simp [intOf]; omega
      · go_wp2
        go_ret
        exact ⟨rB (by symm; rw [decide_eq_true_iff]; exact ext_of (HX.out.trans HY.out.symm) (fun i hi => HE.out i (by have := HX.out; omega))), hg⟩
  · have kl : (((n : Nat) : Int) != ((m : Nat) : Int)) = true := by rw [bne_iff_ne]; omega
    have HL : Hid (¬ n = m) := hl
    have HX := hide lx
    have HY := hide ly
    clear hl lx ly
    go_enter Tryz.func42, Tryz.ntmps42
    go_wp2
    go_ret
    exact ⟨rB (by symm; rw [decide_eq_false_iff_not]; intro e; apply HL.out; have := HX.out; have := HY.out; rw [e] at *; omega), World.grownBy.refl _ _⟩
end Go.Proofs.YtbppfbkkphhjnaaGreat

namespace Go.Proofs.YtbppfbkkphhjnaaGreat
open Go.RowKit
set_option linter.unusedVariables false

theorem toAccess (a b c d e : Int) (w : World) :
    Calls Tryz.prog 72 #[.agg #[iv a, iv b, iv c, iv d, iv e]] w fun r w' => r = .returned (.agg #[iv a, iv b, iv c, iv d, iv e]) ∧ ∃ o1 o2 o3, w' = ((w.alloc o1).alloc o2).alloc o3 := by
  go_enter Tryz.func72, Tryz.ntmps72
  go_wp2
  refine bodyPost_ret (v := .agg #[iv a, iv b, iv c, iv d, iv e]) ?_ rfl ⟨rfl, _, _, _, rfl⟩
  rw [results_one rfl]; go_simp

theorem Tryz.infoAcc : (Tryz.prog.info? 97).map (fun i => (i.zero, i.size, i.bytes)) = some (some (.agg #[iv 0, iv 0, iv 0, iv 0, iv 0]), 5, 40) := by kernel_rfl

theorem made5 (n : Nat) : (madeCells (Value.agg #[iv 0, iv 0, iv 0, iv 0, iv 0]).cells (n * 5)).toList = (List.replicate (5 * n) (0 : Int)).map (Value.int .i64) := by
  have hz : ∀ j, j < 5 → (Value.agg #[iv 0, iv 0, iv 0, iv 0, iv 0]).cells[j]! = iv 0 := by
    intro j hj
    obtain rfl | rfl | rfl | rfl | rfl : j = 0 ∨ j = 1 ∨ j = 2 ∨ j = 3 ∨ j = 4 := by omega
    all_goals rfl
  have hs : (Value.agg #[iv 0, iv 0, iv 0, iv 0, iv 0]).cells.size = 5 := rfl
  apply List.ext_getElem
  · simp [size_madeCells]; omega
  · intro i h1 h2
    simp only [madeCells, hs, Array.toList_map, List.getElem_map, List.getElem_replicate]
    exact hz _ (Nat.mod_lt _ (by decide))

theorem own_of_row5 {w : World} {base g n cap : Nat} {xs : List Int} (h : w.ownsRow base 97 5 (.slice (some ⟨g, 0, none⟩) n cap) n (xs.map (Value.int .i64))) : Own w g xs := by
  intro i hi
  rcases h with ⟨hl, ⟨e, _⟩ | ⟨g', cap', cur, e, _, hgg, hn, _, hsz, ht⟩⟩
  · cases e
  · cases e
    simp at hl
    have hc : cur[i]? = some (iv (xs[i]?.getD 0)) := by
      have : (cur.toList.take (n * 5))[i]? = (xs.map (Value.int .i64))[i]? := by rw [ht]
      rw [List.getElem?_take, if_pos (by omega)] at this
      simpa [hi] using this
    refine ⟨?_, ?_⟩
    · simp [World.cell?, hgg, hc]
    · simp [World.frozen?, hgg]

/-- five places of a row, written -/
def set5 (xs : List Int) (k : Nat) (a b c d e : Int) : List Int := ((((xs.set (k * 5) a).set (k * 5 + 1) b).set (k * 5 + 2) c).set (k * 5 + 3) d).set (k * 5 + 4) e
theorem set5_len (xs : List Int) (k : Nat) (a b c d e : Int) : (set5 xs k a b c d e).length = xs.length := by simp [set5]
theorem set5_old {xs : List Int} {k : Nat} {a b c d e : Int} {i : Nat} (h : i < k * 5) : el (set5 xs k a b c d e) i = el xs i := by
  unfold el set5
  rw [List.getElem?_set_ne (by omega), List.getElem?_set_ne (by omega), List.getElem?_set_ne (by omega), List.getElem?_set_ne (by omega), List.getElem?_set_ne (by omega)]
theorem set5_new {xs : List Int} {k : Nat} {a b c d e : Int} (h : k * 5 + 4 < xs.length) : el (set5 xs k a b c d e) (k * 5) = a ∧ el (set5 xs k a b c d e) (k * 5 + 1) = b ∧ el (set5 xs k a b c d e) (k * 5 + 2) = c ∧ el (set5 xs k a b c d e) (k * 5 + 3) = d ∧ el (set5 xs k a b c d e) (k * 5 + 4) = e := by
  unfold el set5
  refine ⟨?_, ?_, ?_, ?_, ?_⟩
  · rw [List.getElem?_set_ne (by omega), List.getElem?_set_ne (by omega), List.getElem?_set_ne (by omega), List.getElem?_set_ne (by omega), List.getElem?_set_self (by omega)]; rfl
  · rw [List.getElem?_set_ne (by omega), List.getElem?_set_ne (by omega), List.getElem?_set_ne (by omega), List.getElem?_set_self (by simp; omega)]; rfl
  · rw [List.getElem?_set_ne (by omega), List.getElem?_set_ne (by omega), List.getElem?_set_self (by simp; omega)]; rfl
  · rw [List.getElem?_set_ne (by omega), List.getElem?_set_self (by simp; omega)]; rfl
  · rw [List.getElem?_set_self (by simp; omega)]; rfl
theorem Own.set5 {w : World} {g : Nat} {xs : List Int} (h : Own w g xs) (k : Nat) (a b c d e : Int) :
    Own (((((w.setCell ⟨g, k * 5, none⟩ (iv a)).setCell ⟨g, k * 5 + 1, none⟩ (iv b)).setCell ⟨g, k * 5 + 2, none⟩ (iv c)).setCell ⟨g, k * 5 + 3, none⟩ (iv d)).setCell ⟨g, k * 5 + 4, none⟩ (iv e)) g (set5 xs k a b c d e) :=
  ((((h.set a).set b).set c).set d).set e
theorem grown_set5 {w wr : World} {g : Nat} {row : Option Nat} (h : w.grownBy wr row) (hr : row = some g ∨ w.heap.size ≤ g) (k0 k1 k2 k3 k4 : Nat) (a b c d e : Value) :
    w.grownBy (((((wr.setCell ⟨g, k0, none⟩ a).setCell ⟨g, k1, none⟩ b).setCell ⟨g, k2, none⟩ c).setCell ⟨g, k3, none⟩ d).setCell ⟨g, k4, none⟩ e) row := by
  have one : ∀ {wx : World} (k : Nat) (v : Value), w.grownBy wx row → w.grownBy (wx.setCell ⟨g, k, none⟩ v) row := fun {wx} k v hx =>
    ⟨hx.os, hx.tape, hx.output, by simpa using hx.size, fun j hj hne => (Below.heap_setCell _ _ _ _ (by
      rcases hr with rfl | hr
      · intro q; apply hne; rw [q]
      · simp; omega)).trans (hx.block j hj hne)⟩
  exact one _ _ (one _ _ (one _ _ (one _ _ (one _ _ h))))

set_option maxHeartbeats 2000000 in
theorem toAccessS (w : World) (a : Option Addr) (ca n : Nat) (xs : List Int) (ha : IRow w a xs) (lx : xs.length = 5 * n) (bx : n ≤ 2000000) :
    Calls Tryz.prog 36 #[.slice a n ca] w fun e w' => e = .returned (.slice (some ⟨w.heap.size, 0, none⟩) n n) ∧ Own w' w.heap.size xs ∧ w.heap.size < w'.heap.size ∧ w.grownBy w' none := by
  obtain ⟨i, hi, hz0, hz1, hz2⟩ := info_parts Tryz.infoAcc
  have HX := hide lx
  clear lx
  go_enter Tryz.func36, Tryz.ntmps36
  go_wp2_with (first | (at_make; refine wpList_make_full _ rfl _ _ 32 rfl w.heap.size 97 i (.agg #[iv 0, iv 0, iv 0, iv 0, iv 0]) 5 Tryz.underlying32 hi hz0 hz1 _ _ _ _ n rfl rfl rfl rfl ?c1 ?c2 ?c3 ?_))
  case c1 => rw [hz2]; omega
  case c2 => unfold maxLen; omega
  case c3 => exact Nat.le_refl _
  intro w1 hown hg
  have ho : Own w1 w.heap.size (List.replicate (5 * n) 0) := own_of_row5 (base := w.heap.size) (n := n) (cap := n) (by rw [← made5]; exact hown)
  have hs : w.heap.size < w1.heap.size := (hown.lt _ rfl).2
  clear hown
  go_wp2
  go_loopw [4] (fun j wr => ∃ (k : Nat) (zs : List Int), k ≤ n ∧ j = iv k ∧ zs.length = 5 * n ∧ Own wr w.heap.size zs ∧ (∀ i, i < k * 5 → el zs i = el xs i) ∧ w.heap.size < wr.heap.size ∧ w.grownBy wr none) (fun j _ => n - (intOf j).toNat)
  case atStart => exact ⟨0, _, Nat.zero_le _, rfl, by simp, ho, fun i hi => absurd hi (by omega), hs, hg⟩
  case round =>
    obtain ⟨k, zs, hk, rfl, hl, hown, heq, hsz, hgr⟩ := hrel
    have HE := hide heq
    have HL := hide hl
    have HO := hide hown
    have HS := hide hsz
    clear heq hl
    by_cases hlt : k < n
    · obtain ⟨g1, o1, rfl, p0, p1, p2, p3, p4⟩ := (ha.kept hgr).five HX.out hlt
      clear ha hown hsz
      go_wp2_with fail
      refine (toAccess _ _ _ _ _ _).mono ?_
      rintro e w' ⟨rfl, o5, o6, o7, rfl⟩
      obtain ⟨X, hX⟩ : ∃ X : World, X = ((wr.alloc o5).alloc o6).alloc o7 := ⟨_, rfl⟩
      rw [← hX]
      have hx : wr.grownBy X none := by rw [hX]; exact grownBy_alloc (grownBy_alloc (grownBy_alloc (World.grownBy.refl _ _) _) _) _
      have HX2 : Hid (w.grownBy X none) := hide (grownBy_trans hgr hx)
      have HO2 := hide (HO.out.kept hx (by simp))
      have HS2 : Hid (w.heap.size < X.heap.size) := hide (Nat.lt_of_lt_of_le HS.out hx.size)
      clear hX hx p0 p1 p2 p3 p4 hgr
      obtain ⟨⟨c0, c1, c2, c3, c4⟩, g0, g1', g2, g3, g4⟩ := HO2.out.five HL.out hlt
      go_wp2_with fail
      go_roundw
      case rel =>
        have hk4 : k * 5 + 4 < zs.length := by have := HL.out; omega
        obtain ⟨n0, n1, n2, n3, n4⟩ := set5_new (a := el xs (k * 5)) (b := el xs (k * 5 + 1)) (c := el xs (k * 5 + 2)) (d := el xs (k * 5 + 3)) (e := el xs (k * 5 + 4)) hk4
        exact ⟨k + 1, set5 zs k _ _ _ _ _, by omega, by go_num, by rw [set5_len]; exact HL.out, HO2.out.set5 k _ _ _ _ _, snoc5 (fun i hi => (set5_old hi).trans (HE.out i hi)) n0 n1 n2 n3 n4, by simpa using HS2.out, grown_set5 HX2.out (.inr (Nat.le_refl _)) _ _ _ _ _ _ _ _ _ _⟩
      case measure => simp [intOf]; omega
    · clear hown hsz
      go_wp2
      go_ret
      have e : zs = xs := ext_of (HL.out.trans HX.out.symm) (fun i hi => HE.out i (by have := HL.out; omega))
      exact ⟨rfl, by rw [← e]; exact HO.out, HS.out, hgr⟩

end Go.Proofs.YtbppfbkkphhjnaaGreat

namespace Go.Proofs.YtbppfbkkphhjnaaGreat
open Go.RowKit
set_option linter.unusedVariables false

theorem szAccessS (w : World) (a : Option Addr) (ca n : Nat) (left : Int) (hn : n ≤ 9223372036854775807) (l0 : 0 ≤ left) (l1 : left ≤ 2000000) :
    Calls Tryz.prog 31 #[.slice a n ca, iv left] w fun e w' => e = .returned (iv (if left - (n : Int) < 0 then -1 else left - (n : Int))) ∧ w' = w := by
  by_cases h : left - (n : Int) < 0
  all_goals
    go_enter Tryz.func31, Tryz.ntmps31
    go_wp2
    go_ret
    exact ⟨rfl, rfl⟩
theorem szBus (w : World) (a b : Option Addr) (ca cb n m : Nat) (left : Int) (hn : n ≤ 9223372036854775807) (hm : m ≤ 9223372036854775807) (l0 : 0 ≤ left) (l1 : left ≤ 2000000) :
    Calls Tryz.prog 7 #[.agg #[.slice a n ca, .slice b m cb], iv left] w fun e w' => e = .returned (iv (szB n m left)) ∧ Kept 0 0 w w' := by
  by_cases h : left - (n : Int) < 0
  · have E : Hid (szB n m left = -1) := hide (by simp [szB, h])
    have e1 : (if left - (n : Int) < 0 then (-1 : Int) else left - (n : Int)) = -1 := by simp [h]
    go_enter Tryz.func7, Tryz.ntmps7
    go_wp2_with fail
    refine (szIntS _ a ca n left hn l0 l1).mono ?_
    rintro e w' ⟨rfl, rfl⟩
    rw [e1]
    go_wp2_with fail
    go_ret
    exact ⟨rI E.out.symm, kept_alloc _ _⟩
  · have e1 : (if left - (n : Int) < 0 then (-1 : Int) else left - (n : Int)) = left - (n : Int) := by simp [h]
    by_cases h2 : left - (n : Int) - (m : Int) < 0
    · have E : Hid (szB n m left = -1) := hide (by simp [szB, h, h2])
      have e2 : (if left - (n : Int) - (m : Int) < 0 then (-1 : Int) else left - (n : Int) - (m : Int)) = -1 := by simp [h2]
      go_enter Tryz.func7, Tryz.ntmps7
      go_wp2_with fail
      refine (szIntS _ a ca n left hn l0 l1).mono ?_
      rintro e w' ⟨rfl, rfl⟩
      rw [e1]
      go_wp2_with fail
      refine (szAccessS _ b cb m (left - (n : Int)) hm (by omega) (by omega)).mono ?_
      rintro e w' ⟨rfl, rfl⟩
      rw [e2]
      go_wp2_with fail
      go_ret
      exact ⟨rI E.out.symm, kept_alloc _ _⟩
    · have E : Hid (szB n m left = left - (n : Int) - (m : Int)) := hide (by simp [szB, h, h2])
      have e2 : (if left - (n : Int) - (m : Int) < 0 then (-1 : Int) else left - (n : Int) - (m : Int)) = left - (n : Int) - (m : Int) := by simp [h2]
      go_enter Tryz.func7, Tryz.ntmps7
      go_wp2_with fail
      refine (szIntS _ a ca n left hn l0 l1).mono ?_
      rintro e w' ⟨rfl, rfl⟩
      rw [e1]
      go_wp2_with fail
      refine (szAccessS _ b cb m (left - (n : Int)) hm (by omega) (by omega)).mono ?_
      rintro e w' ⟨rfl, rfl⟩
      rw [e2]
      go_wp2_with fail
      go_ret
      exact ⟨rI E.out.symm, kept_alloc _ _⟩
theorem toBus (w : World) (a b : Option Addr) (ca cb m : Nat) (xs ys : List Int) (ha : IRow w a xs) (hb : IRow w b ys) (lx : xs.length ≤ 2000000) (ly : ys.length = 5 * m) (bm : m ≤ 2000000) :
    Calls Tryz.prog 9 #[.agg #[.slice a xs.length ca, .slice b m cb]] w fun e w' => ∃ g1 g2 : Nat, e = .returned (.agg #[.slice (some ⟨g1, 0, none⟩) xs.length xs.length, .slice (some ⟨g2, 0, none⟩) m m]) ∧ Own w' g1 xs ∧ Own w' g2 ys ∧ w.heap.size ≤ g1 ∧ g1 < g2 ∧ g2 < w'.heap.size ∧ Kept 0 0 w w' := by
  have HY := hide ly
  have HA := hide ha
  have HB := hide hb
  clear ly ha hb
  go_enter Tryz.func9, Tryz.ntmps9
  go_wp2_with fail
  have k0 : Kept 0 0 w (((w.alloc (.cells #[.slice a xs.length ca, .slice b m cb] 25)).alloc (.cells #[.slice none 0 0, .slice none 0 0] 34)).alloc (.cells #[.slice none 0 0, .slice none 0 0] 34)) := kept_new (kept_new (kept_alloc _ _) _) _
  refine (toIntS _ a ca xs (HA.out.keptS k0) lx).mono ?_
  rintro e w1 ⟨rfl, o1, z1, g1⟩
  have k1 := kept_grown g1
  have B0 := ((((Blk.new w #[.slice a xs.length ca, .slice b m cb] 25).alloc (.cells #[.slice none 0 0, .slice none 0 0] 34)).alloc (.cells #[.slice none 0 0, .slice none 0 0] 34)).kept0 k1)
  have B1 := (((Blk.new (w.alloc (.cells #[.slice a xs.length ca, .slice b m cb] 25)) #[.slice none 0 0, .slice none 0 0] 34).alloc (.cells #[.slice none 0 0, .slice none 0 0] 34)).kept0 k1)
  have B2 := ((Blk.new ((w.alloc (.cells #[.slice a xs.length ca, .slice b m cb] 25)).alloc (.cells #[.slice none 0 0, .slice none 0 0] 34)) #[.slice none 0 0, .slice none 0 0] 34).kept0 k1)
  simp only [World.size_alloc] at B1 B2 z1 o1 ⊢
  have c1 := B0.cell (i := 1) rfl
  have d0 := B2.cell (i := 0) rfl
  have d1 := B2.cell (i := 1) rfl
  have f0 := B2.frozen 0
  have f1 := B2.frozen 1
  have HK1 := hide (k0.trans k1)
  have HO1 := hide o1
  have HZ1 := hide z1
  have HB1 := hide B1
  have HB2 := hide B2
  clear k0 k1 g1 o1 z1 B0 B1 B2
  go_wp2_with fail
  obtain ⟨X, hX⟩ : ∃ X : World, X = w1.setCell ⟨w.heap.size + 1 + 1, 0, none⟩ (.slice (some ⟨w.heap.size + 1 + 1 + 1, 0, none⟩) xs.length xs.length) := ⟨_, rfl⟩
  rw [← hX]
  have HKX : Hid (Kept 0 0 w X) := hide (by rw [hX]; exact kept_set HK1.out _ _ _ (.inr (by omega)))
  have HOX : Hid (Own X (w.heap.size + 1 + 1 + 1) xs) := hide (by rw [hX]; exact HO1.out.setOther _ _ _ (by omega))
  have HBX1 : Hid (Blk X (w.heap.size + 1) #[.slice none 0 0, .slice none 0 0] 34) := hide (by rw [hX]; exact HB1.out.other _ _ _ (by omega))
  have HBX2 : Hid (Blk X (w.heap.size + 1 + 1) #[.slice (some ⟨w.heap.size + 1 + 1 + 1, 0, none⟩) xs.length xs.length, .slice none 0 0] 34) := hide (by rw [hX]; exact HB2.out.set _ _)
  have HZX : Hid (w.heap.size + 1 + 1 + 1 < X.heap.size) := hide (by rw [hX]; simpa using HZ1.out)
  clear hX c1 d0 d1 f0 f1 HB1 HB2 HO1 HK1 HZ1
  refine (toAccessS _ b cb m ys (HB.out.keptS HKX.out) HY.out bm).mono ?_
  rintro e w2 ⟨rfl, o2, z2, g2⟩
  have k2 := kept_grown g2
  have HK2 := hide (HKX.out.trans k2)
  have HO1 := hide (HOX.out.keptS k2 (by omega))
  have HO2 := hide o2
  have HZ2 := hide z2
  have B1 := HBX1.out.kept0 k2
  have B2 := HBX2.out.kept0 k2
  have HB1 := hide B1
  have HB2 := hide B2
  have d0 := B2.cell (i := 0) rfl
  have d1 := B2.cell (i := 1) rfl
  have f0 := B2.frozen 0
  have f1 := B2.frozen 1
  have e0 := B1.cell (i := 0) rfl
  have e1 := B1.cell (i := 1) rfl
  have h0 := B1.frozen 0
  have h1 := B1.frozen 1
  clear g2 k2 o2 z2 B1 B2
  go_wp2_with fail
  refine bodyPost_ret (v := .agg #[.slice (some ⟨w.heap.size + 1 + 1 + 1, 0, none⟩) xs.length xs.length, .slice (some ⟨X.heap.size, 0, none⟩) m m]) ?_ rfl ⟨w.heap.size + 1 + 1 + 1, X.heap.size, rfl, ?_, ?_, by omega, HZX.out, ?_, ?_⟩
  · exact results_cell_row rfl _ _ _ _ _ (0, 0) _ rfl ((((HB1.out.other _ _ _ (by omega)).set _ _).set _ _)) Tryz.underlying34 rfl (by kernel_rfl)
  · exact ((HO1.out.setOther _ _ _ (by omega)).setOther _ _ _ (by omega)).setOther _ _ _ (by omega)
  · have := HZX.out
    exact ((HO2.out.setOther _ _ _ (by omega)).setOther _ _ _ (by omega)).setOther _ _ _ (by omega)
  · simpa using HZ2.out
  · exact kept_set (kept_set (kept_set HK2.out _ _ _ (.inr (by omega))) _ _ _ (.inr (by omega))) _ _ _ (.inr (by omega))
theorem eqBus (w : World) (a b c d : Option Addr) (ca cb cc cd m n : Nat) (xs ys us vs : List Int) (ha : IRow w a xs) (hb : IRow w b ys) (hc : IRow w c us) (hd : IRow w d vs) (lx : xs.length ≤ 2000000) (lu : us.length ≤ 2000000) (ly : ys.length = 5 * m) (lv : vs.length = 5 * n) (bm : m ≤ 2000000) (bn : n ≤ 2000000) :
    Calls Tryz.prog 12 #[.agg #[.slice a xs.length ca, .slice b m cb], .agg #[.slice c us.length cc, .slice d n cd]] w fun e w' => e = .returned (.bool (decide (xs = us) && decide (ys = vs))) ∧ Kept 0 0 w w' := by
  have HY := hide ly
  have HV := hide lv
  clear ly lv
  have k0 : Kept 0 0 w ((w.alloc (.cells #[.slice a xs.length ca, .slice b m cb] 34)).alloc (.cells #[.slice c us.length cc, .slice d n cd] 34)) := kept_new (kept_alloc _ _) _
  have HK0 := hide k0
  have HA := hide ha
  have HB := hide hb
  have HC := hide hc
  have HD := hide hd
  clear k0 ha hb hc hd
  cases h1 : decide (xs = us)
  · go_enter Tryz.func12, Tryz.ntmps12
    go_wp2_with fail
    refine (eqIntS _ a c ca cc xs us (HA.out.keptS HK0.out) (HC.out.keptS HK0.out) lx lu).mono ?_
    rintro e w1 ⟨rfl, g1⟩
    rw [h1]
    have HK1 := hide (HK0.out.trans (kept_grown g1))
    clear g1
    go_wp2_with fail
    go_ret
    exact ⟨rfl, HK1.out⟩
  · go_enter Tryz.func12, Tryz.ntmps12
    go_wp2_with fail
    refine (eqIntS _ a c ca cc xs us (HA.out.keptS HK0.out) (HC.out.keptS HK0.out) lx lu).mono ?_
    rintro e w1 ⟨rfl, g1⟩
    rw [h1]
    have k1 := kept_grown g1
    have B0 := ((Blk.new w #[.slice a xs.length ca, .slice b m cb] 34).alloc (.cells #[.slice c us.length cc, .slice d n cd] 34)).kept0 k1
    have B1 := (Blk.new (w.alloc (.cells #[.slice a xs.length ca, .slice b m cb] 34)) #[.slice c us.length cc, .slice d n cd] 34).kept0 k1
    simp only [World.size_alloc] at B1
    have c1 := B0.cell (i := 1) rfl
    have d1 := B1.cell (i := 1) rfl
    have HK1 := hide (HK0.out.trans k1)
    clear g1 k1 B0 B1
    go_wp2_with fail
    refine (eqAccessS _ b d cb cd m n ys vs (HB.out.keptS HK1.out) (HD.out.keptS HK1.out) HY.out HV.out bm bn).mono ?_
    rintro e w2 ⟨rfl, g2⟩
    have HK2 := hide (HK1.out.trans (kept_grown g2))
    clear g2
    cases h2 : decide (ys = vs)
    all_goals
      go_wp2_with fail
      go_ret
      exact ⟨rB (by rw [h2]; rfl), HK2.out⟩

end Go.Proofs.YtbppfbkkphhjnaaGreat

namespace Go.Proofs.YtbppfbkkphhjnaaGreat
open Go.RowKit
set_option linter.unusedVariables false

theorem isAddress (a : Int) (w : World) : Calls Tryz.prog 138 #[iv a] w fun e w' => e = .returned (.bool (Pl.addr a)) ∧ w' = w := by
  by_cases h0 : 0 ≤ a
  all_goals
    by_cases h1 : a ≤ 65535
    all_goals
      go_enter Tryz.func138, Tryz.ntmps138
      go_wp2
      go_ret
      exact ⟨rB (by simp [Pl.addr, h0, h1] <;> omega), rfl⟩
theorem isAccessKind (a : Int) (w : World) : Calls Tryz.prog 137 #[iv a] w fun e w' => e = .returned (.bool (Pl.accKind a)) ∧ w' = w := by
  by_cases h0 : 1 ≤ a
  all_goals
    by_cases h1 : a ≤ 3
    all_goals
      go_enter Tryz.func137, Tryz.ntmps137
      go_wp2
      go_ret
      exact ⟨rB (by simp [Pl.accKind, h0, h1] <;> omega), rfl⟩
theorem isOdd (a : Int) (w : World) (h0 : 0 ≤ a) (h1 : a ≤ 65535) : Calls Tryz.prog 75 #[iv a] w fun e w' => e = .returned (.bool (decide (a % 2 = 1))) ∧ w' = w := by
  go_enter Tryz.func75, Tryz.ntmps75
  go_wp2
  go_ret
  refine ⟨rB ?_, rfl⟩
  rw [Bool.eq_iff_iff]
  simp
  omega
namespace Pl
def isAcc (k s a v c : Int) : Bool := okv s v && (accKind k && (addr a && (decide (0 ≤ c) && decide (c ≤ 3))))
theorem accOk_isAcc (k s a v c : Int) : accOk k s a v c = (isAcc k s a v c && !((k == 3) && (c == 0))) := by
  unfold accOk isAcc
  rw [Bool.eq_iff_iff]
  simp only [Bool.and_eq_true, Bool.or_eq_true, Bool.not_eq_true', decide_eq_true_eq, bne_iff_ne, ne_eq, Bool.and_eq_false_iff, beq_eq_false_iff_ne]
  constructor
  · rintro ⟨a1, a2, a3, a4, a5⟩; exact ⟨⟨a2, a1, a3, a4⟩, a5⟩
  · rintro ⟨⟨a2, a1, a3, a4⟩, a5⟩; exact ⟨a1, a2, a3, a4, a5⟩
end Pl
theorem isAccess (k s a v c : Int) (w : World) (lo : -9223372036854775808 ≤ v) (hi : v ≤ 9223372036854775807) : Calls Tryz.prog 107 #[.agg #[iv k, iv s, iv a, iv v, iv c]] w fun e w' => e = .returned (.bool (Pl.isAcc k s a v c)) ∧ ∃ o, w' = w.alloc o := by
  cases h1 : Pl.okv s v
  · go_enter Tryz.func107, Tryz.ntmps107
    go_wp2_with (first | (go_at_call 136; refine (signedOf _ _ _ lo hi).mono ?_; rintro e w' ⟨rfl, rfl⟩; rw [h1]) | (go_at_call 137; refine (isAccessKind _ _).mono ?_; rintro e w' ⟨rfl, rfl⟩) | (go_at_call 138; refine (isAddress _ _).mono ?_; rintro e w' ⟨rfl, rfl⟩))
    go_ret
    exact ⟨rB (by unfold Pl.isAcc; rw [h1]; rfl), _, rfl⟩
  · cases h2 : Pl.accKind k
    · go_enter Tryz.func107, Tryz.ntmps107
      go_wp2_with (first | (go_at_call 136; refine (signedOf _ _ _ lo hi).mono ?_; rintro e w' ⟨rfl, rfl⟩; rw [h1]) | (go_at_call 137; refine (isAccessKind _ _).mono ?_; rintro e w' ⟨rfl, rfl⟩; rw [h2]) | (go_at_call 138; refine (isAddress _ _).mono ?_; rintro e w' ⟨rfl, rfl⟩))
      go_ret
      exact ⟨rB (by unfold Pl.isAcc; rw [h1, h2]; rfl), _, rfl⟩
    · cases h3 : Pl.addr a
      · go_enter Tryz.func107, Tryz.ntmps107
        go_wp2_with (first | (go_at_call 136; refine (signedOf _ _ _ lo hi).mono ?_; rintro e w' ⟨rfl, rfl⟩; rw [h1]) | (go_at_call 137; refine (isAccessKind _ _).mono ?_; rintro e w' ⟨rfl, rfl⟩; rw [h2]) | (go_at_call 138; refine (isAddress _ _).mono ?_; rintro e w' ⟨rfl, rfl⟩; rw [h3]))
        go_ret
        exact ⟨rB (by unfold Pl.isAcc; rw [h1, h2, h3]; rfl), _, rfl⟩
      · cases h4 : decide (0 ≤ c)
        all_goals
          cases h5 : decide (c ≤ 3)
          all_goals
            go_enter Tryz.func107, Tryz.ntmps107
            go_wp2_with (first | (go_at_call 136; refine (signedOf _ _ _ lo hi).mono ?_; rintro e w' ⟨rfl, rfl⟩; rw [h1]) | (go_at_call 137; refine (isAccessKind _ _).mono ?_; rintro e w' ⟨rfl, rfl⟩; rw [h2]) | (go_at_call 138; refine (isAddress _ _).mono ?_; rintro e w' ⟨rfl, rfl⟩; rw [h3]))
            go_ret
            exact ⟨rB (by unfold Pl.isAcc; rw [h1, h2, h3, h4, h5]; rfl), _, rfl⟩
theorem isLogged (k s a v c : Int) (w : World) (lo : -9223372036854775808 ≤ v) (hi : v ≤ 9223372036854775807) : Calls Tryz.prog 74 #[.agg #[iv k, iv s, iv a, iv v, iv c]] w fun e w' => e = .returned (.bool (Pl.accOk k s a v c)) ∧ ∃ o p, w' = (w.alloc o).alloc p := by
  cases h1 : Pl.isAcc k s a v c
  · go_enter Tryz.func74, Tryz.ntmps74
    go_wp2_with (go_at_call 107; refine (isAccess _ _ _ _ _ _ lo hi).mono ?_; rintro e w' ⟨rfl, o, rfl⟩; rw [h1])
    go_ret
    exact ⟨rB (by rw [Pl.accOk_isAcc, h1]; rfl), _, _, rfl⟩
  · cases h2 : (k == 3)
    · go_enter Tryz.func74, Tryz.ntmps74
      go_wp2_with (go_at_call 107; refine (isAccess _ _ _ _ _ _ lo hi).mono ?_; rintro e w' ⟨rfl, o, rfl⟩; rw [h1])
      go_ret
      exact ⟨rB (by rw [Pl.accOk_isAcc, h1, h2]; rfl), _, _, rfl⟩
    · cases h3 : (c == 0)
      all_goals
        go_enter Tryz.func74, Tryz.ntmps74
        go_wp2_with (go_at_call 107; refine (isAccess _ _ _ _ _ _ lo hi).mono ?_; rintro e w' ⟨rfl, o, rfl⟩; rw [h1])
        go_ret
        exact ⟨rB (by rw [Pl.accOk_isAcc, h1, h2, h3]; rfl), _, _, rfl⟩
end Go.Proofs.YtbppfbkkphhjnaaGreat

namespace Go.Proofs.YtbppfbkkphhjnaaGreat
open Go.RowKit
set_option linter.unusedVariables false
set_option linter.unusedSimpArgs false
set_option maxHeartbeats 2000000 in
theorem instrOf (w : World) (f t : Int) (a : Option Addr) (ca n : Nat) (ys ts : List Int) (sk : List Bool) (ha : MRow w a n ys ts sk) (ly : ys.length = 7 * n) (bx : n ≤ 2000000) :
    Calls Tryz.prog 85 #[.agg #[iv f, iv t, .slice a n ca]] w fun e w' => e = .returned (.slice (some ⟨w.heap.size + 1, 0, none⟩) n n) ∧ Own w' (w.heap.size + 1) ys ∧ w.heap.size + 1 < w'.heap.size ∧ Kept 0 0 w w' := by
  obtain ⟨i, hi, hz0, hz1, hz2⟩ := info_parts Tryz.infoIns
  have K0 := hide (kept_alloc w (.cells #[iv f, iv t, .slice a n ca] 29))
  have B0 := hide (Blk.new w #[iv f, iv t, .slice a n ca] 29)
  have HA := hide ha
  have HX := hide ly
  clear ha ly
  go_enter Tryz.func85, Tryz.ntmps85
  go_wp2_with (first | (at_make; refine wpList_make_full _ rfl _ _ 72 rfl (w.heap.size + 1) 104 i (.agg #[.int .i64 0, .int .i64 0, .int .i64 0, .int .i64 0, .int .i64 0, .int .i64 0, .int .i64 0]) 7 Tryz.underlying72 hi hz0 hz1 _ _ _ _ n rfl rfl rfl rfl ?c1 ?c2 ?c3 ?_))
  case c1 => rw [hz2]; omega
  case c2 => unfold maxLen; omega
  case c3 => simp
  intro w1 hown hg
  have ho : Own w1 (w.heap.size + 1) (List.replicate (7 * n) 0) := own_of_row7 (base := w.heap.size + 1) (n := n) (cap := n) (by rw [← made7]; exact hown)
  have hs : w.heap.size + 1 < w1.heap.size := (hown.lt _ rfl).2
  have hk1 : Kept 0 0 w w1 := K0.out.trans (kept_grown hg)
  have B1 := hide (B0.out.kept0 (kept_grown hg))
  have p1 := B1.out.all
  clear hown hg
  go_wp2_with fail
  go_loopw [13] (fun j wr => ∃ (k : Nat) (zs : List Int), k ≤ n ∧ j = .int .i64 k ∧ zs.length = 7 * n ∧ Own wr (w.heap.size + 1) zs ∧ (∀ i, i < k * 7 → el zs i = el ys i) ∧ w.heap.size + 1 < wr.heap.size ∧ Kept 0 0 w wr) (fun j _ => n - (intOf j).toNat)
  case atStart => exact ⟨0, _, Nat.zero_le _, rfl, by simp, ho, fun i hi => absurd hi (by omega), hs, hk1⟩
  case round =>
    obtain ⟨k, zs, hk, rfl, hl, hown, heq, hsz, hgr⟩ := hrel
    have HE := hide heq
    have HL := hide hl
    have HO := hide hown
    have HS := hide hsz
    have HK := hide hgr
    clear heq hl hsz hgr ho hs hk1 p1
    by_cases hlt : k < n
    · obtain ⟨g1, off1, rfl, q0, q1, q2, q3, q4, q5, q6, q7, q8⟩ := (HA.out.keptS HK.out).at9 hlt
      have hk7 : k * 7 + 6 < zs.length := by have := HL.out; omega
      have O2 := hide (HO.out.keptS (kept_alloc wr (.cells #[iv (el ys (k * 7)), iv (el ys (k * 7 + 1)), iv (el ys (k * 7 + 2)), iv (el ys (k * 7 + 3)), iv (el ys (k * 7 + 4)), iv (el ys (k * 7 + 5)), iv (el ys (k * 7 + 6)), iv (el ts k), .bool (bl sk k)] 108)) (by omega))
      obtain ⟨⟨c0, c1, c2, c3, c4, c5, c6⟩, f0, f1, f2, f3, f4, f5, f6⟩ := O2.out.at7 HL.out hlt
      clear hown
      go_wp2_with fail
      go_roundw
      case rel =>
        obtain ⟨n0, n1, n2, n3, n4, n5, n6⟩ := set7_new (a := el ys (k * 7)) (b := el ys (k * 7 + 1)) (c := el ys (k * 7 + 2)) (d := el ys (k * 7 + 3)) (e := el ys (k * 7 + 4)) (f := el ys (k * 7 + 5)) (x := el ys (k * 7 + 6)) hk7
        exact ⟨k + 1, set7 zs k _ _ _ _ _ _ _, by omega, by go_num, by rw [set7_len]; exact HL.out, O2.out.set7 k _ _ _ _ _ _ _, snoc7 (fun i hi => (set7_old hi).trans (HE.out i hi)) n0 n1 n2 n3 n4 n5 n6, by have := HS.out; simp; omega, (kept_set (kept_set (kept_set (kept_set (kept_set (kept_set (kept_set (kept_new HK.out _) _ _ _ (.inr (by omega))) _ _ _ (.inr (by omega))) _ _ _ (.inr (by omega))) _ _ _ (.inr (by omega))) _ _ _ (.inr (by omega))) _ _ _ (.inr (by omega))) _ _ _ (.inr (by omega)))⟩
      case measure => simp [intOf]; omega
    · clear hown
      go_wp2
      go_ret
      have e : zs = ys := ext_of (HL.out.trans HX.out.symm) (fun i hi => HE.out i (by have := HL.out; omega))
      exact ⟨rfl, by rw [← e]; exact HO.out, HS.out, HK.out⟩
theorem isCodePlace (w : World) (q : Int) : Calls Tryz.prog 38 #[iv q] w fun e w' => e = .returned (.bool (decide (0 ≤ q) && (decide (q ≤ 512) && (q % 2 == 0)))) ∧ w' = w := by
  cases h0 : decide ((0 : Int) ≤ q)
  · go_enter Tryz.func38, Tryz.ntmps38
    go_wp2_with fail
    go_ret
    exact ⟨rB (by simp), rfl⟩
  · cases h1 : decide (q ≤ 512)
    · go_enter Tryz.func38, Tryz.ntmps38
      go_wp2_with fail
      go_ret
      exact ⟨rB (by simp), rfl⟩
    · have q0 : 0 ≤ q := by simpa using h0
      have q1 : q ≤ 512 := by simpa using h1
      cases h2 : decide (q % 2 = 1)
      all_goals
        go_enter Tryz.func38, Tryz.ntmps38
        go_wp2_with (first | (go_at_call 75; refine (isOdd _ _ q0 (by omega)).mono ?_; rintro e w' ⟨rfl, hw9⟩; have hw8 := hw9.symm; clear hw9; subst hw8; rw [h2]))
        go_ret
        exact ⟨rB (by simp at h2 ⊢; omega), rfl⟩
set_option maxRecDepth 20000 in
set_option maxHeartbeats 4000000 in
theorem implPart (w : World) (a : Option Addr) (ca n : Nat) (ys : List Int) (ha : Came w a ys) (ly : ys.length = 7 * n) (n1 : 1 ≤ n) (hn : n ≤ 2000000) (hc : n ≤ ca) (hok : Pl.inOk (Pl.inAt ys (n - 1)) = true) :
    Calls Tryz.prog 113 #[.slice a n ca] w fun e w' => e = .returned (.slice a (Pl.headN ys n) ca) ∧ Kept 0 0 w w' := by
  have HA := hide ha
  have HY := hide ly
  obtain ⟨m, rfl⟩ : ∃ m, n = m + 1 := ⟨n - 1, by omega⟩
  rw [Nat.add_sub_cancel] at hok
  obtain ⟨g1, off1, rfl, p0, p1, p2, p3, p4, p5, p6⟩ := HA.out.1.at7 HY.out (show m < m + 1 by omega)
  clear ha ly
  cases hs : Pl.straight (Pl.inAt ys m)
  · have hh : Hid (Pl.headN ys (m + 1) = m) := hide (by unfold Pl.headN; rw [Nat.add_sub_cancel, hs]; simp)
    go_enter Tryz.func113, Tryz.ntmps113
    go_wp2_with (first | (go_at_call 78; refine (implStr _ (el ys (m * 7)) (el ys (m * 7 + 1)) (el ys (m * 7 + 2)) (el ys (m * 7 + 3)) (el ys (m * 7 + 4)) (el ys (m * 7 + 5)) (el ys (m * 7 + 6)) (Pl.inD_of hok)).mono ?_; rw [show Pl.straight ⟨el ys (m * 7), el ys (m * 7 + 1), el ys (m * 7 + 2), el ys (m * 7 + 3), el ys (m * 7 + 4), el ys (m * 7 + 5), el ys (m * 7 + 6)⟩ = Pl.straight (Pl.inAt ys m) from rfl, hs]; rintro e9 w5 ⟨rfl, k5⟩; have K5 := hide ((Kept.refl 0 0 w).trans k5); clear k5))
    go_ret
    exact ⟨by rw [hh.out]; rfl, K5.out⟩
  · have hh : Hid (Pl.headN ys (m + 1) = m + 1) := hide (by unfold Pl.headN; rw [Nat.add_sub_cancel, hs]; simp)
    go_enter Tryz.func113, Tryz.ntmps113
    go_wp2_with (first | (go_at_call 78; refine (implStr _ (el ys (m * 7)) (el ys (m * 7 + 1)) (el ys (m * 7 + 2)) (el ys (m * 7 + 3)) (el ys (m * 7 + 4)) (el ys (m * 7 + 5)) (el ys (m * 7 + 6)) (Pl.inD_of hok)).mono ?_; rw [show Pl.straight ⟨el ys (m * 7), el ys (m * 7 + 1), el ys (m * 7 + 2), el ys (m * 7 + 3), el ys (m * 7 + 4), el ys (m * 7 + 5), el ys (m * 7 + 6)⟩ = Pl.straight (Pl.inAt ys m) from rfl, hs]; rintro e9 w5 ⟨rfl, k5⟩; have K5 := hide ((Kept.refl 0 0 w).trans k5); clear k5))
    go_ret
    exact ⟨by rw [hh.out]; rfl, K5.out⟩
theorem Came.take {w : World} {a : Option Addr} {xs : List Int} (h : Came w a xs) (m : Nat) : Came w a (xs.take m) := by
  refine ⟨?_, ?_⟩
  · intro i hi
    have hi2 : i < m ∧ i < xs.length := by rw [List.length_take] at hi; omega
    obtain ⟨g, o, e, c⟩ := h.1 i hi2.2
    refine ⟨g, o, e, ?_⟩
    rw [List.getElem?_take, if_pos hi2.1]
    exact c
  · intro i hi
    have hi2 : i < m ∧ i < xs.length := by rw [List.length_take] at hi; omega
    rw [List.getElem?_take, if_pos hi2.1]
    exact h.2 i hi2.2
/-- a block's row of instructions, as the program tells it -/
def Pl.blockOk (ys : List Int) (n : Nat) : Bool := decide (1 ≤ n) && (decide (n ≤ 8) && (Pl.inOk (Pl.inAt ys (n - 1)) && Pl.rowS ys (Pl.headN ys n)))
theorem head_row {ys : List Int} {n m : Nat} (hl : ys.length = 7 * n) (hm : m ≤ n) : (ys.take (7 * m)).length = 7 * m ∧ Pl.rowS (ys.take (7 * m)) m = Pl.rowS ys m ∧ Pl.deads (ys.take (7 * m)) m m = Pl.deads ys m m :=
  ⟨by rw [List.length_take]; omega, Pl.rowS_eq fun k hk => Pl.inAt_take hk, Pl.deads_of fun k hk => Pl.inAt_take hk⟩
set_option maxRecDepth 20000 in
set_option maxHeartbeats 4000000 in
theorem implBlock (w : World) (a : Option Addr) (ca n : Nat) (ys : List Int) (ha : Came w a ys) (ly : ys.length = 7 * n) (hn : n ≤ 2000000) (hc : n ≤ ca) :
    Calls Tryz.prog 86 #[.slice a n ca] w fun e w' => e = .returned (.bool (Pl.blockOk ys n)) ∧ Kept 0 0 w w' := by
  have HA := hide ha
  have HY := hide ly
  clear ha ly
  rcases Nat.eq_zero_or_pos n with h0 | h0
  · subst h0
    go_enter Tryz.func86, Tryz.ntmps86
    go_wp2_with fail
    go_ret
    exact ⟨rB (by simp [Pl.blockOk]), Kept.refl _ _ _⟩
  · by_cases h8 : n ≤ 8
    · obtain ⟨m, rfl⟩ : ∃ m, n = m + 1 := ⟨n - 1, by omega⟩
      obtain ⟨g1, off1, rfl, p0, p1, p2, p3, p4, p5, p6⟩ := HA.out.1.at7 HY.out (show m < m + 1 by omega)
      have hyl := HY.out
      have wa0 : (Lit.int .i64 (el ys (m * 7))).wf = true := wfAt HA.out.2 (by omega)
      have wa1 : (Lit.int .i64 (el ys (m * 7 + 1))).wf = true := wfAt HA.out.2 (by omega)
      have wa2 : (Lit.int .i64 (el ys (m * 7 + 2))).wf = true := wfAt HA.out.2 (by omega)
      have wa3 : (Lit.int .i64 (el ys (m * 7 + 3))).wf = true := wfAt HA.out.2 (by omega)
      have wa4 : (Lit.int .i64 (el ys (m * 7 + 4))).wf = true := wfAt HA.out.2 (by omega)
      have wa5 : (Lit.int .i64 (el ys (m * 7 + 5))).wf = true := wfAt HA.out.2 (by omega)
      have wa6 : (Lit.int .i64 (el ys (m * 7 + 6))).wf = true := wfAt HA.out.2 (by omega)
      have hh := Pl.headN_le ys (m + 1)
      obtain ⟨l1, l2, l3⟩ := head_row hyl hh
      have L1 := hide l1
      have L2 := hide l2
      have m8 : (m : Int) < 8 := by omega
      clear l1 l2 l3 hyl
      cases hb : Pl.inOk (Pl.inAt ys m)
      · go_enter Tryz.func86, Tryz.ntmps86
        go_wp2_with (first | (go_at_call 117; refine (implGoodIns _ (el ys (m * 7)) (el ys (m * 7 + 1)) (el ys (m * 7 + 2)) (el ys (m * 7 + 3)) (el ys (m * 7 + 4)) (el ys (m * 7 + 5)) (el ys (m * 7 + 6)) wa0 wa1 wa2 wa3 wa4 wa5 wa6).mono ?_; rw [show Pl.inOk ⟨el ys (m * 7), el ys (m * 7 + 1), el ys (m * 7 + 2), el ys (m * 7 + 3), el ys (m * 7 + 4), el ys (m * 7 + 5), el ys (m * 7 + 6)⟩ = Pl.inOk (Pl.inAt ys m) from rfl, hb]; rintro e9 w2 ⟨rfl, k2⟩; have K2 := hide k2; clear k2))
        go_ret
        exact ⟨rB (by simp [Pl.blockOk, hb]), K2.out⟩
      · obtain ⟨R, hR⟩ : ∃ R, R = Pl.rowS ys (Pl.headN ys (m + 1)) := ⟨_, rfl⟩
        have RO : Hid (Pl.rowOk (ys.take (7 * Pl.headN ys (m + 1))) (Pl.headN ys (m + 1)) = R) := hide (by unfold Pl.rowOk; rw [L2.out, ← hR]; simp; omega)
        have HR := hide hR
        obtain ⟨J, hJ⟩ : ∃ J, J = Pl.headN ys (m + 1) := ⟨_, rfl⟩
        rw [← hJ] at L1 RO hh
        have HJ := hide hJ
        clear hR hJ
        go_enter Tryz.func86, Tryz.ntmps86
        go_wp2_with (first | (go_at_call 117; refine (implGoodIns _ (el ys (m * 7)) (el ys (m * 7 + 1)) (el ys (m * 7 + 2)) (el ys (m * 7 + 3)) (el ys (m * 7 + 4)) (el ys (m * 7 + 5)) (el ys (m * 7 + 6)) wa0 wa1 wa2 wa3 wa4 wa5 wa6).mono ?_; rw [show Pl.inOk ⟨el ys (m * 7), el ys (m * 7 + 1), el ys (m * 7 + 2), el ys (m * 7 + 3), el ys (m * 7 + 4), el ys (m * 7 + 5), el ys (m * 7 + 6)⟩ = Pl.inOk (Pl.inAt ys m) from rfl, hb]; rintro e9 w2 ⟨rfl, k2⟩; have K2 := hide k2; clear k2) | (go_at_call 113; refine (implPart _ _ ca (m + 1) ys (HA.out.keptS K2.out) HY.out (by omega) hn hc hb).mono ?_; rw [← HJ.out]; rintro e9 w4 ⟨rfl, k4⟩; have K4 := hide (K2.out.trans k4); clear k4) | (go_at_call 118; refine (implRow _ _ ca J (ys.take (7 * J)) ((HA.out.keptS K4.out).take _) L1.out (by omega)).mono ?_; rw [RO.out]; rintro e9 w5 ⟨rfl, k5⟩; have K5 := hide (K4.out.trans k5); clear k5))
        go_ret
        exact ⟨rB (by simp only [Pl.blockOk, Nat.add_sub_cancel, hb, ← HR.out]; simp; omega), K5.out⟩
    · have h9 : ¬ ((n : Int) - 1 < 8) := by omega
      have h7 : (0 : Int) ≤ (n : Int) - 1 := by omega
      go_enter Tryz.func86, Tryz.ntmps86
      go_wp2_with fail
      go_ret
      exact ⟨rB (by simp [Pl.blockOk, h8]), Kept.refl _ _ _⟩
end Go.Proofs.YtbppfbkkphhjnaaGreat

namespace Go.Proofs.YtbppfbkkphhjnaaGreat
open Go.RowKit
set_option linter.unusedVariables false
set_option linter.unusedSimpArgs false
theorem news_bools {w : World} {g off : Nat} {xs : List Bool} (h : BRow w (some ⟨g, off, none⟩) xs) : ∀ j u, (xs.map Value.bool)[j]? = some u → w.cell? ((⟨g, off, none⟩ : Addr).add j) = some u := by
  intro j u hu
  have hj : j < xs.length := by
    rcases Nat.lt_or_ge j xs.length with h' | h'
    · exact h'
    · rw [List.getElem?_eq_none (by simpa using h')] at hu; cases hu
  obtain ⟨g', off', e, hc⟩ := h j hj
  cases e
  have e : u = .bool (xs[j]?.getD false) := by simpa [hj] using hu.symm
  rw [e]
  by_cases h0 : j = 0
  · subst h0; simpa [Addr.add] using hc
  · simpa [Addr.add, h0] using hc
/-- a row of bools copied over the head of a block of bools -/
theorem copy_bools (W : World) (g dCap sCap : Nat) (sp : Option Addr) (xs zs : List Bool) (hB : BBk W g zs) (hr : BRow W sp xs) (hl : xs.length ≤ zs.length) :
    ∃ W', (Builtin.copy_ #[111, 111] 3 #[.slice (some ⟨g, 0, none⟩) zs.length dCap, .slice sp xs.length sCap]).run Tryz.prog W = .ok (iv xs.length) W' ∧ BBk W' g (xs ++ zs.drop xs.length) ∧ Kept g (g + 1) W W' := by
  have HS : (Tryz.prog.info? 4).map (·.size) = some 1 := by kernel_rfl
  by_cases h0 : xs.length = 0
  · obtain rfl : xs = [] := List.eq_nil_of_length_eq_zero h0
    refine ⟨W, run_copy_none (P := Tryz.prog) W 111 111 3 4 _ _ _ _ _ _ Tryz.underlying111 HS (by simp), ?_, Kept.refl _ _ _⟩
    simpa using hB
  · obtain ⟨ga, oa, rfl, _⟩ := hr 0 (by omega)
    have h := run_copy_row Tryz.prog W 111 111 3 4 g 0 zs.length dCap ⟨ga, oa, none⟩ xs.length sCap (zs.map Value.bool).toArray 4 (xs.map Value.bool) Tryz.underlying111 HS hB (by simp only [List.length_map]; exact (Nat.min_eq_left hl).symm) (news_bools hr) (by simpa using hl) (by intro u hu; obtain ⟨z, _, rfl⟩ := List.mem_map.1 hu; rfl)
    refine ⟨_, by rw [h, List.length_map]; rfl, ?_, ?_⟩
    · have hq := Blk.setRow hB (ds := (List.take 0 (zs.map Value.bool).toArray.toList ++ xs.map Value.bool ++ List.drop (0 + (xs.map Value.bool).length) (zs.map Value.bool).toArray.toList).toArray)
      unfold BBk
      simpa using hq
    · exact ⟨rfl, rfl, rfl, by simp, fun k hk hn => setRow_other W g k _ (by omega)⟩
set_option maxRecDepth 20000 in
set_option maxHeartbeats 4000000 in
theorem implSkips (w : World) (a : Option Addr) (ca n : Nat) (ys : List Int) (ha : Came w a ys) (ly : ys.length = 7 * n) (n1 : 1 ≤ n) (n8 : n ≤ 8) (hc : n ≤ ca) (hok : Pl.inOk (Pl.inAt ys (n - 1)) = true) (hr : Pl.rowS ys (Pl.headN ys n) = true) :
    Calls Tryz.prog 79 #[.slice a n ca] w fun e w' => e = .returned (.slice (some ⟨w.heap.size, 0, none⟩) n n) ∧ BOwn w' w.heap.size (Pl.skV ys n) ∧ w.heap.size < w'.heap.size ∧ Kept 0 0 w w' := by
  have HA := hide ha
  have HY := hide ly
  have hh := Pl.headN_le ys n
  obtain ⟨l1, l2, l3⟩ := head_row ly hh
  obtain ⟨J, hJ⟩ : ∃ J, J = Pl.headN ys n := ⟨_, rfl⟩
  have HJ := hide hJ
  rw [← hJ] at l1 l2 l3 hh hr
  have L1 := hide l1
  have L2 := hide (l2.trans hr)
  have L3 := hide l3
  have mk := mkB n (by omega)
  have B := hide (bbk_newN w n)
  have K := hide (kept_alloc w (.cells (Array.replicate n (.bool false)) 4))
  have S : Hid (w.heap.size < (w.alloc (.cells (Array.replicate n (.bool false)) 4)).heap.size) := hide (by rw [World.size_alloc]; omega)
  have ES : Hid (Pl.deads ys J J ++ (List.replicate n false).drop (Pl.deads ys J J).length = Pl.skV ys n) := hide (by unfold Pl.skV; rw [← hJ, Pl.deads_len, List.drop_replicate])
  clear ha ly l1 l2 l3 hJ hr
  go_enter Tryz.func79, Tryz.ntmps79
  go_wp2_with fail
  clear mk
  generalize w.alloc (.cells (Array.replicate n (.bool false)) 4) = W0 at *
  go_wp2_with (first | (go_at_call 113; refine (implPart _ _ ca n ys (HA.out.keptS K.out) HY.out n1 (by omega) hc hok).mono ?_; rw [← HJ.out]; rintro e9 w4 ⟨rfl, k4⟩; have K4 := hide (K.out.trans k4); have B4 := hide (B.out.keptS k4 (by omega)); have q4 := k4.size; clear k4) | (go_at_call 112; refine (implDeadIn _ _ ca J (ys.take (7 * J)) ((HA.out.keptS K4.out).take _) L1.out (by omega) L2.out).mono ?_; rw [L3.out]; rintro e9 w5 ⟨rfl, o5, k5, s5⟩; have K5 := hide (K4.out.trans k5); have B5 := B4.out.keptS k5 (by omega); obtain ⟨W7, hcp, C7, k7⟩ := copy_bools w5 w.heap.size n J (some ⟨w4.heap.size, 0, none⟩) _ _ B5 o5.row (by rw [Pl.deads_len, List.length_replicate]; omega); rw [Pl.deads_len, List.length_replicate] at hcp; rw [ES.out] at C7; have CC := hide C7; have K7 := hide (kept_over K5.out k7 (by omega)); have S7 : Hid (w.heap.size < W7.heap.size) := hide (by have h1 := S.out; have h2 := k7.size; have h3 := s5; omega); clear o5 k5 s5 B5 C7 k7))
  go_ret
  exact ⟨rfl, CC.out.own, S7.out, K7.out⟩
theorem VOwn.drew {w : World} {g : Nat} {vs : List Value} (h : VOwn w g vs) : VOwn w.drew g vs := h
theorem Blk.drew {w : World} {b : Nat} {cs : Array Value} {ty : TypeId} (h : Blk w b cs ty) : Blk w.drew b cs ty := h
theorem VOwn.head {w : World} {g : Nat} {zs vs : List Value} (h : VOwn w g zs) (hl : vs.length ≤ zs.length) (he : ∀ i, i < vs.length → vl zs i = vl vs i) : VOwn w g vs := by
  intro i hi
  obtain ⟨hc, hf⟩ := h i (by omega)
  exact ⟨by rw [← he i hi]; exact hc, hf⟩
theorem vown_of_blk {w : World} {b : Nat} {cs : Array Value} {ty : TypeId} (h : Blk w b cs ty) : VOwn w b cs.toList := by
  intro i hi
  refine ⟨h.cell (by unfold vl; simp at hi; simp [hi]), h.frozen i⟩
theorem Tryz.zeros8 : Tryz.zeroCells127.size = 72 := by kernel_rfl
set_option maxRecDepth 100000 in
set_option maxHeartbeats 16000000 in
theorem implUnitOf (w : World) (f : Int) (a : Option Addr) (ca n : Nat) (ys ts : List Int) (ha : Came w a ys) (ly : ys.length = 7 * n) (n1 : 1 ≤ n) (n8 : n ≤ 8) (hc : n ≤ ca) (hok : ∀ k, k < n → Pl.inOk (Pl.inAt ys k) = true) (hr : Pl.rowS ys (Pl.headN ys n) = true) (f0 : 0 ≤ f) (f1 : f ≤ 512) (hts : ∀ k, k < n → el ts k = Pl.placeB ys f k) :
    Calls Tryz.prog 40 #[iv f, .slice a n ca] w fun e w' => e = .returned (.agg #[iv f, iv (Pl.placeB ys f n), .slice (some ⟨w.heap.size + 1, 0, none⟩) n n]) ∧ MOwn w' (w.heap.size + 1) n ys ts (Pl.skV ys n) ∧ w.heap.size + 1 < w'.heap.size ∧ Kept 0 0 w w' := by
  have HA := hide ha
  have HY := hide ly
  have HT := hide hts
  have HOK := hide hok
  have K0 := hide (kept_new (kept_alloc w (.cells #[iv 0, iv 0, .slice none 0 0] 29)) (.cells Tryz.zeroCells127 127))
  have U0 := hide ((Blk.new w #[iv 0, iv 0, .slice none 0 0] 29).alloc (.cells Tryz.zeroCells127 127))
  have Z0 := Blk.new (w.alloc (.cells #[iv 0, iv 0, .slice none 0 0] 29)) Tryz.zeroCells127 127
  have S0 : Hid (((w.alloc (.cells #[iv 0, iv 0, .slice none 0 0] 29)).alloc (.cells Tryz.zeroCells127 127)).heap.size = w.heap.size + 1 + 1) := hide (by simp)
  simp only [World.size_alloc] at Z0
  have V0 := vown_of_blk Z0
  have HV0 := hide V0
  obtain ⟨zs0, hz0⟩ : ∃ zs0, zs0 = Tryz.zeroCells127.toList := ⟨_, rfl⟩
  have hzl : Hid (zs0.length = 9 * 8) := hide (by rw [hz0]; simp [Tryz.zeros8])
  rw [← hz0] at HV0
  clear ha ly hok hts Z0 V0 hz0
  go_enter Tryz.func40, Tryz.ntmps40
  go_wp2_with fail
  obtain ⟨W0, hW0⟩ : ∃ W0 : World, W0 = (w.alloc (.cells #[iv 0, iv 0, .slice none 0 0] 29)).alloc (.cells Tryz.zeroCells127 127) := ⟨_, rfl⟩
  rw [← hW0] at K0 U0 HV0 S0 ⊢
  clear hW0
  have s0 := S0.out
  refine (implSkips _ _ ca n ys (HA.out.keptS K0.out) HY.out n1 n8 hc (HOK.out _ (by omega)) hr).mono ?_
  rintro e9 w2 ⟨rfl, o2, s2, k2⟩
  rw [s0]
  rw [s0] at o2
  have K2 := hide (K0.out.trans k2)
  have U2 := hide (U0.out.kept0 k2)
  have V2 := hide (HV0.out.keptS k2 (by omega))
  have O2 := hide o2
  have S2 : Hid (w.heap.size + 1 + 1 < w2.heap.size) := hide (by omega)
  clear o2 s2 k2
  go_wp2_with fail
  go_loopw [7, 15] (fun at_ j wr => ∃ (k : Nat) (zs : List Value), k ≤ n ∧ j = .int .i64 k ∧ at_ = iv (Pl.placeB ys f k) ∧ zs.length = 9 * 8 ∧ VOwn wr (w.heap.size + 1) zs ∧ (∀ i, i < k * 9 → vl zs i = vl (miL ys ts (Pl.skV ys n) n) i) ∧ Kept 0 0 w wr ∧ Kept (w.heap.size + 1) (w.heap.size + 1 + 1) w2 wr) (fun _ j _ => n - (intOf j).toNat)
  case atStart => exact ⟨0, zs0, Nat.zero_le _, rfl, rfl, hzl.out, V2.out, fun i hi => absurd hi (by omega), K2.out, Kept.refl _ _ _⟩
  case round =>
    obtain ⟨k, zs, hk, rfl, rfl, hl, hown, heq, hkept, hk2⟩ := hrel
    have HE := hide heq
    have HL := hide hl
    have HO := hide hown
    have HK := hide hkept
    have HT2 := hide hk2
    clear heq hl hown hkept hk2
    obtain ⟨pl0, pl1⟩ := Pl.placeB_in ys f k
    have hws := HT2.out.size
    have hw2 := S2.out
    by_cases hlt : k < n
    · obtain ⟨g1, off1, rfl, p0, p1, p2, p3, p4, p5, p6⟩ := (HA.out.keptS HK.out).1.at7 HY.out hlt
      have BX := hide (Blk.new wr #[iv (el ys (k * 7)), iv (el ys (k * 7 + 1)), iv (el ys (k * 7 + 2)), iv (el ys (k * 7 + 3)), iv (el ys (k * 7 + 4)), iv (el ys (k * 7 + 5)), iv (el ys (k * 7 + 6))] 104)
      have O3 := hide (O2.out.keptS HT2.out (by omega))
      obtain ⟨hc9, hf9⟩ := (O3.out.keptS (kept_alloc wr (.cells #[iv (el ys (k * 7)), iv (el ys (k * 7 + 1)), iv (el ys (k * 7 + 2)), iv (el ys (k * 7 + 3)), iv (el ys (k * 7 + 4)), iv (el ys (k * 7 + 5)), iv (el ys (k * 7 + 6))] 104)) (by omega)) k (by rw [Pl.skV_len]; omega)
      rw [show (Pl.skV ys n)[k]?.getD false = bl (Pl.skV ys n) k from rfl] at hc9
      have px := BX.out.all
      have V3 := hide (HO.out.keptS (kept_alloc wr (.cells #[iv (el ys (k * 7)), iv (el ys (k * 7 + 1)), iv (el ys (k * 7 + 2)), iv (el ys (k * 7 + 3)), iv (el ys (k * 7 + 4)), iv (el ys (k * 7 + 5)), iv (el ys (k * 7 + 6))] 104)) (by omega))
      obtain ⟨⟨c0, c1, c2, c3, c4, c5, c6, c7, c8⟩, f0', f1', f2', f3', f4', f5', f6', f7', f8'⟩ := V3.out.at9 HL.out (show k < 8 by omega)
      go_wp2_with fail
      go_region_with fail
      all_goals
        obtain ⟨WY, hWY⟩ : ∃ WY : World, WY = ((((((((((wr.alloc (.cells #[iv (el ys (k * 7)), iv (el ys (k * 7 + 1)), iv (el ys (k * 7 + 2)), iv (el ys (k * 7 + 3)), iv (el ys (k * 7 + 4)), iv (el ys (k * 7 + 5)), iv (el ys (k * 7 + 6))] 104)).setCell ⟨w.heap.size + 1, k * 9, none⟩ (iv (el ys (k * 7)))).setCell ⟨w.heap.size + 1, k * 9 + 1, none⟩ (iv (el ys (k * 7 + 1)))).setCell ⟨w.heap.size + 1, k * 9 + 2, none⟩ (iv (el ys (k * 7 + 2)))).setCell ⟨w.heap.size + 1, k * 9 + 3, none⟩ (iv (el ys (k * 7 + 3)))).setCell ⟨w.heap.size + 1, k * 9 + 4, none⟩ (iv (el ys (k * 7 + 4)))).setCell ⟨w.heap.size + 1, k * 9 + 5, none⟩ (iv (el ys (k * 7 + 5)))).setCell ⟨w.heap.size + 1, k * 9 + 6, none⟩ (iv (el ys (k * 7 + 6)))).setCell ⟨w.heap.size + 1, k * 9 + 7, none⟩ (iv (Pl.placeB ys f k))).setCell ⟨w.heap.size + 1, k * 9 + 8, none⟩ (.bool (bl (Pl.skV ys n) k))).drew := ⟨_, rfl⟩
        have V4 : Hid (VOwn WY (w.heap.size + 1) (set9 zs k (iv (el ys (k * 7))) (iv (el ys (k * 7 + 1))) (iv (el ys (k * 7 + 2))) (iv (el ys (k * 7 + 3))) (iv (el ys (k * 7 + 4))) (iv (el ys (k * 7 + 5))) (iv (el ys (k * 7 + 6))) (iv (Pl.placeB ys f k)) (.bool (bl (Pl.skV ys n) k)))) := hide (by rw [hWY]; exact (V3.out.set9 k (iv (el ys (k * 7))) (iv (el ys (k * 7 + 1))) (iv (el ys (k * 7 + 2))) (iv (el ys (k * 7 + 3))) (iv (el ys (k * 7 + 4))) (iv (el ys (k * 7 + 5))) (iv (el ys (k * 7 + 6))) (iv (Pl.placeB ys f k)) (.bool (bl (Pl.skV ys n) k))).drew)
        have K4 : Hid (Kept 0 0 w WY) := hide (by rw [hWY]; exact kept_drew (kept_set (kept_set (kept_set (kept_set (kept_set (kept_set (kept_set (kept_set (kept_set (kept_new HK.out _) _ _ _ (.inr (by omega))) _ _ _ (.inr (by omega))) _ _ _ (.inr (by omega))) _ _ _ (.inr (by omega))) _ _ _ (.inr (by omega))) _ _ _ (.inr (by omega))) _ _ _ (.inr (by omega))) _ _ _ (.inr (by omega))) _ _ _ (.inr (by omega))))
        have T4 : Hid (Kept (w.heap.size + 1) (w.heap.size + 1 + 1) w2 WY) := hide (by rw [hWY]; exact kept_drew (kept_set (kept_set (kept_set (kept_set (kept_set (kept_set (kept_set (kept_set (kept_set (kept_new HT2.out _) _ _ _ (.inl (by omega))) _ _ _ (.inl (by omega))) _ _ _ (.inl (by omega))) _ _ _ (.inl (by omega))) _ _ _ (.inl (by omega))) _ _ _ (.inl (by omega))) _ _ _ (.inl (by omega))) _ _ _ (.inl (by omega))) _ _ _ (.inl (by omega))))
        have X4 : Hid (Blk WY wr.heap.size #[iv (el ys (k * 7)), iv (el ys (k * 7 + 1)), iv (el ys (k * 7 + 2)), iv (el ys (k * 7 + 3)), iv (el ys (k * 7 + 4)), iv (el ys (k * 7 + 5)), iv (el ys (k * 7 + 6))] 104) := hide (by rw [hWY]; exact ((((((((((BX.out.other _ _ _ (by omega)).other _ _ _ (by omega)).other _ _ _ (by omega)).other _ _ _ (by omega)).other _ _ _ (by omega)).other _ _ _ (by omega)).other _ _ _ (by omega)).other _ _ _ (by omega)).other _ _ _ (by omega))).drew)
        rw [← hWY]
        have hlk := HOK.out k hlt
        have hlm := Pl.modeR hlk
        have wm : (Lit.int .i64 (el ys (k * 7 + 3))).wf = true := wfSm (by have h1 : 0 ≤ el ys (k * 7 + 3) := hlm.2.2.2.2.2.1; omega) (by have h1 : el ys (k * 7 + 3) ≤ 7 := hlm.2.2.2.2.2.2.1; omega)
        have hL0 : (if Pl.lng (el ys (k * 7 + 3)) = true then (2 : Int) else 1) = Pl.lenB (Pl.inAt ys k) := by
          rw [show Pl.lng (el ys (k * 7 + 3)) = Pl.extM (Pl.inAt ys k).m from by
            unfold Pl.lng
            rw [show Pl.modeOk (el ys (k * 7 + 3)) = true from by
              have h1 : 0 ≤ (Pl.inAt ys k).m := hlm.2.2.2.2.2.1
              have h2 : (Pl.inAt ys k).m ≤ 7 := hlm.2.2.2.2.2.2.1
              have h3 : (Pl.inAt ys k).m = el ys (k * 7 + 3) := rfl
              simp [Pl.modeOk, Pl.within]; omega]
            rfl]
          rfl
        have hL2 := Pl.lenB_in (Pl.inAt ys k)
        have hP : Pl.placeB ys f (k + 1) = Pl.placeB ys f k + 2 * Pl.lenB (Pl.inAt ys k) := rfl
        obtain ⟨L, hL⟩ : ∃ L, L = Pl.lenB (Pl.inAt ys k) := ⟨_, rfl⟩
        rw [← hL] at hL0 hL2 hP
        have HL0 := hide hL0
        have HP := hide hP
        have px := X4.out.all
        clear hWY c0 c1 c2 c3 c4 c5 c6 c7 c8 f0' f1' f2' f3' f4' f5' f6' f7' f8' p0 p1 p2 p3 p4 p5 p6 hc9 hf9 hlk hlm hL hL0 hP
        go_wp2_with (first | (go_at_call 80; refine (lengthOf _ (el ys (k * 7)) (el ys (k * 7 + 1)) (el ys (k * 7 + 2)) (el ys (k * 7 + 3)) (el ys (k * 7 + 4)) (el ys (k * 7 + 5)) (el ys (k * 7 + 6)) wm).mono ?_; rw [HL0.out]; rintro e9 w6 ⟨rfl, k6⟩; have V6 := hide (V4.out.keptS k6 (by omega)); have K6 := hide (K4.out.trans k6); have T6 := hide (T4.out.trans k6.any); clear k6))
        go_roundw
        case rel =>
          have hk9 : k * 9 + 8 < zs.length := by have := HL.out; omega
          obtain ⟨n0, n1, n2, n3, n4, n5, n6, n7, n8⟩ := set9_new (a := iv (el ys (k * 7))) (b := iv (el ys (k * 7 + 1))) (c := iv (el ys (k * 7 + 2))) (d := iv (el ys (k * 7 + 3))) (e := iv (el ys (k * 7 + 4))) (f := iv (el ys (k * 7 + 5))) (x := iv (el ys (k * 7 + 6))) (t := iv (Pl.placeB ys f k)) (q := .bool (bl (Pl.skV ys n) k)) hk9
          obtain ⟨m7, m8, m9⟩ := miL_at ys ts (Pl.skV ys n) hlt
          rw [HT.out k hlt] at m8
          exact ⟨k + 1, set9 zs k _ _ _ _ _ _ _ _ _, by omega, by go_num, by rw [HP.out]; go_num, by rw [set9_len]; exact HL.out, V6.out, snoc9 (fun i hi => (set9_old hi).trans (HE.out i hi)) (n0.trans (m7 0 (by decide)).symm) (n1.trans (m7 1 (by decide)).symm) (n2.trans (m7 2 (by decide)).symm) (n3.trans (m7 3 (by decide)).symm) (n4.trans (m7 4 (by decide)).symm) (n5.trans (m7 5 (by decide)).symm) (n6.trans (m7 6 (by decide)).symm) (n7.trans m8.symm) (n8.trans m9.symm), K6.out, T6.out⟩
        case measure => simp [intOf]; omega
    · obtain rfl : k = n := by omega
      have U9 := hide (U2.out.kept HT2.out (by omega))
      have pu := U9.out.all
      have fu := U9.out.fz
      have M9 : MOwn wr (w.heap.size + 1) k ys ts (Pl.skV ys k) := HO.out.head (by rw [miL_len, HL.out]; omega) (fun i hi => HE.out i (by rw [miL_len] at hi; omega))
      have HM := hide M9
      have hsz := HK.out.size
      have n8i : (k : Int) ≤ 8 := by omega
      clear M9
      go_wp2_with fail
      refine bodyPost_ret (v := .agg #[iv f, iv (Pl.placeB ys f k), .slice (some ⟨w.heap.size + 1, 0, none⟩) k k]) ?_ rfl ⟨rfl, ?_, ?_, ?_⟩
      · rw [results_one rfl]; go_simp
      · exact ((VOwn.setOther HM.out _ _ _ (by omega)).setOther _ _ _ (by omega)).setOther _ _ _ (by omega)
      · simp only [World.size_setCell]; omega
      · exact (kept_set (kept_set (kept_set HK.out _ _ _ (.inr (by omega))) _ _ _ (.inr (by omega))) _ _ _ (.inr (by omega)))
end Go.Proofs.YtbppfbkkphhjnaaGreat

