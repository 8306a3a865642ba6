/- What the program's NewBus answers, for every two lists. What the program's tests of words, sizes and register numbers answer; none changes the world. The program's registers as one value (fourteen cells): how they are laid out and read. What the program's bank answers for registers, status. What the program's NewRegs and StatusOf answer, for every argument. What the program's NewCpu answers, of every list and number. The law on NewCpu: of whatever list and number, its Go function returns true, and no block that was there has turned. -/
import Derived.Test.YtblddehlkaolbaaJN2
import Derived.Test.YtblddehlkaolbaaJN1
import Derived.Laws.CopyOwn
import Derived.Laws.Rows
import Derived.Laws.Tables
import Derived.Deep.QuietTactic
import Derived.Deep.RegionHeld3
import Derived.BigQuiet
import Derived.BigRegion
import Derived.Deep.DeepCutAuto
namespace Go.Proofs.Ytblddehlkaolbaa
open Go.RowKit
set_option linter.unusedVariables false

/-- two rows laid over a row of noughts -/
theorem newB_splice {xs us : List Int} (hok : Pl.newOk xs us = true) :
    splice (splice (zeros.map (Value.int .i64)) 0 (xs.map (Value.int .i64))) 384 (us.map (Value.int .i64)) = (Pl.newB xs us).map (Value.int .i64) := by
  have h := hok
  simp only [Pl.newOk, Bool.and_eq_true, decide_eq_true_eq] at h
  obtain ⟨_, _, h3, h4⟩ := h
  have e : splice (splice (zeros.map (Value.int .i64)) 0 (xs.map (Value.int .i64))) 384 (us.map (Value.int .i64)) = (splice (splice zeros 0 xs) 384 us).map (Value.int .i64) := by
    simp [splice]
  rw [e]
  congr 1
  refine Pl.newB_eq hok ?_ ?_
  · rw [length_splice _ _ _ (by rw [length_splice _ _ _ (by rw [zeros_len]; omega), zeros_len]; omega), length_splice _ _ _ (by rw [zeros_len]; omega), zeros_len]
  · intro i hi
    have z : ∀ k, el zeros k = 0 := by
      intro k
      unfold el zeros
      rw [List.getElem?_replicate]
      split <;> rfl
    have dz : ∀ d k, el (zeros.drop d) k = 0 := by
      intro d k
      unfold el
      rw [List.getElem?_drop]
      exact z (d + k)
    have s1 : ∀ k, el (splice zeros 0 xs) k = el xs k := by
      intro k
      unfold splice
      rw [List.take_zero, List.nil_append, el_append]
      split
      · rfl
      · rw [dz, Pl.el_out (by omega)]
    unfold Pl.newAt
    have lq : (splice zeros 0 xs).length = 512 := by rw [length_splice _ _ _ (by rw [zeros_len]; omega), zeros_len]
    generalize splice zeros 0 xs = q at s1 lq
    have hq : el (splice q 384 us) i = if i < 384 then el q i else if i - 384 < us.length then el us (i - 384) else el q i := by
      have lt : (q.take 384).length = 384 := by rw [List.length_take]; omega
      unfold splice
      rw [el_append, lt]
      split
      · rename_i hi'
        unfold el
        rw [List.getElem?_take, if_pos hi']
      · rw [el_append]
        split
        · rfl
        · unfold el
          rw [List.getElem?_drop, show 384 + us.length + (i - 384 - us.length) = i from by omega]
    rw [hq]
    split
    · exact s1 i
    · split
      · rfl
      · rw [s1, Pl.el_out (by omega), Pl.el_out (by omega)]

set_option maxHeartbeats 4000000 in
theorem newBus_good (w : World) (a c : Option Addr) (ca cc : Nat) (xs us : List Int) (ha : Came w a xs) (hc : Came w c us) (lx : xs.length ≤ 2000000) (lu : us.length ≤ 2000000) (h1 : Pl.bytesOk xs = true) (h2 : Pl.bytesOk us = true) (h3 : xs.length ≤ 384) (h4 : us.length ≤ 64) :
    Calls Try.prog 29 #[.slice a xs.length ca, .slice c us.length cc] w fun e w' => ∃ (b : Option Addr) (cb : Nat), e = .returned (.tuple #[.agg #[.slice b (Pl.newB xs us).length cb, .slice none 0 0], .bool (Pl.newOk xs us)]) ∧ SlotIn w' w.heap.size w'.heap.size b (Pl.newB xs us) ∧ Kept 0 0 w w' := by
  have HA := hide ha
  have HC := hide hc
  clear ha hc
  have d3 : decide ((384 : Int) < (xs.length : Int)) = false := by simp; omega
  have d4 : decide ((64 : Int) < (us.length : Int)) = false := by simp; omega
  have HK0 := hide (kept_alloc w (.cells #[.slice none 0 0, .slice none 0 0] 27))
  have mz := Try.memZero
  have hok : Hid (Pl.newOk xs us = true) := hide (by simp [Pl.newOk, h1, h2, h3, h4])
  have hNB := hide (newB_splice hok.out)
  have hNL : Hid ((Pl.newB xs us).length = 512) := hide (by rw [Pl.newB_ok hok.out]; simp)
  have K1 := kept_new HK0.out (.cells (cellsOf zeros) 88)
  have B0 := (Blk.new w #[.slice none 0 0, .slice none 0 0] 27).alloc (.cells (cellsOf zeros) 88)
  have B1 := Blk.new (w.alloc (.cells #[.slice none 0 0, .slice none 0 0] 27)) (cellsOf zeros) 88
  simp only [World.size_alloc] at B1
  obtain ⟨W1, hcopy1, C1, k1⟩ := copy_at _ (w.heap.size + 1) 0 512 512 ca a xs _ _ B1 (HA.out.keptS K1).1 (by omega) (by simp [zeros_len]; omega)
  have KW1 := kept_over K1 k1 (by omega)
  have D0 := B0.kept k1 (by omega)
  obtain ⟨W2, hcopy2, C2, k2⟩ := copy_at _ (w.heap.size + 1) 384 128 128 cc c us _ _ C1 (HC.out.keptS KW1).1 (by omega) (by rw [length_splice _ _ _ (by simp [zeros_len]; omega)]; simp [zeros_len]; omega)
  have KW2 := hide (kept_over KW1 k2 (by omega))
  have E0 := hide (D0.kept k2 (by omega))
  rw [hNB.out] at C2
  have E1 : Hid (Blk W2 (w.heap.size + 1) (cellsOf (Pl.newB xs us)) 88) := hide C2
  have HZ : Hid ((Try.prog.info? 88).map (·.size) = some (cellsOf (Pl.newB xs us)).size) := hide (by rw [cellsOf_size, hNL.out]; exact Try.memSize)
  clear K1 B0 B1 C1 k1 KW1 D0 C2 k2
  go_enter Try.func29, Try.ntmps29
  go_wp2_with (first
    | (go_at_call 64; have hz := Z1; refine (areBytes _ c cc us (HC.out.keptS HK0.out) lu).mono ?_; rintro e w' ⟨rfl, rfl⟩; rw [h2])
    | (go_at_call 64; refine (areBytes _ a ca xs (HA.out.keptS HK0.out) lx).mono ?_; rintro e w' ⟨rfl, rfl⟩; rw [h1]; have Z1 : True := trivial)
    | (go_at_call 65; refine (memList _ (Pl.newB xs us) hNL.out).mono ?_; rintro e W3 ⟨g, rfl, hb3, hg3, k3⟩; have F0 := hide (E0.out.kept0 k3); have r0 := F0.out.cell (i := 0) rfl; have r1 := F0.out.cell (i := 1) rfl; have f0 := F0.out.frozen 0; have f1 := F0.out.frozen 1; have B3 := hide hb3; have G3 := hide hg3; have K3 := hide (KW2.out.trans k3); have S2 := hide KW2.out.size; clear hb3 hg3 k3)
    | (refine wpList_load_row rfl 88 (.tmp 6) rfl (w.heap.size + 1) rfl 88 (cellsOf (Pl.newB xs us)) (0, 0) _ E1.out Try.underlying88 rfl HZ.out ?_))
  have g3 := G3.out
  have s2 := S2.out
  have l0 := E0.out.lt
  have l3 := B3.out.lt
  have O3 := ((own_of_blk B3.out).setOther w.heap.size 0 (.slice (some ⟨g, 0, none⟩) 512 512) (by omega)).setOther w.heap.size 1 (.slice none 0 0) (by omega)
  refine bodyPost_ret (v := .tuple #[.agg #[.slice (some ⟨g, 0, none⟩) 512 512, .slice none 0 0], .bool true]) ?_ rfl ⟨some ⟨g, 0, none⟩, 512, ?_, ?_, ?_⟩
  · rw [results_cell_tmp rfl]; go_simp
  · rw [hNL.out, hok.out]
  · exact .inr ⟨_, rfl, by omega, by simpa using l3, O3⟩
  · exact kept_set (kept_set K3.out _ _ _ (.inr (by omega))) _ _ _ (.inr (by omega))

theorem newBus (w : World) (a c : Option Addr) (ca cc : Nat) (xs us : List Int) (ha : Came w a xs) (hc : Came w c us) (lx : xs.length ≤ 2000000) (lu : us.length ≤ 2000000) :
    Calls Try.prog 29 #[.slice a xs.length ca, .slice c us.length cc] w fun e w' => ∃ (b : Option Addr) (cb : Nat), e = .returned (.tuple #[.agg #[.slice b (Pl.newB xs us).length cb, .slice none 0 0], .bool (Pl.newOk xs us)]) ∧ SlotIn w' w.heap.size w'.heap.size b (Pl.newB xs us) ∧ Kept 0 0 w w' := by
  cases hok : Pl.newOk xs us
  · have K : Hid (Pl.newOk xs us = false ∧ Pl.newB xs us = []) := hide (by simp [Pl.newB, hok])
    have HA := hide ha
    have HC := hide hc
    clear ha hc
    have HK0 := hide (kept_alloc w (.cells #[.slice none 0 0, .slice none 0 0] 27))
    have HK1 : Hid (∀ v0 v1, Kept 0 0 w (((w.alloc (.cells #[.slice none 0 0, .slice none 0 0] 27)).setCell ⟨w.heap.size, 0, none⟩ v0).setCell ⟨w.heap.size, 1, none⟩ v1)) := hide (fun v0 v1 => kept_set (kept_set HK0.out _ _ _ (.inr (by omega))) _ _ _ (.inr (by omega)))
    cases h3 : decide ((384 : Int) < (xs.length : Int))
    · cases h4 : decide ((64 : Int) < (us.length : Int))
      · cases h1 : Pl.bytesOk xs
        · go_enter Try.func29, Try.ntmps29
          go_wp2_with (go_at_call 64; refine (areBytes _ a ca xs (HA.out.keptS HK0.out) lx).mono ?_; rintro e w' ⟨rfl, rfl⟩; rw [h1])
          refine bodyPost_ret (v := .tuple #[.agg #[.slice none 0 0, .slice none 0 0], .bool false]) ?_ rfl ⟨none, 0, ?_, ?_, ?_⟩
          · rw [results_cell_tmp rfl]; go_simp
          · rw [K.out.2]; rfl
          · rw [K.out.2]; exact .inl ⟨rfl, rfl⟩
          · first | exact HK0.out | exact HK1.out _ _
        · cases h2 : Pl.bytesOk us
          · go_enter Try.func29, Try.ntmps29
            go_wp2_with (first
              | (go_at_call 64; have hz := Z1; refine (areBytes _ c cc us (HC.out.keptS HK0.out) lu).mono ?_; rintro e w' ⟨rfl, rfl⟩; rw [h2])
              | (go_at_call 64; refine (areBytes _ a ca xs (HA.out.keptS HK0.out) lx).mono ?_; rintro e w' ⟨rfl, rfl⟩; rw [h1]; have Z1 : True := trivial))
            refine bodyPost_ret (v := .tuple #[.agg #[.slice none 0 0, .slice none 0 0], .bool false]) ?_ rfl ⟨none, 0, ?_, ?_, ?_⟩
            · rw [results_cell_tmp rfl]; go_simp
            · rw [K.out.2]; rfl
            · rw [K.out.2]; exact .inl ⟨rfl, rfl⟩
            · first | exact HK0.out | exact HK1.out _ _
          · exfalso
            simp at h3 h4
            simp [Pl.newOk, h1, h2] at hok
            omega
      · go_enter Try.func29, Try.ntmps29
        go_wp2_with (go_at_call 64; fail)
        refine bodyPost_ret (v := .tuple #[.agg #[.slice none 0 0, .slice none 0 0], .bool false]) ?_ rfl ⟨none, 0, ?_, ?_, ?_⟩
        · rw [results_cell_tmp rfl]; go_simp
        · rw [K.out.2]; rfl
        · rw [K.out.2]; exact .inl ⟨rfl, rfl⟩
        · first | exact HK0.out | exact HK1.out _ _
    · go_enter Try.func29, Try.ntmps29
      go_wp2_with (go_at_call 64; fail)
      refine bodyPost_ret (v := .tuple #[.agg #[.slice none 0 0, .slice none 0 0], .bool false]) ?_ rfl ⟨none, 0, ?_, ?_, ?_⟩
      · rw [results_cell_tmp rfl]; go_simp
      · rw [K.out.2]; rfl
      · rw [K.out.2]; exact .inl ⟨rfl, rfl⟩
      · first | exact HK0.out | exact HK1.out _ _
  · have h := hok
    simp only [Pl.newOk, Bool.and_eq_true, decide_eq_true_eq] at h
    have := newBus_good w a c ca cc xs us ha hc lx lu h.1 h.2.1 h.2.2.1 h.2.2.2
    rw [hok] at this
    exact this
end Go.Proofs.Ytblddehlkaolbaa

namespace Go.Proofs.Ytblddehlkaolbaa
open Go.RowKit
set_option linter.unusedVariables false
theorem okv2 (v : Int) : Pl.okv 2 v = Pl.wordOk v := by
  unfold Pl.okv Pl.wordOk Pl.within Pl.top
  rw [Bool.eq_iff_iff]; simp; omega
theorem isWord (v : Int) (w : World) (lo : -9223372036854775808 ≤ v) (hi : v ≤ 9223372036854775807) :
    Calls Try.prog 30 #[.int .i64 v] w fun e w' => e = .returned (.bool (Pl.wordOk v)) ∧ w' = w := by
  go_enter Try.func30, Try.ntmps30
  go_wp2_with (go_at_call 66; refine (signedOf _ _ _ lo hi).mono ?_; rintro e w' ⟨rfl, hw⟩; have hw2 := hw.symm; clear hw; subst hw2; rw [okv2])
  go_ret
  exact ⟨rfl, rfl⟩
end Go.Proofs.Ytblddehlkaolbaa

namespace Go.Proofs.Ytblddehlkaolbaa
open Go.RowKit
set_option linter.unusedVariables false
/-- the fourteen cells of registers in one value -/
def bkR (r : Pl.Rg) : Array Value := #[.int .i64 (el r.xs 0), .int .i64 (el r.xs 1), .int .i64 (el r.xs 2), .int .i64 (el r.xs 3), .int .i64 (el r.ys 0), .int .i64 (el r.ys 1), .int .i64 (el r.ys 2), .int .i64 (el r.ys 3), .int .i64 r.o, .int .i64 r.p, .int .i64 r.f, .int .i64 r.m, .bool r.s, .bool r.t]
theorem list4 {xs : List Int} (h : xs.length = 4) : xs = [el xs 0, el xs 1, el xs 2, el xs 3] := by
  match xs, h with
  | [a, b, c, d], _ => rfl

theorem mk4 (w : World) : (Instr.makeSlice 22 (.int .i64 4) (.int .i64 4)).run Try.prog w = .ok (.slice (some ⟨w.heap.size, 0, none⟩) 4 4) (w.alloc (.cells #[.int .i64 0, .int .i64 0, .int .i64 0, .int .i64 0] 3)) := by kernel_rfl
theorem listOf4 (x0 x1 x2 x3 : Int) (w : World) :
    Calls Try.prog 90 #[.agg #[.int .i64 x0, .int .i64 x1, .int .i64 x2, .int .i64 x3]] w fun e w' => e = .returned (.slice (some ⟨w.heap.size + 1, 0, none⟩) 4 4) ∧ Blk w' (w.heap.size + 1) (cellsOf [x0, x1, x2, x3]) 3 ∧ Kept 0 0 w w' := by
  have B0 : Blk ((w.alloc (.cells #[.int .i64 x0, .int .i64 x1, .int .i64 x2, .int .i64 x3] 83)).alloc (.cells #[.int .i64 0, .int .i64 0, .int .i64 0, .int .i64 0] 3)) w.heap.size (cellsOf [x0, x1, x2, x3]) 83 := (Blk.new w #[.int .i64 x0, .int .i64 x1, .int .i64 x2, .int .i64 x3] 83).alloc _
  have B1 := Blk.new (w.alloc (.cells #[.int .i64 x0, .int .i64 x1, .int .i64 x2, .int .i64 x3] 83)) #[.int .i64 0, .int .i64 0, .int .i64 0, .int .i64 0] 3
  simp only [World.size_alloc] at B1
  obtain ⟨W1, hcopy, C1, k1⟩ := copy_at _ (w.heap.size + 1) 0 4 4 4 (some ⟨w.heap.size, 0, none⟩) [x0, x1, x2, x3] [.int .i64 0, .int .i64 0, .int .i64 0, .int .i64 0] 3 B1 (own_of_blk B0).row (by simp) (by simp)
  have hc : (Builtin.copy_ #[22, 22] 3 #[.slice (some ⟨w.heap.size + 1, 0, none⟩) 4 4, .slice (some ⟨w.heap.size, 0, none⟩) 4 4]).run Try.prog ((w.alloc (.cells #[.int .i64 x0, .int .i64 x1, .int .i64 x2, .int .i64 x3] 83)).alloc (.cells #[.int .i64 0, .int .i64 0, .int .i64 0, .int .i64 0] 3)) = .ok (.int .i64 4) W1 := hcopy
  have C := hide (show Blk W1 (w.heap.size + 1) (cellsOf [x0, x1, x2, x3]) 3 from C1)
  have K := hide (kept_over (kept_new (kept_alloc w _) _) k1 (by omega))
  clear B0 B1 hcopy C1 k1
  have mk := mk4
  go_enter Try.func90, Try.ntmps90
  go_wp2
  go_ret
  exact ⟨rfl, C.out, K.out⟩
end Go.Proofs.Ytblddehlkaolbaa

namespace Go.Proofs.Ytblddehlkaolbaa
open Go.RowKit
set_option linter.unusedVariables false
theorem listOf (x0 x1 x2 x3 : Int) (w : World) :
    Calls Try.prog 90 #[.agg #[.int .i64 x0, .int .i64 x1, .int .i64 x2, .int .i64 x3]] w fun e w' => ∃ g : Nat, e = .returned (.slice (some ⟨g, 0, none⟩) 4 4) ∧ w.heap.size ≤ g ∧ Blk w' g (cellsOf [x0, x1, x2, x3]) 3 ∧ Kept 0 0 w w' :=
  (listOf4 x0 x1 x2 x3 w).mono (fun e w' h => ⟨_, h.1, by omega, h.2⟩)
theorem bkS {w : World} {b : Nat} {r : Pl.Rg} {t : TypeId} (h : Blk w b (bkR r) t) : w.cell? ⟨b, 0, none⟩ = some (.int .i64 (el r.xs 0)) ∧ w.cell? ⟨b, 1, none⟩ = some (.int .i64 (el r.xs 1)) ∧ w.cell? ⟨b, 2, none⟩ = some (.int .i64 (el r.xs 2)) ∧ w.cell? ⟨b, 3, none⟩ = some (.int .i64 (el r.xs 3)) ∧ w.cell? ⟨b, 4, none⟩ = some (.int .i64 (el r.ys 0)) ∧ w.cell? ⟨b, 5, none⟩ = some (.int .i64 (el r.ys 1)) ∧ w.cell? ⟨b, 6, none⟩ = some (.int .i64 (el r.ys 2)) ∧ w.cell? ⟨b, 7, none⟩ = some (.int .i64 (el r.ys 3)) ∧ w.cell? ⟨b, 8, none⟩ = some (.int .i64 r.o) ∧ w.cell? ⟨b, 9, none⟩ = some (.int .i64 r.p) ∧ w.cell? ⟨b, 10, none⟩ = some (.int .i64 r.f) ∧ w.cell? ⟨b, 11, none⟩ = some (.int .i64 r.m) ∧ w.cell? ⟨b, 12, none⟩ = some (.bool r.s) ∧ w.cell? ⟨b, 13, none⟩ = some (.bool r.t) :=
  ⟨h.cell (i := 0) rfl, h.cell (i := 1) rfl, h.cell (i := 2) rfl, h.cell (i := 3) rfl, h.cell (i := 4) rfl, h.cell (i := 5) rfl, h.cell (i := 6) rfl, h.cell (i := 7) rfl, h.cell (i := 8) rfl, h.cell (i := 9) rfl, h.cell (i := 10) rfl, h.cell (i := 11) rfl, h.cell (i := 12) rfl, h.cell (i := 13) rfl⟩
theorem Bd {w : World} {b : Nat} {cs : Array Value} {t : TypeId} (h : Blk w b cs t) : Blk w.drew b cs t := h
set_option maxHeartbeats 4000000 in
theorem bankRegs (r : Pl.Rg) (w : World) (lx : r.xs.length = 4) (ly : r.ys.length = 4) :
    Calls Try.prog 67 #[.agg (bkR r)] w fun e w' => ∃ (a' b' : Option Addr) (ca' cb' : Nat), e = .returned (.agg #[.slice a' r.xs.length ca', .slice b' r.ys.length cb', .int .i64 r.o, .int .i64 r.p, .int .i64 r.f, .int .i64 r.m, .bool r.s, .bool r.t]) ∧ RegIn w' w.heap.size r a' b' ∧ Kept 0 0 w w' := by
  have LX := hide lx
  have LY := hide ly
  clear lx ly
  have B0 := hide ((Blk.new w (bkR r) 85).alloc (.cells #[.slice none 0 0, .slice none 0 0, .int .i64 0, .int .i64 0, .int .i64 0, .int .i64 0, .bool false, .bool false] 24))
  have R0 := Blk.new (w.alloc (.cells (bkR r) 85)) #[.slice none 0 0, .slice none 0 0, .int .i64 0, .int .i64 0, .int .i64 0, .int .i64 0, .bool false, .bool false] 24
  simp only [World.size_alloc] at R0
  replace R0 := hide R0
  have K0 := hide (kept_new (kept_alloc w (.cells (bkR r) 85)) (.cells #[.slice none 0 0, .slice none 0 0, .int .i64 0, .int .i64 0, .int .i64 0, .int .i64 0, .bool false, .bool false] 24))
  unfold bkR
  go_enter Try.func67, Try.ntmps67
  go_wp2_with fail
  obtain ⟨W, hW⟩ : ∃ W : World, W = (w.alloc (.cells (bkR r) 85)).alloc (.cells #[.slice none 0 0, .slice none 0 0, .int .i64 0, .int .i64 0, .int .i64 0, .int .i64 0, .bool false, .bool false] 24) := ⟨_, rfl⟩
  have hW2 : (w.alloc (.cells #[.int .i64 (el r.xs 0), .int .i64 (el r.xs 1), .int .i64 (el r.xs 2), .int .i64 (el r.xs 3), .int .i64 (el r.ys 0), .int .i64 (el r.ys 1), .int .i64 (el r.ys 2), .int .i64 (el r.ys 3), .int .i64 r.o, .int .i64 r.p, .int .i64 r.f, .int .i64 r.m, .bool r.s, .bool r.t] 85)).alloc (.cells #[.slice none 0 0, .slice none 0 0, .int .i64 0, .int .i64 0, .int .i64 0, .int .i64 0, .bool false, .bool false] 24) = W := hW.symm
  rw [← hW] at B0 R0 K0
  rw [hW2]
  clear hW hW2
  obtain ⟨c0, c1, c2, c3, c4, c5, c6, c7, c8, c9, c10, c11, c12, c13⟩ := bkS B0.out
  go_region_held3 (fun w' => w'.cell? ⟨w.heap.size, 0, none⟩ = some (.int .i64 (el r.xs 0)) ∧ w'.cell? ⟨w.heap.size, 1, none⟩ = some (.int .i64 (el r.xs 1)) ∧ w'.cell? ⟨w.heap.size, 2, none⟩ = some (.int .i64 (el r.xs 2)) ∧ w'.cell? ⟨w.heap.size, 3, none⟩ = some (.int .i64 (el r.xs 3)) ∧ w'.cell? ⟨w.heap.size, 4, none⟩ = some (.int .i64 (el r.ys 0)) ∧ w'.cell? ⟨w.heap.size, 5, none⟩ = some (.int .i64 (el r.ys 1)) ∧ w'.cell? ⟨w.heap.size, 6, none⟩ = some (.int .i64 (el r.ys 2)) ∧ w'.cell? ⟨w.heap.size, 7, none⟩ = some (.int .i64 (el r.ys 3)) ∧ w'.cell? ⟨w.heap.size, 8, none⟩ = some (.int .i64 r.o) ∧ w'.cell? ⟨w.heap.size, 9, none⟩ = some (.int .i64 r.p) ∧ w'.cell? ⟨w.heap.size, 10, none⟩ = some (.int .i64 r.f) ∧ w'.cell? ⟨w.heap.size, 11, none⟩ = some (.int .i64 r.m) ∧ w'.cell? ⟨w.heap.size, 12, none⟩ = some (.bool r.s) ∧ w'.cell? ⟨w.heap.size, 13, none⟩ = some (.bool r.t)) (first | with_reducible exact bkS B4.out | with_reducible exact bkS B3.out | with_reducible exact bkS (Bd B0.out) | exact bkS ((((((((B4.out.other _ _ _ (by omega)).other _ _ _ (by omega)).other _ _ _ (by omega)).other _ _ _ (by omega)).other _ _ _ (by omega)).other _ _ _ (by omega)).other _ _ _ (by omega)).other _ _ _ (by omega)))
    (first | (go_at_call 90; have B4 := B3; clear B4; refine (listOf _ _ _ _ _).mono ?_; rintro e w4 ⟨g', rfl, hg4, hb4, kd⟩; have B4 := hide (B3.out.kept0 kd); have R4 := hide (R3.out.kept0 kd); have q0 := R4.out.cell (i := 0) rfl; have fq0 := R4.out.frozen 0; have q1 := R4.out.cell (i := 1) rfl; have fq1 := R4.out.frozen 1; have q2 := R4.out.cell (i := 2) rfl; have fq2 := R4.out.frozen 2; have q3 := R4.out.cell (i := 3) rfl; have fq3 := R4.out.frozen 3; have q4 := R4.out.cell (i := 4) rfl; have fq4 := R4.out.frozen 4; have q5 := R4.out.cell (i := 5) rfl; have fq5 := R4.out.frozen 5; have q6 := R4.out.cell (i := 6) rfl; have fq6 := R4.out.frozen 6; have q7 := R4.out.cell (i := 7) rfl; have fq7 := R4.out.frozen 7; have G4 := hide (G3.out.kept0 kd); have H4 := hide hb4; have L4 := hide hg4; have K4 := hide (K3.out.trans kd); clear hg4 hb4 kd) | (go_at_call 90; refine (listOf _ _ _ _ _).mono ?_; rintro e w3 ⟨g, rfl, hg3, hb3, kd⟩; have k3 := undrewK kd; have B3 := hide (B0.out.kept0 k3); have R3 := hide (R0.out.kept0 k3); have G3 := hide hb3; have L3 : Hid (W.heap.size ≤ g) := hide hg3; have K3 := hide (K0.out.trans k3); clear hg3 hb3 kd k3))
  go_wp2_with fail
  have l0 := R0.out.lt
  have l3 := L3.out
  have l4 := L4.out
  have l5 := G3.out.lt
  have l6 := H4.out.lt
  have l7 := G4.out.lt
  have k0 := K0.out.size
  refine bodyPost_ret (v := .agg #[.slice (some ⟨g, 0, none⟩) 4 4, .slice (some ⟨g', 0, none⟩) 4 4, .int .i64 r.o, .int .i64 r.p, .int .i64 r.f, .int .i64 r.m, .bool r.s, .bool r.t]) ?_ rfl ⟨some ⟨g, 0, none⟩, some ⟨g', 0, none⟩, 4, 4, ?_, ⟨.inr ⟨g, rfl, by omega, ?_, ?_⟩, .inr ⟨g', rfl, by omega, ?_, ?_⟩, ?_⟩, ?_⟩
  · rw [results_one rfl]; go_simp
  · rw [LX.out, LY.out]
  · simpa using l7
  · rw [list4 LX.out]; exact own_of_blk ((((((((G4.out.other _ _ _ (by omega)).other _ _ _ (by omega)).other _ _ _ (by omega)).other _ _ _ (by omega)).other _ _ _ (by omega)).other _ _ _ (by omega)).other _ _ _ (by omega)).other _ _ _ (by omega))
  · simpa using l6
  · rw [list4 LY.out]; exact own_of_blk ((((((((H4.out.other _ _ _ (by omega)).other _ _ _ (by omega)).other _ _ _ (by omega)).other _ _ _ (by omega)).other _ _ _ (by omega)).other _ _ _ (by omega)).other _ _ _ (by omega)).other _ _ _ (by omega))
  · intro g2 h2 h3
    simp [blk] at h2 h3
    omega
  · exact (kept_set (kept_set (kept_set (kept_set (kept_set (kept_set (kept_set (kept_set K4.out _ _ _ (.inr (by omega))) _ _ _ (.inr (by omega))) _ _ _ (.inr (by omega))) _ _ _ (.inr (by omega))) _ _ _ (.inr (by omega))) _ _ _ (.inr (by omega))) _ _ _ (.inr (by omega))) _ _ _ (.inr (by omega)))
end Go.Proofs.Ytblddehlkaolbaa

namespace Go.Proofs.Ytblddehlkaolbaa
open Go.RowKit
set_option linter.unusedVariables false
set_option maxHeartbeats 1000000 in
theorem implNewRegs (w : World) :
    Calls Try.prog 31 #[] w fun e w' => ∃ (a' b' : Option Addr) (ca' cb' : Nat), e = .returned (.agg #[.slice a' Pl.rgNew.xs.length ca', .slice b' Pl.rgNew.ys.length cb', .int .i64 Pl.rgNew.o, .int .i64 Pl.rgNew.p, .int .i64 Pl.rgNew.f, .int .i64 Pl.rgNew.m, .bool Pl.rgNew.s, .bool Pl.rgNew.t]) ∧ RegIn w' w.heap.size Pl.rgNew a' b' ∧ Kept 0 0 w w' := by
  have R0 := hide (Blk.new w #[.slice none 0 0, .slice none 0 0, .int .i64 0, .int .i64 0, .int .i64 0, .int .i64 0, .bool false, .bool false] 24)
  have K0 := hide (kept_alloc w (.cells #[.slice none 0 0, .slice none 0 0, .int .i64 0, .int .i64 0, .int .i64 0, .int .i64 0, .bool false, .bool false] 24))
  go_enter Try.func31, Try.ntmps31
  go_wp2_with (go_at_call 67; refine (bankRegs Pl.rgNew _ rfl rfl).mono ?_; rintro e w1 ⟨a3, b3, c3, d3, rfl, hR, k1⟩; have RR := hide hR; have R1 := hide (R0.out.kept0 k1); have K1 := hide (K0.out.trans k1); have q0 := R1.out.cell (i := 0) rfl; have fq0 := R1.out.frozen 0; have q1 := R1.out.cell (i := 1) rfl; have fq1 := R1.out.frozen 1; have q2 := R1.out.cell (i := 2) rfl; have fq2 := R1.out.frozen 2; have q3 := R1.out.cell (i := 3) rfl; have fq3 := R1.out.frozen 3; have q4 := R1.out.cell (i := 4) rfl; have fq4 := R1.out.frozen 4; have q5 := R1.out.cell (i := 5) rfl; have fq5 := R1.out.frozen 5; have q6 := R1.out.cell (i := 6) rfl; have fq6 := R1.out.frozen 6; have q7 := R1.out.cell (i := 7) rfl; have fq7 := R1.out.frozen 7; clear hR k1)
  have s0 := R0.out.lt
  have l1 := R1.out.lt
  refine bodyPost_ret (v := .agg #[.slice a3 Pl.rgNew.xs.length c3, .slice b3 Pl.rgNew.ys.length d3, .int .i64 Pl.rgNew.o, .int .i64 Pl.rgNew.p, .int .i64 Pl.rgNew.f, .int .i64 Pl.rgNew.m, .bool Pl.rgNew.s, .bool Pl.rgNew.t]) ?_ rfl ⟨a3, b3, c3, d3, rfl, ?_, ?_⟩
  · rw [results_one rfl]; go_simp
  · exact RegIn.base ((((((((RR.out.set _ _ _ (by simp)).set _ _ _ (by simp)).set _ _ _ (by simp)).set _ _ _ (by simp)).set _ _ _ (by simp)).set _ _ _ (by simp)).set _ _ _ (by simp)).set _ _ _ (by simp)) (by simp)
  · exact (kept_set (kept_set (kept_set (kept_set (kept_set (kept_set (kept_set (kept_set K1.out _ _ _ (.inr (by omega))) _ _ _ (.inr (by omega))) _ _ _ (.inr (by omega))) _ _ _ (.inr (by omega))) _ _ _ (.inr (by omega))) _ _ _ (.inr (by omega))) _ _ _ (.inr (by omega))) _ _ _ (.inr (by omega)))
end Go.Proofs.Ytblddehlkaolbaa

namespace Go.Proofs.Ytblddehlkaolbaa
open Go.RowKit
set_option linter.unusedVariables false
set_option maxRecDepth 20000 in
set_option maxHeartbeats 4000000 in
theorem iNewCpu_bad (w : World) (a : Option Addr) (ca : Nat) (xs : List Int) (pc : Int) (ha : Came w a xs) (lx : xs.length ≤ 2000000) (p1 : -9223372036854775808 ≤ pc) (p2 : pc ≤ 9223372036854775807) (h1 : Pl.newOk xs [] = false) (h2 : True) :
    Calls Try.prog 10 #[.slice a xs.length ca, .int .i64 pc] w fun r w' => ∃ (a' b' e' q' : Option Addr) (ca' cb' ce' cq' : Nat), r = .returned (.tuple #[.agg (cpuV (Pl.ncC xs pc) a' b' e' q' ca' cb' ce' cq'), .bool (Pl.ncOk xs pc)]) ∧ CpuIn w' w.heap.size (Pl.ncC xs pc) a' b' e' q' ∧ Kept 0 0 w w' := by
  have EO : Hid (Pl.ncOk xs pc = false) := hide (by unfold Pl.ncOk; rw [h1]; simp)
  have EC : Hid (Pl.ncC xs pc = Pl.cpNo) := hide (by unfold Pl.ncC; rw [EO.out]; rfl)
  have H1 := hide h1
  have H2 := hide h2
  clear h1 h2
  have K0 := hide (kept_alloc w (.cells #[.slice none 0 0, .slice none 0 0, .int .i64 0, .int .i64 0, .int .i64 0, .int .i64 0, .bool false, .bool false, .slice none 0 0, .slice none 0 0, .bool false, .bool false] 29))
  have BR := Blk.new w #[.slice none 0 0, .slice none 0 0, .int .i64 0, .int .i64 0, .int .i64 0, .int .i64 0, .bool false, .bool false, .slice none 0 0, .slice none 0 0, .bool false, .bool false] 29
  obtain ⟨X, hX⟩ : ∃ X : World, w.alloc (.cells #[.slice none 0 0, .slice none 0 0, .int .i64 0, .int .i64 0, .int .i64 0, .int .i64 0, .bool false, .bool false, .slice none 0 0, .slice none 0 0, .bool false, .bool false] 29) = X := ⟨_, rfl⟩
  have szX : X.heap.size = w.heap.size + 1 := by rw [← hX]; simp
  rw [hX] at K0 BR
  have HR := hide BR
  have HA := hide (ha.keptS K0.out)
  clear BR ha
  have r0 := HR.out.cell (i := 0) rfl
  have rf0 := HR.out.frozen 0
  have r1 := HR.out.cell (i := 1) rfl
  have rf1 := HR.out.frozen 1
  have r2 := HR.out.cell (i := 2) rfl
  have rf2 := HR.out.frozen 2
  have r3 := HR.out.cell (i := 3) rfl
  have rf3 := HR.out.frozen 3
  have r4 := HR.out.cell (i := 4) rfl
  have rf4 := HR.out.frozen 4
  have r5 := HR.out.cell (i := 5) rfl
  have rf5 := HR.out.frozen 5
  have r6 := HR.out.cell (i := 6) rfl
  have rf6 := HR.out.frozen 6
  have r7 := HR.out.cell (i := 7) rfl
  have rf7 := HR.out.frozen 7
  have r8 := HR.out.cell (i := 8) rfl
  have rf8 := HR.out.frozen 8
  have r9 := HR.out.cell (i := 9) rfl
  have rf9 := HR.out.frozen 9
  have r10 := HR.out.cell (i := 10) rfl
  have rf10 := HR.out.frozen 10
  have r11 := HR.out.cell (i := 11) rfl
  have rf11 := HR.out.frozen 11
  go_enter Try.func10, Try.ntmps10
  go_wp2_with fail
  refine (newBus _ a none ca 0 xs [] HA.out ⟨fun i hi => absurd hi (Nat.not_lt_zero i), fun i hi => absurd hi (Nat.not_lt_zero i)⟩ lx (by simp)).mono ?_
  rintro e9 w1 ⟨e, ce, rfl, hs9, k9⟩
  rw [H1.out]
  have HS1 := hide hs9
  have K1 := hide (K0.out.trans k9)
  have HR1 := hide (HR.out.kept0 k9)
  have kz1 := k9.size
  clear hs9 k9 r0 rf0 r1 rf1 r2 rf2 r3 rf3 r4 rf4 r5 rf5 r6 rf6 r7 rf7 r8 rf8 r9 rf9 r10 rf10 r11 rf11
  have KY := kept_alloc w1 (.cells #[.slice e (Pl.newB xs []).length ce, .slice none 0 0] 27)
  have BY := Blk.new w1 #[.slice e (Pl.newB xs []).length ce, .slice none 0 0] 27
  obtain ⟨Y, hY⟩ : ∃ Y : World, w1.alloc (.cells #[.slice e (Pl.newB xs []).length ce, .slice none 0 0] 27) = Y := ⟨_, rfl⟩
  have szY : Y.heap.size = w1.heap.size + 1 := by simp [← hY]
  have hYY : Y.setCell ⟨w1.heap.size, 1, none⟩ (.slice none 0 0) = Y := by rw [← hY, set_same2]
  rw [hY] at KY BY
  have HS2 := hide (HS1.out.kept KY (by omega))
  have K2 := hide (K1.out.trans KY)
  have HR2 := hide (HR1.out.kept0 KY)
  have HBY := hide BY
  clear KY BY
  have r0 := HR2.out.cell (i := 0) rfl
  have rf0 := HR2.out.frozen 0
  have r1 := HR2.out.cell (i := 1) rfl
  have rf1 := HR2.out.frozen 1
  have r2 := HR2.out.cell (i := 2) rfl
  have rf2 := HR2.out.frozen 2
  have r3 := HR2.out.cell (i := 3) rfl
  have rf3 := HR2.out.frozen 3
  have r4 := HR2.out.cell (i := 4) rfl
  have rf4 := HR2.out.frozen 4
  have r5 := HR2.out.cell (i := 5) rfl
  have rf5 := HR2.out.frozen 5
  have r6 := HR2.out.cell (i := 6) rfl
  have rf6 := HR2.out.frozen 6
  have r7 := HR2.out.cell (i := 7) rfl
  have rf7 := HR2.out.frozen 7
  have r8 := HR2.out.cell (i := 8) rfl
  have rf8 := HR2.out.frozen 8
  have r9 := HR2.out.cell (i := 9) rfl
  have rf9 := HR2.out.frozen 9
  have r10 := HR2.out.cell (i := 10) rfl
  have rf10 := HR2.out.frozen 10
  have r11 := HR2.out.cell (i := 11) rfl
  have rf11 := HR2.out.frozen 11
  have b0 := HBY.out.cell (i := 0) rfl
  have bf0 := HBY.out.frozen 0
  have b1 := HBY.out.cell (i := 1) rfl
  have bf1 := HBY.out.frozen 1
  go_wp2_with (go_at_call 30; refine (isWord _ _ p1 p2).mono ?_; rintro e9 w9 ⟨rfl, hw⟩; have hw2 := hw.symm; clear hw; subst hw2; fail)
  refine bodyPost_ret (v := .tuple #[.agg (cpuV (Pl.ncC xs pc) none none none none 0 0 0 0), .bool (Pl.ncOk xs pc)]) ?_ rfl ⟨none, none, none, none, 0, 0, 0, 0, rfl, by rw [EC.out]; exact cpuIn_no _ _, ?kw⟩
  case kw => repeat (first | with_reducible exact K2.out | refine kept_set ?_ _ _ _ (.inr (by omega)))
  rw [results_cell_tmp1 rfl, EC.out, EO.out]; go_simp; first | rfl | exact ⟨rfl, rfl⟩
set_option maxRecDepth 20000 in
set_option maxHeartbeats 4000000 in
theorem iNewCpu_badp (w : World) (a : Option Addr) (ca : Nat) (xs : List Int) (pc : Int) (ha : Came w a xs) (lx : xs.length ≤ 2000000) (p1 : -9223372036854775808 ≤ pc) (p2 : pc ≤ 9223372036854775807) (h1 : Pl.newOk xs [] = true) (h2 : Pl.wordOk pc = false) :
    Calls Try.prog 10 #[.slice a xs.length ca, .int .i64 pc] w fun r w' => ∃ (a' b' e' q' : Option Addr) (ca' cb' ce' cq' : Nat), r = .returned (.tuple #[.agg (cpuV (Pl.ncC xs pc) a' b' e' q' ca' cb' ce' cq'), .bool (Pl.ncOk xs pc)]) ∧ CpuIn w' w.heap.size (Pl.ncC xs pc) a' b' e' q' ∧ Kept 0 0 w w' := by
  have EO : Hid (Pl.ncOk xs pc = false) := hide (by unfold Pl.ncOk; rw [h1, h2]; simp)
  have EC : Hid (Pl.ncC xs pc = Pl.cpNo) := hide (by unfold Pl.ncC; rw [EO.out]; rfl)
  have H1 := hide h1
  have H2 := hide h2
  clear h1 h2
  have K0 := hide (kept_alloc w (.cells #[.slice none 0 0, .slice none 0 0, .int .i64 0, .int .i64 0, .int .i64 0, .int .i64 0, .bool false, .bool false, .slice none 0 0, .slice none 0 0, .bool false, .bool false] 29))
  have BR := Blk.new w #[.slice none 0 0, .slice none 0 0, .int .i64 0, .int .i64 0, .int .i64 0, .int .i64 0, .bool false, .bool false, .slice none 0 0, .slice none 0 0, .bool false, .bool false] 29
  obtain ⟨X, hX⟩ : ∃ X : World, w.alloc (.cells #[.slice none 0 0, .slice none 0 0, .int .i64 0, .int .i64 0, .int .i64 0, .int .i64 0, .bool false, .bool false, .slice none 0 0, .slice none 0 0, .bool false, .bool false] 29) = X := ⟨_, rfl⟩
  have szX : X.heap.size = w.heap.size + 1 := by rw [← hX]; simp
  rw [hX] at K0 BR
  have HR := hide BR
  have HA := hide (ha.keptS K0.out)
  clear BR ha
  have r0 := HR.out.cell (i := 0) rfl
  have rf0 := HR.out.frozen 0
  have r1 := HR.out.cell (i := 1) rfl
  have rf1 := HR.out.frozen 1
  have r2 := HR.out.cell (i := 2) rfl
  have rf2 := HR.out.frozen 2
  have r3 := HR.out.cell (i := 3) rfl
  have rf3 := HR.out.frozen 3
  have r4 := HR.out.cell (i := 4) rfl
  have rf4 := HR.out.frozen 4
  have r5 := HR.out.cell (i := 5) rfl
  have rf5 := HR.out.frozen 5
  have r6 := HR.out.cell (i := 6) rfl
  have rf6 := HR.out.frozen 6
  have r7 := HR.out.cell (i := 7) rfl
  have rf7 := HR.out.frozen 7
  have r8 := HR.out.cell (i := 8) rfl
  have rf8 := HR.out.frozen 8
  have r9 := HR.out.cell (i := 9) rfl
  have rf9 := HR.out.frozen 9
  have r10 := HR.out.cell (i := 10) rfl
  have rf10 := HR.out.frozen 10
  have r11 := HR.out.cell (i := 11) rfl
  have rf11 := HR.out.frozen 11
  go_enter Try.func10, Try.ntmps10
  go_wp2_with fail
  refine (newBus _ a none ca 0 xs [] HA.out ⟨fun i hi => absurd hi (Nat.not_lt_zero i), fun i hi => absurd hi (Nat.not_lt_zero i)⟩ lx (by simp)).mono ?_
  rintro e9 w1 ⟨e, ce, rfl, hs9, k9⟩
  rw [H1.out]
  have HS1 := hide hs9
  have K1 := hide (K0.out.trans k9)
  have HR1 := hide (HR.out.kept0 k9)
  have kz1 := k9.size
  clear hs9 k9 r0 rf0 r1 rf1 r2 rf2 r3 rf3 r4 rf4 r5 rf5 r6 rf6 r7 rf7 r8 rf8 r9 rf9 r10 rf10 r11 rf11
  have KY := kept_alloc w1 (.cells #[.slice e (Pl.newB xs []).length ce, .slice none 0 0] 27)
  have BY := Blk.new w1 #[.slice e (Pl.newB xs []).length ce, .slice none 0 0] 27
  obtain ⟨Y, hY⟩ : ∃ Y : World, w1.alloc (.cells #[.slice e (Pl.newB xs []).length ce, .slice none 0 0] 27) = Y := ⟨_, rfl⟩
  have szY : Y.heap.size = w1.heap.size + 1 := by simp [← hY]
  have hYY : Y.setCell ⟨w1.heap.size, 1, none⟩ (.slice none 0 0) = Y := by rw [← hY, set_same2]
  rw [hY] at KY BY
  have HS2 := hide (HS1.out.kept KY (by omega))
  have K2 := hide (K1.out.trans KY)
  have HR2 := hide (HR1.out.kept0 KY)
  have HBY := hide BY
  clear KY BY
  have r0 := HR2.out.cell (i := 0) rfl
  have rf0 := HR2.out.frozen 0
  have r1 := HR2.out.cell (i := 1) rfl
  have rf1 := HR2.out.frozen 1
  have r2 := HR2.out.cell (i := 2) rfl
  have rf2 := HR2.out.frozen 2
  have r3 := HR2.out.cell (i := 3) rfl
  have rf3 := HR2.out.frozen 3
  have r4 := HR2.out.cell (i := 4) rfl
  have rf4 := HR2.out.frozen 4
  have r5 := HR2.out.cell (i := 5) rfl
  have rf5 := HR2.out.frozen 5
  have r6 := HR2.out.cell (i := 6) rfl
  have rf6 := HR2.out.frozen 6
  have r7 := HR2.out.cell (i := 7) rfl
  have rf7 := HR2.out.frozen 7
  have r8 := HR2.out.cell (i := 8) rfl
  have rf8 := HR2.out.frozen 8
  have r9 := HR2.out.cell (i := 9) rfl
  have rf9 := HR2.out.frozen 9
  have r10 := HR2.out.cell (i := 10) rfl
  have rf10 := HR2.out.frozen 10
  have r11 := HR2.out.cell (i := 11) rfl
  have rf11 := HR2.out.frozen 11
  have b0 := HBY.out.cell (i := 0) rfl
  have bf0 := HBY.out.frozen 0
  have b1 := HBY.out.cell (i := 1) rfl
  have bf1 := HBY.out.frozen 1
  go_wp2_with (go_at_call 30; refine (isWord _ _ p1 p2).mono ?_; rintro e9 w9 ⟨rfl, hw⟩; have hw2 := hw.symm; clear hw; subst hw2; rw [H2.out])
  refine bodyPost_ret (v := .tuple #[.agg (cpuV (Pl.ncC xs pc) none none none none 0 0 0 0), .bool (Pl.ncOk xs pc)]) ?_ rfl ⟨none, none, none, none, 0, 0, 0, 0, rfl, by rw [EC.out]; exact cpuIn_no _ _, ?kw⟩
  case kw => repeat (first | with_reducible exact K2.out | refine kept_set ?_ _ _ _ (.inr (by omega)))
  rw [results_cell_tmp1 rfl, EC.out, EO.out]; go_simp; first | rfl | exact ⟨rfl, rfl⟩
theorem implNewRegsX (w : World) : Calls Try.prog 31 #[] w fun e w' => ∃ ga gb ca cb : Nat, e = .returned (.agg #[.slice (some ⟨ga, 0, none⟩) 4 ca, .slice (some ⟨gb, 0, none⟩) 4 cb, .int .i64 0, .int .i64 0, .int .i64 0, .int .i64 7, .bool true, .bool false]) ∧ Own w' ga [0, 0, 0, 0] ∧ Own w' gb [0, 0, 0, 0] ∧ w.heap.size ≤ ga ∧ ga < w'.heap.size ∧ w.heap.size ≤ gb ∧ gb < w'.heap.size ∧ ga ≠ gb ∧ Kept 0 0 w w' := by
  refine (implNewRegs w).mono ?_
  rintro e w' ⟨a, b, ca, cb, rfl, ⟨sa, sb, hab⟩, k⟩
  rcases sa with ⟨_, h⟩ | ⟨ga, rfl, a0, a1, oa⟩
  · cases h
  · rcases sb with ⟨_, h⟩ | ⟨gb, rfl, b0, b1, ob⟩
    · cases h
    · exact ⟨ga, gb, ca, cb, rfl, oa, ob, a0, a1, b0, b1, fun e => hab ga rfl (by rw [e]; rfl), k⟩
set_option maxRecDepth 100000 in
set_option maxHeartbeats 8000000 in
theorem iNewCpu_ok (w : World) (a : Option Addr) (ca : Nat) (xs : List Int) (pc : Int) (ha : Came w a xs) (lx : xs.length ≤ 2000000) (p1 : -9223372036854775808 ≤ pc) (p2 : pc ≤ 9223372036854775807) (h1 : Pl.newOk xs [] = true) (h2 : Pl.wordOk pc = true) :
    Calls Try.prog 10 #[.slice a xs.length ca, .int .i64 pc] w fun r w' => ∃ (a' b' e' q' : Option Addr) (ca' cb' ce' cq' : Nat), r = .returned (.tuple #[.agg (cpuV (Pl.ncC xs pc) a' b' e' q' ca' cb' ce' cq'), .bool (Pl.ncOk xs pc)]) ∧ CpuIn w' w.heap.size (Pl.ncC xs pc) a' b' e' q' ∧ Kept 0 0 w w' := by
  have EO : Hid (Pl.ncOk xs pc = true) := hide (by unfold Pl.ncOk; rw [h1, h2]; rfl)
  have EC : Hid (Pl.ncC xs pc = { r := { Pl.rgNew with p := pc, ys := [0, 0, 0, 384] }, bx := Pl.newB xs [], bl := [], bm := 0, st := false, ha := false }) := hide (by unfold Pl.ncC; rw [EO.out]; rfl)
  have H1 := hide h1
  have H2 := hide h2
  clear h1 h2
  have K0 := hide (kept_alloc w (.cells #[.slice none 0 0, .slice none 0 0, .int .i64 0, .int .i64 0, .int .i64 0, .int .i64 0, .bool false, .bool false, .slice none 0 0, .slice none 0 0, .bool false, .bool false] 29))
  have BR := Blk.new w #[.slice none 0 0, .slice none 0 0, .int .i64 0, .int .i64 0, .int .i64 0, .int .i64 0, .bool false, .bool false, .slice none 0 0, .slice none 0 0, .bool false, .bool false] 29
  obtain ⟨X, hX⟩ : ∃ X : World, w.alloc (.cells #[.slice none 0 0, .slice none 0 0, .int .i64 0, .int .i64 0, .int .i64 0, .int .i64 0, .bool false, .bool false, .slice none 0 0, .slice none 0 0, .bool false, .bool false] 29) = X := ⟨_, rfl⟩
  have szX : X.heap.size = w.heap.size + 1 := by rw [← hX]; simp
  rw [hX] at K0 BR
  have HR := hide BR
  have HA := hide (ha.keptS K0.out)
  clear BR ha
  have r0 := HR.out.cell (i := 0) rfl
  have rf0 := HR.out.frozen 0
  have r1 := HR.out.cell (i := 1) rfl
  have rf1 := HR.out.frozen 1
  have r2 := HR.out.cell (i := 2) rfl
  have rf2 := HR.out.frozen 2
  have r3 := HR.out.cell (i := 3) rfl
  have rf3 := HR.out.frozen 3
  have r4 := HR.out.cell (i := 4) rfl
  have rf4 := HR.out.frozen 4
  have r5 := HR.out.cell (i := 5) rfl
  have rf5 := HR.out.frozen 5
  have r6 := HR.out.cell (i := 6) rfl
  have rf6 := HR.out.frozen 6
  have r7 := HR.out.cell (i := 7) rfl
  have rf7 := HR.out.frozen 7
  have r8 := HR.out.cell (i := 8) rfl
  have rf8 := HR.out.frozen 8
  have r9 := HR.out.cell (i := 9) rfl
  have rf9 := HR.out.frozen 9
  have r10 := HR.out.cell (i := 10) rfl
  have rf10 := HR.out.frozen 10
  have r11 := HR.out.cell (i := 11) rfl
  have rf11 := HR.out.frozen 11
  go_enter Try.func10, Try.ntmps10
  go_wp2_with fail
  refine (newBus _ a none ca 0 xs [] HA.out ⟨fun i hi => absurd hi (Nat.not_lt_zero i), fun i hi => absurd hi (Nat.not_lt_zero i)⟩ lx (by simp)).mono ?_
  rintro e9 w1 ⟨e, ce, rfl, hs9, k9⟩
  rw [H1.out]
  have HS1 := hide hs9
  have K1 := hide (K0.out.trans k9)
  have HR1 := hide (HR.out.kept0 k9)
  have kz1 := k9.size
  clear hs9 k9 r0 rf0 r1 rf1 r2 rf2 r3 rf3 r4 rf4 r5 rf5 r6 rf6 r7 rf7 r8 rf8 r9 rf9 r10 rf10 r11 rf11
  have KY := kept_alloc w1 (.cells #[.slice e (Pl.newB xs []).length ce, .slice none 0 0] 27)
  have BY := Blk.new w1 #[.slice e (Pl.newB xs []).length ce, .slice none 0 0] 27
  obtain ⟨Y, hY⟩ : ∃ Y : World, w1.alloc (.cells #[.slice e (Pl.newB xs []).length ce, .slice none 0 0] 27) = Y := ⟨_, rfl⟩
  have szY : Y.heap.size = w1.heap.size + 1 := by simp [← hY]
  have hYY : Y.setCell ⟨w1.heap.size, 1, none⟩ (.slice none 0 0) = Y := by rw [← hY, set_same2]
  rw [hY] at KY BY
  have HS2 := hide (HS1.out.kept KY (by omega))
  have K2 := hide (K1.out.trans KY)
  have HR2 := hide (HR1.out.kept0 KY)
  have HBY := hide BY
  clear KY BY
  have r0 := HR2.out.cell (i := 0) rfl
  have rf0 := HR2.out.frozen 0
  have r1 := HR2.out.cell (i := 1) rfl
  have rf1 := HR2.out.frozen 1
  have r2 := HR2.out.cell (i := 2) rfl
  have rf2 := HR2.out.frozen 2
  have r3 := HR2.out.cell (i := 3) rfl
  have rf3 := HR2.out.frozen 3
  have r4 := HR2.out.cell (i := 4) rfl
  have rf4 := HR2.out.frozen 4
  have r5 := HR2.out.cell (i := 5) rfl
  have rf5 := HR2.out.frozen 5
  have r6 := HR2.out.cell (i := 6) rfl
  have rf6 := HR2.out.frozen 6
  have r7 := HR2.out.cell (i := 7) rfl
  have rf7 := HR2.out.frozen 7
  have r8 := HR2.out.cell (i := 8) rfl
  have rf8 := HR2.out.frozen 8
  have r9 := HR2.out.cell (i := 9) rfl
  have rf9 := HR2.out.frozen 9
  have r10 := HR2.out.cell (i := 10) rfl
  have rf10 := HR2.out.frozen 10
  have r11 := HR2.out.cell (i := 11) rfl
  have rf11 := HR2.out.frozen 11
  have b0 := HBY.out.cell (i := 0) rfl
  have bf0 := HBY.out.frozen 0
  have b1 := HBY.out.cell (i := 1) rfl
  have bf1 := HBY.out.frozen 1
  go_wp2_with (go_at_call 30; refine (isWord _ _ p1 p2).mono ?_; rintro e9 w9 ⟨rfl, hw⟩; have hw2 := hw.symm; clear hw; subst hw2; rw [H2.out])
  refine (implNewRegsX _).mono ?_
  rintro e9 w2 ⟨ga, gb, c1, c2, rfl, oa, ob, a0, a1, b0', b1', hab, k9⟩
  have HR3 := hide (HR2.out.kept0 k9)
  have HB3 := hide (HBY.out.kept0 k9)
  have K3 := hide (K2.out.trans k9)
  have HS3 := hide (HS2.out.kept k9 (by omega))
  have kz2 := k9.size
  have OA := hide oa
  have OB := hide ob
  obtain ⟨cb3, fb3⟩ := ob 3 (by decide)
  clear k9 oa ob hX hY hYY b0 b1 bf0 bf1 r0 rf0 r1 rf1 r2 rf2 r3 rf3 r4 rf4 r5 rf5 r6 rf6 r7 rf7 r8 rf8 r9 rf9 r10 rf10 r11 rf11
  have sz3 : (w2.setCell ⟨gb, 3, none⟩ (.int .i64 384)).heap.size = w2.heap.size := by simp
  have K4 : Kept 0 0 w ((w2.setCell ⟨gb, 3, none⟩ (.int .i64 384)).alloc (.cells #[.slice (some ⟨ga, 0, none⟩) 4 c1, .slice (some ⟨gb, 0, none⟩) 4 c2, .int .i64 0, .int .i64 pc, .int .i64 0, .int .i64 7, .bool true, .bool false] 24)) := kept_new (kept_set K3.out gb 3 _ (.inr (by omega))) _
  have BR4 : Blk ((w2.setCell ⟨gb, 3, none⟩ (.int .i64 384)).alloc (.cells #[.slice (some ⟨ga, 0, none⟩) 4 c1, .slice (some ⟨gb, 0, none⟩) 4 c2, .int .i64 0, .int .i64 pc, .int .i64 0, .int .i64 7, .bool true, .bool false] 24)) w.heap.size #[.slice none 0 0, .slice none 0 0, .int .i64 0, .int .i64 0, .int .i64 0, .int .i64 0, .bool false, .bool false, .slice none 0 0, .slice none 0 0, .bool false, .bool false] 29 := (HR3.out.other gb 3 _ (by omega)).alloc _
  have BB4 : Blk ((w2.setCell ⟨gb, 3, none⟩ (.int .i64 384)).alloc (.cells #[.slice (some ⟨ga, 0, none⟩) 4 c1, .slice (some ⟨gb, 0, none⟩) 4 c2, .int .i64 0, .int .i64 pc, .int .i64 0, .int .i64 7, .bool true, .bool false] 24)) w1.heap.size #[.slice e (Pl.newB xs []).length ce, .slice none 0 0] 27 := (HB3.out.other gb 3 _ (by omega)).alloc _
  have BG4 : Blk ((w2.setCell ⟨gb, 3, none⟩ (.int .i64 384)).alloc (.cells #[.slice (some ⟨ga, 0, none⟩) 4 c1, .slice (some ⟨gb, 0, none⟩) 4 c2, .int .i64 0, .int .i64 pc, .int .i64 0, .int .i64 7, .bool true, .bool false] 24)) w2.heap.size #[.slice (some ⟨ga, 0, none⟩) 4 c1, .slice (some ⟨gb, 0, none⟩) 4 c2, .int .i64 0, .int .i64 pc, .int .i64 0, .int .i64 7, .bool true, .bool false] 24 := by
    have := Blk.new (w2.setCell ⟨gb, 3, none⟩ (.int .i64 384)) #[.slice (some ⟨ga, 0, none⟩) 4 c1, .slice (some ⟨gb, 0, none⟩) 4 c2, .int .i64 0, .int .i64 pc, .int .i64 0, .int .i64 7, .bool true, .bool false] 24
    rwa [sz3] at this
  have O1 : Own ((w2.setCell ⟨gb, 3, none⟩ (.int .i64 384)).alloc (.cells #[.slice (some ⟨ga, 0, none⟩) 4 c1, .slice (some ⟨gb, 0, none⟩) 4 c2, .int .i64 0, .int .i64 pc, .int .i64 0, .int .i64 7, .bool true, .bool false] 24)) ga [0, 0, 0, 0] := (OA.out.setOther gb 3 _ hab).keptS (kept_alloc _ _) (by omega)
  have O2 : Own ((w2.setCell ⟨gb, 3, none⟩ (.int .i64 384)).alloc (.cells #[.slice (some ⟨ga, 0, none⟩) 4 c1, .slice (some ⟨gb, 0, none⟩) 4 c2, .int .i64 0, .int .i64 pc, .int .i64 0, .int .i64 7, .bool true, .bool false] 24)) gb [0, 0, 0, 384] := (OB.out.set (k := 3) 384).keptS (kept_alloc _ _) (by omega)
  have S4 : SlotIn ((w2.setCell ⟨gb, 3, none⟩ (.int .i64 384)).alloc (.cells #[.slice (some ⟨ga, 0, none⟩) 4 c1, .slice (some ⟨gb, 0, none⟩) 4 c2, .int .i64 0, .int .i64 pc, .int .i64 0, .int .i64 7, .bool true, .bool false] 24)) X.heap.size w1.heap.size e (Pl.newB xs []) := (HS3.out.kept (kept_set (lo := gb) (hi := gb + 1) (Kept.refl _ _ w2) gb 3 (.int .i64 384) (.inl (by omega))) (by omega)).kept (kept_alloc _ _) (by omega)
  have szV : ((w2.setCell ⟨gb, 3, none⟩ (.int .i64 384)).alloc (.cells #[.slice (some ⟨ga, 0, none⟩) 4 c1, .slice (some ⟨gb, 0, none⟩) 4 c2, .int .i64 0, .int .i64 pc, .int .i64 0, .int .i64 7, .bool true, .bool false] 24)).heap.size = w2.heap.size + 1 := by simp
  obtain ⟨V, hV⟩ : ∃ V : World, (w2.setCell ⟨gb, 3, none⟩ (.int .i64 384)).alloc (.cells #[.slice (some ⟨ga, 0, none⟩) 4 c1, .slice (some ⟨gb, 0, none⟩) 4 c2, .int .i64 0, .int .i64 pc, .int .i64 0, .int .i64 7, .bool true, .bool false] 24) = V := ⟨_, rfl⟩
  rw [hV] at K4 BR4 BB4 BG4 O1 O2 S4 szV
  replace K4 := hide K4
  replace O1 := hide O1
  replace O2 := hide O2
  replace S4 := hide S4
  have r0 := BR4.cell (i := 0) rfl
  have rf0 := BR4.frozen 0
  have r1 := BR4.cell (i := 1) rfl
  have rf1 := BR4.frozen 1
  have r2 := BR4.cell (i := 2) rfl
  have rf2 := BR4.frozen 2
  have r3 := BR4.cell (i := 3) rfl
  have rf3 := BR4.frozen 3
  have r4 := BR4.cell (i := 4) rfl
  have rf4 := BR4.frozen 4
  have r5 := BR4.cell (i := 5) rfl
  have rf5 := BR4.frozen 5
  have r6 := BR4.cell (i := 6) rfl
  have rf6 := BR4.frozen 6
  have r7 := BR4.cell (i := 7) rfl
  have rf7 := BR4.frozen 7
  have r8 := BR4.cell (i := 8) rfl
  have rf8 := BR4.frozen 8
  have r9 := BR4.cell (i := 9) rfl
  have rf9 := BR4.frozen 9
  have r10 := BR4.cell (i := 10) rfl
  have rf10 := BR4.frozen 10
  have r11 := BR4.cell (i := 11) rfl
  have rf11 := BR4.frozen 11
  have b0 := BB4.cell (i := 0) rfl
  have b1 := BB4.cell (i := 1) rfl
  have g0 := BG4.cell (i := 0) rfl
  have g1 := BG4.cell (i := 1) rfl
  have g2 := BG4.cell (i := 2) rfl
  have g3 := BG4.cell (i := 3) rfl
  have g4 := BG4.cell (i := 4) rfl
  have g5 := BG4.cell (i := 5) rfl
  have g6 := BG4.cell (i := 6) rfl
  have g7 := BG4.cell (i := 7) rfl
  have HR4 := hide BR4
  clear BR4 BB4 BG4
  go_wp2_with fail
  clear hV
  have FF_0 : Blk (V.setCell ⟨w.heap.size, 0, none⟩ (.slice (some ⟨ga, 0, none⟩) 4 c1)) (w.heap.size) #[.slice (some ⟨ga, 0, none⟩) 4 c1, .slice none 0 0, .int .i64 0, .int .i64 0, .int .i64 0, .int .i64 0, .bool false, .bool false, .slice none 0 0, .slice none 0 0, .bool false, .bool false] 29 := HR4.out.set 0 (.slice (some ⟨ga, 0, none⟩) 4 c1)
  have FF_1 : Blk ((V.setCell ⟨w.heap.size, 0, none⟩ (.slice (some ⟨ga, 0, none⟩) 4 c1)).setCell ⟨w.heap.size, 1, none⟩ (.slice (some ⟨gb, 0, none⟩) 4 c2)) (w.heap.size) #[.slice (some ⟨ga, 0, none⟩) 4 c1, .slice (some ⟨gb, 0, none⟩) 4 c2, .int .i64 0, .int .i64 0, .int .i64 0, .int .i64 0, .bool false, .bool false, .slice none 0 0, .slice none 0 0, .bool false, .bool false] 29 := FF_0.set 1 (.slice (some ⟨gb, 0, none⟩) 4 c2)
  have FF_2 : Blk (((V.setCell ⟨w.heap.size, 0, none⟩ (.slice (some ⟨ga, 0, none⟩) 4 c1)).setCell ⟨w.heap.size, 1, none⟩ (.slice (some ⟨gb, 0, none⟩) 4 c2)).setCell ⟨w.heap.size, 2, none⟩ (.int .i64 0)) (w.heap.size) #[.slice (some ⟨ga, 0, none⟩) 4 c1, .slice (some ⟨gb, 0, none⟩) 4 c2, .int .i64 0, .int .i64 0, .int .i64 0, .int .i64 0, .bool false, .bool false, .slice none 0 0, .slice none 0 0, .bool false, .bool false] 29 := FF_1.set 2 (.int .i64 0)
  have FF_3 : Blk ((((V.setCell ⟨w.heap.size, 0, none⟩ (.slice (some ⟨ga, 0, none⟩) 4 c1)).setCell ⟨w.heap.size, 1, none⟩ (.slice (some ⟨gb, 0, none⟩) 4 c2)).setCell ⟨w.heap.size, 2, none⟩ (.int .i64 0)).setCell ⟨w.heap.size, 3, none⟩ (.int .i64 pc)) (w.heap.size) #[.slice (some ⟨ga, 0, none⟩) 4 c1, .slice (some ⟨gb, 0, none⟩) 4 c2, .int .i64 0, .int .i64 pc, .int .i64 0, .int .i64 0, .bool false, .bool false, .slice none 0 0, .slice none 0 0, .bool false, .bool false] 29 := FF_2.set 3 (.int .i64 pc)
  have FF_4 : Blk (((((V.setCell ⟨w.heap.size, 0, none⟩ (.slice (some ⟨ga, 0, none⟩) 4 c1)).setCell ⟨w.heap.size, 1, none⟩ (.slice (some ⟨gb, 0, none⟩) 4 c2)).setCell ⟨w.heap.size, 2, none⟩ (.int .i64 0)).setCell ⟨w.heap.size, 3, none⟩ (.int .i64 pc)).setCell ⟨w.heap.size, 4, none⟩ (.int .i64 0)) (w.heap.size) #[.slice (some ⟨ga, 0, none⟩) 4 c1, .slice (some ⟨gb, 0, none⟩) 4 c2, .int .i64 0, .int .i64 pc, .int .i64 0, .int .i64 0, .bool false, .bool false, .slice none 0 0, .slice none 0 0, .bool false, .bool false] 29 := FF_3.set 4 (.int .i64 0)
  have FF_5 : Blk ((((((V.setCell ⟨w.heap.size, 0, none⟩ (.slice (some ⟨ga, 0, none⟩) 4 c1)).setCell ⟨w.heap.size, 1, none⟩ (.slice (some ⟨gb, 0, none⟩) 4 c2)).setCell ⟨w.heap.size, 2, none⟩ (.int .i64 0)).setCell ⟨w.heap.size, 3, none⟩ (.int .i64 pc)).setCell ⟨w.heap.size, 4, none⟩ (.int .i64 0)).setCell ⟨w.heap.size, 5, none⟩ (.int .i64 7)) (w.heap.size) #[.slice (some ⟨ga, 0, none⟩) 4 c1, .slice (some ⟨gb, 0, none⟩) 4 c2, .int .i64 0, .int .i64 pc, .int .i64 0, .int .i64 7, .bool false, .bool false, .slice none 0 0, .slice none 0 0, .bool false, .bool false] 29 := FF_4.set 5 (.int .i64 7)
  have FF_6 : Blk (((((((V.setCell ⟨w.heap.size, 0, none⟩ (.slice (some ⟨ga, 0, none⟩) 4 c1)).setCell ⟨w.heap.size, 1, none⟩ (.slice (some ⟨gb, 0, none⟩) 4 c2)).setCell ⟨w.heap.size, 2, none⟩ (.int .i64 0)).setCell ⟨w.heap.size, 3, none⟩ (.int .i64 pc)).setCell ⟨w.heap.size, 4, none⟩ (.int .i64 0)).setCell ⟨w.heap.size, 5, none⟩ (.int .i64 7)).setCell ⟨w.heap.size, 6, none⟩ (.bool true)) (w.heap.size) #[.slice (some ⟨ga, 0, none⟩) 4 c1, .slice (some ⟨gb, 0, none⟩) 4 c2, .int .i64 0, .int .i64 pc, .int .i64 0, .int .i64 7, .bool true, .bool false, .slice none 0 0, .slice none 0 0, .bool false, .bool false] 29 := FF_5.set 6 (.bool true)
  have FF_7 : Blk ((((((((V.setCell ⟨w.heap.size, 0, none⟩ (.slice (some ⟨ga, 0, none⟩) 4 c1)).setCell ⟨w.heap.size, 1, none⟩ (.slice (some ⟨gb, 0, none⟩) 4 c2)).setCell ⟨w.heap.size, 2, none⟩ (.int .i64 0)).setCell ⟨w.heap.size, 3, none⟩ (.int .i64 pc)).setCell ⟨w.heap.size, 4, none⟩ (.int .i64 0)).setCell ⟨w.heap.size, 5, none⟩ (.int .i64 7)).setCell ⟨w.heap.size, 6, none⟩ (.bool true)).setCell ⟨w.heap.size, 7, none⟩ (.bool false)) (w.heap.size) #[.slice (some ⟨ga, 0, none⟩) 4 c1, .slice (some ⟨gb, 0, none⟩) 4 c2, .int .i64 0, .int .i64 pc, .int .i64 0, .int .i64 7, .bool true, .bool false, .slice none 0 0, .slice none 0 0, .bool false, .bool false] 29 := FF_6.set 7 (.bool false)
  have FF_8 : Blk (((((((((V.setCell ⟨w.heap.size, 0, none⟩ (.slice (some ⟨ga, 0, none⟩) 4 c1)).setCell ⟨w.heap.size, 1, none⟩ (.slice (some ⟨gb, 0, none⟩) 4 c2)).setCell ⟨w.heap.size, 2, none⟩ (.int .i64 0)).setCell ⟨w.heap.size, 3, none⟩ (.int .i64 pc)).setCell ⟨w.heap.size, 4, none⟩ (.int .i64 0)).setCell ⟨w.heap.size, 5, none⟩ (.int .i64 7)).setCell ⟨w.heap.size, 6, none⟩ (.bool true)).setCell ⟨w.heap.size, 7, none⟩ (.bool false)).setCell ⟨w.heap.size, 8, none⟩ (.slice e (Pl.newB xs []).length ce)) (w.heap.size) #[.slice (some ⟨ga, 0, none⟩) 4 c1, .slice (some ⟨gb, 0, none⟩) 4 c2, .int .i64 0, .int .i64 pc, .int .i64 0, .int .i64 7, .bool true, .bool false, .slice e (Pl.newB xs []).length ce, .slice none 0 0, .bool false, .bool false] 29 := FF_7.set 8 (.slice e (Pl.newB xs []).length ce)
  have FF_9 : Blk ((((((((((V.setCell ⟨w.heap.size, 0, none⟩ (.slice (some ⟨ga, 0, none⟩) 4 c1)).setCell ⟨w.heap.size, 1, none⟩ (.slice (some ⟨gb, 0, none⟩) 4 c2)).setCell ⟨w.heap.size, 2, none⟩ (.int .i64 0)).setCell ⟨w.heap.size, 3, none⟩ (.int .i64 pc)).setCell ⟨w.heap.size, 4, none⟩ (.int .i64 0)).setCell ⟨w.heap.size, 5, none⟩ (.int .i64 7)).setCell ⟨w.heap.size, 6, none⟩ (.bool true)).setCell ⟨w.heap.size, 7, none⟩ (.bool false)).setCell ⟨w.heap.size, 8, none⟩ (.slice e (Pl.newB xs []).length ce)).setCell ⟨w.heap.size, 9, none⟩ (.slice none 0 0)) (w.heap.size) #[.slice (some ⟨ga, 0, none⟩) 4 c1, .slice (some ⟨gb, 0, none⟩) 4 c2, .int .i64 0, .int .i64 pc, .int .i64 0, .int .i64 7, .bool true, .bool false, .slice e (Pl.newB xs []).length ce, .slice none 0 0, .bool false, .bool false] 29 := FF_8.set 9 (.slice none 0 0)
  have FF_10 : Blk (((((((((((V.setCell ⟨w.heap.size, 0, none⟩ (.slice (some ⟨ga, 0, none⟩) 4 c1)).setCell ⟨w.heap.size, 1, none⟩ (.slice (some ⟨gb, 0, none⟩) 4 c2)).setCell ⟨w.heap.size, 2, none⟩ (.int .i64 0)).setCell ⟨w.heap.size, 3, none⟩ (.int .i64 pc)).setCell ⟨w.heap.size, 4, none⟩ (.int .i64 0)).setCell ⟨w.heap.size, 5, none⟩ (.int .i64 7)).setCell ⟨w.heap.size, 6, none⟩ (.bool true)).setCell ⟨w.heap.size, 7, none⟩ (.bool false)).setCell ⟨w.heap.size, 8, none⟩ (.slice e (Pl.newB xs []).length ce)).setCell ⟨w.heap.size, 9, none⟩ (.slice none 0 0)).setCell ⟨w.heap.size, 10, none⟩ (.bool false)) (w.heap.size) #[.slice (some ⟨ga, 0, none⟩) 4 c1, .slice (some ⟨gb, 0, none⟩) 4 c2, .int .i64 0, .int .i64 pc, .int .i64 0, .int .i64 7, .bool true, .bool false, .slice e (Pl.newB xs []).length ce, .slice none 0 0, .bool false, .bool false] 29 := FF_9.set 10 (.bool false)
  have FF : Blk ((((((((((((V.setCell ⟨w.heap.size, 0, none⟩ (.slice (some ⟨ga, 0, none⟩) 4 c1)).setCell ⟨w.heap.size, 1, none⟩ (.slice (some ⟨gb, 0, none⟩) 4 c2)).setCell ⟨w.heap.size, 2, none⟩ (.int .i64 0)).setCell ⟨w.heap.size, 3, none⟩ (.int .i64 pc)).setCell ⟨w.heap.size, 4, none⟩ (.int .i64 0)).setCell ⟨w.heap.size, 5, none⟩ (.int .i64 7)).setCell ⟨w.heap.size, 6, none⟩ (.bool true)).setCell ⟨w.heap.size, 7, none⟩ (.bool false)).setCell ⟨w.heap.size, 8, none⟩ (.slice e (Pl.newB xs []).length ce)).setCell ⟨w.heap.size, 9, none⟩ (.slice none 0 0)).setCell ⟨w.heap.size, 10, none⟩ (.bool false)).setCell ⟨w.heap.size, 11, none⟩ (.bool false)) (w.heap.size) #[.slice (some ⟨ga, 0, none⟩) 4 c1, .slice (some ⟨gb, 0, none⟩) 4 c2, .int .i64 0, .int .i64 pc, .int .i64 0, .int .i64 7, .bool true, .bool false, .slice e (Pl.newB xs []).length ce, .slice none 0 0, .bool false, .bool false] 29 := FF_10.set 11 (.bool false)
  have KF : Kept w.heap.size (w.heap.size + 1) V ((((((((((((V.setCell ⟨w.heap.size, 0, none⟩ (.slice (some ⟨ga, 0, none⟩) 4 c1)).setCell ⟨w.heap.size, 1, none⟩ (.slice (some ⟨gb, 0, none⟩) 4 c2)).setCell ⟨w.heap.size, 2, none⟩ (.int .i64 0)).setCell ⟨w.heap.size, 3, none⟩ (.int .i64 pc)).setCell ⟨w.heap.size, 4, none⟩ (.int .i64 0)).setCell ⟨w.heap.size, 5, none⟩ (.int .i64 7)).setCell ⟨w.heap.size, 6, none⟩ (.bool true)).setCell ⟨w.heap.size, 7, none⟩ (.bool false)).setCell ⟨w.heap.size, 8, none⟩ (.slice e (Pl.newB xs []).length ce)).setCell ⟨w.heap.size, 9, none⟩ (.slice none 0 0)).setCell ⟨w.heap.size, 10, none⟩ (.bool false)).setCell ⟨w.heap.size, 11, none⟩ (.bool false)) := by
    repeat (first | with_reducible exact Kept.refl _ _ _ | refine kept_set ?_ _ _ _ (.inl (by omega)))
  have szF : ((((((((((((V.setCell ⟨w.heap.size, 0, none⟩ (.slice (some ⟨ga, 0, none⟩) 4 c1)).setCell ⟨w.heap.size, 1, none⟩ (.slice (some ⟨gb, 0, none⟩) 4 c2)).setCell ⟨w.heap.size, 2, none⟩ (.int .i64 0)).setCell ⟨w.heap.size, 3, none⟩ (.int .i64 pc)).setCell ⟨w.heap.size, 4, none⟩ (.int .i64 0)).setCell ⟨w.heap.size, 5, none⟩ (.int .i64 7)).setCell ⟨w.heap.size, 6, none⟩ (.bool true)).setCell ⟨w.heap.size, 7, none⟩ (.bool false)).setCell ⟨w.heap.size, 8, none⟩ (.slice e (Pl.newB xs []).length ce)).setCell ⟨w.heap.size, 9, none⟩ (.slice none 0 0)).setCell ⟨w.heap.size, 10, none⟩ (.bool false)).setCell ⟨w.heap.size, 11, none⟩ (.bool false)).heap.size = V.heap.size := by simp [World.setCell]
  refine bodyPost_ret (v := .tuple #[.agg (cpuV (Pl.ncC xs pc) (some ⟨ga, 0, none⟩) (some ⟨gb, 0, none⟩) e none c1 c2 ce 0), .bool (Pl.ncOk xs pc)]) ?_ rfl ⟨some ⟨ga, 0, none⟩, some ⟨gb, 0, none⟩, e, none, c1, c2, ce, 0, rfl, ?co, ?kw⟩
  case co =>
    rw [EC.out]
    refine ⟨.inr ⟨ga, rfl, by omega, by omega, O1.out.keptS KF (by omega)⟩, .inr ⟨gb, rfl, by omega, by omega, O2.out.keptS KF (by omega)⟩, (S4.out.kept KF (by omega)).wide (by omega) (by omega), .inl ⟨rfl, rfl⟩, ?_, ?_, ?_, ?_, ?_, ?_⟩
    · intro g h1 h2; simp [blk] at h1 h2; omega
    · intro g h1 h2; have := S4.out.blk_in g h2; simp [blk] at h1; omega
    · intro g h1 h2; simp [blk] at h2
    · intro g h1 h2; have := S4.out.blk_in g h2; simp [blk] at h1; omega
    · intro g h1 h2; simp [blk] at h2
    · intro g h1 h2; simp [blk] at h2
  case kw =>
    repeat (first | with_reducible exact K4.out | refine kept_set ?_ _ _ _ (.inr (by omega)))
  have m0 := FF.cell (i := 0) rfl
  have m1 := FF.cell (i := 1) rfl
  have m2 := FF.cell (i := 2) rfl
  have m3 := FF.cell (i := 3) rfl
  have m4 := FF.cell (i := 4) rfl
  have m5 := FF.cell (i := 5) rfl
  have m6 := FF.cell (i := 6) rfl
  have m7 := FF.cell (i := 7) rfl
  have m8 := FF.cell (i := 8) rfl
  have m9 := FF.cell (i := 9) rfl
  have m10 := FF.cell (i := 10) rfl
  have m11 := FF.cell (i := 11) rfl
  rw [results_cell_tmp1 rfl, EC.out, EO.out]
  clear KF szF FF FF_0 FF_1 FF_2 FF_3 FF_4 FF_5 FF_6 FF_7 FF_8 FF_9 FF_10
  unfold cpuV
  go_simp
  first | rfl | exact ⟨rfl, rfl⟩ | (repeat' apply And.intro) <;> rfl
theorem implNewCpu (w : World) (a : Option Addr) (ca : Nat) (xs : List Int) (pc : Int) (ha : Came w a xs) (lx : xs.length ≤ 2000000) (wfp : (Lit.int .i64 pc).wf = true) : Calls Try.prog 10 #[.slice a xs.length ca, .int .i64 pc] w fun r w' => ∃ (a' b' e' q' : Option Addr) (ca' cb' ce' cq' : Nat), r = .returned (.tuple #[.agg (cpuV (Pl.ncC xs pc) a' b' e' q' ca' cb' ce' cq'), .bool (Pl.ncOk xs pc)]) ∧ CpuIn w' w.heap.size (Pl.ncC xs pc) a' b' e' q' ∧ Kept 0 0 w w' := by
  obtain ⟨p1, p2⟩ := bounds_i64 wfp
  cases h1 : Pl.newOk xs []
  · exact iNewCpu_bad w a ca xs pc ha lx p1 p2 h1 trivial
  · cases h2 : Pl.wordOk pc
    · exact iNewCpu_badp w a ca xs pc ha lx p1 p2 h1 h2
    · exact iNewCpu_ok w a ca xs pc ha lx p1 p2 h1 h2
end Go.Proofs.Ytblddehlkaolbaa

namespace Go.Proofs.Ytblddehlkaolbaa
open Go.RowKit
set_option linter.unusedVariables false
theorem Pl.nc_len (xs : List Int) (pc : Int) : Pl.CpLen (Pl.ncC xs pc) := by
  unfold Pl.ncC
  cases Pl.ncOk xs pc
  · exact Pl.cpLen_no
  · refine ⟨by show ([0, 0, 0, 0] : List Int).length ≤ 4; decide, by show ([0, 0, 0, 384] : List Int).length ≤ 4; decide, ?_, by show ([] : List Int).length = 5 * 0; decide, by show 0 ≤ 400; decide⟩
    show (Pl.newB xs []).length ≤ 512
    unfold Pl.newB
    split <;> simp
set_option maxRecDepth 100000 in
set_option maxHeartbeats 16000000 in
theorem lawNewCpu (xs : List Int) (a : Option Addr) (ca : Nat) (pc : Int) (w : World) (hx : Came w a xs) (lx : xs.length ≤ 9223372036854775807) (wfp : (Lit.int .i64 pc).wf = true) :
    Calls Try.prog 3 #[.slice a xs.length ca, .int .i64 pc] w fun e w' => e = .returned (.bool true) ∧ Below w.heap.size w w' := by
  have HX := hide hx
  have Bel := hide (Below.refl w.heap.size w)
  have hln := Pl.nc_len xs pc
  clear hx
  by_cases hs : 1048576 < xs.length
  · have hs2 : (1048576 : Int) < (xs.length : Int) := by omega
    go_enter Try.func3, Try.ntmps3
    go_wp2_with fail
    go_ret
    exact ⟨rfl, Bel.out⟩
  · have hs2 : ¬ (1048576 : Int) < (xs.length : Int) := by omega
    have bx : xs.length ≤ 2000000 := by omega
    clear hs
    generalize hDD : Pl.ncC xs pc = D at hln
    generalize hKK : Pl.ncOk xs pc = K
    obtain ⟨bD, bE, bF, bL, bM⟩ := hln
    have HDL := hide bL
    have HDD := hide hDD
    have HKK := hide hKK
    clear bL hDD hKK
    go_enter Try.func3, Try.ntmps3
    go_wp2_with fail
    refine (toIntS _ a ca xs (HX.out.below Bel.out).1 bx).mono ?_
    rintro e9 w1 ⟨rfl, o9, zw1, g9⟩
    have k := kept_grown g9
    have Beln := hide (below_kept Bel.out k (by omega))
    clear Bel
    have Bel := Beln
    clear Beln
    have nw1 := k.size
    have O1 := hide o9
    clear k g9 o9
    clear hs2
    go_wp2_with fail
    refine (specNewCpu _ _ _ xs pc O1.out.row bx).mono ?_
    rw [HDD.out, HKK.out]
    unfold cpuV
    rintro e9 w2 ⟨a0, b0, e0, q0, ca0, cb0, ce0, cq0, rfl, hin, k⟩
    have hsl := hin.sl
    have Beln := hide (below_kept Bel.out k (by omega))
    have O1n := hide (O1.out.keptS k (by omega))
    clear Bel O1
    have Bel := Beln
    have O1 := O1n
    clear Beln O1n
    have nw2 := k.size
    have S0 := hide hsl
    clear k hin hsl
    clear O1
    have ka : Kept 0 0 w2 (w2.alloc (.cells #[.slice a0 D.r.xs.length ca0, .slice b0 D.r.ys.length cb0, .int .i64 D.r.o, .int .i64 D.r.p, .int .i64 D.r.f, .int .i64 D.r.m, .bool D.r.s, .bool D.r.t, .slice e0 D.bx.length ce0, .slice q0 D.bm cq0, .bool D.st, .bool D.ha] 29)) := kept_alloc w2 _
    have Beln := hide (below_kept Bel.out ka (by omega))
    have S0n := hide (S0.out.kept ka (by omega))
    clear Bel S0
    have Bel := Beln
    have S0 := S0n
    clear Beln S0n
    have B0 := (Blk.new w2 #[.slice a0 D.r.xs.length ca0, .slice b0 D.r.ys.length cb0, .int .i64 D.r.o, .int .i64 D.r.p, .int .i64 D.r.f, .int .i64 D.r.m, .bool D.r.s, .bool D.r.t, .slice e0 D.bx.length ce0, .slice q0 D.bm cq0, .bool D.st, .bool D.ha] 29)
    obtain ⟨X2, hX2⟩ : ∃ X : World, (w2.alloc (.cells #[.slice a0 D.r.xs.length ca0, .slice b0 D.r.ys.length cb0, .int .i64 D.r.o, .int .i64 D.r.p, .int .i64 D.r.f, .int .i64 D.r.m, .bool D.r.s, .bool D.r.t, .slice e0 D.bx.length ce0, .slice q0 D.bm cq0, .bool D.st, .bool D.ha] 29)) = X := ⟨_, rfl⟩
    have nX2 : X2.heap.size = w2.heap.size + 1 := by simp [← hX2]
    rw [hX2] at Bel S0 B0
    have W0 := hide B0
    clear ka B0
    go_wp2_with fail
    clear  hX2
    refine (toIntS _ a ca xs (HX.out.below Bel.out).1 bx).mono ?_
    rintro e9 w3 ⟨rfl, o9, zw3, g9⟩
    have k := kept_grown g9
    have Beln := hide (below_kept Bel.out k (by omega))
    have S0n := hide (S0.out.kept k (by omega))
    have W0n := hide (W0.out.kept k (by omega))
    clear Bel S0 W0
    have Bel := Beln
    have S0 := S0n
    have W0 := W0n
    clear Beln S0n W0n
    have nw3 := k.size
    have O3 := hide o9
    clear k g9 o9
    rw [nX2] at O3
    go_wp2_with fail
    refine (implNewCpu _ _ _ xs pc ⟨O3.out.row, HX.out.2⟩ bx wfp).mono ?_
    rw [HDD.out, HKK.out]
    unfold cpuV
    rintro e9 w4 ⟨a1, b1, e1, q1, ca1, cb1, ce1, cq1, rfl, hin, k⟩
    have hsl := hin.sl
    have Beln := hide (below_kept Bel.out k (by omega))
    have S0n := hide (S0.out.kept k (by omega))
    have W0n := hide (W0.out.kept k (by omega))
    have O3n := hide (O3.out.keptS k (by omega))
    clear Bel S0 W0 O3
    have Bel := Beln
    have S0 := S0n
    have W0 := W0n
    have O3 := O3n
    clear Beln S0n W0n O3n
    have nw4 := k.size
    have S1 := hide hsl
    clear k hin hsl
    have ka : Kept 0 0 w4 (w4.alloc (.cells #[.slice a1 D.r.xs.length ca1, .slice b1 D.r.ys.length cb1, .int .i64 D.r.o, .int .i64 D.r.p, .int .i64 D.r.f, .int .i64 D.r.m, .bool D.r.s, .bool D.r.t, .slice e1 D.bx.length ce1, .slice q1 D.bm cq1, .bool D.st, .bool D.ha] 29)) := kept_alloc w4 _
    have Beln := hide (below_kept Bel.out ka (by omega))
    have S0n := hide (S0.out.kept ka (by omega))
    have W0n := hide (W0.out.kept ka (by omega))
    have O3n := hide (O3.out.keptS ka (by omega))
    have S1n := hide (S1.out.kept ka (by omega))
    clear Bel S0 W0 O3 S1
    have Bel := Beln
    have S0 := S0n
    have W0 := W0n
    have O3 := O3n
    have S1 := S1n
    clear Beln S0n W0n O3n S1n
    have B0 := (Blk.new w4 #[.slice a1 D.r.xs.length ca1, .slice b1 D.r.ys.length cb1, .int .i64 D.r.o, .int .i64 D.r.p, .int .i64 D.r.f, .int .i64 D.r.m, .bool D.r.s, .bool D.r.t, .slice e1 D.bx.length ce1, .slice q1 D.bm cq1, .bool D.st, .bool D.ha] 29)
    obtain ⟨X4, hX4⟩ : ∃ X : World, (w4.alloc (.cells #[.slice a1 D.r.xs.length ca1, .slice b1 D.r.ys.length cb1, .int .i64 D.r.o, .int .i64 D.r.p, .int .i64 D.r.f, .int .i64 D.r.m, .bool D.r.s, .bool D.r.t, .slice e1 D.bx.length ce1, .slice q1 D.bm cq1, .bool D.st, .bool D.ha] 29)) = X := ⟨_, rfl⟩
    have nX4 : X4.heap.size = w4.heap.size + 1 := by simp [← hX4]
    rw [hX4] at Bel S0 W0 O3 S1 B0
    have W1 := hide B0
    clear ka B0
    have p0_0 := W1.out.cell (i := 0) rfl
    have p0_1 := W1.out.cell (i := 1) rfl
    have p0_2 := W1.out.cell (i := 2) rfl
    have p0_3 := W1.out.cell (i := 3) rfl
    have p0_4 := W1.out.cell (i := 4) rfl
    have p0_5 := W1.out.cell (i := 5) rfl
    have p0_6 := W1.out.cell (i := 6) rfl
    have p0_7 := W1.out.cell (i := 7) rfl
    have p0_8 := W1.out.cell (i := 8) rfl
    have p0_9 := W1.out.cell (i := 9) rfl
    have p0_10 := W1.out.cell (i := 10) rfl
    have p0_11 := W1.out.cell (i := 11) rfl
    have p1_0 := W0.out.cell (i := 0) rfl
    have p1_1 := W0.out.cell (i := 1) rfl
    have p1_2 := W0.out.cell (i := 2) rfl
    have p1_3 := W0.out.cell (i := 3) rfl
    have p1_4 := W0.out.cell (i := 4) rfl
    have p1_5 := W0.out.cell (i := 5) rfl
    have p1_6 := W0.out.cell (i := 6) rfl
    have p1_7 := W0.out.cell (i := 7) rfl
    have p1_8 := W0.out.cell (i := 8) rfl
    have p1_9 := W0.out.cell (i := 9) rfl
    have p1_10 := W0.out.cell (i := 10) rfl
    have p1_11 := W0.out.cell (i := 11) rfl
    go_wp2_with fail
    clear p0_0 p0_1 p0_2 p0_3 p0_4 p0_5 p0_6 p0_7 p0_8 p0_9 p0_10 p0_11 p1_0 p1_1 p1_2 p1_3 p1_4 p1_5 p1_6 p1_7 p1_8 p1_9 p1_10 p1_11 hX4
    refine (eqCpu _ D a1 b1 e1 q1 a0 b0 e0 q0 _ _ _ _ _ _ _ _ S1.out.d.row S1.out.a'.row S1.out.b'.row S1.out.l.row S0.out.d.row S0.out.a'.row S0.out.b'.row S0.out.l.row (by omega) (by omega) (by omega) HDL.out (by omega)).mono ?_
    rintro e9 w5 ⟨rfl, k⟩
    have Beln := hide (below_kept Bel.out k (by omega))
    have S0n := hide (S0.out.kept k (by omega))
    have W0n := hide (W0.out.kept k (by omega))
    have O3n := hide (O3.out.keptS k (by omega))
    have S1n := hide (S1.out.kept k (by omega))
    have W1n := hide (W1.out.kept k (by omega))
    clear Bel S0 W0 O3 S1 W1
    have Bel := Beln
    have S0 := S0n
    have W0 := W0n
    have O3 := O3n
    have S1 := S1n
    have W1 := W1n
    clear Beln S0n W0n O3n S1n W1n
    have nw5 := k.size
    clear k
    go_wp2_with fail
    refine (toIntS _ a ca xs (HX.out.below Bel.out).1 bx).mono ?_
    rintro e9 w6 ⟨rfl, o9, zw6, g9⟩
    have k := kept_grown g9
    have Beln := hide (below_kept Bel.out k (by omega))
    have S0n := hide (S0.out.kept k (by omega))
    have W0n := hide (W0.out.kept k (by omega))
    have O3n := hide (O3.out.keptS k (by omega))
    have S1n := hide (S1.out.kept k (by omega))
    have W1n := hide (W1.out.kept k (by omega))
    clear Bel S0 W0 O3 S1 W1
    have Bel := Beln
    have S0 := S0n
    have W0 := W0n
    have O3 := O3n
    have S1 := S1n
    have W1 := W1n
    clear Beln S0n W0n O3n S1n W1n
    have nw6 := k.size
    have O6 := hide o9
    clear k g9 o9
    go_wp2_with fail
    refine (eqIntS _ _ _ _ _ xs xs O3.out.row O6.out.row bx bx).mono ?_
    rintro e9 w7 ⟨rfl, g9⟩
    rw [show decide (xs = xs) = true from by simp]
    have k := kept_grown g9
    clear g9
    clear O6
    have Beln := hide (below_kept Bel.out k (by omega))
    have S0n := hide (S0.out.kept k (by omega))
    have W0n := hide (W0.out.kept k (by omega))
    have O3n := hide (O3.out.keptS k (by omega))
    have S1n := hide (S1.out.kept k (by omega))
    have W1n := hide (W1.out.kept k (by omega))
    clear Bel S0 W0 O3 S1 W1
    have Bel := Beln
    have S0 := S0n
    have W0 := W0n
    have O3 := O3n
    have S1 := S1n
    have W1 := W1n
    clear Beln S0n W0n O3n S1n W1n
    have nw7 := k.size
    clear k
    go_wp2_with fail
    refine (markIntS _ (w2.heap.size + 1) _ xs 1 O3.out bx (by decide) (by decide)).mono ?_
    rintro e9 w8 ⟨rfl, _, g9⟩
    have k : Kept (w2.heap.size + 1) (w2.heap.size + 2) w7 w8 := kept_row g9 (fun g e => by cases e; omega)
    clear g9
    clear O3
    have Beln := hide (below_kept Bel.out k (by omega))
    have S0n := hide (S0.out.kept k (by omega))
    have W0n := hide (W0.out.kept k (by omega))
    have S1n := hide (S1.out.kept k (by omega))
    have W1n := hide (W1.out.kept k (by omega))
    clear Bel S0 W0 S1 W1
    have Bel := Beln
    have S0 := S0n
    have W0 := W0n
    have S1 := S1n
    have W1 := W1n
    clear Beln S0n W0n S1n W1n
    have nw8 := k.size
    clear k
    have hmk : ¬ (1 + (xs.length : Int) < 0) := by omega
    have p0_0 := W1.out.cell (i := 0) rfl
    have p0_1 := W1.out.cell (i := 1) rfl
    have p0_2 := W1.out.cell (i := 2) rfl
    have p0_3 := W1.out.cell (i := 3) rfl
    have p0_4 := W1.out.cell (i := 4) rfl
    have p0_5 := W1.out.cell (i := 5) rfl
    have p0_6 := W1.out.cell (i := 6) rfl
    have p0_7 := W1.out.cell (i := 7) rfl
    have p0_8 := W1.out.cell (i := 8) rfl
    have p0_9 := W1.out.cell (i := 9) rfl
    have p0_10 := W1.out.cell (i := 10) rfl
    have p0_11 := W1.out.cell (i := 11) rfl
    have p1_0 := W0.out.cell (i := 0) rfl
    have p1_1 := W0.out.cell (i := 1) rfl
    have p1_2 := W0.out.cell (i := 2) rfl
    have p1_3 := W0.out.cell (i := 3) rfl
    have p1_4 := W0.out.cell (i := 4) rfl
    have p1_5 := W0.out.cell (i := 5) rfl
    have p1_6 := W0.out.cell (i := 6) rfl
    have p1_7 := W0.out.cell (i := 7) rfl
    have p1_8 := W0.out.cell (i := 8) rfl
    have p1_9 := W0.out.cell (i := 9) rfl
    have p1_10 := W0.out.cell (i := 10) rfl
    have p1_11 := W0.out.cell (i := 11) rfl
    go_wp2_with fail
    clear p0_0 p0_1 p0_2 p0_3 p0_4 p0_5 p0_6 p0_7 p0_8 p0_9 p0_10 p0_11 p1_0 p1_1 p1_2 p1_3 p1_4 p1_5 p1_6 p1_7 p1_8 p1_9 p1_10 p1_11
    refine (eqCpu _ D a1 b1 e1 q1 a0 b0 e0 q0 _ _ _ _ _ _ _ _ S1.out.d.row S1.out.a'.row S1.out.b'.row S1.out.l.row S0.out.d.row S0.out.a'.row S0.out.b'.row S0.out.l.row (by omega) (by omega) (by omega) HDL.out (by omega)).mono ?_
    rintro e9 w9 ⟨rfl, k⟩
    have Beln := hide (below_kept Bel.out k (by omega))
    have S0n := hide (S0.out.kept k (by omega))
    have W0n := hide (W0.out.kept k (by omega))
    have S1n := hide (S1.out.kept k (by omega))
    have W1n := hide (W1.out.kept k (by omega))
    clear Bel S0 W0 S1 W1
    have Bel := Beln
    have S0 := S0n
    have W0 := W0n
    have S1 := S1n
    have W1 := W1n
    clear Beln S0n W0n S1n W1n
    have nw9 := k.size
    clear k
    have p0_0 := W1.out.cell (i := 0) rfl
    have p0_1 := W1.out.cell (i := 1) rfl
    have p0_2 := W1.out.cell (i := 2) rfl
    have p0_3 := W1.out.cell (i := 3) rfl
    have p0_4 := W1.out.cell (i := 4) rfl
    have p0_5 := W1.out.cell (i := 5) rfl
    have p0_6 := W1.out.cell (i := 6) rfl
    have p0_7 := W1.out.cell (i := 7) rfl
    have p0_8 := W1.out.cell (i := 8) rfl
    have p0_9 := W1.out.cell (i := 9) rfl
    have p0_10 := W1.out.cell (i := 10) rfl
    have p0_11 := W1.out.cell (i := 11) rfl
    go_wp2_with fail
    clear p0_0 p0_1 p0_2 p0_3 p0_4 p0_5 p0_6 p0_7 p0_8 p0_9 p0_10 p0_11
    refine (markCpu _ w3.heap.size w4.heap.size D a1 b1 e1 q1 _ _ _ _ S1.out (by omega) (by omega) (by omega) (by omega) HDL.out (by omega)).mono ?_
    rintro e9 w11 ⟨rfl, hm9, k⟩
    clear S1
    have Beln := hide (below_kept Bel.out k (by omega))
    have S0n := hide (S0.out.kept k (by omega))
    have W0n := hide (W0.out.kept k (by omega))
    have W1n := hide (W1.out.kept k (by omega))
    clear Bel S0 W0 W1
    have Bel := Beln
    have S0 := S0n
    have W0 := W0n
    have W1 := W1n
    clear Beln S0n W0n W1n
    have M1 := hide hm9
    have nw11 := k.size
    clear k hm9
    have p0_0 := W1.out.cell (i := 0) rfl
    have p0_1 := W1.out.cell (i := 1) rfl
    have p0_2 := W1.out.cell (i := 2) rfl
    have p0_3 := W1.out.cell (i := 3) rfl
    have p0_4 := W1.out.cell (i := 4) rfl
    have p0_5 := W1.out.cell (i := 5) rfl
    have p0_6 := W1.out.cell (i := 6) rfl
    have p0_7 := W1.out.cell (i := 7) rfl
    have p0_8 := W1.out.cell (i := 8) rfl
    have p0_9 := W1.out.cell (i := 9) rfl
    have p0_10 := W1.out.cell (i := 10) rfl
    have p0_11 := W1.out.cell (i := 11) rfl
    go_wp2_with fail
    clear p0_0 p0_1 p0_2 p0_3 p0_4 p0_5 p0_6 p0_7 p0_8 p0_9 p0_10 p0_11
    have hmD : ¬ (Pl.mkN D 1 < 0) := by unfold Pl.mkN; omega
    refine (heldCpu _ D a1 b1 e1 q1 _ _ _ _ M1.out.d.row M1.out.a'.row M1.out.b'.row M1.out.l.row (by omega) (by omega) (by omega) (by omega)).mono ?_
    rintro e9 w12 ⟨rfl, k⟩
    have Beln := hide (below_kept Bel.out k (by omega))
    have S0n := hide (S0.out.kept k (by omega))
    have W0n := hide (W0.out.kept k (by omega))
    have W1n := hide (W1.out.kept k (by omega))
    have M1n := hide (M1.out.kept k (by omega))
    clear Bel S0 W0 W1 M1
    have Bel := Beln
    have S0 := S0n
    have W0 := W0n
    have W1 := W1n
    have M1 := M1n
    clear Beln S0n W0n W1n M1n
    have nw12 := k.size
    clear k
    go_wp2_with fail
    refine (toIntS _ a ca xs (HX.out.below Bel.out).1 bx).mono ?_
    rintro e9 w13 ⟨rfl, o9, zw13, g9⟩
    have k := kept_grown g9
    have Beln := hide (below_kept Bel.out k (by omega))
    have S0n := hide (S0.out.kept k (by omega))
    have W0n := hide (W0.out.kept k (by omega))
    have W1n := hide (W1.out.kept k (by omega))
    have M1n := hide (M1.out.kept k (by omega))
    clear Bel S0 W0 W1 M1
    have Bel := Beln
    have S0 := S0n
    have W0 := W0n
    have W1 := W1n
    have M1 := M1n
    clear Beln S0n W0n W1n M1n
    have nw13 := k.size
    have O13 := hide o9
    clear k g9 o9
    go_wp2_with fail
    refine (implNewCpu _ _ _ xs pc ⟨O13.out.row, HX.out.2⟩ bx wfp).mono ?_
    rw [HDD.out, HKK.out]
    unfold cpuV
    rintro e9 w14 ⟨a2, b2, e2, q2, ca2, cb2, ce2, cq2, rfl, hin, k⟩
    have hsl := hin.sl
    have Beln := hide (below_kept Bel.out k (by omega))
    have S0n := hide (S0.out.kept k (by omega))
    have W0n := hide (W0.out.kept k (by omega))
    have W1n := hide (W1.out.kept k (by omega))
    have M1n := hide (M1.out.kept k (by omega))
    have O13n := hide (O13.out.keptS k (by omega))
    clear Bel S0 W0 W1 M1 O13
    have Bel := Beln
    have S0 := S0n
    have W0 := W0n
    have W1 := W1n
    have M1 := M1n
    have O13 := O13n
    clear Beln S0n W0n W1n M1n O13n
    have nw14 := k.size
    have S2 := hide hsl
    clear k hin hsl
    clear O13
    have ka : Kept 0 0 w14 (w14.alloc (.cells #[.slice a2 D.r.xs.length ca2, .slice b2 D.r.ys.length cb2, .int .i64 D.r.o, .int .i64 D.r.p, .int .i64 D.r.f, .int .i64 D.r.m, .bool D.r.s, .bool D.r.t, .slice e2 D.bx.length ce2, .slice q2 D.bm cq2, .bool D.st, .bool D.ha] 29)) := kept_alloc w14 _
    have Beln := hide (below_kept Bel.out ka (by omega))
    have S0n := hide (S0.out.kept ka (by omega))
    have W0n := hide (W0.out.kept ka (by omega))
    have W1n := hide (W1.out.kept ka (by omega))
    have M1n := hide (M1.out.kept ka (by omega))
    have S2n := hide (S2.out.kept ka (by omega))
    clear Bel S0 W0 W1 M1 S2
    have Bel := Beln
    have S0 := S0n
    have W0 := W0n
    have W1 := W1n
    have M1 := M1n
    have S2 := S2n
    clear Beln S0n W0n W1n M1n S2n
    have B0 := (Blk.new w14 #[.slice a2 D.r.xs.length ca2, .slice b2 D.r.ys.length cb2, .int .i64 D.r.o, .int .i64 D.r.p, .int .i64 D.r.f, .int .i64 D.r.m, .bool D.r.s, .bool D.r.t, .slice e2 D.bx.length ce2, .slice q2 D.bm cq2, .bool D.st, .bool D.ha] 29)
    obtain ⟨X14, hX14⟩ : ∃ X : World, (w14.alloc (.cells #[.slice a2 D.r.xs.length ca2, .slice b2 D.r.ys.length cb2, .int .i64 D.r.o, .int .i64 D.r.p, .int .i64 D.r.f, .int .i64 D.r.m, .bool D.r.s, .bool D.r.t, .slice e2 D.bx.length ce2, .slice q2 D.bm cq2, .bool D.st, .bool D.ha] 29)) = X := ⟨_, rfl⟩
    have nX14 : X14.heap.size = w14.heap.size + 1 := by simp [← hX14]
    rw [hX14] at Bel S0 W0 W1 M1 S2 B0
    have W2 := hide B0
    clear ka B0
    have p0_0 := W2.out.cell (i := 0) rfl
    have p0_1 := W2.out.cell (i := 1) rfl
    have p0_2 := W2.out.cell (i := 2) rfl
    have p0_3 := W2.out.cell (i := 3) rfl
    have p0_4 := W2.out.cell (i := 4) rfl
    have p0_5 := W2.out.cell (i := 5) rfl
    have p0_6 := W2.out.cell (i := 6) rfl
    have p0_7 := W2.out.cell (i := 7) rfl
    have p0_8 := W2.out.cell (i := 8) rfl
    have p0_9 := W2.out.cell (i := 9) rfl
    have p0_10 := W2.out.cell (i := 10) rfl
    have p0_11 := W2.out.cell (i := 11) rfl
    have p1_0 := W0.out.cell (i := 0) rfl
    have p1_1 := W0.out.cell (i := 1) rfl
    have p1_2 := W0.out.cell (i := 2) rfl
    have p1_3 := W0.out.cell (i := 3) rfl
    have p1_4 := W0.out.cell (i := 4) rfl
    have p1_5 := W0.out.cell (i := 5) rfl
    have p1_6 := W0.out.cell (i := 6) rfl
    have p1_7 := W0.out.cell (i := 7) rfl
    have p1_8 := W0.out.cell (i := 8) rfl
    have p1_9 := W0.out.cell (i := 9) rfl
    have p1_10 := W0.out.cell (i := 10) rfl
    have p1_11 := W0.out.cell (i := 11) rfl
    go_wp2_with fail
    clear p0_0 p0_1 p0_2 p0_3 p0_4 p0_5 p0_6 p0_7 p0_8 p0_9 p0_10 p0_11 p1_0 p1_1 p1_2 p1_3 p1_4 p1_5 p1_6 p1_7 p1_8 p1_9 p1_10 p1_11 hX14
    refine (eqCpu _ D a2 b2 e2 q2 a0 b0 e0 q0 _ _ _ _ _ _ _ _ S2.out.d.row S2.out.a'.row S2.out.b'.row S2.out.l.row S0.out.d.row S0.out.a'.row S0.out.b'.row S0.out.l.row (by omega) (by omega) (by omega) HDL.out (by omega)).mono ?_
    rintro e9 w15 ⟨rfl, k⟩
    have Beln := hide (below_kept Bel.out k (by omega))
    have S0n := hide (S0.out.kept k (by omega))
    have W0n := hide (W0.out.kept k (by omega))
    have W1n := hide (W1.out.kept k (by omega))
    have M1n := hide (M1.out.kept k (by omega))
    have S2n := hide (S2.out.kept k (by omega))
    have W2n := hide (W2.out.kept k (by omega))
    clear Bel S0 W0 W1 M1 S2 W2
    have Bel := Beln
    have S0 := S0n
    have W0 := W0n
    have W1 := W1n
    have M1 := M1n
    have S2 := S2n
    have W2 := W2n
    clear Beln S0n W0n W1n M1n S2n W2n
    have nw15 := k.size
    clear k
    have p0_0 := W1.out.cell (i := 0) rfl
    have p0_1 := W1.out.cell (i := 1) rfl
    have p0_2 := W1.out.cell (i := 2) rfl
    have p0_3 := W1.out.cell (i := 3) rfl
    have p0_4 := W1.out.cell (i := 4) rfl
    have p0_5 := W1.out.cell (i := 5) rfl
    have p0_6 := W1.out.cell (i := 6) rfl
    have p0_7 := W1.out.cell (i := 7) rfl
    have p0_8 := W1.out.cell (i := 8) rfl
    have p0_9 := W1.out.cell (i := 9) rfl
    have p0_10 := W1.out.cell (i := 10) rfl
    have p0_11 := W1.out.cell (i := 11) rfl
    go_wp2_with fail
    clear p0_0 p0_1 p0_2 p0_3 p0_4 p0_5 p0_6 p0_7 p0_8 p0_9 p0_10 p0_11
    refine (heldCpu _ D a1 b1 e1 q1 _ _ _ _ M1.out.d.row M1.out.a'.row M1.out.b'.row M1.out.l.row (by omega) (by omega) (by omega) (by omega)).mono ?_
    rintro e9 w16 ⟨rfl, k⟩
    have Beln := hide (below_kept Bel.out k (by omega))
    have S0n := hide (S0.out.kept k (by omega))
    have W0n := hide (W0.out.kept k (by omega))
    have W1n := hide (W1.out.kept k (by omega))
    have M1n := hide (M1.out.kept k (by omega))
    have S2n := hide (S2.out.kept k (by omega))
    have W2n := hide (W2.out.kept k (by omega))
    clear Bel S0 W0 W1 M1 S2 W2
    have Bel := Beln
    have S0 := S0n
    have W0 := W0n
    have W1 := W1n
    have M1 := M1n
    have S2 := S2n
    have W2 := W2n
    clear Beln S0n W0n W1n M1n S2n W2n
    have nw16 := k.size
    clear k
    go_wp2_with fail
    go_ret
    exact ⟨rfl, Bel.out⟩
end Go.Proofs.Ytblddehlkaolbaa

