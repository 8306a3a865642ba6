/- What the program's NewBus answers, for every two lists. -/
import Derived.Test.YtbkafdphagmgpaaImplMem
import Derived.Test.YtbkafdphagmgpaaSpecNew
namespace Go.Proofs.Ytbkafdphagmgpaa
open Go.RowKit
set_option linter.unusedVariables false

/-- two rows laid over a row of noughts -/
theorem newB_splice {xs us : List Int} (hok : Pl.newOk xs us = true) :
    splice (splice (zeros.map (Value.int .i64)) 0 (xs.map (Value.int .i64))) 384 (us.map (Value.int .i64)) = (Pl.newB xs us).map (Value.int .i64) := by
  have h := hok
  simp only [Pl.newOk, Bool.and_eq_true, decide_eq_true_eq] at h
  obtain ⟨_, _, h3, h4⟩ := h
  have e : splice (splice (zeros.map (Value.int .i64)) 0 (xs.map (Value.int .i64))) 384 (us.map (Value.int .i64)) = (splice (splice zeros 0 xs) 384 us).map (Value.int .i64) := by
    simp [splice]
  rw [e]
  congr 1
  refine Pl.newB_eq hok ?_ ?_
  · rw [length_splice _ _ _ (by rw [length_splice _ _ _ (by rw [zeros_len]; omega), zeros_len]; omega), length_splice _ _ _ (by rw [zeros_len]; omega), zeros_len]
  · intro i hi
    have z : ∀ k, el zeros k = 0 := by
      intro k
      unfold el zeros
      rw [List.getElem?_replicate]
      split <;> rfl
    have dz : ∀ d k, el (zeros.drop d) k = 0 := by
      intro d k
      unfold el
      rw [List.getElem?_drop]
      exact z (d + k)
    have s1 : ∀ k, el (splice zeros 0 xs) k = el xs k := by
      intro k
      unfold splice
      rw [List.take_zero, List.nil_append, el_append]
      split
      · rfl
      · rw [dz, Pl.el_out (by omega)]
    unfold Pl.newAt
    have lq : (splice zeros 0 xs).length = 512 := by rw [length_splice _ _ _ (by rw [zeros_len]; omega), zeros_len]
    generalize splice zeros 0 xs = q at s1 lq
    have hq : el (splice q 384 us) i = if i < 384 then el q i else if i - 384 < us.length then el us (i - 384) else el q i := by
      have lt : (q.take 384).length = 384 := by rw [List.length_take]; omega
      unfold splice
      rw [el_append, lt]
      split
      · rename_i hi'
        unfold el
        rw [List.getElem?_take, if_pos hi']
      · rw [el_append]
        split
        · rfl
        · unfold el
          rw [List.getElem?_drop, show 384 + us.length + (i - 384 - us.length) = i from by omega]
    rw [hq]
    split
    · exact s1 i
    · split
      · rfl
      · rw [s1, Pl.el_out (by omega), Pl.el_out (by omega)]

set_option maxHeartbeats 4000000 in
theorem newBus_good (w : World) (a c : Option Addr) (ca cc : Nat) (xs us : List Int) (ha : Came w a xs) (hc : Came w c us) (lx : xs.length ≤ 2000000) (lu : us.length ≤ 2000000) (h1 : Pl.bytesOk xs = true) (h2 : Pl.bytesOk us = true) (h3 : xs.length ≤ 384) (h4 : us.length ≤ 64) :
    Calls Try.prog 12 #[.slice a xs.length ca, .slice c us.length cc] w fun e w' => ∃ (b : Option Addr) (cb : Nat), e = .returned (.tuple #[.agg #[.slice b (Pl.newB xs us).length cb, .slice none 0 0], .bool (Pl.newOk xs us)]) ∧ SlotIn w' w.heap.size w'.heap.size b (Pl.newB xs us) ∧ Kept 0 0 w w' := by
  have HA := hide ha
  have HC := hide hc
  clear ha hc
  have d3 : decide ((384 : Int) < (xs.length : Int)) = false := by simp; omega
  have d4 : decide ((64 : Int) < (us.length : Int)) = false := by simp; omega
  have HK0 := hide (kept_alloc w (.cells #[.slice none 0 0, .slice none 0 0] 25))
  have mz := Try.memZero
  have hok : Hid (Pl.newOk xs us = true) := hide (by simp [Pl.newOk, h1, h2, h3, h4])
  have hNB := hide (newB_splice hok.out)
  have hNL : Hid ((Pl.newB xs us).length = 512) := hide (by rw [Pl.newB_ok hok.out]; simp)
  have K1 := kept_new HK0.out (.cells (cellsOf zeros) 57)
  have B0 := (Blk.new w #[.slice none 0 0, .slice none 0 0] 25).alloc (.cells (cellsOf zeros) 57)
  have B1 := Blk.new (w.alloc (.cells #[.slice none 0 0, .slice none 0 0] 25)) (cellsOf zeros) 57
  simp only [World.size_alloc] at B1
  obtain ⟨W1, hcopy1, C1, k1⟩ := copy_at _ (w.heap.size + 1) 0 512 512 ca a xs _ _ B1 (HA.out.keptS K1).1 (by omega) (by simp [zeros_len]; omega)
  have KW1 := kept_over K1 k1 (by omega)
  have D0 := B0.kept k1 (by omega)
  obtain ⟨W2, hcopy2, C2, k2⟩ := copy_at _ (w.heap.size + 1) 384 128 128 cc c us _ _ C1 (HC.out.keptS KW1).1 (by omega) (by rw [length_splice _ _ _ (by simp [zeros_len]; omega)]; simp [zeros_len]; omega)
  have KW2 := hide (kept_over KW1 k2 (by omega))
  have E0 := hide (D0.kept k2 (by omega))
  rw [hNB.out] at C2
  have E1 : Hid (Blk W2 (w.heap.size + 1) (cellsOf (Pl.newB xs us)) 57) := hide C2
  have HZ : Hid ((Try.prog.info? 57).map (·.size) = some (cellsOf (Pl.newB xs us)).size) := hide (by rw [cellsOf_size, hNL.out]; exact Try.memSize)
  clear K1 B0 B1 C1 k1 KW1 D0 C2 k2
  go_enter Try.func12, Try.ntmps12
  go_wp2_with (first
    | (go_at_call 36; have hz := Z1; refine (areBytes _ c cc us (HC.out.keptS HK0.out) lu).mono ?_; rintro e w' ⟨rfl, rfl⟩; rw [h2])
    | (go_at_call 36; refine (areBytes _ a ca xs (HA.out.keptS HK0.out) lx).mono ?_; rintro e w' ⟨rfl, rfl⟩; rw [h1]; have Z1 : True := trivial)
    | (go_at_call 37; refine (memList _ (Pl.newB xs us) hNL.out).mono ?_; rintro e W3 ⟨g, rfl, hb3, hg3, k3⟩; have F0 := hide (E0.out.kept0 k3); have r0 := F0.out.cell (i := 0) rfl; have r1 := F0.out.cell (i := 1) rfl; have f0 := F0.out.frozen 0; have f1 := F0.out.frozen 1; have B3 := hide hb3; have G3 := hide hg3; have K3 := hide (KW2.out.trans k3); have S2 := hide KW2.out.size; clear hb3 hg3 k3)
    | (refine wpList_load_row rfl 57 (.tmp 6) rfl (w.heap.size + 1) rfl 57 (cellsOf (Pl.newB xs us)) (0, 0) _ E1.out Try.underlying57 rfl HZ.out ?_))
  have g3 := G3.out
  have s2 := S2.out
  have l0 := E0.out.lt
  have l3 := B3.out.lt
  have O3 := ((own_of_blk B3.out).setOther w.heap.size 0 (.slice (some ⟨g, 0, none⟩) 512 512) (by omega)).setOther w.heap.size 1 (.slice none 0 0) (by omega)
  refine bodyPost_ret (v := .tuple #[.agg #[.slice (some ⟨g, 0, none⟩) 512 512, .slice none 0 0], .bool true]) ?_ rfl ⟨some ⟨g, 0, none⟩, 512, ?_, ?_, ?_⟩
  · rw [results_cell_tmp rfl]; go_simp
  · rw [hNL.out, hok.out]
  · exact .inr ⟨_, rfl, by omega, by simpa using l3, O3⟩
  · exact kept_set (kept_set K3.out _ _ _ (.inr (by omega))) _ _ _ (.inr (by omega))

theorem newBus (w : World) (a c : Option Addr) (ca cc : Nat) (xs us : List Int) (ha : Came w a xs) (hc : Came w c us) (lx : xs.length ≤ 2000000) (lu : us.length ≤ 2000000) :
    Calls Try.prog 12 #[.slice a xs.length ca, .slice c us.length cc] w fun e w' => ∃ (b : Option Addr) (cb : Nat), e = .returned (.tuple #[.agg #[.slice b (Pl.newB xs us).length cb, .slice none 0 0], .bool (Pl.newOk xs us)]) ∧ SlotIn w' w.heap.size w'.heap.size b (Pl.newB xs us) ∧ Kept 0 0 w w' := by
  cases hok : Pl.newOk xs us
  · have K : Hid (Pl.newOk xs us = false ∧ Pl.newB xs us = []) := hide (by simp [Pl.newB, hok])
    have HA := hide ha
    have HC := hide hc
    clear ha hc
    have HK0 := hide (kept_alloc w (.cells #[.slice none 0 0, .slice none 0 0] 25))
    have HK1 : Hid (∀ v0 v1, Kept 0 0 w (((w.alloc (.cells #[.slice none 0 0, .slice none 0 0] 25)).setCell ⟨w.heap.size, 0, none⟩ v0).setCell ⟨w.heap.size, 1, none⟩ v1)) := hide (fun v0 v1 => kept_set (kept_set HK0.out _ _ _ (.inr (by omega))) _ _ _ (.inr (by omega)))
    cases h3 : decide ((384 : Int) < (xs.length : Int))
    · cases h4 : decide ((64 : Int) < (us.length : Int))
      · cases h1 : Pl.bytesOk xs
        · go_enter Try.func12, Try.ntmps12
          go_wp2_with (go_at_call 36; refine (areBytes _ a ca xs (HA.out.keptS HK0.out) lx).mono ?_; rintro e w' ⟨rfl, rfl⟩; rw [h1])
          refine bodyPost_ret (v := .tuple #[.agg #[.slice none 0 0, .slice none 0 0], .bool false]) ?_ rfl ⟨none, 0, ?_, ?_, ?_⟩
          · rw [results_cell_tmp rfl]; go_simp
          · rw [K.out.2]; rfl
          · rw [K.out.2]; exact .inl ⟨rfl, rfl⟩
          · first | exact HK0.out | exact HK1.out _ _
        · cases h2 : Pl.bytesOk us
          · go_enter Try.func12, Try.ntmps12
            go_wp2_with (first
              | (go_at_call 36; have hz := Z1; refine (areBytes _ c cc us (HC.out.keptS HK0.out) lu).mono ?_; rintro e w' ⟨rfl, rfl⟩; rw [h2])
              | (go_at_call 36; refine (areBytes _ a ca xs (HA.out.keptS HK0.out) lx).mono ?_; rintro e w' ⟨rfl, rfl⟩; rw [h1]; have Z1 : True := trivial))
            refine bodyPost_ret (v := .tuple #[.agg #[.slice none 0 0, .slice none 0 0], .bool false]) ?_ rfl ⟨none, 0, ?_, ?_, ?_⟩
            · rw [results_cell_tmp rfl]; go_simp
            · rw [K.out.2]; rfl
            · rw [K.out.2]; exact .inl ⟨rfl, rfl⟩
            · first | exact HK0.out | exact HK1.out _ _
          · exfalso
            simp at h3 h4
            simp [Pl.newOk, h1, h2] at hok
            omega
      · go_enter Try.func12, Try.ntmps12
        go_wp2_with (go_at_call 36; fail)
        refine bodyPost_ret (v := .tuple #[.agg #[.slice none 0 0, .slice none 0 0], .bool false]) ?_ rfl ⟨none, 0, ?_, ?_, ?_⟩
        · rw [results_cell_tmp rfl]; go_simp
        · rw [K.out.2]; rfl
        · rw [K.out.2]; exact .inl ⟨rfl, rfl⟩
        · first | exact HK0.out | exact HK1.out _ _
    · go_enter Try.func12, Try.ntmps12
      go_wp2_with (go_at_call 36; fail)
      refine bodyPost_ret (v := .tuple #[.agg #[.slice none 0 0, .slice none 0 0], .bool false]) ?_ rfl ⟨none, 0, ?_, ?_, ?_⟩
      · rw [results_cell_tmp rfl]; go_simp
      · rw [K.out.2]; rfl
      · rw [K.out.2]; exact .inl ⟨rfl, rfl⟩
      · first | exact HK0.out | exact HK1.out _ _
  · have h := hok
    simp only [Pl.newOk, Bool.and_eq_true, decide_eq_true_eq] at h
    have := newBus_good w a c ca cc xs us ha hc lx lu h.1 h.2.1 h.2.2.1 h.2.2.2
    rw [hok] at this
    exact this
end Go.Proofs.Ytbkafdphagmgpaa
