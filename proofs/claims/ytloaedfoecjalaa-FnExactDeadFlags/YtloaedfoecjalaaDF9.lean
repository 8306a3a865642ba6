/- Which flags of a row are dead, of both sides. Which flags of a row are dead, as the program tells it. Which flags of a row are dead, as the model tells it. What the laws' own functions over lists of instructions do, further: look at marks, mark a list that may be nil, measure, compare whole. The law on DeadFlags: of whatever list, its Go function returns true, and no block that was there has turned. Instructions that came in to a law, and lists of them: opened out of a law's argument. -/
import Derived.Test.YtloaedfoecjalaaDF8
import Derived.Test.YtloaedfoecjalaaDF6
import Derived.Deep.LoopGhost
import Derived.Test.YtloaedfoecjalaaDF7
import Derived.Test.YtloaedfoecjalaaDF1
import Derived.Lib.SmallJoins
import Derived.Deep.Slices
import Derived.ProofKit
import Derived.OpenShut
namespace Go.Proofs.Ytloaedfoecjalaa
open Go.RowKit
set_option linter.unusedVariables false
theorem mkB : ∀ n : Nat, n ≤ 16 → ∀ w : World, (Instr.makeSlice 37 (.int .i64 (n : Int)) (.int .i64 (n : Int))).run Try.prog w = .ok (.slice (some ⟨w.heap.size, 0, none⟩) n n) (w.alloc (.cells (Array.replicate n (.bool false)) 4)) := by
  intro n hn
  obtain rfl | rfl | rfl | rfl | rfl | rfl | rfl | rfl | rfl | rfl | rfl | rfl | rfl | rfl | rfl | rfl | rfl : n = 0 ∨ n = 1 ∨ n = 2 ∨ n = 3 ∨ n = 4 ∨ n = 5 ∨ n = 6 ∨ n = 7 ∨ n = 8 ∨ n = 9 ∨ n = 10 ∨ n = 11 ∨ n = 12 ∨ n = 13 ∨ n = 14 ∨ n = 15 ∨ n = 16 := by omega
  all_goals intro w; kernel_rfl
theorem bown_newN (w : World) (n : Nat) : BOwn (w.alloc (.cells (Array.replicate n (.bool false)) 4)) w.heap.size (List.replicate n false) := by
  have B := Blk.new w (Array.replicate n (.bool false)) 4
  intro i hi
  have hi2 : i < n := by simpa using hi
  refine ⟨?_, B.frozen i⟩
  rw [B.cell (i := i) (v := .bool false) (by rw [Array.getElem?_replicate, if_pos hi2]), List.getElem?_replicate, if_pos hi2]
  rfl
namespace Pl
theorem or_lt : ∀ a : Nat, a < 32 → ∀ b : Nat, b < 32 → 0 ≤ bits .or .i64 (a : Int) (b : Int) ∧ bits .or .i64 (a : Int) (b : Int) ≤ 31 := by decide +kernel
theorem an_lt : ∀ a : Nat, a < 32 → ∀ b : Nat, b < 32 → 0 ≤ bits .andNot .i64 (a : Int) (b : Int) ∧ bits .andNot .i64 (a : Int) (b : Int) ≤ 31 := by decide +kernel
theorem or_all : ∀ a : Nat, a < 32 → bits .or .i64 (a : Int) 31 = 31 ∧ bits .or .i64 (a : Int) 0 = a := by decide +kernel
theorem or_com : ∀ a : Nat, a < 32 → ∀ b : Nat, b < 32 → bits .or .i64 (a : Int) (b : Int) = bits .or .i64 (b : Int) (a : Int) := by decide +kernel
def f31 (a : Int) : Prop := 0 ≤ a ∧ a ≤ 31
theorem f31.or {a b : Int} (h : f31 a) (k : f31 b) : f31 (bits .or .i64 a b) := by
  obtain ⟨i, hi, rfl⟩ := nat_of (n := 32) h.1 (by have := h.2; omega)
  obtain ⟨j, hj, rfl⟩ := nat_of (n := 32) k.1 (by have := k.2; omega)
  exact or_lt i hi j hj
theorem f31.an {a b : Int} (h : f31 a) (k : f31 b) : f31 (bits .andNot .i64 a b) := by
  obtain ⟨i, hi, rfl⟩ := nat_of (n := 32) h.1 (by have := h.2; omega)
  obtain ⟨j, hj, rfl⟩ := nat_of (n := 32) k.1 (by have := k.2; omega)
  exact an_lt i hi j hj
theorem f31.com {a b : Int} (h : f31 a) (k : f31 b) : bits .or .i64 a b = bits .or .i64 b a := by
  obtain ⟨i, hi, rfl⟩ := nat_of (n := 32) h.1 (by have := h.2; omega)
  obtain ⟨j, hj, rfl⟩ := nat_of (n := 32) k.1 (by have := k.2; omega)
  exact or_com i hi j hj
theorem f31.all {a : Int} (h : f31 a) : bits .or .i64 a 31 = 31 ∧ bits .or .i64 a 0 = a := by
  obtain ⟨i, hi, rfl⟩ := nat_of (n := 32) h.1 (by have := h.2; omega)
  exact or_all i hi
theorem f31_sets (x : In) : f31 (sets x) := by
  rcases sets_in x with h | h | h | h <;> (unfold f31; omega)
theorem f31_reads (x : In) (h : InD x) : f31 (reads x) := by
  unfold reads
  have s0 := h.s0; have s1 := h.s1; have r0 := h.r0; have r2 := h.r2
  cases q : (x.op == 13)
  · simp only [Bool.cond_eq_ite]
    unfold f31
    repeat' split
    all_goals first | omega | simp_all
  · have q2 : x.op = 13 := by simpa using q
    obtain ⟨j, hj, e⟩ := nat_of (k := x.s + 8 * x.r) (n := 16) (by omega) (by have := r2 q2; omega)
    rw [q2, e]
    have := need_in j hj
    simp only [f31]
    exact ⟨this.1, by have := this.2; simp; omega⟩
theorem f31_needB {x : In} (h : InD x) {m : Int} (hm : f31 m) : f31 (needB x m) := by
  unfold needB
  refine ((hm.an (f31_sets x)).or (f31_reads x h)).or ?_
  rcases flag_in (mayF x) with e | e <;> (rw [e]; unfold f31; omega)
theorem needB_fault {x : In} (h : InD x) {m : Int} (hm : f31 m) (hf : mayF x = true) : needB x m = 31 := by
  unfold needB
  rw [hf, show fl true 31 = 31 from rfl]
  exact ((hm.an (f31_sets x)).or (f31_reads x h)).all.1
theorem needB_none {x : In} (h : InD x) {m : Int} (hm : f31 m) (hf : mayF x = false) : needB x m = bits .or .i64 (reads x) (bits .andNot .i64 m (sets x)) := by
  unfold needB
  rw [hf, show fl false 31 = 0 from rfl, ((hm.an (f31_sets x)).or (f31_reads x h)).all.2]
  exact (hm.an (f31_sets x)).com (f31_reads x h)
theorem rowS_at {ys : List Int} {n k : Nat} (h : rowS ys n = true) (hk : k < n) : inOk (inAt ys k) = true := by
  cases e : inOk (inAt ys k)
  · rw [rowS_no hk (by rw [e]; rfl)] at h; exact absurd h (by simp)
  · rfl
theorem needs_in {ys : List Int} {n i : Nat} (h : rowS ys n = true) (hi : i ≤ n) : f31 (needs ys n i) := by
  induction i with
  | zero => exact ⟨show (0 : Int) ≤ 31 by decide, show (31 : Int) ≤ 31 by decide⟩
  | succ i ih =>
    unfold needs
    exact f31_needB (inD_of (rowS_at h (by omega))) (ih (by omega))
end Pl
theorem areDeadI (w : World) (op z r m k e s nd : Int) (D : Pl.InD ⟨op, z, r, m, k, e, s⟩) : Calls Try.prog 66 #[.agg (inA op z r m k e s), iv nd] w fun e' w' => e' = .returned (.bool (Pl.deadB ⟨op, z, r, m, k, e, s⟩ nd)) ∧ Kept 0 0 w w' := by
  have K0 := hide (kept_alloc w (.cells (inA op z r m k e s) 30))
  have B0 := hide (Blk.new w (inA op z r m k e s) 30)
  have D0 := hide D
  clear D
  obtain ⟨S, hS⟩ : ∃ S, S = Pl.sets ⟨op, z, r, m, k, e, s⟩ := ⟨_, rfl⟩
  have HS := hide hS
  clear hS
  cases q1 : (S != 0) <;> cases q2 : (bits .and .i64 S nd == 0)
  all_goals
    go_enter Try.func66, Try.ntmps66
    go_wp2_with (first | (go_at_call 33; refine (implSets _ op z r m k e s D0.out).mono ?_; rw [← HS.out]; rintro e9 w2 ⟨rfl, k2⟩; have B2 := hide (B0.out.kept0 k2); have K2 := hide (K0.out.trans k2); have p2 := B2.out.all; clear k2) | (go_at_call 39; refine (implMayW _ op z r m k e s D0.out).mono ?_; rintro e9 w3 ⟨rfl, k3⟩; have K3 := hide (K2.out.trans k3); clear k3))
    go_ret
    exact ⟨rB (by unfold Pl.deadB; rw [← HS.out, show (!(S == 0)) = _ from q1, q2]; first | rfl | simp), by first | exact K3.out | exact K2.out⟩
end Go.Proofs.Ytloaedfoecjalaa

namespace Go.Proofs.Ytloaedfoecjalaa
open Go.RowKit
set_option linter.unusedVariables false
set_option maxRecDepth 20000 in
set_option maxHeartbeats 8000000 in
theorem implDeadIn (w : World) (a : Option Addr) (ca n : Nat) (ys : List Int) (ha : Came w a ys) (ly : ys.length = 7 * n) (hn : n ≤ 16) (hr : Pl.rowS ys n = true) : Calls Try.prog 43 #[.slice a n ca] w fun e' w' => e' = .returned (.slice (some ⟨w.heap.size, 0, none⟩) n n) ∧ BOwn w' w.heap.size (Pl.deads ys n n) ∧ Kept 0 0 w w' ∧ w.heap.size < w'.heap.size := by
  have HA := hide ha
  have HY := hide ly
  have HR := hide hr
  clear ha ly hr
  have mk := mkB n hn
  have B := bown_newN w n
  rw [← Pl.deads_zero ys n] at B
  have K : Kept 0 0 w (w.alloc (.cells (Array.replicate n (.bool false)) 4)) := kept_alloc _ _
  have S : w.heap.size < (w.alloc (.cells (Array.replicate n (.bool false)) 4)).heap.size := by rw [World.size_alloc]; omega
  go_enter Try.func43, Try.ntmps43
  go_wp2_with fail
  go_step3
  go_wp2_with fail
  go_step3
  go_wp2_with fail
  clear mk
  generalize w.alloc (.cells (Array.replicate n (.bool false)) 4) = W0 at *
  go_loopg [4] n (fun gn lf wr => gn ≤ n ∧ lf = .int .i64 (gn : Int) ∧ (gn = 0 ∨ Pl.needs ys n (n - gn) = 31) ∧ BOwn wr w.heap.size (Pl.deads ys n (n - gn)) ∧ Kept 0 0 w wr ∧ w.heap.size < wr.heap.size)
  case atStart => exact ⟨Nat.le_refl _, rfl, .inr (by rw [Nat.sub_self]; rfl), by rw [Nat.sub_self]; exact B, K, S⟩
  case round =>
    obtain ⟨hg, rfl, hN, hown, hK, hS⟩ := hrel
    have HN := hide hN
    have HO1 := hide hown
    have HK1 := hide hK
    have HS1 := hide hS
    clear hN hown hK hS B K S
    cases gk with
    | zero =>
      have h0 : ¬ ((0 : Int) < ((0 : Nat) : Int)) := by omega
      go_wp2_with fail
      (first | rw [Exit.noGoto_ret] | skip)
      go_ret
      exact ⟨rfl, by rw [Nat.sub_zero] at HO1; exact HO1.out, HK1.out, HS1.out⟩
    | succ go =>
      have h1 : (0 : Int) < ((go + 1 : Nat) : Int) := by omega
      have h2 : (0 : Int) < (go : Int) + 1 := by omega
      have E31 : Hid (Pl.needs ys n (n - (go + 1)) = 31) := hide (by rcases HN.out with h | h <;> first | omega | exact h)
      go_wp2_with fail
      clear h1 h2
      go_loopg [4, 5] (go + 1) (fun g2 lf nd wy => g2 ≤ go + 1 ∧ lf = .int .i64 (g2 : Int) ∧ nd = iv (Pl.needs ys n (n - g2)) ∧ BOwn wy w.heap.size (Pl.deads ys n (n - g2)) ∧ Kept 0 0 w wy ∧ w.heap.size < wy.heap.size)
      case atStart => exact ⟨Nat.le_refl _, rfl, by rw [E31.out], HO1.out, HK1.out, HS1.out⟩
      case round =>
        obtain ⟨hg2, rfl, rfl, hown, hK, hS⟩ := hrel
        clear HO1 HK1 HS1 E31 HN
        have HO := hide hown
        have HK := hide hK
        have HS := hide hS
        clear hown hK hS
        cases gk with
        | zero =>
          have h0 : ¬ ((0 : Int) < ((0 : Nat) : Int)) := by omega
          go_wp2_with fail
          go_roundg 0
          case measure => omega
          case rel => exact ⟨by omega, rfl, .inl rfl, HO.out, HK.out, HS.out⟩
        | succ k =>
          have hk : k < n := by omega
          have h1 : (0 : Int) < ((k + 1 : Nat) : Int) := by omega
          have h2 : (0 : Int) < (k : Int) + 1 := by omega
          have ew1 : IntKind.i64.wrap (((k + 1 : Nat) : Int) - 1) = (k : Int) := by rw [IntKind.wrap_i64]; omega
          have ew2 : IntKind.i64.wrap (k : Int) = (k : Int) := by rw [IntKind.wrap_i64]; omega
          obtain ⟨g1, o1, rfl, p0, p1, p2, p3, p4, p5, p6⟩ := (HA.out.1.keptS HK.out).at7 HY.out hk
          have B0 := hide (Blk.new wr #[iv (el ys (k * 7)), iv (el ys (k * 7 + 1)), iv (el ys (k * 7 + 2)), iv (el ys (k * 7 + 3)), iv (el ys (k * 7 + 4)), iv (el ys (k * 7 + 5)), iv (el ys (k * 7 + 6))] 30)
          have D0 := hide (Pl.inD_of (Pl.rowS_at HR.out hk))
          have F0 := hide (Pl.needs_in (i := n - (k + 1)) HR.out (by omega))
          have NB : Hid (Pl.needs ys n (n - k) = Pl.needB (Pl.inAt ys k) (Pl.needs ys n (n - (k + 1)))) := hide (by
            rw [show n - k = (n - (k + 1)) + 1 from by omega]
            show Pl.needB (Pl.inAt ys (n - (n - (k + 1) + 1))) _ = _
            rw [show n - (n - (k + 1) + 1) = k from by omega])
          have DS : Hid ((Pl.deads ys n (n - (k + 1))).set k (Pl.deadB (Pl.inAt ys k) (Pl.needs ys n (n - (k + 1)))) = Pl.deads ys n (n - k)) := hide (by
            have q := Pl.deads_set ys n (n - (k + 1)) (by omega)
            rw [show n - (n - (k + 1) + 1) = k from by omega, show n - (k + 1) + 1 = n - k from by omega] at q
            exact q)
          obtain ⟨N, hN⟩ : ∃ N, N = Pl.needs ys n (n - (k + 1)) := ⟨_, rfl⟩
          rw [← hN] at NB DS F0 ⊢
          obtain ⟨DD, hDD⟩ : ∃ DD, DD = Pl.deadB (Pl.inAt ys k) N := ⟨_, rfl⟩
          rw [← hDD] at DS
          have HDD := hide hDD
          have HNN := hide hN
          clear hN hDD
          have hki : (k : Int) < (n : Int) := by omega
          have hki0 : (0 : Int) ≤ (k : Int) := by omega
          have hne : wr.heap.size ≠ w.heap.size := by have := HS.out; omega
          cases hf : Pl.mayF (Pl.inAt ys k)
          · go_wp2_with (first | (go_at_call 66; refine (areDeadI _ (el ys (k * 7)) (el ys (k * 7 + 1)) (el ys (k * 7 + 2)) (el ys (k * 7 + 3)) (el ys (k * 7 + 4)) (el ys (k * 7 + 5)) (el ys (k * 7 + 6)) N D0.out).mono ?_; rw [show Pl.deadB ⟨el ys (k * 7), el ys (k * 7 + 1), el ys (k * 7 + 2), el ys (k * 7 + 3), el ys (k * 7 + 4), el ys (k * 7 + 5), el ys (k * 7 + 6)⟩ N = Pl.deadB (Pl.inAt ys k) N from rfl, ← HDD.out]; rintro e9 w2 ⟨rfl, k2⟩; have B2 := hide (B0.out.kept0 k2); have K2 := hide ((kept_new HK.out _).trans k2); have p2 := B2.out.all; have O2 := hide (HO.out.keptS ((kept_alloc wr _).trans k2) (by omega)); obtain ⟨hc2, hf2⟩ := O2.out k (by rw [Pl.deads_len]; omega); have q3 := (B2.out.other w.heap.size k (.bool DD) hne).all; have s2 : wr.heap.size < w2.heap.size := B2.out.lt; clear k2) | (go_at_call 37; refine (implMayF _ (el ys (k * 7)) (el ys (k * 7 + 1)) (el ys (k * 7 + 2)) (el ys (k * 7 + 3)) (el ys (k * 7 + 4)) (el ys (k * 7 + 5)) (el ys (k * 7 + 6)) D0.out).mono ?_; rw [show Pl.mayF ⟨el ys (k * 7), el ys (k * 7 + 1), el ys (k * 7 + 2), el ys (k * 7 + 3), el ys (k * 7 + 4), el ys (k * 7 + 5), el ys (k * 7 + 6)⟩ = Pl.mayF (Pl.inAt ys k) from rfl, hf]; rintro e9 w3 ⟨rfl, k3⟩; have O3 := hide ((O2.out.set DD).keptS k3 (by omega)); have B3 := hide ((B2.out.other w.heap.size k (.bool DD) hne).kept0 k3); have K3 := hide ((kept_set K2.out _ _ _ (.inr (Nat.le_refl _))).trans k3); have SZ3 : w.heap.size < w3.heap.size := (by have := B3.out.lt; have := HS.out; omega); clear k3))
            clear q3 p2 hc2 hf2
            go_region_held3 (fun w' => w'.cell? ⟨wr.heap.size, 0, none⟩ = some (iv (el ys (k * 7))) ∧ w'.cell? ⟨wr.heap.size, 1, none⟩ = some (iv (el ys (k * 7 + 1))) ∧ w'.cell? ⟨wr.heap.size, 2, none⟩ = some (iv (el ys (k * 7 + 2))) ∧ w'.cell? ⟨wr.heap.size, 3, none⟩ = some (iv (el ys (k * 7 + 3))) ∧ w'.cell? ⟨wr.heap.size, 4, none⟩ = some (iv (el ys (k * 7 + 4))) ∧ w'.cell? ⟨wr.heap.size, 5, none⟩ = some (iv (el ys (k * 7 + 5))) ∧ w'.cell? ⟨wr.heap.size, 6, none⟩ = some (iv (el ys (k * 7 + 6)))) (first | with_reducible exact B5.out.c7 | with_reducible exact B4.out.c7 | exact (show Blk _ _ _ _ from B3.out).c7) (first | (go_at_call 33; have z9 := B4; refine (implSets _ (el ys (k * 7)) (el ys (k * 7 + 1)) (el ys (k * 7 + 2)) (el ys (k * 7 + 3)) (el ys (k * 7 + 4)) (el ys (k * 7 + 5)) (el ys (k * 7 + 6)) D0.out).mono ?_; rw [show Pl.sets ⟨el ys (k * 7), el ys (k * 7 + 1), el ys (k * 7 + 2), el ys (k * 7 + 3), el ys (k * 7 + 4), el ys (k * 7 + 5), el ys (k * 7 + 6)⟩ = Pl.sets (Pl.inAt ys k) from rfl]; rintro e9 w5 ⟨rfl, k5⟩; have B5 := hide (B4.out.kept0 k5); have K5 := hide (K4.out.trans k5); have O5 := hide (O4.out.keptS k5 (by omega)); clear k5) | (go_at_call 35; refine (implReads _ (el ys (k * 7)) (el ys (k * 7 + 1)) (el ys (k * 7 + 2)) (el ys (k * 7 + 3)) (el ys (k * 7 + 4)) (el ys (k * 7 + 5)) (el ys (k * 7 + 6)) D0.out).mono ?_; rw [show Pl.reads ⟨el ys (k * 7), el ys (k * 7 + 1), el ys (k * 7 + 2), el ys (k * 7 + 3), el ys (k * 7 + 4), el ys (k * 7 + 5), el ys (k * 7 + 6)⟩ = Pl.reads (Pl.inAt ys k) from rfl]; rintro e9 w4 ⟨rfl, kd⟩; have k4 := undrewK kd; have B4 := hide (B3.out.kept0 k4); have K4 := hide (K3.out.trans k4); have O4 := hide (O3.out.keptS k4 (by omega)); clear kd k4))
            go_wp2_with fail
            go_roundg k
            case measure => omega
            case rel => exact ⟨by omega, rfl, by rw [NB.out, Pl.needB_none D0.out F0.out hf], by rw [← DS.out]; exact O5.out, K5.out, by have := B5.out.lt; have := HS.out; omega⟩
          · go_wp2_with (first | (go_at_call 66; refine (areDeadI _ (el ys (k * 7)) (el ys (k * 7 + 1)) (el ys (k * 7 + 2)) (el ys (k * 7 + 3)) (el ys (k * 7 + 4)) (el ys (k * 7 + 5)) (el ys (k * 7 + 6)) N D0.out).mono ?_; rw [show Pl.deadB ⟨el ys (k * 7), el ys (k * 7 + 1), el ys (k * 7 + 2), el ys (k * 7 + 3), el ys (k * 7 + 4), el ys (k * 7 + 5), el ys (k * 7 + 6)⟩ N = Pl.deadB (Pl.inAt ys k) N from rfl, ← HDD.out]; rintro e9 w2 ⟨rfl, k2⟩; have B2 := hide (B0.out.kept0 k2); have K2 := hide ((kept_new HK.out _).trans k2); have p2 := B2.out.all; have O2 := hide (HO.out.keptS ((kept_alloc wr _).trans k2) (by omega)); obtain ⟨hc2, hf2⟩ := O2.out k (by rw [Pl.deads_len]; omega); have q3 := (B2.out.other w.heap.size k (.bool DD) hne).all; have s2 : wr.heap.size < w2.heap.size := B2.out.lt; clear k2) | (go_at_call 37; refine (implMayF _ (el ys (k * 7)) (el ys (k * 7 + 1)) (el ys (k * 7 + 2)) (el ys (k * 7 + 3)) (el ys (k * 7 + 4)) (el ys (k * 7 + 5)) (el ys (k * 7 + 6)) D0.out).mono ?_; rw [show Pl.mayF ⟨el ys (k * 7), el ys (k * 7 + 1), el ys (k * 7 + 2), el ys (k * 7 + 3), el ys (k * 7 + 4), el ys (k * 7 + 5), el ys (k * 7 + 6)⟩ = Pl.mayF (Pl.inAt ys k) from rfl, hf]; rintro e9 w3 ⟨rfl, k3⟩; have O3 := hide ((O2.out.set DD).keptS k3 (by omega)); have B3 := hide ((B2.out.other w.heap.size k (.bool DD) hne).kept0 k3); have K3 := hide ((kept_set K2.out _ _ _ (.inr (Nat.le_refl _))).trans k3); have SZ3 : w.heap.size < w3.heap.size := (by have := B3.out.lt; have := HS.out; omega); clear k3))
            go_roundg k
            case measure => omega
            case rel => exact ⟨by omega, rfl, .inr (by rw [NB.out, Pl.needB_fault D0.out F0.out hf]), by rw [← DS.out]; exact O3.out, K3.out, SZ3⟩
end Go.Proofs.Ytloaedfoecjalaa

namespace Go.Proofs.Ytloaedfoecjalaa
open Go.RowKit
set_option linter.unusedVariables false
set_option maxRecDepth 20000 in
set_option maxHeartbeats 8000000 in
theorem specDead (w : World) (a : Option Addr) (ca n : Nat) (ys : List Int) (ha : IRow w a ys) (ly : ys.length = 7 * n) (hn : n ≤ 16) (hr : Pl.rowS ys n = true) : Calls Try.prog 41 #[.slice a n ca] w fun e' w' => e' = .returned (.slice (some ⟨w.heap.size, 0, none⟩) n n) ∧ BOwn w' w.heap.size (Pl.deads ys n n) ∧ Kept 0 0 w w' ∧ w.heap.size < w'.heap.size := by
  have HA := hide ha
  have HY := hide ly
  have HR := hide hr
  clear ha ly hr
  have mk := mkB n hn
  have B := bown_newN w n
  rw [← Pl.deads_zero ys n] at B
  have K : Kept 0 0 w (w.alloc (.cells (Array.replicate n (.bool false)) 4)) := kept_alloc _ _
  have S : w.heap.size < (w.alloc (.cells (Array.replicate n (.bool false)) 4)).heap.size := by rw [World.size_alloc]; omega
  have ewn : IntKind.i64.wrap ((n : Int) - 1) = (n : Int) - 1 := by rw [IntKind.wrap_i64]; omega
  go_enter Try.func41, Try.ntmps41
  go_wp2_with fail
  clear mk ewn
  generalize w.alloc (.cells (Array.replicate n (.bool false)) 4) = W0 at *
  go_loopw [4, 5] (fun nd jj wr => ∃ q : Nat, q ≤ n ∧ jj = .int .i64 ((q : Int) - 1) ∧ nd = iv (Pl.needs ys n (n - q)) ∧ BOwn wr w.heap.size (Pl.deads ys n (n - q)) ∧ Kept 0 0 w wr ∧ w.heap.size < wr.heap.size) (fun _ jj _ => (intOf jj + 1).toNat)
  case atStart => exact ⟨n, Nat.le_refl _, rfl, by rw [Nat.sub_self]; rfl, by rw [Nat.sub_self]; exact B, K, S⟩
  case round =>
    obtain ⟨q, hq, rfl, rfl, hown, hK, hS⟩ := hrel
    have HO := hide hown
    have HK := hide hK
    have HS := hide hS
    clear hown hK hS B K S
    cases q with
    | zero =>
      have h0 : ¬ ((0 : Int) ≤ ((0 : Nat) : Int) - 1) := by omega
      go_wp2_with fail
      go_ret
      exact ⟨rfl, by rw [Nat.sub_zero] at HO; exact HO.out, HK.out, HS.out⟩
    | succ k =>
      have hk : k < n := by omega
      have hki0 : (0 : Int) ≤ (k : Int) := by omega
      have hki : (k : Int) < (n : Int) := by omega
      have e0 : ((k + 1 : Nat) : Int) - 1 = (k : Int) := by omega
      rw [e0]
      have ewk : IntKind.i64.wrap ((k : Int) - 1) = (k : Int) - 1 := by rw [IntKind.wrap_i64]; omega
      obtain ⟨g1, o1, rfl, p0, p1, p2, p3, p4, p5, p6⟩ := (HA.out.keptS HK.out).at7 HY.out hk
      have B0 := hide (Blk.new wr #[iv (el ys (k * 7)), iv (el ys (k * 7 + 1)), iv (el ys (k * 7 + 2)), iv (el ys (k * 7 + 3)), iv (el ys (k * 7 + 4)), iv (el ys (k * 7 + 5)), iv (el ys (k * 7 + 6))] 30)
      have D0 := hide (Pl.inD_of (Pl.rowS_at HR.out hk))
      have F0 := hide (Pl.needs_in (i := n - (k + 1)) HR.out (by omega))
      have NB : Hid (Pl.needs ys n (n - k) = Pl.needB (Pl.inAt ys k) (Pl.needs ys n (n - (k + 1)))) := hide (by
        rw [show n - k = (n - (k + 1)) + 1 from by omega]
        show Pl.needB (Pl.inAt ys (n - (n - (k + 1) + 1))) _ = _
        rw [show n - (n - (k + 1) + 1) = k from by omega])
      have DS : Hid ((Pl.deads ys n (n - (k + 1))).set k (Pl.deadB (Pl.inAt ys k) (Pl.needs ys n (n - (k + 1)))) = Pl.deads ys n (n - k)) := hide (by
        have q := Pl.deads_set ys n (n - (k + 1)) (by omega)
        rw [show n - (n - (k + 1) + 1) = k from by omega, show n - (k + 1) + 1 = n - k from by omega] at q
        exact q)
      obtain ⟨SS, hSS⟩ : ∃ SS, SS = Pl.sets (Pl.inAt ys k) := ⟨_, rfl⟩
      obtain ⟨N, hN⟩ : ∃ N, N = Pl.needs ys n (n - (k + 1)) := ⟨_, rfl⟩
      rw [← hN] at NB DS F0 ⊢
      obtain ⟨DD, hDD⟩ : ∃ DD, DD = Pl.deadB (Pl.inAt ys k) N := ⟨_, rfl⟩
      rw [← hDD] at DS
      have hne : wr.heap.size ≠ w.heap.size := by have := HS.out; omega
      have NBX : Hid (Pl.needs ys n (n - k) = bits .or .i64 (bits .or .i64 (bits .andNot .i64 N SS) (Pl.reads (Pl.inAt ys k))) (Pl.fl (Pl.mayF (Pl.inAt ys k)) 31)) := hide (by rw [NB.out, hSS]; rfl)
      obtain ⟨MB, hMB⟩ : ∃ MB, MB = Pl.mayW (Pl.inAt ys k) := ⟨_, rfl⟩
      have HDX : Hid (DD = (((SS != 0) && (bits .and .i64 SS N == 0)) && !MB)) := hide (by rw [hDD, hMB, hSS]; rfl)
      have HSS := hide hSS
      have HMB := hide hMB
      clear hSS hN hDD hMB
      cases q1 : (SS != 0) <;> cases q2 : (bits .and .i64 SS N == 0) <;> rw [q1, q2] at HDX
      all_goals
        simp only [Bool.false_and, Bool.true_and, Bool.and_false, Bool.and_true] at HDX
        go_wp2_with (first | (go_at_call 30; refine (specSets _ (el ys (k * 7)) (el ys (k * 7 + 1)) (el ys (k * 7 + 2)) (el ys (k * 7 + 3)) (el ys (k * 7 + 4)) (el ys (k * 7 + 5)) (el ys (k * 7 + 6)) D0.out).mono ?_; rw [show Pl.sets ⟨el ys (k * 7), el ys (k * 7 + 1), el ys (k * 7 + 2), el ys (k * 7 + 3), el ys (k * 7 + 4), el ys (k * 7 + 5), el ys (k * 7 + 6)⟩ = Pl.sets (Pl.inAt ys k) from rfl, ← HSS.out]; rintro e9 w2 ⟨rfl, k2⟩; have B2 := hide (B0.out.kept0 k2); have K2 := hide ((kept_new HK.out _).trans k2); have p2 := B2.out.all; have O2 := hide (HO.out.keptS ((kept_alloc wr _).trans k2) (by omega)); obtain ⟨hc2, hf2⟩ := O2.out k (by rw [Pl.deads_len]; omega); have s2 : wr.heap.size < w2.heap.size := B2.out.lt; clear k2) | (go_at_call 38; refine (specMayW _ (el ys (k * 7)) (el ys (k * 7 + 1)) (el ys (k * 7 + 2)) (el ys (k * 7 + 3)) (el ys (k * 7 + 4)) (el ys (k * 7 + 5)) (el ys (k * 7 + 6)) D0.out).mono ?_; rw [show Pl.mayW ⟨el ys (k * 7), el ys (k * 7 + 1), el ys (k * 7 + 2), el ys (k * 7 + 3), el ys (k * 7 + 4), el ys (k * 7 + 5), el ys (k * 7 + 6)⟩ = Pl.mayW (Pl.inAt ys k) from rfl, ← HMB.out]; rintro e9 w3 ⟨rfl, k3⟩; have B3 := hide (B2.out.kept0 k3); have K3 := hide (K2.out.trans k3); clear p2 hc2 hf2; have O3 := hide (O2.out.keptS k3 (by omega)); obtain ⟨hc2, hf2⟩ := O3.out k (by rw [Pl.deads_len]; omega); have s3 : wr.heap.size < w3.heap.size := B3.out.lt; clear k3))
        first
        | have z9 := B3
          obtain ⟨WY, hWY⟩ : ∃ WY : World, WY = w3.setCell ⟨w.heap.size, k, none⟩ (.bool (!MB)) := ⟨_, rfl⟩
        | obtain ⟨WY, hWY⟩ : ∃ WY : World, WY = w2.setCell ⟨w.heap.size, k, none⟩ (.bool false) := ⟨_, rfl⟩
        have B5 : Hid (Blk WY wr.heap.size #[iv (el ys (k * 7)), iv (el ys (k * 7 + 1)), iv (el ys (k * 7 + 2)), iv (el ys (k * 7 + 3)), iv (el ys (k * 7 + 4)), iv (el ys (k * 7 + 5)), iv (el ys (k * 7 + 6))] 30) := hide (by rw [hWY]; first | exact B3.out.other _ _ _ hne | exact B2.out.other _ _ _ hne)
        have K5 : Hid (Kept 0 0 w WY) := hide (by rw [hWY]; first | exact kept_set K3.out _ _ _ (.inr (Nat.le_refl _)) | exact kept_set K2.out _ _ _ (.inr (Nat.le_refl _)))
        have O5 : Hid (BOwn WY w.heap.size (Pl.deads ys n (n - k))) := hide (by rw [hWY, ← DS.out, HDX.out]; first | exact O3.out.set _ | exact O2.out.set _)
        rw [← hWY]
        clear hWY p2 hc2 hf2
        go_region_held3 (fun w' => w'.cell? ⟨wr.heap.size, 0, none⟩ = some (iv (el ys (k * 7))) ∧ w'.cell? ⟨wr.heap.size, 1, none⟩ = some (iv (el ys (k * 7 + 1))) ∧ w'.cell? ⟨wr.heap.size, 2, none⟩ = some (iv (el ys (k * 7 + 2))) ∧ w'.cell? ⟨wr.heap.size, 3, none⟩ = some (iv (el ys (k * 7 + 3))) ∧ w'.cell? ⟨wr.heap.size, 4, none⟩ = some (iv (el ys (k * 7 + 4))) ∧ w'.cell? ⟨wr.heap.size, 5, none⟩ = some (iv (el ys (k * 7 + 5))) ∧ w'.cell? ⟨wr.heap.size, 6, none⟩ = some (iv (el ys (k * 7 + 6)))) (first | with_reducible exact B7.out.c7 | with_reducible exact B6.out.c7 | exact (show Blk _ _ _ _ from B5.out).c7) (first | (go_at_call 54; refine st (l1Flag _ _ _) ?_) | (go_at_call 36; have z9 := B6; refine (specMayF _ (el ys (k * 7)) (el ys (k * 7 + 1)) (el ys (k * 7 + 2)) (el ys (k * 7 + 3)) (el ys (k * 7 + 4)) (el ys (k * 7 + 5)) (el ys (k * 7 + 6)) D0.out).mono ?_; rw [show Pl.mayF ⟨el ys (k * 7), el ys (k * 7 + 1), el ys (k * 7 + 2), el ys (k * 7 + 3), el ys (k * 7 + 4), el ys (k * 7 + 5), el ys (k * 7 + 6)⟩ = Pl.mayF (Pl.inAt ys k) from rfl]; rintro e9 w7 ⟨rfl, k7⟩; have B7 := hide (B6.out.kept0 k7); have K7 := hide (K6.out.trans k7); have O7 := hide (O6.out.keptS k7 (by omega)); clear k7) | (go_at_call 34; refine (specReads _ (el ys (k * 7)) (el ys (k * 7 + 1)) (el ys (k * 7 + 2)) (el ys (k * 7 + 3)) (el ys (k * 7 + 4)) (el ys (k * 7 + 5)) (el ys (k * 7 + 6)) D0.out).mono ?_; rw [show Pl.reads ⟨el ys (k * 7), el ys (k * 7 + 1), el ys (k * 7 + 2), el ys (k * 7 + 3), el ys (k * 7 + 4), el ys (k * 7 + 5), el ys (k * 7 + 6)⟩ = Pl.reads (Pl.inAt ys k) from rfl]; rintro e9 w6 ⟨rfl, kd⟩; have k6 := undrewK kd; have B6 := hide (B5.out.kept0 k6); have K6 := hide (K5.out.trans k6); have O6 := hide (O5.out.keptS k6 (by omega)); clear kd k6))
        go_wp2_with fail
        go_roundw
        case rel => exact ⟨k, by omega, by first | rfl | go_num, by rw [NBX.out], O7.out, K7.out, by have := B7.out.lt; have := HS.out; omega⟩
        case measure => first | (simp [intOf]; done) | (simp [intOf]; omega)
end Go.Proofs.Ytloaedfoecjalaa

namespace Go.Proofs.Ytloaedfoecjalaa
open Go.RowKit
set_option linter.unusedVariables false
theorem szInsS (w : World) (a : Option Addr) (ca n : Nat) (left : Int) (hn : n ≤ 9223372036854775807) (l0 : 0 ≤ left) (l1 : left ≤ 2000000) :
    Calls Try.prog 18 #[.slice a n ca, .int .i64 left] w fun e w' => e = .returned (.int .i64 (if left - (n : Int) < 0 then -1 else left - (n : Int))) ∧ w' = w := by
  by_cases h : left - (n : Int) < 0
  all_goals
    go_enter Try.func18, Try.ntmps18
    go_wp2
    go_ret
    exact ⟨rfl, rfl⟩
end Go.Proofs.Ytloaedfoecjalaa

namespace Go.Proofs.Ytloaedfoecjalaa
open Go.RowKit
set_option linter.unusedVariables false
set_option linter.unusedSimpArgs false
theorem specXDead (w : World) (a : Option Addr) (ca n : Nat) (ys : List Int) (ha : IRow w a ys) (ly : ys.length = 7 * n) (bx : n ≤ 2000000) : Calls Try.prog 19 #[.slice a n ca] w fun e w' => ∃ (d : Option Addr) (c : Nat), e = .returned (.tuple #[.slice d (Pl.deadV ys n).length c, .bool (Pl.rowOk ys n)]) ∧ BSlot w' w.heap.size w'.heap.size d (Pl.deadV ys n) ∧ Kept 0 0 w w' := by
  have HA := hide ha
  have HY := hide ly
  clear ha ly
  cases h : Pl.rowOk ys n
  · have E : Hid (Pl.deadV ys n = []) := hide (by unfold Pl.deadV; rw [h]; rfl)
    go_enter Try.func19, Try.ntmps19
    go_wp2_with (go_at_call 40; refine (specRow _ a ca n ys HA.out HY.out bx).mono ?_; rintro e9 w2 ⟨rfl, k2⟩; rw [h]; have K2 := hide k2; clear k2)
    go_ret2
    exact ⟨none, 0, by rw [E.out]; rfl, .inl ⟨rfl, E.out⟩, K2.out⟩
  · have E : Hid (Pl.deadV ys n = Pl.deads ys n n) := hide (by unfold Pl.deadV; rw [h]; rfl)
    have hr : Pl.rowS ys n = true ∧ n ≤ 16 := by unfold Pl.rowOk at h; simp at h; exact ⟨h.2, by omega⟩
    go_enter Try.func19, Try.ntmps19
    go_wp2_with (first | (go_at_call 40; refine (specRow _ a ca n ys HA.out HY.out bx).mono ?_; rintro e9 w2 ⟨rfl, k2⟩; rw [h]; have K2 := hide k2; have A2 := hide (HA.out.keptS k2); clear k2) | (go_at_call 41; refine (specDead _ a ca n ys A2.out HY.out hr.2 hr.1).mono ?_; rintro e9 w3 ⟨rfl, o3, k3, s3⟩; have O3 := hide o3; have K3 := hide (K2.out.trans k3); have S3 := hide s3; clear k3 o3 s3))
    have hs := K2.out.size
    have hs3 := S3.out
    refine bodyPost_ret (v := .tuple #[.slice (some ⟨w2.heap.size, 0, none⟩) n n, .bool true]) ?_ rfl ⟨some ⟨w2.heap.size, 0, none⟩, n, by rw [E.out, Pl.deads_len], .inr ⟨w2.heap.size, rfl, hs, hs3, by rw [E.out]; exact O3.out⟩, K3.out⟩
    rw [results_tmp2 rfl]; go_simp
theorem implXDead (w : World) (a : Option Addr) (ca n : Nat) (ys : List Int) (ha : Came w a ys) (ly : ys.length = 7 * n) (bx : n ≤ 2000000) : Calls Try.prog 21 #[.slice a n ca] w fun e w' => ∃ (d : Option Addr) (c : Nat), e = .returned (.tuple #[.slice d (Pl.deadV ys n).length c, .bool (Pl.rowOk ys n)]) ∧ BSlot w' w.heap.size w'.heap.size d (Pl.deadV ys n) ∧ Kept 0 0 w w' := by
  have HA := hide ha
  have HY := hide ly
  clear ha ly
  cases h : Pl.rowOk ys n
  · have E : Hid (Pl.deadV ys n = []) := hide (by unfold Pl.deadV; rw [h]; rfl)
    go_enter Try.func21, Try.ntmps21
    go_wp2_with (go_at_call 42; refine (implRow _ a ca n ys HA.out HY.out bx).mono ?_; rintro e9 w2 ⟨rfl, k2⟩; rw [h]; have K2 := hide k2; clear k2)
    go_ret2
    exact ⟨none, 0, by rw [E.out]; rfl, .inl ⟨rfl, E.out⟩, K2.out⟩
  · have E : Hid (Pl.deadV ys n = Pl.deads ys n n) := hide (by unfold Pl.deadV; rw [h]; rfl)
    have hr : Pl.rowS ys n = true ∧ n ≤ 16 := by unfold Pl.rowOk at h; simp at h; exact ⟨h.2, by omega⟩
    go_enter Try.func21, Try.ntmps21
    go_wp2_with (first | (go_at_call 42; refine (implRow _ a ca n ys HA.out HY.out bx).mono ?_; rintro e9 w2 ⟨rfl, k2⟩; rw [h]; have K2 := hide k2; have A2 := hide (HA.out.keptS k2); clear k2) | (go_at_call 43; refine (implDeadIn _ a ca n ys A2.out HY.out hr.2 hr.1).mono ?_; rintro e9 w3 ⟨rfl, o3, k3, s3⟩; have O3 := hide o3; have K3 := hide (K2.out.trans k3); have S3 := hide s3; clear k3 o3 s3))
    have hs := K2.out.size
    have hs3 := S3.out
    refine bodyPost_ret (v := .tuple #[.slice (some ⟨w2.heap.size, 0, none⟩) n n, .bool true]) ?_ rfl ⟨some ⟨w2.heap.size, 0, none⟩, n, by rw [E.out, Pl.deads_len], .inr ⟨w2.heap.size, rfl, hs, hs3, by rw [E.out]; exact O3.out⟩, K3.out⟩
    rw [results_tmp2 rfl]; go_simp
theorem dead_len (ys : List Int) (n : Nat) : (Pl.deadV ys n).length ≤ 16 := by
  unfold Pl.deadV
  split
  · rename_i h
    rw [Pl.deads_len]
    unfold Pl.rowOk at h
    simp at h
    omega
  · simp
set_option maxRecDepth 100000 in
set_option maxHeartbeats 8000000 in
theorem lawDeadFlags (a : Option Addr) (n ca : Nat) (ys : List Int) (w : World) (hx : Came w a ys) (ly : ys.length = 7 * n) (lm : n ≤ 9223372036854775807) :
    Calls Try.prog 7 #[.slice a n ca] w fun r' w' => r' = .returned (.bool true) ∧ Below w.heap.size w w' := by
  have HX := hide hx
  have HL := hide ly
  clear hx ly
  by_cases hb : (1048576 : Int) - (n : Int) < 0
  · have hsz : (if (1048576 : Int) - (n : Int) < 0 then (-1 : Int) else 1048576 - (n : Int)) = -1 := if_pos hb
    go_enter Try.func7, Try.ntmps7
    go_wp2_with fail
    refine (szInsS _ a ca n 1048576 lm (by decide) (by decide)).mono ?_
    rintro r9 w' ⟨rfl, hw⟩
    have hw2 := hw.symm
    clear hw
    subst hw2
    rw [hsz]
    go_wp2_with fail
    go_ret
    exact ⟨rfl, Below.refl _ _⟩
  · obtain ⟨LF, hLF⟩ : ∃ LF : Int, LF = 1048576 - (n : Int) := ⟨_, rfl⟩
    have hsz : (if (1048576 : Int) - (n : Int) < 0 then (-1 : Int) else 1048576 - (n : Int)) = LF := (if_neg hb).trans hLF.symm
    have bx : n ≤ 2000000 := by omega
    have q9 : 0 ≤ LF := by omega
    have q8 : LF ≤ 2000000 := by omega
    clear hb hLF
    have bl9 := dead_len ys n
    have bl : (Pl.deadV ys n).length ≤ 2000000 := by omega
    clear bl9
    generalize hLl : Pl.deadV ys n = L at bl
    generalize hKk : Pl.rowOk ys n = OK
    have HLL := hide hLl
    have HKK := hide hKk
    clear hLl hKk
    have Bel := hide (Below.refl w.heap.size w)
    go_enter Try.func7, Try.ntmps7
    go_wp2_with fail
    refine (szInsS _ a ca n 1048576 lm (by decide) (by decide)).mono ?_
    rintro r9 w' ⟨rfl, hw⟩
    have hw2 := hw.symm
    clear hw
    subst hw2
    rw [hsz]
    go_wp2_with fail
    refine (toInsS _ a ca n ys (HX.out.below Bel.out).1 HL.out bx).mono ?_
    rintro r9 w1 ⟨rfl, o9, l9, gr⟩
    have k9 := kept_grown gr
    have Beln := hide (below_kept Bel.out k9 (by omega))
    clear Bel
    have Bel := Beln
    clear Beln
    have nw1 := k9.size
    have mw1 := l9
    have O1 := hide o9
    clear k9 gr o9 l9
    go_wp2_with fail
    refine (specXDead _ _ n n ys O1.out.row HL.out bx).mono ?_
    rw [HLL.out, HKK.out]
    rintro r9 w2 ⟨d0, e0, rfl, s9, k9⟩
    clear O1
    have Beln := hide (below_kept Bel.out k9 (by omega))
    clear Bel
    have Bel := Beln
    clear Beln
    have nw2 := k9.size
    have S0 := hide s9
    clear k9 s9
    go_wp2_with fail
    refine (toInsS _ a ca n ys (HX.out.below Bel.out).1 HL.out bx).mono ?_
    rintro r9 w3 ⟨rfl, o9, l9, gr⟩
    have k9 := kept_grown gr
    have Beln := hide (below_kept Bel.out k9 (by omega))
    have S0n := hide (S0.out.kept k9 (by omega))
    clear Bel S0
    have Bel := Beln
    have S0 := S0n
    clear Beln S0n
    have nw3 := k9.size
    have mw3 := l9
    have O2 := hide o9
    clear k9 gr o9 l9
    go_wp2_with fail
    refine (implXDead _ _ n n ys (O2.out.came HX.out.2) HL.out bx).mono ?_
    rw [HLL.out, HKK.out]
    rintro r9 w4 ⟨d1, e1, rfl, s9, k9⟩
    have Beln := hide (below_kept Bel.out k9 (by omega))
    have S0n := hide (S0.out.kept k9 (by omega))
    have O2n := hide (O2.out.keptS k9 (by omega))
    clear Bel S0 O2
    have Bel := Beln
    have S0 := S0n
    have O2 := O2n
    clear Beln S0n O2n
    have nw4 := k9.size
    have S1 := hide s9
    clear k9 s9
    go_wp2_with fail
    refine (eqBoolS _ d1 d0 _ _ L L S1.out.row S0.out.row bl bl).mono ?_
    rintro r9 w5 ⟨rfl, gr⟩
    rw [decide_eq_true (rfl : L = L)]
    have k9 := kept_grown gr
    have Beln := hide (below_kept Bel.out k9 (by omega))
    have S0n := hide (S0.out.kept k9 (by omega))
    have O2n := hide (O2.out.keptS k9 (by omega))
    have S1n := hide (S1.out.kept k9 (by omega))
    clear Bel S0 O2 S1
    have Bel := Beln
    have S0 := S0n
    have O2 := O2n
    have S1 := S1n
    clear Beln S0n O2n S1n
    have nw5 := k9.size
    clear k9 gr
    go_wp2_with fail
    refine (toInsS _ a ca n ys (HX.out.below Bel.out).1 HL.out bx).mono ?_
    rintro r9 w6 ⟨rfl, o9, l9, gr⟩
    have k9 := kept_grown gr
    have Beln := hide (below_kept Bel.out k9 (by omega))
    have S0n := hide (S0.out.kept k9 (by omega))
    have O2n := hide (O2.out.keptS k9 (by omega))
    have S1n := hide (S1.out.kept k9 (by omega))
    clear Bel S0 O2 S1
    have Bel := Beln
    have S0 := S0n
    have O2 := O2n
    have S1 := S1n
    clear Beln S0n O2n S1n
    have nw6 := k9.size
    have mw6 := l9
    have O3 := hide o9
    clear k9 gr o9 l9
    go_wp2_with fail
    refine (eqInsS _ _ _ _ _ n ys O2.out.row O3.out.row HL.out bx).mono ?_
    rintro r9 w7 ⟨rfl, gr⟩
    have k9 := kept_grown gr
    clear O3
    have Beln := hide (below_kept Bel.out k9 (by omega))
    have S0n := hide (S0.out.kept k9 (by omega))
    have O2n := hide (O2.out.keptS k9 (by omega))
    have S1n := hide (S1.out.kept k9 (by omega))
    clear Bel S0 O2 S1
    have Bel := Beln
    have S0 := S0n
    have O2 := O2n
    have S1 := S1n
    clear Beln S0n O2n S1n
    have nw7 := k9.size
    clear k9 gr
    go_wp2_with fail
    refine (markInsS _ _ _ n ys 1 O2.out HL.out bx (by decide) (by decide)).mono ?_
    rintro r9 w8 ⟨rfl, o9, gr⟩
    have k9 : Kept w2.heap.size w3.heap.size _ w8 := kept_row gr (fun g hg => by have q : w2.heap.size = g := Option.some.inj hg; omega)
    clear O2
    have Beln := hide (below_kept Bel.out k9 (by omega))
    have S0n := hide (S0.out.kept k9 (by omega))
    have S1n := hide (S1.out.kept k9 (by omega))
    clear Bel S0 S1
    have Bel := Beln
    have S0 := S0n
    have S1 := S1n
    clear Beln S0n S1n
    have nw8 := k9.size
    clear k9 gr o9
    go_wp2_with fail
    refine (eqBoolS _ d1 d0 _ _ L L S1.out.row S0.out.row bl bl).mono ?_
    rintro r9 w9 ⟨rfl, gr⟩
    rw [decide_eq_true (rfl : L = L)]
    have k9 := kept_grown gr
    have Beln := hide (below_kept Bel.out k9 (by omega))
    have S0n := hide (S0.out.kept k9 (by omega))
    have S1n := hide (S1.out.kept k9 (by omega))
    clear Bel S0 S1
    have Bel := Beln
    have S0 := S0n
    have S1 := S1n
    clear Beln S0n S1n
    have nw9 := k9.size
    clear k9 gr
    go_wp2_with fail
    refine (bmarkSlot _ d1 _ _ _ L S1.out bl).mono ?_
    rintro r9 w10 ⟨rfl, sl, k9⟩
    have M := hide sl
    clear S1
    have Beln := hide (below_kept Bel.out k9 (by omega))
    have S0n := hide (S0.out.kept k9 (by omega))
    clear Bel S0
    have Bel := Beln
    have S0 := S0n
    clear Beln S0n
    have nw10 := k9.size
    clear k9 sl
    go_wp2_with fail
    refine (heldBoolS _ d1 _ L.length 1 M.out.row bl (by decide) (by decide)).mono ?_
    rintro r9 w11 ⟨rfl, gr⟩
    have k9 := kept_grown gr
    have Beln := hide (below_kept Bel.out k9 (by omega))
    have S0n := hide (S0.out.kept k9 (by omega))
    have Mn := hide (M.out.kept k9 (by omega))
    clear Bel S0 M
    have Bel := Beln
    have S0 := S0n
    have M := Mn
    clear Beln S0n Mn
    have nw11 := k9.size
    clear k9 gr
    go_wp2_with fail
    refine (toInsS _ a ca n ys (HX.out.below Bel.out).1 HL.out bx).mono ?_
    rintro r9 w12 ⟨rfl, o9, l9, gr⟩
    have k9 := kept_grown gr
    have Beln := hide (below_kept Bel.out k9 (by omega))
    have S0n := hide (S0.out.kept k9 (by omega))
    have Mn := hide (M.out.kept k9 (by omega))
    clear Bel S0 M
    have Bel := Beln
    have S0 := S0n
    have M := Mn
    clear Beln S0n Mn
    have nw12 := k9.size
    have mw12 := l9
    have O4 := hide o9
    clear k9 gr o9 l9
    go_wp2_with fail
    refine (implXDead _ _ n n ys (O4.out.came HX.out.2) HL.out bx).mono ?_
    rw [HLL.out, HKK.out]
    rintro r9 w13 ⟨d2, e2, rfl, s9, k9⟩
    have Beln := hide (below_kept Bel.out k9 (by omega))
    have S0n := hide (S0.out.kept k9 (by omega))
    have Mn := hide (M.out.kept k9 (by omega))
    have O4n := hide (O4.out.keptS k9 (by omega))
    clear Bel S0 M O4
    have Bel := Beln
    have S0 := S0n
    have M := Mn
    have O4 := O4n
    clear Beln S0n Mn O4n
    have nw13 := k9.size
    have S2 := hide s9
    clear k9 s9
    go_wp2_with fail
    refine (eqBoolS _ d2 d0 _ _ L L S2.out.row S0.out.row bl bl).mono ?_
    rintro r9 w14 ⟨rfl, gr⟩
    rw [decide_eq_true (rfl : L = L)]
    have k9 := kept_grown gr
    have Beln := hide (below_kept Bel.out k9 (by omega))
    have S0n := hide (S0.out.kept k9 (by omega))
    have Mn := hide (M.out.kept k9 (by omega))
    have O4n := hide (O4.out.keptS k9 (by omega))
    have S2n := hide (S2.out.kept k9 (by omega))
    clear Bel S0 M O4 S2
    have Bel := Beln
    have S0 := S0n
    have M := Mn
    have O4 := O4n
    have S2 := S2n
    clear Beln S0n Mn O4n S2n
    have nw14 := k9.size
    clear k9 gr
    go_wp2_with fail
    refine (heldBoolS _ d1 _ L.length 1 M.out.row bl (by decide) (by decide)).mono ?_
    rintro r9 w15 ⟨rfl, gr⟩
    have k9 := kept_grown gr
    have Beln := hide (below_kept Bel.out k9 (by omega))
    have S0n := hide (S0.out.kept k9 (by omega))
    have Mn := hide (M.out.kept k9 (by omega))
    have O4n := hide (O4.out.keptS k9 (by omega))
    have S2n := hide (S2.out.kept k9 (by omega))
    clear Bel S0 M O4 S2
    have Bel := Beln
    have S0 := S0n
    have M := Mn
    have O4 := O4n
    have S2 := S2n
    clear Beln S0n Mn O4n S2n
    have nw15 := k9.size
    clear k9 gr
    go_wp2_with fail
    go_ret
    exact ⟨rfl, Bel.out⟩
end Go.Proofs.Ytloaedfoecjalaa

namespace Go.Proofs.Ytloaedfoecjalaa
open Go.RowKit Go.WideShapes Go.ChangeShapes Go.ChangeAt
set_option linter.unusedVariables false
set_option maxRecDepth 100000

theorem Try.cellsInt : Try.prog.cellsOf 3 = 1 := by kernel_rfl
theorem Try.cellsOpnd : Try.prog.cellsOf 23 = 3 := by kernel_rfl
theorem Try.cellsIns : Try.prog.cellsOf 25 = 7 := by kernel_rfl

theorem Addr.add_add_own (a : Addr) (i j : Nat) : (a.add i).add j = a.add (i + j) := by
  unfold Addr.add
  by_cases hi : i = 0 <;> by_cases hj : j = 0 <;> simp [hi, hj, Nat.add_assoc]
theorem came_of {w : World} {x : Addr} {n : Nat} (h : ∀ i, i < n → ∃ z : Int, w.cell? (x.add i) = some (.int .i64 z) ∧ (Lit.int .i64 z).wf = true) : ∃ xs : List Int, xs.length = n ∧ Came w (some x) xs := by
  obtain ⟨f, hf⟩ := Go.Deep.choose_lt h
  refine ⟨(List.range n).map f, by simp, ?_, ?_⟩
  · intro i hi
    have hi' : i < n := by simpa using hi
    obtain ⟨g, off, spot⟩ := x
    have hspot : spot = none := by simpa [Addr.add] using World.cell?_spot (hf 0 (by omega)).1
    subst hspot
    refine ⟨g, off, rfl, ?_⟩
    have hc := (hf i hi').1
    by_cases h0 : i = 0
    · subst h0; simpa [Addr.add, hi'] using hc
    · simpa [Addr.add, h0, hi'] using hc
  · intro i hi
    have hi' : i < n := by simpa using hi
    have := bounds_i64 (hf i hi').2
    simpa [hi'] using this

section
variable {H : Type} {enc : TypeId × Value → H} {w : World} {base : Nat} {spare : Nat → Bool} {held : Bool}

theorem open_insCells {fuel : Nat} {c0 c1 c2 c3 c4 c5 c6 : Value} {y : DataW H × List MemPlace} (h : DataW.trod enc Try.prog w base spare held fuel 25 [c0, c1, c2, c3, c4, c5, c6] = some y) :
    ∃ i0 i1 i2 i3 i4 i5 i6 : Int, (c0 = .int .i64 i0 ∧ c1 = .int .i64 i1 ∧ c2 = .int .i64 i2 ∧ c3 = .int .i64 i3 ∧ c4 = .int .i64 i4 ∧ c5 = .int .i64 i5 ∧ c6 = .int .i64 i6) ∧ (Lit.int .i64 i0).wf = true ∧ (Lit.int .i64 i1).wf = true ∧ (Lit.int .i64 i2).wf = true ∧ (Lit.int .i64 i3).wf = true ∧ (Lit.int .i64 i4).wf = true ∧ (Lit.int .i64 i5).wf = true ∧ (Lit.int .i64 i6).wf = true := by
  obtain ⟨zs, k, _, _, _, hzl, hf⟩ := DataW.trod_struct Try.underlying25 h
  obtain ⟨z0, z1, z2, z3, z4, rfl⟩ : ∃ z0 z1 z2 z3 z4, zs = [z0, z1, z2, z3, z4] := by
    match zs, hzl with
    | [z0, z1, z2, z3, z4], _ => exact ⟨z0, z1, z2, z3, z4, rfl⟩
  have t0 := hf 0 _ rfl
  have t1 := hf 1 _ rfl
  have t2 := hf 2 _ rfl
  have t3 := hf 3 _ rfl
  have t4 := hf 4 _ rfl
  simp [Try.cellsInt, Try.cellsOpnd] at t0 t1 t2 t3 t4
  obtain ⟨ys, k2, _, _, _, hyl, hg⟩ := DataW.trod_struct Try.underlying23 t3
  obtain ⟨y0, y1, y2, rfl⟩ : ∃ y0 y1 y2, ys = [y0, y1, y2] := by
    match ys, hyl with
    | [y0, y1, y2], _ => exact ⟨y0, y1, y2, rfl⟩
  have s0 := hg 0 _ rfl
  have s1 := hg 1 _ rfl
  have s2 := hg 2 _ rfl
  simp [Try.cellsInt] at s0 s1 s2
  obtain ⟨i0, e0, _, b0⟩ := DataW.trod_int Try.underlying3 t0
  obtain ⟨i1, e1, _, b1⟩ := DataW.trod_int Try.underlying3 t1
  obtain ⟨i2, e2, _, b2⟩ := DataW.trod_int Try.underlying3 t2
  obtain ⟨i3, e3, _, b3⟩ := DataW.trod_int Try.underlying3 s0
  obtain ⟨i4, e4, _, b4⟩ := DataW.trod_int Try.underlying3 s1
  obtain ⟨i5, e5, _, b5⟩ := DataW.trod_int Try.underlying3 s2
  obtain ⟨i6, e6, _, b6⟩ := DataW.trod_int Try.underlying3 t4
  simp at e0 e1 e2 e3 e4 e5 e6
  exact ⟨i0, i1, i2, i3, i4, i5, i6, ⟨e0, e1, e2, e3, e4, e5, e6⟩, b0, b1, b2, b3, b4, b5, b6⟩
theorem open_InsRow {fuel : Nat} {v : Value} {y : DataW H × List MemPlace} (h : DataW.trod enc Try.prog w base spare held fuel 35 [v] = some y) :
    ∃ (a : Option Addr) (m cap : Nat) (ys : List Int), v = .slice a m cap ∧ Came w a ys ∧ ys.length = 7 * m ∧ m ≤ maxLen := by
  rcases Go.Deep.open_slice Try.underlying35 h with ⟨hc, _⟩ | ⟨x, len, cap, m, n, D, Pl, hc, _, hl, hm, hmm, _, hel⟩
  · simp at hc
    exact ⟨none, 0, 0, [], hc, ⟨fun i hi => absurd hi (Nat.not_lt_zero i), fun i hi => absurd hi (Nat.not_lt_zero i)⟩, rfl, Nat.zero_le _⟩
  · simp at hc
    have hlen : len ≤ m := by rw [hmm]; split <;> omega
    obtain ⟨ys, hy, hx⟩ := came_of (w := w) (x := x) (n := 7 * len) (by
      intro i hi
      obtain ⟨cs', h1, h2⟩ := hel (i / 7) (by omega)
      rw [Try.cellsIns] at h1
      obtain ⟨_, hl5, hcs⟩ := World.cells?_some h1
      have hget := hcs (i % 7) (by omega)
      rw [Addr.add_add_own, show i / 7 * 7 + i % 7 = i from by omega] at hget
      rw [hget]
      obtain ⟨c0, c1, c2, c3, c4, c5, c6, rfl⟩ : ∃ c0 c1 c2 c3 c4 c5 c6, cs' = [c0, c1, c2, c3, c4, c5, c6] := by
        match cs', hl5 with
        | [c0, c1, c2, c3, c4, c5, c6], _ => exact ⟨c0, c1, c2, c3, c4, c5, c6, rfl⟩
      obtain ⟨n0, n1, n2, n3, n4, n5, n6, ⟨e0, e1, e2, e3, e4, e5, e6⟩, b0, b1, b2, b3, b4, b5, b6⟩ := open_insCells h2
      subst e0 e1 e2 e3 e4 e5 e6
      obtain h | h | h | h | h | h | h : i % 7 = 0 ∨ i % 7 = 1 ∨ i % 7 = 2 ∨ i % 7 = 3 ∨ i % 7 = 4 ∨ i % 7 = 5 ∨ i % 7 = 6 := by omega
      all_goals rw [h]
      · exact ⟨n0, rfl, b0⟩
      · exact ⟨n1, rfl, b1⟩
      · exact ⟨n2, rfl, b2⟩
      · exact ⟨n3, rfl, b3⟩
      · exact ⟨n4, rfl, b4⟩
      · exact ⟨n5, rfl, b5⟩
      · exact ⟨n6, rfl, b6⟩)
    exact ⟨some x, len, cap, ys, hc, hx, hy, by omega⟩
theorem open_InsArg {r : Reach} {b0 : Nat} {v : Value} {d : DataW H} {p : List MemPlace} (hv : Value.okWide Try.prog w r b0 35 v) (h : DataW.Trod enc Try.prog w base spare held 35 v d p) :
    ∃ (a : Option Addr) (m cap : Nat) (ys : List Int), v = .slice a m cap ∧ Came w a ys ∧ ys.length = 7 * m ∧ m ≤ maxLen := by
  obtain ⟨a1, len1, cap1, rfl⟩ := okWide_slice Try.underlying35 hv
  obtain ⟨fuel, hf⟩ := h
  exact open_InsRow hf
end
end Go.Proofs.Ytloaedfoecjalaa

