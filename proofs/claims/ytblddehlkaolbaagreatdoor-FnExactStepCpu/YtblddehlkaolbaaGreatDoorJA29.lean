/- What the program's DivWords answers. What the program's combine answers: what a data register comes to be of what it was and an operand, and the flags. What the program's takeOperand does, of a processor that is worked on. What the program's giveData and changeOperand do, of a processor that is worked on. -/
import Derived.Test.YtblddehlkaolbaaGreatDoorJA28
import Derived.Test.YtblddehlkaolbaaGreatDoorJA25
import Derived.Test.YtblddehlkaolbaaGreatDoorJA21
namespace Go.Proofs.YtblddehlkaolbaaGreatDoor
open Go.RowKit Go.Shelf
attribute [local go_sem] Oper.semAt_some
set_option linter.unusedVariables false
set_option linter.unusedSimpArgs false
/-- between two rounds: by, the quotient, what is left, how often it was taken away -/
structure DvAt (w X : World) (b q r n : Int) : Prop where
  bl : Below w.heap.size w X
  y : Boxed X w.heap.size 3 (.int .i64 b)
  q : Boxed X (w.heap.size + 1) 3 (.int .i64 q)
  r : Boxed X (w.heap.size + 2) 3 (.int .i64 r)
  n : Boxed X (w.heap.size + 3) 3 (.int .i64 n)
theorem DvAt.setQ {w X : World} {b q r n : Int} (h : DvAt w X b q r n) (z : Int) : DvAt w (X.setCell ⟨w.heap.size + 1, 0, none⟩ (.int .i64 z)) b z r n :=
  ⟨h.bl.setCell (p := ⟨w.heap.size + 1, 0, none⟩) (Nat.le_add_right _ _) _, h.y.other (by omega) _, h.q.set _, h.r.other (by omega) _, h.n.other (by omega) _⟩
theorem DvAt.setR {w X : World} {b q r n : Int} (h : DvAt w X b q r n) (z : Int) : DvAt w (X.setCell ⟨w.heap.size + 2, 0, none⟩ (.int .i64 z)) b q z n :=
  ⟨h.bl.setCell (p := ⟨w.heap.size + 2, 0, none⟩) (Nat.le_add_right _ _) _, h.y.other (by omega) _, h.q.other (by omega) _, h.r.set _, h.n.other (by omega) _⟩
theorem DvAt.setN {w X : World} {b q r n : Int} (h : DvAt w X b q r n) (z : Int) : DvAt w (X.setCell ⟨w.heap.size + 3, 0, none⟩ (.int .i64 z)) b q r z :=
  ⟨h.bl.setCell (p := ⟨w.heap.size + 3, 0, none⟩) (Nat.le_add_right _ _) _, h.y.other (by omega) _, h.q.other (by omega) _, h.r.other (by omega) _, h.n.set _⟩
theorem DvAt.below {w X Y : World} {b q r n : Int} {B : Nat} (h : DvAt w X b q r n) (k : Below B X Y) (hB : w.heap.size + 4 ≤ B) : DvAt w Y b q r n :=
  ⟨h.bl.trans (k.mono (by omega)), boxed_below h.y k (by omega), boxed_below h.q k (by omega), boxed_below h.r k (by omega), boxed_below h.n k (by omega)⟩
theorem keep_set {B c i : Nat} {X Y : World} (h : Keep B c X Y) (h1 : i < B) (h2 : i ≠ c) (u : Value) : Keep B c X (Y.setCell ⟨i, 0, none⟩ u) := h.setCell (p := ⟨i, 0, none⟩) h1 h2 u
set_option maxHeartbeats 4000000 in
set_option maxRecDepth 20000 in
theorem implDivWords (w : World) (h l b : Int) (wfh : (Lit.int .i64 h).wf = true) (wfl : (Lit.int .i64 l).wf = true) (wfb : (Lit.int .i64 b).wf = true) : Calls Tryz.prog 206 #[.int .i64 h, .int .i64 l, .int .i64 b] w fun e w' => e = .returned (.tuple #[.int .i64 (Pl.dvQ h l b), .int .i64 (Pl.dvR h l b), .int .i64 (Pl.dvN h l b), .bool (Pl.dOk h l b)]) ∧ Kept 0 0 w w' := by
  have no : Pl.dOk h l b = false → Hid (Pl.dvQ h l b = 0 ∧ Pl.dvR h l b = 0 ∧ Pl.dvN h l b = 0 ∧ Pl.dOk h l b = false) := fun q => by
    refine hide ⟨?_, ?_, ?_, q⟩ <;> simp [Pl.dvQ, Pl.dvR, Pl.dvN, q]
  cases hh : Pl.wOk h
  · have E := no (by simp [Pl.dOk, hh])
    clear no
    go_enter Tryz.func206, Tryz.ntmps206
    go_wp2_with (go_at_call 89; refine (isWordM _ _ (by assumption)).mono ?_; rintro e9 w9 ⟨rfl, hw⟩; have hw2 := hw.symm; clear hw; subst hw2; rw [hh])
    exact bodyPost_ret (v := .tuple #[.int .i64 0, .int .i64 0, .int .i64 0, .bool false]) (by simp [results, Tryz.results206, go_sem]) rfl ⟨by rw [E.out.1, E.out.2.1, E.out.2.2.1, E.out.2.2.2], kept_alloc _ _⟩
  · cases hl : Pl.wOk l
    · have E := no (by simp [Pl.dOk, hl])
      clear no
      go_enter Tryz.func206, Tryz.ntmps206
      go_wp2_with (go_at_call 89; refine (isWordM _ _ (by assumption)).mono ?_; rintro e9 w9 ⟨rfl, hw⟩; have hw2 := hw.symm; clear hw; subst hw2; first | rw [hh] | rw [hl])
      exact bodyPost_ret (v := .tuple #[.int .i64 0, .int .i64 0, .int .i64 0, .bool false]) (by simp [results, Tryz.results206, go_sem]) rfl ⟨by rw [E.out.1, E.out.2.1, E.out.2.2.1, E.out.2.2.2], kept_alloc _ _⟩
    · cases hb : Pl.wOk b
      · have E := no (by have : ¬ (1 ≤ b ∧ b ≤ 65535) := by intro q; simp [Pl.wOk] at hb; omega
                         simp [Pl.dOk]; omega)
        clear no
        go_enter Tryz.func206, Tryz.ntmps206
        go_wp2_with (go_at_call 89; refine (isWordM _ _ (by assumption)).mono ?_; rintro e9 w9 ⟨rfl, hw⟩; have hw2 := hw.symm; clear hw; subst hw2; first | rw [hh] | rw [hl] | rw [hb])
        exact bodyPost_ret (v := .tuple #[.int .i64 0, .int .i64 0, .int .i64 0, .bool false]) (by simp [results, Tryz.results206, go_sem]) rfl ⟨by rw [E.out.1, E.out.2.1, E.out.2.2.1, E.out.2.2.2], kept_alloc _ _⟩
      · obtain ⟨h0, h1⟩ := Pl.wOk_ok hh
        obtain ⟨l0, l1⟩ := Pl.wOk_ok hl
        obtain ⟨b0, b1⟩ := Pl.wOk_ok hb
        by_cases hc : b ≤ h
        · have E := no (by simp [Pl.dOk]; omega)
          clear no
          go_enter Tryz.func206, Tryz.ntmps206
          go_wp2_with (go_at_call 89; refine (isWordM _ _ (by assumption)).mono ?_; rintro e9 w9 ⟨rfl, hw⟩; have hw2 := hw.symm; clear hw; subst hw2; first | rw [hh] | rw [hl] | rw [hb])
          exact bodyPost_ret (v := .tuple #[.int .i64 0, .int .i64 0, .int .i64 0, .bool false]) (by simp [results, Tryz.results206, go_sem]) rfl ⟨by rw [E.out.1, E.out.2.1, E.out.2.2.1, E.out.2.2.2], kept_alloc _ _⟩
        · clear no
          have ok : Pl.dOk h l b = true := by simp [Pl.dOk, hh, hl]; omega
          have E : Hid (Pl.dvQ h l b = Pl.dQ h l b 16 ∧ Pl.dvR h l b = Pl.dR h l b 16 ∧ Pl.dvN h l b = Pl.dN h l b 16 ∧ Pl.dOk h l b = true) := by
            refine hide ⟨?_, ?_, ?_, ok⟩ <;> simp [Pl.dvQ, Pl.dvR, Pl.dvN, ok]
          clear ok
          refine (callsIn_wide (n := 9)).1 (callsIn_of_wp_marks Tryz.func206 rfl trivial ?_ rfl)
          simp only [Tryz.ntmps206, List.size_toArray, List.length_cons, List.length_nil, Nat.reduceAdd, Nat.reduceSub, Array.replicate_succ, Array.replicate_zero, List.push_toArray, List.append_toArray, List.nil_append, List.cons_append]
          gi_wp2_with (first | (refine ⟨trivial, ?_⟩; gi_at_call 89; refine (callsIn_wide.2 (isWordM _ _ (by assumption))).mono ?_; rintro e9 w9 ⟨rfl, hw⟩; have hw2 := hw.symm; clear hw; subst hw2; first | rw [hh] | rw [hl] | rw [hb]) | (refine ⟨trivial, ?_⟩; gi_at_call 227; refine (callsIn_wide.2 (bitsDown l _)).mono ?_; rintro e9 w9 ⟨rfl, hw⟩; have hw2 := hw.symm; clear hw; subst hw2))
          have hY : Boxed (((((w.alloc (.cells #[.int .i64 b] 3)).alloc (.cells #[.int .i64 0] 3)).alloc (.cells #[.int .i64 h] 3)).alloc (.cells #[.int .i64 0] 3)).alloc (.cells #[.int .i64 l] 3)) (w.heap.size + 0) 3 (.int .i64 b) := by
            have := (((((Boxed.new w 3 (.int .i64 b)).alloc (.cells #[.int .i64 0] 3)).alloc (.cells #[.int .i64 h] 3)).alloc (.cells #[.int .i64 0] 3)).alloc (.cells #[.int .i64 l] 3))
            simpa using this
          have hQ : Boxed (((((w.alloc (.cells #[.int .i64 b] 3)).alloc (.cells #[.int .i64 0] 3)).alloc (.cells #[.int .i64 h] 3)).alloc (.cells #[.int .i64 0] 3)).alloc (.cells #[.int .i64 l] 3)) (w.heap.size + 1) 3 (.int .i64 0) := by
            have := ((((Boxed.new (w.alloc (.cells #[.int .i64 b] 3)) 3 (.int .i64 0)).alloc (.cells #[.int .i64 h] 3)).alloc (.cells #[.int .i64 0] 3)).alloc (.cells #[.int .i64 l] 3))
            simpa using this
          have hR : Boxed (((((w.alloc (.cells #[.int .i64 b] 3)).alloc (.cells #[.int .i64 0] 3)).alloc (.cells #[.int .i64 h] 3)).alloc (.cells #[.int .i64 0] 3)).alloc (.cells #[.int .i64 l] 3)) (w.heap.size + 2) 3 (.int .i64 h) := by
            have := (((Boxed.new ((w.alloc (.cells #[.int .i64 b] 3)).alloc (.cells #[.int .i64 0] 3)) 3 (.int .i64 h)).alloc (.cells #[.int .i64 0] 3)).alloc (.cells #[.int .i64 l] 3))
            simpa using this
          have hN : Boxed (((((w.alloc (.cells #[.int .i64 b] 3)).alloc (.cells #[.int .i64 0] 3)).alloc (.cells #[.int .i64 h] 3)).alloc (.cells #[.int .i64 0] 3)).alloc (.cells #[.int .i64 l] 3)) (w.heap.size + 3) 3 (.int .i64 0) := by
            have := ((Boxed.new (((w.alloc (.cells #[.int .i64 b] 3)).alloc (.cells #[.int .i64 0] 3)).alloc (.cells #[.int .i64 h] 3)) 3 (.int .i64 0)).alloc (.cells #[.int .i64 l] 3))
            simpa using this
          have hC : Boxed (((((w.alloc (.cells #[.int .i64 b] 3)).alloc (.cells #[.int .i64 0] 3)).alloc (.cells #[.int .i64 h] 3)).alloc (.cells #[.int .i64 0] 3)).alloc (.cells #[.int .i64 l] 3)) (w.heap.size + 4) 3 (.int .i64 l) := by
            have := (Boxed.new ((((w.alloc (.cells #[.int .i64 b] 3)).alloc (.cells #[.int .i64 0] 3)).alloc (.cells #[.int .i64 h] 3)).alloc (.cells #[.int .i64 0] 3)) 3 (.int .i64 l))
            simpa using this
          have hBW : Below w.heap.size w (((((w.alloc (.cells #[.int .i64 b] 3)).alloc (.cells #[.int .i64 0] 3)).alloc (.cells #[.int .i64 h] 3)).alloc (.cells #[.int .i64 0] 3)).alloc (.cells #[.int .i64 l] 3)) := (((((Below.refl _ w).alloc (Nat.le_refl _) _).alloc (by simp) _).alloc (by simp; omega) _).alloc (by simp; omega) _).alloc (by simp; omega) _
          have hSz : (((((w.alloc (.cells #[.int .i64 b] 3)).alloc (.cells #[.int .i64 0] 3)).alloc (.cells #[.int .i64 h] 3)).alloc (.cells #[.int .i64 0] 3)).alloc (.cells #[.int .i64 l] 3)).heap.size = w.heap.size + 5 := by simp
          revert hY hQ hR hN hC hBW hSz
          generalize (((((w.alloc (.cells #[.int .i64 b] 3)).alloc (.cells #[.int .i64 0] 3)).alloc (.cells #[.int .i64 h] 3)).alloc (.cells #[.int .i64 0] 3)).alloc (.cells #[.int .i64 l] 3)) = w0
          intro hY hQ hR hN hC hBW hSz
          have HI := hide (fun m hm => Pl.div_inv h0 (show h < b by omega) l0 m hm)
          refine wp_range (downGives hl (w.heap.size + 4)) rfl (enters_of Tryz.func245 (by kernel_rfl) rfl) hC (fun _ => rfl)
            (fun k X => DvAt w X b (Pl.dQ h l b k) (Pl.dR h l b k) (Pl.dN h l b k))
            (fun k X Y hs hb => hs.below hb (by omega))
            ⟨hBW, hY, hQ, hR, hN⟩
            (fun k => { tmps := #[.int .i64 h, .int .i64 l, .int .i64 b, undef, undef, .pointer (some ⟨w.heap.size, 0, none⟩), .int .i64 0, .int .i64 0, .int .i64 0, .bool false, .pointer (some ⟨w.heap.size + 1, 0, none⟩), .pointer (some ⟨w.heap.size + 2, 0, none⟩), .pointer (some ⟨w.heap.size + 3, 0, none⟩), .int .i64 (Pl.wbit l (15 - k)), .int .i64 h, .bool true, .bool false, .bool false, .int .i64 l, .bool true, .bool false, .bool false, .bool false, .int .i64 b, .bool true, .bool false, .bool false, .bool false, .int .i64 h, .int .i64 b, .bool (decide (b ≤ h)), .bool (decide (b ≤ h)), .int .i64 h, .int .i64 l, .func (.func 245) #[] #[.pointer (some ⟨w.heap.size + 4, 0, none⟩)], .int .i64 (Pl.wbit l (15 - k)), undef, undef, undef, undef, undef, undef, undef, undef, undef, undef, undef, undef, undef, undef, undef, undef, undef, undef, undef], defers := [] }) ?assign ?body ?done
          case assign =>
            intro l' k X K hK
            gi_wp2
            exact hK
          case body =>
            intro l' k X hk hD hs
            rw [hSz] at hs ⊢
            have hcY := hD.y.cell
            have hcQ := hD.q.cell
            have hcR := hD.r.cell
            have hcN := hD.n.cell
            have hfQ := hD.q.frozen
            have hfR := hD.r.frozen
            have hfN := hD.n.frozen
            obtain ⟨⟨r0, r1⟩, _, q0, q1⟩ := HI.out k (by omega)
            have q2 := Pl.p2_le (show k ≤ 16 by omega)
            replace q1 : Pl.dQ h l b k ≤ 65536 := by omega
            clear q2
            obtain ⟨n0, n1⟩ := dN_bd h l b k
            replace n1 : Pl.dN h l b k ≤ 16 := by omega
            have t1 : 0 ≤ Pl.wbit l (15 - k) ∧ Pl.wbit l (15 - k) ≤ 1 := by have := Pl.wbit_bd l (15 - k); omega
            have EQ : Hid (Pl.dQ h l b (k + 1) = 2 * Pl.dQ h l b k + (if b ≤ 2 * Pl.dR h l b k + Pl.wbit l (15 - k) then 1 else 0)) := hide rfl
            have ER : Hid (Pl.dR h l b (k + 1) = if b ≤ 2 * Pl.dR h l b k + Pl.wbit l (15 - k) then 2 * Pl.dR h l b k + Pl.wbit l (15 - k) - b else 2 * Pl.dR h l b k + Pl.wbit l (15 - k)) := hide rfl
            have EN : Hid (Pl.dN h l b (k + 1) = Pl.dN h l b k + (if b ≤ 2 * Pl.dR h l b k + Pl.wbit l (15 - k) then 1 else 0)) := hide rfl
            revert EQ ER EN
            generalize Pl.dQ h l b (k + 1) = q'
            generalize Pl.dR h l b (k + 1) = r'
            generalize Pl.dN h l b (k + 1) = n'
            revert hD hcQ hcR hcN r0 r1 q0 q1 n0 n1 t1
            generalize Pl.dQ h l b k = q
            generalize Pl.dR h l b k = r
            generalize Pl.dN h l b k = n
            generalize Pl.wbit l (15 - k) = t
            intro hD hcQ hcR hcN r0 r1 q0 q1 n0 n1 t1 EQ ER EN
            clear HI E
            by_cases hcmp : b ≤ r * 2 + t
            · have e1 : q' = q * 2 + 1 := by have := EQ.out; rw [if_pos (by omega)] at this; omega
              have e2 : r' = r * 2 + t - b := by have := ER.out; rw [if_pos (by omega)] at this; omega
              have e3 : n' = n + 1 := by have := EN.out; rw [if_pos (by omega)] at this; omega
              subst e1 e2 e3
              clear EQ ER EN
              gi_wp2
              exact ⟨((((hD.setQ _).setR _).setR _).setQ _).setN _, keep_set (keep_set (keep_set (keep_set (keep_set (Keep.refl _ _ _) (by omega) (by omega) _) (by omega) (by omega) _) (by omega) (by omega) _) (by omega) (by omega) _) (by omega) (by omega) _⟩
            · have e1 : q' = q * 2 := by have := EQ.out; rw [if_neg (by omega)] at this; omega
              have e2 : r' = r * 2 + t := by have := ER.out; rw [if_neg (by omega)] at this; omega
              have e3 : n' = n := by have := EN.out; rw [if_neg (by omega)] at this; omega
              subst e1 e2 e3
              clear EQ ER EN
              gi_wp2
              exact ⟨(hD.setQ _).setR _, keep_set (keep_set (Keep.refl _ _ _) (by omega) (by omega) _) (by omega) (by omega) _⟩
          case done =>
            rintro X ⟨hB, hY, hQ, hR, hN⟩ hK
            have hcQ := hQ.cell
            have hcR := hR.cell
            have hcN := hN.cell
            gi_wp2
            gi_region
            all_goals gi_wp2
            all_goals
              refine ⟨by simp, .inl ⟨_, _, rfl, run_takeDeferred hK, ?_⟩⟩
              refine ⟨.tuple #[.int .i64 (Pl.dQ h l b 16), .int .i64 (Pl.dR h l b 16), .int .i64 (Pl.dN h l b 16), .bool true], by simp [results, Tryz.results206, go_sem], by rw [E.out.1, E.out.2.1, E.out.2.2.1, E.out.2.2.2], kept_below (hB.drew.trans (below_put (by omega) _))⟩
end Go.Proofs.YtblddehlkaolbaaGreatDoor

namespace Go.Proofs.YtblddehlkaolbaaGreatDoor
open Go.RowKit
set_option linter.unusedVariables false
namespace Pl
def cbM (op q v : Int) : Int := bif op == 5 then bits .and .i64 q v else bif op == 6 then bits .or .i64 q v else bif op == 7 then bits .xor .i64 q v else bif op == 16 then mulL q v else bif op == 17 then dvQ 0 q v else v
def cbU (op q v : Int) : Int := bif op == 16 then mulH q v else 0
def cbV (op z q v : Int) : Int := bif op == 3 then addV z 0 q v else bif op == 4 then subV z 0 q v else bif op == 8 then q else cbM op q v
def cbF (op z f q v : Int) : Int := bif op == 3 then addF z 0 q v else bif op == 4 then subF z 0 q v else bif op == 8 then cmpF z f q v else bits .or .i64 (logF z f (cbM op q v)) (fl (cbU op q v != 0) 2)
end Pl
set_option maxRecDepth 100000 in
set_option maxHeartbeats 4000000 in
theorem combine (w : World) (op z r m k e s f q v : Int) (hop : op = 1 ∨ op = 3 ∨ op = 4 ∨ op = 5 ∨ op = 6 ∨ op = 7 ∨ op = 8 ∨ op = 16 ∨ op = 17) (q0 : 0 ≤ q) (q1 : q ≤ 65535) (v0 : 0 ≤ v) (v1 : v ≤ 65535) (M0 : 0 ≤ Pl.cbM op q v) (M1 : Pl.cbM op q v ≤ 65535) :
    Calls Tryz.prog 171 #[.agg #[.int .i64 op, .int .i64 z, .int .i64 r, .int .i64 m, .int .i64 k, .int .i64 e, .int .i64 s], .int .i64 f, .int .i64 q, .int .i64 v] w fun e' w' => e' = .returned (.tuple #[.int .i64 (Pl.cbV op z q v), .int .i64 (Pl.cbF op z f q v)]) ∧ Kept 0 0 w w' := by
  have wq : (Lit.int .i64 q).wf = true := wfSm (by omega) (by omega)
  have wv : (Lit.int .i64 v).wf = true := wfSm (by omega) (by omega)
  have b0 := hide M0
  have b1 := hide M1
  clear M0 M1
  rcases hop with rfl | rfl | rfl | rfl | rfl | rfl | rfl | rfl | rfl
  · have K0 := hide (kept_alloc w (.cells #[.int .i64 1, .int .i64 z, .int .i64 r, .int .i64 m, .int .i64 k, .int .i64 e, .int .i64 s] 79))
    have A0 := hide (Blk.new w #[.int .i64 1, .int .i64 z, .int .i64 r, .int .i64 m, .int .i64 k, .int .i64 e, .int .i64 s] 79)
    obtain ⟨X, hX⟩ : ∃ X : World, w.alloc (.cells #[.int .i64 1, .int .i64 z, .int .i64 r, .int .i64 m, .int .i64 k, .int .i64 e, .int .i64 s] 79) = X := ⟨_, rfl⟩
    rw [hX] at K0 A0
    have p := A0.out.all
    go_enter Tryz.func171, Tryz.ntmps171
    go_wp2_with (first | (go_at_call 189; refine (flagsIf _ _ _).mono ?_; rintro e9 W9 ⟨rfl, hw⟩; have hw2 := hw.symm; clear hw; subst hw2) | (go_at_call 207; refine (logicFlags _ _ _ _ (by have := b0.out; first | omega | (simp only [Pl.cbM] at this; exact Int.le_trans (by decide) this)) (by have := b1.out; first | omega | (simp only [Pl.cbM] at this; exact Int.le_trans this (by decide)))).mono ?_; rintro e9 W9 ⟨rfl, hw⟩; have hw2 := hw.symm; clear hw; subst hw2))
    go_ret2
    exact ⟨rfl, K0.out⟩
  · have K0 := hide (kept_alloc w (.cells #[.int .i64 3, .int .i64 z, .int .i64 r, .int .i64 m, .int .i64 k, .int .i64 e, .int .i64 s] 79))
    have A0 := hide (Blk.new w #[.int .i64 3, .int .i64 z, .int .i64 r, .int .i64 m, .int .i64 k, .int .i64 e, .int .i64 s] 79)
    obtain ⟨X, hX⟩ : ∃ X : World, w.alloc (.cells #[.int .i64 3, .int .i64 z, .int .i64 r, .int .i64 m, .int .i64 k, .int .i64 e, .int .i64 s] 79) = X := ⟨_, rfl⟩
    rw [hX] at K0 A0
    have p := A0.out.all
    go_enter Tryz.func171, Tryz.ntmps171
    go_wp2_with (first | (go_at_call 202; refine (addFlags _ _ _ _ _ (by omega) (by omega) (by omega) (by omega)).mono ?_; rintro e9 W9 ⟨rfl, hw⟩; have hw2 := hw.symm; clear hw; subst hw2))
    go_ret2
    exact ⟨rfl, K0.out⟩
  · have K0 := hide (kept_alloc w (.cells #[.int .i64 4, .int .i64 z, .int .i64 r, .int .i64 m, .int .i64 k, .int .i64 e, .int .i64 s] 79))
    have A0 := hide (Blk.new w #[.int .i64 4, .int .i64 z, .int .i64 r, .int .i64 m, .int .i64 k, .int .i64 e, .int .i64 s] 79)
    obtain ⟨X, hX⟩ : ∃ X : World, w.alloc (.cells #[.int .i64 4, .int .i64 z, .int .i64 r, .int .i64 m, .int .i64 k, .int .i64 e, .int .i64 s] 79) = X := ⟨_, rfl⟩
    rw [hX] at K0 A0
    have p := A0.out.all
    go_enter Tryz.func171, Tryz.ntmps171
    go_wp2_with (first | (go_at_call 203; refine (subFlags _ _ _ _ _ (by omega) (by omega) (by omega) (by omega)).mono ?_; rintro e9 W9 ⟨rfl, hw⟩; have hw2 := hw.symm; clear hw; subst hw2))
    go_ret2
    exact ⟨rfl, K0.out⟩
  · have K0 := hide (kept_alloc w (.cells #[.int .i64 5, .int .i64 z, .int .i64 r, .int .i64 m, .int .i64 k, .int .i64 e, .int .i64 s] 79))
    have A0 := hide (Blk.new w #[.int .i64 5, .int .i64 z, .int .i64 r, .int .i64 m, .int .i64 k, .int .i64 e, .int .i64 s] 79)
    obtain ⟨X, hX⟩ : ∃ X : World, w.alloc (.cells #[.int .i64 5, .int .i64 z, .int .i64 r, .int .i64 m, .int .i64 k, .int .i64 e, .int .i64 s] 79) = X := ⟨_, rfl⟩
    rw [hX] at K0 A0
    have p := A0.out.all
    go_enter Tryz.func171, Tryz.ntmps171
    go_wp2_with (first | (go_at_call 189; refine (flagsIf _ _ _).mono ?_; rintro e9 W9 ⟨rfl, hw⟩; have hw2 := hw.symm; clear hw; subst hw2) | (go_at_call 207; refine (logicFlags _ _ _ _ (by have := b0.out; first | omega | (simp only [Pl.cbM] at this; exact Int.le_trans (by decide) this)) (by have := b1.out; first | omega | (simp only [Pl.cbM] at this; exact Int.le_trans this (by decide)))).mono ?_; rintro e9 W9 ⟨rfl, hw⟩; have hw2 := hw.symm; clear hw; subst hw2))
    go_ret2
    exact ⟨rfl, K0.out⟩
  · have K0 := hide (kept_alloc w (.cells #[.int .i64 6, .int .i64 z, .int .i64 r, .int .i64 m, .int .i64 k, .int .i64 e, .int .i64 s] 79))
    have A0 := hide (Blk.new w #[.int .i64 6, .int .i64 z, .int .i64 r, .int .i64 m, .int .i64 k, .int .i64 e, .int .i64 s] 79)
    obtain ⟨X, hX⟩ : ∃ X : World, w.alloc (.cells #[.int .i64 6, .int .i64 z, .int .i64 r, .int .i64 m, .int .i64 k, .int .i64 e, .int .i64 s] 79) = X := ⟨_, rfl⟩
    rw [hX] at K0 A0
    have p := A0.out.all
    go_enter Tryz.func171, Tryz.ntmps171
    go_wp2_with (first | (go_at_call 189; refine (flagsIf _ _ _).mono ?_; rintro e9 W9 ⟨rfl, hw⟩; have hw2 := hw.symm; clear hw; subst hw2) | (go_at_call 207; refine (logicFlags _ _ _ _ (by have := b0.out; first | omega | (simp only [Pl.cbM] at this; exact Int.le_trans (by decide) this)) (by have := b1.out; first | omega | (simp only [Pl.cbM] at this; exact Int.le_trans this (by decide)))).mono ?_; rintro e9 W9 ⟨rfl, hw⟩; have hw2 := hw.symm; clear hw; subst hw2))
    go_ret2
    exact ⟨rfl, K0.out⟩
  · have K0 := hide (kept_alloc w (.cells #[.int .i64 7, .int .i64 z, .int .i64 r, .int .i64 m, .int .i64 k, .int .i64 e, .int .i64 s] 79))
    have A0 := hide (Blk.new w #[.int .i64 7, .int .i64 z, .int .i64 r, .int .i64 m, .int .i64 k, .int .i64 e, .int .i64 s] 79)
    obtain ⟨X, hX⟩ : ∃ X : World, w.alloc (.cells #[.int .i64 7, .int .i64 z, .int .i64 r, .int .i64 m, .int .i64 k, .int .i64 e, .int .i64 s] 79) = X := ⟨_, rfl⟩
    rw [hX] at K0 A0
    have p := A0.out.all
    go_enter Tryz.func171, Tryz.ntmps171
    go_wp2_with (first | (go_at_call 189; refine (flagsIf _ _ _).mono ?_; rintro e9 W9 ⟨rfl, hw⟩; have hw2 := hw.symm; clear hw; subst hw2) | (go_at_call 207; refine (logicFlags _ _ _ _ (by have := b0.out; first | omega | (simp only [Pl.cbM] at this; exact Int.le_trans (by decide) this)) (by have := b1.out; first | omega | (simp only [Pl.cbM] at this; exact Int.le_trans this (by decide)))).mono ?_; rintro e9 W9 ⟨rfl, hw⟩; have hw2 := hw.symm; clear hw; subst hw2))
    go_ret2
    exact ⟨rfl, K0.out⟩
  · have K0 := hide (kept_alloc w (.cells #[.int .i64 8, .int .i64 z, .int .i64 r, .int .i64 m, .int .i64 k, .int .i64 e, .int .i64 s] 79))
    have A0 := hide (Blk.new w #[.int .i64 8, .int .i64 z, .int .i64 r, .int .i64 m, .int .i64 k, .int .i64 e, .int .i64 s] 79)
    obtain ⟨X, hX⟩ : ∃ X : World, w.alloc (.cells #[.int .i64 8, .int .i64 z, .int .i64 r, .int .i64 m, .int .i64 k, .int .i64 e, .int .i64 s] 79) = X := ⟨_, rfl⟩
    rw [hX] at K0 A0
    have p := A0.out.all
    go_enter Tryz.func171, Tryz.ntmps171
    go_wp2_with (first | (go_at_call 204; refine (cmpFlags _ _ _ _ _ (by omega) (by omega) (by omega) (by omega)).mono ?_; rintro e9 W9 ⟨rfl, hw⟩; have hw2 := hw.symm; clear hw; subst hw2))
    go_ret2
    exact ⟨rfl, K0.out⟩
  · have K0 := hide (kept_alloc w (.cells #[.int .i64 16, .int .i64 z, .int .i64 r, .int .i64 m, .int .i64 k, .int .i64 e, .int .i64 s] 79))
    have A0 := hide (Blk.new w #[.int .i64 16, .int .i64 z, .int .i64 r, .int .i64 m, .int .i64 k, .int .i64 e, .int .i64 s] 79)
    obtain ⟨X, hX⟩ : ∃ X : World, w.alloc (.cells #[.int .i64 16, .int .i64 z, .int .i64 r, .int .i64 m, .int .i64 k, .int .i64 e, .int .i64 s] 79) = X := ⟨_, rfl⟩
    rw [hX] at K0 A0
    have p := A0.out.all
    go_enter Tryz.func171, Tryz.ntmps171
    go_wp2_with (first | (go_at_call 189; refine (flagsIf _ _ _).mono ?_; rintro e9 W9 ⟨rfl, hw⟩; have hw2 := hw.symm; clear hw; subst hw2) | (go_at_call 207; refine (logicFlags _ _ _ _ (by have := b0.out; first | omega | (simp only [Pl.cbM] at this; exact Int.le_trans (by decide) this)) (by have := b1.out; first | omega | (simp only [Pl.cbM] at this; exact Int.le_trans this (by decide)))).mono ?_; rintro e9 W9 ⟨rfl, hw⟩; have hw2 := hw.symm; clear hw; subst hw2) | (go_at_call 205; refine (implMulWords _ q v wq wv).mono ?_; rintro e9 W1 ⟨rfl, k1⟩; have K1 := hide (K0.out.trans k1); have p1 := (A0.out.kept0 k1).all; clear k1))
    go_ret2
    exact ⟨rfl, K1.out⟩
  · have K0 := hide (kept_alloc w (.cells #[.int .i64 17, .int .i64 z, .int .i64 r, .int .i64 m, .int .i64 k, .int .i64 e, .int .i64 s] 79))
    have A0 := hide (Blk.new w #[.int .i64 17, .int .i64 z, .int .i64 r, .int .i64 m, .int .i64 k, .int .i64 e, .int .i64 s] 79)
    obtain ⟨X, hX⟩ : ∃ X : World, w.alloc (.cells #[.int .i64 17, .int .i64 z, .int .i64 r, .int .i64 m, .int .i64 k, .int .i64 e, .int .i64 s] 79) = X := ⟨_, rfl⟩
    rw [hX] at K0 A0
    have p := A0.out.all
    go_enter Tryz.func171, Tryz.ntmps171
    go_wp2_with (first | (go_at_call 189; refine (flagsIf _ _ _).mono ?_; rintro e9 W9 ⟨rfl, hw⟩; have hw2 := hw.symm; clear hw; subst hw2) | (go_at_call 207; refine (logicFlags _ _ _ _ (by have := b0.out; first | omega | (simp only [Pl.cbM] at this; exact Int.le_trans (by decide) this)) (by have := b1.out; first | omega | (simp only [Pl.cbM] at this; exact Int.le_trans this (by decide)))).mono ?_; rintro e9 W9 ⟨rfl, hw⟩; have hw2 := hw.symm; clear hw; subst hw2) | (go_at_call 206; refine (implDivWords _ 0 q v (by decide) wq wv).mono ?_; rintro e9 W1 ⟨rfl, k1⟩; have K1 := hide (K0.out.trans k1); have p1 := (A0.out.kept0 k1).all; clear k1))
    go_ret2
    exact ⟨rfl, K1.out⟩
end Go.Proofs.YtblddehlkaolbaaGreatDoor

namespace Go.Proofs.YtblddehlkaolbaaGreatDoor
open Go.RowKit
set_option linter.unusedVariables false
namespace Pl
theorem cb_ok {op z q v : Int} (hz : z = 1 ∨ z = 2) (hq : okv z q = true) (hv : okv z v = true) (h2 : op = 16 ∨ op = 17 → z = 2) (h0 : op = 17 → v ≠ 0) : okv z (cbM op q v) = true ∧ okv z (cbV op z q v) = true := by
  obtain ⟨o1, o2, o3⟩ := okv_bits hq hv
  have tq := top_ok hq
  have tv := top_ok hv
  have hM : okv z (cbM op q v) = true := by
    unfold cbM
    cases e5 : op == 5
    · cases e6 : op == 6
      · cases e7 : op == 7
        · cases e16 : op == 16
          · cases e17 : op == 17
            · exact hv
            · have ho : op = 17 := by simpa using e17
              have ez := h2 (.inr ho)
              subst ez
              have hv0 := h0 ho
              show okv 2 (dvQ 0 q v) = true
              have e : dvQ 0 q v = q / v := by
                have hk : dOk 0 q v = true := by simp [dOk, wOk]; omega
                unfold dvQ
                rw [if_pos hk]
                exact (steps_16 (by omega) (by omega) (by omega)).1
              rw [e]
              have h1 : 0 ≤ q / v := Int.ediv_nonneg (by omega) (by omega)
              have h3 : q / v ≤ q := Int.ediv_le_self _ (by omega)
              simp [okv, top]; omega
          · have ho : op = 16 := by simpa using e16
            have ez := h2 (.inl ho)
            subst ez
            show okv 2 (mulL q v) = true
            unfold mulL
            simp only [okv, top]
            split
            · simp; omega
            · rfl
        · exact o3
      · exact o2
    · exact o1
  refine ⟨hM, ?_⟩
  unfold cbV
  cases op == 3
  · cases op == 4
    · cases op == 8
      · exact hM
      · exact hq
    · exact okv_subV hz
  · exact okv_addV hq
theorem read_no {c D : Mc} {z m k e : Int} (hf : c.f = ftNo) (hD : D = c.read z m k e) (h : (D.f.v != 0) = false) : D.f = ftNo := by
  subst hD
  unfold Mc.read at *
  cases hi : Mc.inReg m
  · rw [hi] at h
    have ee : ((c.plc z m k e).acc 1 z (placeV c.r z m k e) 0).f = Mc.accF ftNo 1 z (placeV c.r z m k e) := by show Mc.accF c.f _ _ _ = _; rw [hf]
    show ((c.plc z m k e).acc 1 z (placeV c.r z m k e) 0).f = ftNo
    rw [ee]
    exact (accF_no (by rw [← ee]; exact h)).2
  · exact hf
/-- what takeOperand leaves; the fault is the one that it answers -/
def Mc.tk' (d : Mc) (op z r v : Int) : Mc := bif op == 9 then d.setA r.toNat v else bif (op == 17) && (v == 0) then { d with f := ⟨5, 0, 0, 0, false⟩ } else ((d.put z r (cbV op z (d.low z r) v)).setF (cbF op z d.r.f (d.low z r) v))
def Mc.tk (c : Mc) (x : In) : Mc := bif (c.read x.z x.m x.k x.e).fine then (c.read x.z x.m x.k x.e).tk' x.op x.z x.r (c.readV x.z x.m x.k x.e) else c.read x.z x.m x.k x.e
end Pl
theorem and7 {a b c d e f g h : Prop} (x : a ∧ b ∧ c ∧ d ∧ e ∧ f ∧ g) (y : h) : a ∧ b ∧ c ∧ d ∧ e ∧ f ∧ g ∧ h := ⟨x.1, x.2.1, x.2.2.1, x.2.2.2.1, x.2.2.2.2.1, x.2.2.2.2.2.1, x.2.2.2.2.2.2, y⟩
set_option maxRecDepth 100000 in
set_option maxHeartbeats 8000000 in
theorem cTake (w : World) (lo b g : Nat) (c : Pl.Mc) (h : Bool) (op z r m k e s : Int) (hC : CAt w lo b g c h) (G : Pl.GM c) (hf : c.f = Pl.ftNo) (B : Pl.InB ⟨op, z, r, m, k, e, s⟩) (hop : op = 9 ∨ op = 1 ∨ op = 3 ∨ op = 4 ∨ op = 5 ∨ op = 6 ∨ op = 7 ∨ op = 8 ∨ op = 16 ∨ op = 17) (h1 : m = 1 → z = 2) (h2 : op = 16 ∨ op = 17 → z = 2) :
    Calls Tryz.prog 141 #[.pointer (some ⟨b, 0, none⟩), .agg #[.int .i64 op, .int .i64 z, .int .i64 r, .int .i64 m, .int .i64 k, .int .i64 e, .int .i64 s]] w fun e' w' => ∃ g', e' = .returned (.agg (ftC (c.tk ⟨op, z, r, m, k, e, s⟩).f)) ∧ CAt w' lo b g' (c.tk ⟨op, z, r, m, k, e, s⟩) h ∧ Since w b (b + 1) g w' g' := by
  have HB := hide B
  clear B
  obtain ⟨l0, l1, l2, l3, l4⟩ := hC.lt
  have HG := hide G
  have K0 := hide (kept_new (kept_alloc w (.cells #[.int .i64 op, .int .i64 z, .int .i64 r, .int .i64 m, .int .i64 k, .int .i64 e, .int .i64 s] 79)) (.cells #[.int .i64 0, .int .i64 0, .int .i64 0, .int .i64 0, .bool false] 38))
  have C0 := hide ((hC.alloc (.cells #[.int .i64 op, .int .i64 z, .int .i64 r, .int .i64 m, .int .i64 k, .int .i64 e, .int .i64 s] 79)).alloc (.cells #[.int .i64 0, .int .i64 0, .int .i64 0, .int .i64 0, .bool false] 38))
  have A0 := hide ((Blk.new w #[.int .i64 op, .int .i64 z, .int .i64 r, .int .i64 m, .int .i64 k, .int .i64 e, .int .i64 s] 79).alloc (.cells #[.int .i64 0, .int .i64 0, .int .i64 0, .int .i64 0, .bool false] 38))
  have R0 := Blk.new (w.alloc (.cells #[.int .i64 op, .int .i64 z, .int .i64 r, .int .i64 m, .int .i64 k, .int .i64 e, .int .i64 s] 79)) #[.int .i64 0, .int .i64 0, .int .i64 0, .int .i64 0, .bool false] 38
  simp only [World.size_alloc] at R0
  replace R0 := hide R0
  obtain ⟨X, hX⟩ : ∃ X : World, (w.alloc (.cells #[.int .i64 op, .int .i64 z, .int .i64 r, .int .i64 m, .int .i64 k, .int .i64 e, .int .i64 s] 79)).alloc (.cells #[.int .i64 0, .int .i64 0, .int .i64 0, .int .i64 0, .bool false] 38) = X := ⟨_, rfl⟩
  rw [hX] at K0 C0 A0 R0
  have sX : w.heap.size + 1 < X.heap.size := R0.out.lt
  have p := A0.out.all
  clear hC G
  obtain ⟨D, hD⟩ : ∃ D, D = c.read z m k e := ⟨_, rfl⟩
  obtain ⟨V, hV⟩ : ∃ V, V = c.readV z m k e := ⟨_, rfl⟩
  obtain ⟨F, hF⟩ : ∃ F, F = D.f := ⟨_, rfl⟩
  have GD : Hid (Pl.GM D) := hide (by rw [hD]; exact HG.out.read HB.out.z HB.out.k0 HB.out.k1 HB.out.e0 HB.out.e1)
  have OV : Hid (Pl.okv z V = true) := hide (by rw [hV]; exact Pl.readV_in HG.out HB.out.z HB.out.k0 HB.out.k1 HB.out.e0 HB.out.e1 h1 HB.out.n7)
  have ET : Hid (c.tk ⟨op, z, r, m, k, e, s⟩ = bif !(F.v != 0) then D.tk' op z r V else D) := hide (by
    show (bif (c.read z m k e).fine then (c.read z m k e).tk' op z r (c.readV z m k e) else c.read z m k e) = _
    rw [← hD, ← hV, hF]; unfold Pl.Mc.fine; simp [bne])
  have HD := hide hD
  have HV := hide hV
  have HF := hide hF
  have H2 := hide h2
  have HO := hide hop
  clear hD hV hF h1 h2 hop
  go_enter Tryz.func141, Tryz.ntmps141
  go_wp2_with (first | (go_at_call 170; have z9 := C1; refine (cReadV _ lo b g c h z m k e C1.out HG.out hf HB.out.z HB.out.m0 HB.out.m1 HB.out.k0 HB.out.k1 HB.out.e0 HB.out.e1).mono ?_; rintro e9 W2 ⟨g', rfl, hc, hs⟩; rw [← HD.out] at hc ⊢; rw [← HV.out, ← HF.out]; unfold ftC; have C2 := hide (hc.alloc (.cells #[.int .i64 F.v, .int .i64 F.pc, .int .i64 F.ad, .int .i64 F.wo, .bool F.wr] 38)); have A2 := hide ((hs.blk A1.out (by omega) (by omega)).alloc (.cells #[.int .i64 F.v, .int .i64 F.pc, .int .i64 F.ad, .int .i64 F.wo, .bool F.wr] 38)); have R2 := hide ((hs.blk R1.out (by omega) (by omega)).alloc (.cells #[.int .i64 F.v, .int .i64 F.pc, .int .i64 F.ad, .int .i64 F.wo, .bool F.wr] 38)); have S2 := hide ((S1.out.trans hs).alloc (.cells #[.int .i64 F.v, .int .i64 F.pc, .int .i64 F.ad, .int .i64 F.wo, .bool F.wr] 38)); have L2 := hide (Blk.new W2 #[.int .i64 F.v, .int .i64 F.pc, .int .i64 F.ad, .int .i64 F.wo, .bool F.wr] 38); have z2 := hs.size; have n2 := hs.ne (b := w.heap.size + 1) R1.out.lt (by omega); have m2 := hs.ne (b := w.heap.size) A1.out.lt (by omega); clear hc hs) | (go_at_call 144; refine (cSlot _ lo b g c h ⟨op, z, r, m, k, e, s⟩ C0.out HG.out HB.out).mono ?_; rintro e9 W1 ⟨rfl, hc, hk⟩; have C1 := hide hc; have A1 := hide (A0.out.kept hk (by omega)); have R1 := hide (R0.out.kept hk (by omega)); have S1 := hide (((Since.refl w b (b + 1) g).any K0.out).keptS hk (Nat.le_refl _) (Nat.le_refl _)); have p1 := A1.out.all; clear hc hk))
  refine (isFault F _).mono ?_
  rintro e9 W4 ⟨rfl, kf⟩
  have C4 := hide (C2.out.any kf)
  have A4 := hide (A2.out.kept0 kf)
  have R4 := hide (R2.out.kept0 kf)
  have L4 := hide (L2.out.kept0 kf)
  have S4 := hide (S2.out.any kf)
  have p4 := A4.out.all
  have q4 := L4.out.all
  have r4 := R4.out.all
  have rf4 := R4.out.fz
  clear kf
  clear hX p p1
  cases hv : (F.v != 0)
  · have E1 : Hid (c.tk ⟨op, z, r, m, k, e, s⟩ = D.tk' op z r V) := hide (by rw [ET.out, hv]; rfl)
    have DF : Hid (D.f = Pl.ftNo) := hide (Pl.read_no hf HD.out (by rw [← HF.out]; exact hv))
    cases h9 : (op == 9)
    · cases h17 : (op == 17) <;> cases hV0 : (V == 0)
      case true.true =>
        have E2 : Hid (D.tk' op z r V = { D with f := ⟨5, 0, 0, 0, false⟩ }) := hide (by unfold Pl.Mc.tk'; rw [h9, h17, hV0]; rfl)
        go_wp2_with fail
        have KR := (((((kept_one W4 (w.heap.size + 1) 0 (.int .i64 5)).one 1 (.int .i64 0)).one 2 (.int .i64 0)).one 3 (.int .i64 0)).one 4 (.bool false))
        refine bodyPost_ret (v := .agg #[.int .i64 5, .int .i64 0, .int .i64 0, .int .i64 0, .bool false]) ?_ rfl ⟨g', ?_, ?_, (S4.out).mine KR (by omega)⟩
        · rw [results_one rfl]; go_simp
        · rw [E1.out, E2.out]; rfl
        · rw [E1.out, E2.out]; exact ((C4.out).kept KR (by omega) (by omega)).fx rfl rfl rfl rfl rfl
      all_goals
        have E2 : Hid (D.tk' op z r V = (D.put z r (Pl.cbV op z (D.low z r) V)).setF (Pl.cbF op z D.r.f (D.low z r) V)) := hide (by unfold Pl.Mc.tk'; rw [h9, h17, hV0]; rfl)
        have hop2 : op = 1 ∨ op = 3 ∨ op = 4 ∨ op = 5 ∨ op = 6 ∨ op = 7 ∨ op = 8 ∨ op = 16 ∨ op = 17 := by rcases HO.out with h | h; exact absurd h (by simpa using h9); exact h
        have CB : Hid (Pl.okv z (Pl.cbM op (D.low z r) V) = true ∧ Pl.okv z (Pl.cbV op z (D.low z r) V) = true) := hide (Pl.cb_ok HB.out.z (Pl.low_in GD.out HB.out.z HB.out.r0 HB.out.r1) OV.out H2.out (by intro ho hv; first | (simp [ho] at h17; done) | (simp [hv] at hV0)))
        have OQ := hide (Pl.low_in GD.out HB.out.z HB.out.r0 HB.out.r1)
        obtain ⟨Q, hQ⟩ : ∃ Q, Q = D.low z r := ⟨_, rfl⟩
        rw [← hQ] at E2 CB OQ
        have HQ := hide hQ
        have HP := hide hop2
        clear hQ hop2
        go_wp2_with fail
        clear p4 q4 r4 rf4
        obtain ⟨u0, u1, u2, u3, u4, u5, u6⟩ := A4.out.c7
        have u10 := C4.out.cF
        go_region_held3 (fun w' => w'.cell? ⟨w.heap.size, 0, none⟩ = some (.int .i64 op) ∧ w'.cell? ⟨w.heap.size, 1, none⟩ = some (.int .i64 z) ∧ w'.cell? ⟨w.heap.size, 2, none⟩ = some (.int .i64 r) ∧ w'.cell? ⟨w.heap.size, 3, none⟩ = some (.int .i64 m) ∧ w'.cell? ⟨w.heap.size, 4, none⟩ = some (.int .i64 k) ∧ w'.cell? ⟨w.heap.size, 5, none⟩ = some (.int .i64 e) ∧ w'.cell? ⟨w.heap.size, 6, none⟩ = some (.int .i64 s) ∧ w'.cell? ⟨b, 10, none⟩ = some (.int .i64 D.r.f)) (first | with_reducible exact and7 A6.out.c7 C6.out.cF | with_reducible exact and7 A5.out.c7 C5.out.cF | exact and7 (show Blk _ _ _ _ from A4.out).c7 C4.out.drew.cF)
          (first | (go_at_call 171; have z9 := A5; refine (combine _ op z r m k e s D.r.f Q V HP.out (by have := Pl.top_ok OQ.out; omega) (by have := Pl.top_ok OQ.out; omega) (by have := Pl.top_ok OV.out; omega) (by have := Pl.top_ok OV.out; omega) (by have := Pl.top_ok CB.out.1; omega) (by have := Pl.top_ok CB.out.1; omega)).mono ?_; rintro e9 W6 ⟨rfl, k6⟩; have C6 := hide (C5.out.any k6); have A6 := hide (A5.out.kept0 k6); have R6 := hide (R5.out.kept0 k6); have S6 := hide (S5.out.any k6); clear k6) | (go_at_call 172; refine (cDataK _ lo b g' D h z r C4.out.drew HB.out.z HB.out.r0 HB.out.r1).mono ?_; rintro e9 W5 ⟨rfl, kd⟩; rw [← HQ.out]; have k5 := undrewK kd; have C5 := hide (C4.out.any k5); have A5 := hide (A4.out.kept0 k5); have R5 := hide (R4.out.kept0 k5); have S5 := hide (S4.out.any k5); clear kd k5))
        clear u0 u1 u2 u3 u4 u5 u6 u10
        obtain ⟨MV, hMV⟩ : ∃ M, M = Pl.cbV op z Q V := ⟨_, rfl⟩
        obtain ⟨MF, hMF⟩ : ∃ M, M = Pl.cbF op z D.r.f Q V := ⟨_, rfl⟩
        rw [← hMV, ← hMF] at E2 ⊢
        rw [← hMV] at CB
        clear hMV hMF
        go_wp2_with fail
        have u1 := A6.out.cell (i := 1) rfl
        have u2 := A6.out.cell (i := 2) rfl
        go_region_held3 (fun w' => w'.cell? ⟨w.heap.size, 1, none⟩ = some (.int .i64 z) ∧ w'.cell? ⟨w.heap.size, 2, none⟩ = some (.int .i64 r)) (first | with_reducible exact ⟨A7.out.cell (i := 1) rfl, A7.out.cell (i := 2) rfl⟩ | exact ⟨(show Blk _ _ _ _ from A6.out).cell (i := 1) rfl, (show Blk _ _ _ _ from A6.out).cell (i := 2) rfl⟩)
          (first | (go_at_call 173; refine (cPut _ lo b g' D h z r MV C6.out.drew GD.out.g HB.out.r0 HB.out.r1 HB.out.z CB.out.2).mono ?_; rintro e9 W7 ⟨rfl, hc7, kd⟩; have k7 := undrewK kd; have C7 := hide hc7; have A7 := hide (A6.out.kept k7 (by omega)); have R7 := hide (R6.out.kept k7 (by omega)); have S7 := hide (S6.out.keptS k7 (Nat.le_refl _) (Nat.le_refl _)); clear hc7 kd k7))
        have cf := C7.out.cF
        have cz := C7.out.fz
        have rr := (R7.out.other b 10 (.int .i64 MF) (by omega)).all
        have rz := (R7.out.other b 10 (.int .i64 MF) (by omega)).fz
        go_wp2_with fail
        have KR := (((((kept_one (W7.setCell ⟨b, 10, none⟩ (.int .i64 MF)) (w.heap.size + 1) 0 (.int .i64 0)).one 1 (.int .i64 0)).one 2 (.int .i64 0)).one 3 (.int .i64 0)).one 4 (.bool false))
        refine bodyPost_ret (v := .agg #[.int .i64 0, .int .i64 0, .int .i64 0, .int .i64 0, .bool false]) ?_ rfl ⟨g', ?_, ?_, (S7.out.set b 10 (.int .i64 MF) (.inl (by omega))).mine KR (by omega)⟩
        · rw [results_one rfl]; go_simp
        · rw [E1.out, E2.out, show ((D.put z r MV).setF MF).f = Pl.ftNo from DF.out]; rfl
        · rw [E1.out, E2.out]; exact ((C7.out.setF MF).kept KR (by omega) (by omega))
    · have E2 : Hid (D.tk' op z r V = D.setA r.toNat V) := hide (by unfold Pl.Mc.tk'; rw [h9]; rfl)
      obtain ⟨n, rfl⟩ : ∃ n : Nat, r = (n : Int) := ⟨r.toNat, by have : 0 ≤ r := HB.out.r0; omega⟩
      have hn : n < 4 := by have : (n : Int) ≤ 3 := HB.out.r1; omega
      have i0 : (0 : Int) ≤ (n : Int) := by omega
      have i1 : (n : Int) < 4 := by omega
      go_wp2_with fail
      have cy := C4.out.cY hn
      have cz := C4.out.fz
      go_region
      have rr := (R4.out.other b (4 + n) (.int .i64 V) (by omega)).all
      have rz := (R4.out.other b (4 + n) (.int .i64 V) (by omega)).fz
      go_wp2_with fail
      have KR := (kept_drew (((((kept_one (W4.setCell ⟨b, 4 + n, none⟩ (.int .i64 V)) (w.heap.size + 1) 0 (.int .i64 0)).one 1 (.int .i64 0)).one 2 (.int .i64 0)).one 3 (.int .i64 0)).one 4 (.bool false)))
      refine bodyPost_ret (v := .agg #[.int .i64 0, .int .i64 0, .int .i64 0, .int .i64 0, .bool false]) ?_ rfl ⟨g', ?_, ?_, (S4.out.set b (4 + n) (.int .i64 V) (.inl (by omega))).mine KR (by omega)⟩
      · rw [results_one rfl]; go_simp
      · rw [E1.out, E2.out, show (D.setA (n : Int).toNat V).f = Pl.ftNo from DF.out]; rfl
      · rw [E1.out, E2.out]; exact ((C4.out.setY GD.out.g.a4 hn V).kept KR (by omega) (by omega))
  · have E1 : Hid (c.tk ⟨op, z, r, m, k, e, s⟩ = D) := hide (by rw [ET.out, hv]; rfl)
    go_wp2_with fail
    have KR := (((((kept_one W4 (w.heap.size + 1) 0 (.int .i64 F.v)).one 1 (.int .i64 F.pc)).one 2 (.int .i64 F.ad)).one 3 (.int .i64 F.wo)).one 4 (.bool F.wr))
    refine bodyPost_ret (v := .agg #[.int .i64 F.v, .int .i64 F.pc, .int .i64 F.ad, .int .i64 F.wo, .bool F.wr]) ?_ rfl ⟨g', ?_, ?_, (S4.out).mine KR (by omega)⟩
    · rw [results_one rfl]; go_simp
    · rw [E1.out, ← HF.out]; rfl
    · rw [E1.out]; exact ((C4.out).kept KR (by omega) (by omega))
end Go.Proofs.YtblddehlkaolbaaGreatDoor

namespace Go.Proofs.YtblddehlkaolbaaGreatDoor
open Go.RowKit
set_option linter.unusedVariables false
namespace Pl
/-- what giveData leaves -/
def Mc.gv (c : Mc) (x : In) : Mc := ((c.setF (logF x.z c.r.f (c.low x.z x.r))).slot x.z x.m x.k x.e).write x.z x.m x.k (c.readA x.z x.m x.k x.e) (c.low x.z x.r)
/-- what changeOperand leaves -/
def chV (s z v : Int) : Int := bif s == 1 then subV z 0 0 v else bif s == 2 then top z - 1 - v else v
def chF (s z f v : Int) : Int := bif s == 1 then subF z 0 0 v else logF z f (chV s z v)
def Mc.ch' (d : Mc) (z m k a s v : Int) : Mc := bif s == 3 then d.setF (chF s z d.r.f v) else (d.setF (chF s z d.r.f v)).write z m k a (chV s z v)
def Mc.ch (c : Mc) (x : In) : Mc := bif x.s == 0 then (c.slot x.z x.m x.k x.e).ch' x.z x.m x.k (c.readA x.z x.m x.k x.e) 0 0 else bif (c.read x.z x.m x.k x.e).fine then (c.read x.z x.m x.k x.e).ch' x.z x.m x.k (c.readA x.z x.m x.k x.e) x.s (c.readV x.z x.m x.k x.e) else c.read x.z x.m x.k x.e
theorem nat_xor_top (n x : Nat) (h : x < 2 ^ n) : x ^^^ (2 ^ n - 1) = 2 ^ n - (x + 1) := by
  apply Nat.eq_of_testBit_eq
  intro i
  rw [Nat.testBit_xor, Nat.testBit_two_pow_sub_one, Nat.testBit_two_pow_sub_succ h]
  by_cases hi : i < n
  · simp [hi]
  · have : x.testBit i = false := Nat.testBit_lt_two_pow (Nat.lt_of_lt_of_le h (Nat.pow_le_pow_right (by decide) (by omega)))
    simp [hi, this]
theorem xor_top {z v : Int} (hz : z = 1 ∨ z = 2) (hv : okv z v = true) : bits .xor .i64 v (top z - 1) = top z - 1 - v := by
  have tv := top_ok hv
  rcases hz with rfl | rfl
  · obtain ⟨n, rfl⟩ : ∃ n : Nat, v = (n : Int) := ⟨v.toNat, by omega⟩
    have e := (bits_nat n 255 (by omega) (by decide)).2.2
    show bits .xor .i64 (n : Int) ((255 : Nat) : Int) = _
    rw [e, nat_xor_top 8 n (by omega)]
    show ((256 - (n + 1) : Nat) : Int) = 256 - 1 - (n : Int)
    omega
  · obtain ⟨n, rfl⟩ : ∃ n : Nat, v = (n : Int) := ⟨v.toNat, by omega⟩
    have e := (bits_nat n 65535 (by omega) (by decide)).2.2
    show bits .xor .i64 (n : Int) ((65535 : Nat) : Int) = _
    rw [e, nat_xor_top 16 n (by omega)]
    show ((65536 - (n + 1) : Nat) : Int) = 65536 - 1 - (n : Int)
    omega
theorem okv_not {z v : Int} (hz : z = 1 ∨ z = 2) (hv : okv z v = true) : okv z (top z - 1 - v) = true := by
  have tv := top_ok hv
  rcases hz with rfl | rfl
  · simp [okv, top] at *; omega
  · simp [okv, top] at *; omega
theorem ch_ok {s z v : Int} (hz : z = 1 ∨ z = 2) (hv : okv z v = true) : okv z (chV s z v) = true := by
  unfold chV
  cases s == 1
  · cases s == 2
    · exact hv
    · exact okv_not hz hv
  · exact okv_subV hz
theorem chF_in {s z f v : Int} (hz : z = 1 ∨ z = 2) (hv : okv z v = true) (hf : flags f = true) : 0 ≤ chF s z f v ∧ chF s z f v ≤ 31 := by
  unfold chF
  cases s == 1
  · exact logF_in z f _ (ch_ok hz hv) hf
  · have h0 : okv z 0 = true := by rcases hz with rfl | rfl <;> rfl
    exact subF_bd z 0 0 v
theorem GM.slot {c : Mc} (h : GM c) {z m k e : Int} (k0 : 0 ≤ k) (k1 : k ≤ 3) : GM (c.slot z m k e) := by
  unfold Mc.slot
  cases Mc.inReg m
  · exact h.plc k0 k1
  · exact h
end Pl
set_option maxRecDepth 100000 in
set_option maxHeartbeats 8000000 in
theorem cGive (w : World) (lo b g : Nat) (c : Pl.Mc) (h : Bool) (op z r m k e s : Int) (hC : CAt w lo b g c h) (G : Pl.GM c) (hf : c.f = Pl.ftNo) (B : Pl.InB ⟨op, z, r, m, k, e, s⟩) (hm : m = 0 ∨ (2 ≤ m ∧ m ≤ 6)) :
    Calls Tryz.prog 142 #[.pointer (some ⟨b, 0, none⟩), .agg #[.int .i64 op, .int .i64 z, .int .i64 r, .int .i64 m, .int .i64 k, .int .i64 e, .int .i64 s]] w fun e' w' => ∃ g', e' = .returned (.agg (ftC (c.gv ⟨op, z, r, m, k, e, s⟩).f)) ∧ CAt w' lo b g' (c.gv ⟨op, z, r, m, k, e, s⟩) h ∧ Since w b (b + 1) g w' g' := by
  have HB := hide B
  clear B
  obtain ⟨l0, l1, l2, l3, l4⟩ := hC.lt
  have HG := hide G
  have K0 := hide (kept_new (kept_alloc w (.cells #[.int .i64 op, .int .i64 z, .int .i64 r, .int .i64 m, .int .i64 k, .int .i64 e, .int .i64 s] 79)) (.cells #[.int .i64 0, .int .i64 0, .int .i64 0, .int .i64 0, .bool false] 38))
  have C0 := hide ((hC.alloc (.cells #[.int .i64 op, .int .i64 z, .int .i64 r, .int .i64 m, .int .i64 k, .int .i64 e, .int .i64 s] 79)).alloc (.cells #[.int .i64 0, .int .i64 0, .int .i64 0, .int .i64 0, .bool false] 38))
  have A0 := hide ((Blk.new w #[.int .i64 op, .int .i64 z, .int .i64 r, .int .i64 m, .int .i64 k, .int .i64 e, .int .i64 s] 79).alloc (.cells #[.int .i64 0, .int .i64 0, .int .i64 0, .int .i64 0, .bool false] 38))
  have R0 := Blk.new (w.alloc (.cells #[.int .i64 op, .int .i64 z, .int .i64 r, .int .i64 m, .int .i64 k, .int .i64 e, .int .i64 s] 79)) #[.int .i64 0, .int .i64 0, .int .i64 0, .int .i64 0, .bool false] 38
  simp only [World.size_alloc] at R0
  replace R0 := hide R0
  obtain ⟨X, hX⟩ : ∃ X : World, (w.alloc (.cells #[.int .i64 op, .int .i64 z, .int .i64 r, .int .i64 m, .int .i64 k, .int .i64 e, .int .i64 s] 79)).alloc (.cells #[.int .i64 0, .int .i64 0, .int .i64 0, .int .i64 0, .bool false] 38) = X := ⟨_, rfl⟩
  rw [hX] at K0 C0 A0 R0
  have sX : w.heap.size + 1 < X.heap.size := R0.out.lt
  have p := A0.out.all
  clear hC G
  have OQ : Hid (Pl.okv z (c.low z r) = true) := hide (Pl.low_in HG.out HB.out.z HB.out.r0 HB.out.r1)
  obtain ⟨Q, hQ⟩ : ∃ Q, Q = c.low z r := ⟨_, rfl⟩
  obtain ⟨d, hd⟩ : ∃ d, d = c.setF (Pl.logF z c.r.f Q) := ⟨_, rfl⟩
  have GD : Hid (Pl.GM d) := hide (by rw [hd, hQ]; have q := Pl.logF_in z c.r.f _ OQ.out (Pl.flags_of HG.out); exact HG.out.setF q.1 q.2)
  have qb : 0 ≤ Q ∧ Q ≤ 65535 := by rw [hQ]; have := Pl.top_ok OQ.out; omega
  obtain ⟨qb0, qb1⟩ := qb
  have ab := Pl.readA_in GD.out (z := z) (m := m) (k := k) (e := e) HB.out.k0 HB.out.k1 HB.out.e0 HB.out.e1
  obtain ⟨a, ha⟩ : ∃ a, a = d.readA z m k e := ⟨_, rfl⟩
  rw [← ha] at ab
  obtain ⟨ab0, ab1⟩ := ab
  obtain ⟨N, hN⟩ : ∃ N, N = (d.slot z m k e).write z m k a Q := ⟨_, rfl⟩
  have ET : Hid (c.gv ⟨op, z, r, m, k, e, s⟩ = N) := hide (by rw [hN, ha, hd, hQ]; rfl)
  have GS : Hid (Pl.GM (d.slot z m k e)) := hide (GD.out.slot HB.out.k0 HB.out.k1)
  have FS : Hid ((d.slot z m k e).f = Pl.ftNo) := hide (by rw [hd]; unfold Pl.Mc.slot; cases Pl.Mc.inReg m <;> exact hf)
  rw [ET.out]
  rw [← hQ] at OQ
  obtain ⟨F, hF⟩ : ∃ F, F = N.f := ⟨_, rfl⟩
  rw [← hF]
  have HN := hide hN
  have HQ := hide hQ
  have HD := hide hd
  have HA := hide ha
  have HF := hide hF
  have HM := hide hm
  clear hQ hd ha hN hF hm
  go_enter Tryz.func142, Tryz.ntmps142
  go_wp2_with (first | (go_at_call 175; have z9 := C3; refine (cWriteV _ lo b g (d.slot z m k e) h z m k e a Q C3.out GS.out FS.out HB.out.z HM.out HB.out.k0 HB.out.k1 ab0 ab1 OQ.out).mono ?_; rintro e9 W4 ⟨g', rfl, hc, hs⟩; rw [← HN.out] at hc ⊢; rw [← HF.out]; unfold ftC; have C4 := hide hc; have R4 := hide (hs.blk R3.out (by omega) (by omega)); have n4 := hs.ne (b := w.heap.size + 1) R3.out.lt (by omega); have S4 := hide (S3.out.trans hs); have r4 := R4.out.all; have rf4 := R4.out.fz; clear hc hs) | (go_at_call 144; have z9 := C2; refine (cSlot _ lo b g d h ⟨op, z, r, m, k, e, s⟩ C2.out GD.out HB.out).mono ?_; rintro e9 W3 ⟨rfl, hc, hk⟩; rw [← HA.out]; have C3 := hide hc; have R3 := hide (R2.out.kept hk (by omega)); have S3 := hide (S2.out.keptS hk (Nat.le_refl _) (Nat.le_refl _)); clear hc hk) | (go_at_call 174; have z9 := C1; refine (cLogic _ lo b g c h z Q C1.out qb0 qb1).mono ?_; rintro e9 W2 ⟨rfl, hc, hk⟩; rw [← HD.out] at hc; have C2 := hide hc; have A2 := hide (A1.out.kept hk (by omega)); have R2 := hide (R1.out.kept hk (by omega)); have S2 := hide (((Since.refl w b (b + 1) g).any K1.out).keptS hk (Nat.le_refl _) (Nat.le_refl _)); have p2 := A2.out.all; clear hc hk) | (go_at_call 172; refine (cDataK _ lo b g c h z r C0.out HB.out.z HB.out.r0 HB.out.r1).mono ?_; rintro e9 W1 ⟨rfl, k1⟩; rw [← HQ.out]; have C1 := hide (C0.out.any k1); have A1 := hide (A0.out.kept0 k1); have R1 := hide (R0.out.kept0 k1); have K1 := hide (K0.out.trans k1); have p1 := A1.out.all; clear k1))
  have KR := (((((kept_one W4 (w.heap.size + 1) 0 (.int .i64 F.v)).one 1 (.int .i64 F.pc)).one 2 (.int .i64 F.ad)).one 3 (.int .i64 F.wo)).one 4 (.bool F.wr))
  refine bodyPost_ret (v := .agg #[.int .i64 F.v, .int .i64 F.pc, .int .i64 F.ad, .int .i64 F.wo, .bool F.wr]) ?_ rfl ⟨g', ?_, ?_, (S4.out).mine KR (by omega)⟩
  · rw [results_one rfl]; go_simp
  · rfl
  · exact ((C4.out).kept KR (by omega) (by omega))
set_option maxRecDepth 100000 in
set_option maxHeartbeats 8000000 in
theorem cChange0 (w : World) (lo b g : Nat) (c : Pl.Mc) (h : Bool) (op z r m k e : Int) (hC : CAt w lo b g c h) (G : Pl.GM c) (hf : c.f = Pl.ftNo) (B : Pl.InB ⟨op, z, r, m, k, e, 0⟩) (hm : m = 0 ∨ (2 ≤ m ∧ m ≤ 6)) :
    Calls Tryz.prog 143 #[.pointer (some ⟨b, 0, none⟩), .agg #[.int .i64 op, .int .i64 z, .int .i64 r, .int .i64 m, .int .i64 k, .int .i64 e, .int .i64 0]] w fun e' w' => ∃ g', e' = .returned (.agg (ftC (c.ch ⟨op, z, r, m, k, e, 0⟩).f)) ∧ CAt w' lo b g' (c.ch ⟨op, z, r, m, k, e, 0⟩) h ∧ Since w b (b + 1) g w' g' := by
  have HB := hide B
  clear B
  obtain ⟨l0, l1, l2, l3, l4⟩ := hC.lt
  have HG := hide G
  have K0 := hide (kept_new (kept_alloc w (.cells #[.int .i64 op, .int .i64 z, .int .i64 r, .int .i64 m, .int .i64 k, .int .i64 e, .int .i64 0] 79)) (.cells #[.int .i64 0, .int .i64 0, .int .i64 0, .int .i64 0, .bool false] 38))
  have C0 := hide ((hC.alloc (.cells #[.int .i64 op, .int .i64 z, .int .i64 r, .int .i64 m, .int .i64 k, .int .i64 e, .int .i64 0] 79)).alloc (.cells #[.int .i64 0, .int .i64 0, .int .i64 0, .int .i64 0, .bool false] 38))
  have A0 := hide ((Blk.new w #[.int .i64 op, .int .i64 z, .int .i64 r, .int .i64 m, .int .i64 k, .int .i64 e, .int .i64 0] 79).alloc (.cells #[.int .i64 0, .int .i64 0, .int .i64 0, .int .i64 0, .bool false] 38))
  have R0 := Blk.new (w.alloc (.cells #[.int .i64 op, .int .i64 z, .int .i64 r, .int .i64 m, .int .i64 k, .int .i64 e, .int .i64 0] 79)) #[.int .i64 0, .int .i64 0, .int .i64 0, .int .i64 0, .bool false] 38
  simp only [World.size_alloc] at R0
  replace R0 := hide R0
  obtain ⟨X, hX⟩ : ∃ X : World, (w.alloc (.cells #[.int .i64 op, .int .i64 z, .int .i64 r, .int .i64 m, .int .i64 k, .int .i64 e, .int .i64 0] 79)).alloc (.cells #[.int .i64 0, .int .i64 0, .int .i64 0, .int .i64 0, .bool false] 38) = X := ⟨_, rfl⟩
  rw [hX] at K0 C0 A0 R0
  have sX : w.heap.size + 1 < X.heap.size := R0.out.lt
  have p := A0.out.all
  clear hC G
  have ab := Pl.readA_in HG.out (z := z) (m := m) (k := k) (e := e) HB.out.k0 HB.out.k1 HB.out.e0 HB.out.e1
  obtain ⟨a, ha⟩ : ∃ a, a = c.readA z m k e := ⟨_, rfl⟩
  rw [← ha] at ab
  obtain ⟨ab0, ab1⟩ := ab
  have HA := hide ha
  obtain ⟨T, U, hW⟩ := wayV_if m k e
  have HW := hide hW
  have HM := hide hm
  clear ha hW hm
  obtain ⟨D, hD⟩ : ∃ D, D = c.slot z m k e := ⟨_, rfl⟩
  obtain ⟨E, hE⟩ : ∃ E, E = D.setF (Pl.logF z D.r.f 0) := ⟨_, rfl⟩
  have O0 : Pl.okv z 0 = true := by rcases HB.out.z with h | h <;> (have h' : z = _ := h; subst h'; rfl)
  have OV2 := hide O0
  have GD : Pl.GM D := by rw [hD]; exact HG.out.slot HB.out.k0 HB.out.k1
  have GE : Hid (Pl.GM E) := hide (by rw [hE]; have q := Pl.logF_in z D.r.f 0 O0 (Pl.flags_of GD); exact GD.setF q.1 q.2)
  have FE : Hid (E.f = Pl.ftNo) := hide (by rw [hE, hD]; unfold Pl.Mc.slot; cases Pl.Mc.inReg m <;> exact hf)
  obtain ⟨N, hN⟩ : ∃ N, N = E.write z m k a 0 := ⟨_, rfl⟩
  have ET : Hid (c.ch ⟨op, z, r, m, k, e, 0⟩ = N) := hide (by rw [hN, hE, hD, HA.out]; rfl)
  rw [ET.out]
  obtain ⟨F, hF⟩ : ∃ F, F = N.f := ⟨_, rfl⟩
  rw [← hF]
  have HD := hide hD
  have HE := hide hE
  have HN := hide hN
  have HF2 := hide hF
  clear hD hE hN hF GD O0
  go_enter Tryz.func143, Tryz.ntmps143
  go_wp2_with (first | (go_at_call 175; have z9 := C2; rw [← HW.out]; refine (cWriteV _ lo b g E h z m k e a 0 C2.out GE.out FE.out HB.out.z HM.out HB.out.k0 HB.out.k1 ab0 ab1 OV2.out).mono ?_; rintro e9 W3 ⟨g', rfl, hc, hs⟩; rw [← HN.out] at hc ⊢; rw [← HF2.out]; try rw [HW.out]; unfold ftC; have C3 := hide hc; have R3 := hide (hs.blk R2.out (by omega) (by omega)); have n3 := hs.ne (b := w.heap.size + 1) R2.out.lt (by omega); have S3 := hide (S2.out.trans hs); have r3 := R3.out.all; have rf3 := R3.out.fz; clear hc hs) | (go_at_call 174; have z9 := C1; refine (cLogic _ lo b g D h z 0 C1.out (by decide) (by decide)).mono ?_; rintro e9 W2 ⟨rfl, hc, hk⟩; rw [← HE.out] at hc; have C2 := hide hc; have A2 := hide (A1.out.kept hk (by omega)); have R2 := hide (R1.out.kept hk (by omega)); have J2 := hide (J1.out.kept hk (by omega)); have S2 := hide (S1.out.keptS hk (Nat.le_refl _) (Nat.le_refl _)); have p2 := A2.out.all; have j2 := J2.out.all; have r2 := R2.out.all; have rf2 := R2.out.fz; clear hc hk) | (go_at_call 144; refine (cSlot _ lo b g c h ⟨op, z, r, m, k, e, 0⟩ C0.out HG.out HB.out).mono ?_; rintro e9 W1 ⟨rfl, hc, hk⟩; rw [← HA.out, HW.out]; rw [← HD.out] at hc; have C1 := hide (hc.alloc (.cells #[.iface T U, .int .i64 z, .int .i64 a] 162)); have A1 := hide ((A0.out.kept hk (by omega)).alloc (.cells #[.iface T U, .int .i64 z, .int .i64 a] 162)); have R1 := hide ((R0.out.kept hk (by omega)).alloc (.cells #[.iface T U, .int .i64 z, .int .i64 a] 162)); have S1 := hide ((((Since.refl w b (b + 1) g).any K0.out).keptS hk (Nat.le_refl _) (Nat.le_refl _)).alloc (.cells #[.iface T U, .int .i64 z, .int .i64 a] 162)); have J1 := hide (Blk.new W1 #[.iface T U, .int .i64 z, .int .i64 a] 162); have s1 := hk.size; have p1 := A1.out.all; have j1 := J1.out.all; clear hc hk))
  have KR := (((((kept_one W3 (w.heap.size + 1) 0 (.int .i64 F.v)).one 1 (.int .i64 F.pc)).one 2 (.int .i64 F.ad)).one 3 (.int .i64 F.wo)).one 4 (.bool F.wr))
  refine bodyPost_ret (v := .agg #[.int .i64 F.v, .int .i64 F.pc, .int .i64 F.ad, .int .i64 F.wo, .bool F.wr]) ?_ rfl ⟨g', ?_, ?_, (S3.out).mine KR (by omega)⟩
  · rw [results_one rfl]; go_simp
  · rfl
  · exact ((C3.out).kept KR (by omega) (by omega))
set_option maxRecDepth 100000 in
set_option maxHeartbeats 8000000 in
theorem cChange1 (w : World) (lo b g : Nat) (c : Pl.Mc) (h : Bool) (op z r m k e : Int) (hC : CAt w lo b g c h) (G : Pl.GM c) (hf : c.f = Pl.ftNo) (B : Pl.InB ⟨op, z, r, m, k, e, 1⟩) (hm : m = 0 ∨ (2 ≤ m ∧ m ≤ 6)) :
    Calls Tryz.prog 143 #[.pointer (some ⟨b, 0, none⟩), .agg #[.int .i64 op, .int .i64 z, .int .i64 r, .int .i64 m, .int .i64 k, .int .i64 e, .int .i64 1]] w fun e' w' => ∃ g', e' = .returned (.agg (ftC (c.ch ⟨op, z, r, m, k, e, 1⟩).f)) ∧ CAt w' lo b g' (c.ch ⟨op, z, r, m, k, e, 1⟩) h ∧ Since w b (b + 1) g w' g' := by
  have HB := hide B
  clear B
  obtain ⟨l0, l1, l2, l3, l4⟩ := hC.lt
  have HG := hide G
  have K0 := hide (kept_new (kept_alloc w (.cells #[.int .i64 op, .int .i64 z, .int .i64 r, .int .i64 m, .int .i64 k, .int .i64 e, .int .i64 1] 79)) (.cells #[.int .i64 0, .int .i64 0, .int .i64 0, .int .i64 0, .bool false] 38))
  have C0 := hide ((hC.alloc (.cells #[.int .i64 op, .int .i64 z, .int .i64 r, .int .i64 m, .int .i64 k, .int .i64 e, .int .i64 1] 79)).alloc (.cells #[.int .i64 0, .int .i64 0, .int .i64 0, .int .i64 0, .bool false] 38))
  have A0 := hide ((Blk.new w #[.int .i64 op, .int .i64 z, .int .i64 r, .int .i64 m, .int .i64 k, .int .i64 e, .int .i64 1] 79).alloc (.cells #[.int .i64 0, .int .i64 0, .int .i64 0, .int .i64 0, .bool false] 38))
  have R0 := Blk.new (w.alloc (.cells #[.int .i64 op, .int .i64 z, .int .i64 r, .int .i64 m, .int .i64 k, .int .i64 e, .int .i64 1] 79)) #[.int .i64 0, .int .i64 0, .int .i64 0, .int .i64 0, .bool false] 38
  simp only [World.size_alloc] at R0
  replace R0 := hide R0
  obtain ⟨X, hX⟩ : ∃ X : World, (w.alloc (.cells #[.int .i64 op, .int .i64 z, .int .i64 r, .int .i64 m, .int .i64 k, .int .i64 e, .int .i64 1] 79)).alloc (.cells #[.int .i64 0, .int .i64 0, .int .i64 0, .int .i64 0, .bool false] 38) = X := ⟨_, rfl⟩
  rw [hX] at K0 C0 A0 R0
  have sX : w.heap.size + 1 < X.heap.size := R0.out.lt
  have p := A0.out.all
  clear hC G
  have ab := Pl.readA_in HG.out (z := z) (m := m) (k := k) (e := e) HB.out.k0 HB.out.k1 HB.out.e0 HB.out.e1
  obtain ⟨a, ha⟩ : ∃ a, a = c.readA z m k e := ⟨_, rfl⟩
  rw [← ha] at ab
  obtain ⟨ab0, ab1⟩ := ab
  have HA := hide ha
  obtain ⟨T, U, hW⟩ := wayV_if m k e
  have HW := hide hW
  have HM := hide hm
  clear ha hW hm
  obtain ⟨D, hD⟩ : ∃ D, D = c.read z m k e := ⟨_, rfl⟩
  obtain ⟨V, hV⟩ : ∃ V, V = c.readV z m k e := ⟨_, rfl⟩
  obtain ⟨F, hF⟩ : ∃ F, F = D.f := ⟨_, rfl⟩
  have GD : Hid (Pl.GM D) := hide (by rw [hD]; exact HG.out.read HB.out.z HB.out.k0 HB.out.k1 HB.out.e0 HB.out.e1)
  have OV : Hid (Pl.okv z V = true) := hide (by rw [hV]; exact Pl.readV_in HG.out HB.out.z HB.out.k0 HB.out.k1 HB.out.e0 HB.out.e1 (fun q => by have := HM.out; omega) HB.out.n7)
  have ET : Hid (c.ch ⟨op, z, r, m, k, e, 1⟩ = bif !(F.v != 0) then D.ch' z m k a 1 V else D) := hide (by
    show (bif (c.read z m k e).fine then (c.read z m k e).ch' z m k (c.readA z m k e) 1 (c.readV z m k e) else c.read z m k e) = _
    rw [← hD, ← hV, hF, ← HA.out]; unfold Pl.Mc.fine; simp [bne])
  have HD := hide hD
  have HV := hide hV
  have HF := hide hF
  clear hD hV hF
  go_enter Tryz.func143, Tryz.ntmps143
  go_wp2_with (first | (go_at_call 170; have z9 := C1; have hr := cReadV _ lo b g c h z m k e C1.out HG.out hf HB.out.z HB.out.m0 HB.out.m1 HB.out.k0 HB.out.k1 HB.out.e0 HB.out.e1; rw [HW.out, ← HA.out] at hr; refine hr.mono ?_; clear hr; rintro e9 W2 ⟨g', rfl, hc, hs⟩; rw [← HD.out] at hc ⊢; rw [← HV.out, ← HF.out]; unfold ftC; have C2 := hide (hc.alloc (.cells #[.int .i64 F.v, .int .i64 F.pc, .int .i64 F.ad, .int .i64 F.wo, .bool F.wr] 38)); have A2 := hide ((hs.blk A1.out (by omega) (by omega)).alloc (.cells #[.int .i64 F.v, .int .i64 F.pc, .int .i64 F.ad, .int .i64 F.wo, .bool F.wr] 38)); have R2 := hide ((hs.blk R1.out (by omega) (by omega)).alloc (.cells #[.int .i64 F.v, .int .i64 F.pc, .int .i64 F.ad, .int .i64 F.wo, .bool F.wr] 38)); have J2 := hide ((hs.blk J1.out (by omega) (by have := J1.out.lt; omega)).alloc (.cells #[.int .i64 F.v, .int .i64 F.pc, .int .i64 F.ad, .int .i64 F.wo, .bool F.wr] 38)); have S2 := hide ((S1.out.trans hs).alloc (.cells #[.int .i64 F.v, .int .i64 F.pc, .int .i64 F.ad, .int .i64 F.wo, .bool F.wr] 38)); have L2 := hide (Blk.new W2 #[.int .i64 F.v, .int .i64 F.pc, .int .i64 F.ad, .int .i64 F.wo, .bool F.wr] 38); have z2 := hs.size; have n2 := hs.ne (b := w.heap.size + 1) R1.out.lt (by omega); have m2 := hs.ne (b := w.heap.size) A1.out.lt (by omega); have o2 := hs.ne (b := W1.heap.size) J1.out.lt (by omega); clear hc hs) | (go_at_call 144; refine (cSlot _ lo b g c h ⟨op, z, r, m, k, e, 1⟩ C0.out HG.out HB.out).mono ?_; rintro e9 W1 ⟨rfl, hc, hk⟩; rw [← HA.out]; rw [HW.out]; have C1 := hide (hc.alloc (.cells #[.iface T U, .int .i64 z, .int .i64 a] 162)); have A1 := hide ((A0.out.kept hk (by omega)).alloc (.cells #[.iface T U, .int .i64 z, .int .i64 a] 162)); have R1 := hide ((R0.out.kept hk (by omega)).alloc (.cells #[.iface T U, .int .i64 z, .int .i64 a] 162)); have S1 := hide ((((Since.refl w b (b + 1) g).any K0.out).keptS hk (Nat.le_refl _) (Nat.le_refl _)).alloc (.cells #[.iface T U, .int .i64 z, .int .i64 a] 162)); have J1 := hide (Blk.new W1 #[.iface T U, .int .i64 z, .int .i64 a] 162); have s1 := hk.size; have p1 := A1.out.all; have j1 := J1.out.all; clear hc hk))
  refine (isFault F _).mono ?_
  rintro e9 W4 ⟨rfl, kf⟩
  have C4 := hide (C2.out.any kf)
  have A4 := hide (A2.out.kept0 kf)
  have R4 := hide (R2.out.kept0 kf)
  have L4 := hide (L2.out.kept0 kf)
  have S4 := hide (S2.out.any kf)
  have p4 := A4.out.all
  have q4 := L4.out.all
  have r4 := R4.out.all
  have rf4 := R4.out.fz
  have J4 := hide (J2.out.kept0 kf)
  have j4 := J4.out.all
  clear kf
  clear hX p p1 j1
  have b4 := C4.out.cF
  have bz4 := C4.out.fz
  have tv := Pl.top_ok OV.out
  obtain ⟨tv0, tv1⟩ : 0 ≤ V ∧ V ≤ 65535 := by omega
  cases hv : (F.v != 0)
  · have E1 : Hid (c.ch ⟨op, z, r, m, k, e, 1⟩ = D.ch' z m k a 1 V) := hide (by rw [ET.out, hv]; rfl)
    have DF : Hid (D.f = Pl.ftNo) := hide (Pl.read_no hf HD.out (by rw [← HF.out]; exact hv))
    obtain ⟨V2, hV2⟩ : ∃ v, v = Pl.chV 1 z V := ⟨_, rfl⟩
    have OV2 : Hid (Pl.okv z V2 = true) := hide (by rw [hV2]; exact Pl.ch_ok HB.out.z OV.out)
    have tw := Pl.top_ok OV2.out
    obtain ⟨tw0, tw1⟩ : 0 ≤ V2 ∧ V2 ≤ 65535 := by omega
    obtain ⟨FL, hFL⟩ : ∃ v, v = Pl.chF 1 z D.r.f V := ⟨_, rfl⟩
    have fl : 0 ≤ FL ∧ FL ≤ 31 := by rw [hFL]; exact Pl.chF_in HB.out.z OV.out (Pl.flags_of GD.out)
    obtain ⟨E, hE⟩ : ∃ E, E = D.setF FL := ⟨_, rfl⟩
    have GE : Hid (Pl.GM E) := hide (by rw [hE]; exact GD.out.setF fl.1 fl.2)
    have FE : Hid (E.f = Pl.ftNo) := hide (by rw [hE]; exact DF.out)
    obtain ⟨N, hN⟩ : ∃ N, N = E.write z m k a V2 := ⟨_, rfl⟩
    have E2 : Hid (D.ch' z m k a 1 V = N) := hide (by rw [hN, hE, hFL, hV2]; rfl)
    obtain ⟨F2, hF2⟩ : ∃ F, F = N.f := ⟨_, rfl⟩
    have HN := hide hN
    have HF2 := hide hF2
    have HE := hide hE
    have e1 : Pl.subV z 0 0 V = V2 := hV2.symm
    have e2 : Pl.subF z 0 0 V = FL := hFL.symm
    clear hE hFL hV2 hN hF2 fl tw tv
    have C5 : Hid (CAt (W4.setCell ⟨b, 10, none⟩ (.int .i64 FL)) lo b g' E h) := hide (by rw [HE.out]; exact C4.out.setF FL)
    have R5 := hide (R4.out.other b 10 (.int .i64 FL) (by omega))
    have S5 := hide (S4.out.set b 10 (.int .i64 FL) (.inl (by omega)))
    have p5 := (A4.out.other b 10 (.int .i64 FL) (by omega)).all
    have j5 := (J4.out.other b 10 (.int .i64 FL) (by omega)).all
    go_wp2_with (first | (go_at_call 175; have z9 := C5; rw [← HW.out]; refine (cWriteV _ lo b g' E h z m k e a V2 C5.out GE.out FE.out HB.out.z HM.out HB.out.k0 HB.out.k1 ab0 ab1 OV2.out).mono ?_; rintro e9 W6 ⟨g6, rfl, hc, hs⟩; rw [← HN.out] at hc ⊢; rw [← HF2.out]; try rw [HW.out]; unfold ftC; have C6 := hide hc; have R6 := hide (hs.blk R5.out (by omega) (by omega)); have n6 := hs.ne (b := w.heap.size + 1) R5.out.lt (by omega); have S6 := hide (S5.out.trans hs); have r6 := R6.out.all; have rf6 := R6.out.fz; clear hc hs) | (go_at_call 176; refine (negFlags _ _ _ (by omega) (by omega)).mono ?_; rintro e9 W9 ⟨rfl, hw⟩; have hw2 := hw.symm; clear hw; subst hw2; rw [e1, e2]))
    have KR := (((((kept_one W6 (w.heap.size + 1) 0 (.int .i64 F2.v)).one 1 (.int .i64 F2.pc)).one 2 (.int .i64 F2.ad)).one 3 (.int .i64 F2.wo)).one 4 (.bool F2.wr))
    refine bodyPost_ret (v := .agg #[.int .i64 F2.v, .int .i64 F2.pc, .int .i64 F2.ad, .int .i64 F2.wo, .bool F2.wr]) ?_ rfl ⟨g6, ?_, ?_, (S6.out).mine KR (by omega)⟩
    · rw [results_one rfl]; go_simp
    · rw [E1.out, E2.out, ← HF2.out]; rfl
    · rw [E1.out, E2.out]; exact ((C6.out).kept KR (by omega) (by omega))
  · have E1 : Hid (c.ch ⟨op, z, r, m, k, e, 1⟩ = D) := hide (by rw [ET.out, hv]; rfl)
    go_wp2_with fail
    have KR := (((((kept_one W4 (w.heap.size + 1) 0 (.int .i64 F.v)).one 1 (.int .i64 F.pc)).one 2 (.int .i64 F.ad)).one 3 (.int .i64 F.wo)).one 4 (.bool F.wr))
    refine bodyPost_ret (v := .agg #[.int .i64 F.v, .int .i64 F.pc, .int .i64 F.ad, .int .i64 F.wo, .bool F.wr]) ?_ rfl ⟨g', ?_, ?_, (S4.out).mine KR (by omega)⟩
    · rw [results_one rfl]; go_simp
    · rw [E1.out, ← HF.out]; rfl
    · rw [E1.out]; exact ((C4.out).kept KR (by omega) (by omega))
set_option maxRecDepth 100000 in
set_option maxHeartbeats 8000000 in
theorem cChange2 (w : World) (lo b g : Nat) (c : Pl.Mc) (h : Bool) (op z r m k e : Int) (hC : CAt w lo b g c h) (G : Pl.GM c) (hf : c.f = Pl.ftNo) (B : Pl.InB ⟨op, z, r, m, k, e, 2⟩) (hm : m = 0 ∨ (2 ≤ m ∧ m ≤ 6)) :
    Calls Tryz.prog 143 #[.pointer (some ⟨b, 0, none⟩), .agg #[.int .i64 op, .int .i64 z, .int .i64 r, .int .i64 m, .int .i64 k, .int .i64 e, .int .i64 2]] w fun e' w' => ∃ g', e' = .returned (.agg (ftC (c.ch ⟨op, z, r, m, k, e, 2⟩).f)) ∧ CAt w' lo b g' (c.ch ⟨op, z, r, m, k, e, 2⟩) h ∧ Since w b (b + 1) g w' g' := by
  have HB := hide B
  clear B
  obtain ⟨l0, l1, l2, l3, l4⟩ := hC.lt
  have HG := hide G
  have K0 := hide (kept_new (kept_alloc w (.cells #[.int .i64 op, .int .i64 z, .int .i64 r, .int .i64 m, .int .i64 k, .int .i64 e, .int .i64 2] 79)) (.cells #[.int .i64 0, .int .i64 0, .int .i64 0, .int .i64 0, .bool false] 38))
  have C0 := hide ((hC.alloc (.cells #[.int .i64 op, .int .i64 z, .int .i64 r, .int .i64 m, .int .i64 k, .int .i64 e, .int .i64 2] 79)).alloc (.cells #[.int .i64 0, .int .i64 0, .int .i64 0, .int .i64 0, .bool false] 38))
  have A0 := hide ((Blk.new w #[.int .i64 op, .int .i64 z, .int .i64 r, .int .i64 m, .int .i64 k, .int .i64 e, .int .i64 2] 79).alloc (.cells #[.int .i64 0, .int .i64 0, .int .i64 0, .int .i64 0, .bool false] 38))
  have R0 := Blk.new (w.alloc (.cells #[.int .i64 op, .int .i64 z, .int .i64 r, .int .i64 m, .int .i64 k, .int .i64 e, .int .i64 2] 79)) #[.int .i64 0, .int .i64 0, .int .i64 0, .int .i64 0, .bool false] 38
  simp only [World.size_alloc] at R0
  replace R0 := hide R0
  obtain ⟨X, hX⟩ : ∃ X : World, (w.alloc (.cells #[.int .i64 op, .int .i64 z, .int .i64 r, .int .i64 m, .int .i64 k, .int .i64 e, .int .i64 2] 79)).alloc (.cells #[.int .i64 0, .int .i64 0, .int .i64 0, .int .i64 0, .bool false] 38) = X := ⟨_, rfl⟩
  rw [hX] at K0 C0 A0 R0
  have sX : w.heap.size + 1 < X.heap.size := R0.out.lt
  have p := A0.out.all
  clear hC G
  have ab := Pl.readA_in HG.out (z := z) (m := m) (k := k) (e := e) HB.out.k0 HB.out.k1 HB.out.e0 HB.out.e1
  obtain ⟨a, ha⟩ : ∃ a, a = c.readA z m k e := ⟨_, rfl⟩
  rw [← ha] at ab
  obtain ⟨ab0, ab1⟩ := ab
  have HA := hide ha
  obtain ⟨T, U, hW⟩ := wayV_if m k e
  have HW := hide hW
  have HM := hide hm
  clear ha hW hm
  obtain ⟨D, hD⟩ : ∃ D, D = c.read z m k e := ⟨_, rfl⟩
  obtain ⟨V, hV⟩ : ∃ V, V = c.readV z m k e := ⟨_, rfl⟩
  obtain ⟨F, hF⟩ : ∃ F, F = D.f := ⟨_, rfl⟩
  have GD : Hid (Pl.GM D) := hide (by rw [hD]; exact HG.out.read HB.out.z HB.out.k0 HB.out.k1 HB.out.e0 HB.out.e1)
  have OV : Hid (Pl.okv z V = true) := hide (by rw [hV]; exact Pl.readV_in HG.out HB.out.z HB.out.k0 HB.out.k1 HB.out.e0 HB.out.e1 (fun q => by have := HM.out; omega) HB.out.n7)
  have ET : Hid (c.ch ⟨op, z, r, m, k, e, 2⟩ = bif !(F.v != 0) then D.ch' z m k a 2 V else D) := hide (by
    show (bif (c.read z m k e).fine then (c.read z m k e).ch' z m k (c.readA z m k e) 2 (c.readV z m k e) else c.read z m k e) = _
    rw [← hD, ← hV, hF, ← HA.out]; unfold Pl.Mc.fine; simp [bne])
  have HD := hide hD
  have HV := hide hV
  have HF := hide hF
  clear hD hV hF
  go_enter Tryz.func143, Tryz.ntmps143
  go_wp2_with (first | (go_at_call 170; have z9 := C1; have hr := cReadV _ lo b g c h z m k e C1.out HG.out hf HB.out.z HB.out.m0 HB.out.m1 HB.out.k0 HB.out.k1 HB.out.e0 HB.out.e1; rw [HW.out, ← HA.out] at hr; refine hr.mono ?_; clear hr; rintro e9 W2 ⟨g', rfl, hc, hs⟩; rw [← HD.out] at hc ⊢; rw [← HV.out, ← HF.out]; unfold ftC; have C2 := hide (hc.alloc (.cells #[.int .i64 F.v, .int .i64 F.pc, .int .i64 F.ad, .int .i64 F.wo, .bool F.wr] 38)); have A2 := hide ((hs.blk A1.out (by omega) (by omega)).alloc (.cells #[.int .i64 F.v, .int .i64 F.pc, .int .i64 F.ad, .int .i64 F.wo, .bool F.wr] 38)); have R2 := hide ((hs.blk R1.out (by omega) (by omega)).alloc (.cells #[.int .i64 F.v, .int .i64 F.pc, .int .i64 F.ad, .int .i64 F.wo, .bool F.wr] 38)); have J2 := hide ((hs.blk J1.out (by omega) (by have := J1.out.lt; omega)).alloc (.cells #[.int .i64 F.v, .int .i64 F.pc, .int .i64 F.ad, .int .i64 F.wo, .bool F.wr] 38)); have S2 := hide ((S1.out.trans hs).alloc (.cells #[.int .i64 F.v, .int .i64 F.pc, .int .i64 F.ad, .int .i64 F.wo, .bool F.wr] 38)); have L2 := hide (Blk.new W2 #[.int .i64 F.v, .int .i64 F.pc, .int .i64 F.ad, .int .i64 F.wo, .bool F.wr] 38); have z2 := hs.size; have n2 := hs.ne (b := w.heap.size + 1) R1.out.lt (by omega); have m2 := hs.ne (b := w.heap.size) A1.out.lt (by omega); have o2 := hs.ne (b := W1.heap.size) J1.out.lt (by omega); clear hc hs) | (go_at_call 144; refine (cSlot _ lo b g c h ⟨op, z, r, m, k, e, 2⟩ C0.out HG.out HB.out).mono ?_; rintro e9 W1 ⟨rfl, hc, hk⟩; rw [← HA.out]; rw [HW.out]; have C1 := hide (hc.alloc (.cells #[.iface T U, .int .i64 z, .int .i64 a] 162)); have A1 := hide ((A0.out.kept hk (by omega)).alloc (.cells #[.iface T U, .int .i64 z, .int .i64 a] 162)); have R1 := hide ((R0.out.kept hk (by omega)).alloc (.cells #[.iface T U, .int .i64 z, .int .i64 a] 162)); have S1 := hide ((((Since.refl w b (b + 1) g).any K0.out).keptS hk (Nat.le_refl _) (Nat.le_refl _)).alloc (.cells #[.iface T U, .int .i64 z, .int .i64 a] 162)); have J1 := hide (Blk.new W1 #[.iface T U, .int .i64 z, .int .i64 a] 162); have s1 := hk.size; have p1 := A1.out.all; have j1 := J1.out.all; clear hc hk))
  refine (isFault F _).mono ?_
  rintro e9 W4 ⟨rfl, kf⟩
  have C4 := hide (C2.out.any kf)
  have A4 := hide (A2.out.kept0 kf)
  have R4 := hide (R2.out.kept0 kf)
  have L4 := hide (L2.out.kept0 kf)
  have S4 := hide (S2.out.any kf)
  have p4 := A4.out.all
  have q4 := L4.out.all
  have r4 := R4.out.all
  have rf4 := R4.out.fz
  have J4 := hide (J2.out.kept0 kf)
  have j4 := J4.out.all
  clear kf
  clear hX p p1 j1
  have b4 := C4.out.cF
  have bz4 := C4.out.fz
  have tv := Pl.top_ok OV.out
  obtain ⟨tv0, tv1⟩ : 0 ≤ V ∧ V ≤ 65535 := by omega
  cases hv : (F.v != 0)
  · have E1 : Hid (c.ch ⟨op, z, r, m, k, e, 2⟩ = D.ch' z m k a 2 V) := hide (by rw [ET.out, hv]; rfl)
    have DF : Hid (D.f = Pl.ftNo) := hide (Pl.read_no hf HD.out (by rw [← HF.out]; exact hv))
    obtain ⟨V2, hV2⟩ : ∃ v, v = Pl.chV 2 z V := ⟨_, rfl⟩
    have OV2 : Hid (Pl.okv z V2 = true) := hide (by rw [hV2]; exact Pl.ch_ok HB.out.z OV.out)
    have tw := Pl.top_ok OV2.out
    obtain ⟨tw0, tw1⟩ : 0 ≤ V2 ∧ V2 ≤ 65535 := by omega
    obtain ⟨FL, hFL⟩ : ∃ v, v = Pl.chF 2 z D.r.f V := ⟨_, rfl⟩
    have fl : 0 ≤ FL ∧ FL ≤ 31 := by rw [hFL]; exact Pl.chF_in HB.out.z OV.out (Pl.flags_of GD.out)
    obtain ⟨E, hE⟩ : ∃ E, E = D.setF FL := ⟨_, rfl⟩
    have GE : Hid (Pl.GM E) := hide (by rw [hE]; exact GD.out.setF fl.1 fl.2)
    have FE : Hid (E.f = Pl.ftNo) := hide (by rw [hE]; exact DF.out)
    obtain ⟨N, hN⟩ : ∃ N, N = E.write z m k a V2 := ⟨_, rfl⟩
    have E2 : Hid (D.ch' z m k a 2 V = N) := hide (by rw [hN, hE, hFL, hV2]; rfl)
    obtain ⟨F2, hF2⟩ : ∃ F, F = N.f := ⟨_, rfl⟩
    have HN := hide hN
    have HF2 := hide hF2
    have HE : Hid (E = D.setF (Pl.logF z D.r.f V2)) := hide (by rw [hE, hFL, hV2]; rfl)
    have ex : bits .xor .i64 V (Pl.top z - 1) = V2 := by rw [hV2]; exact Pl.xor_top HB.out.z OV.out
    clear hE hFL hV2 hN hF2 fl tw tv
    go_wp2_with (first | (go_at_call 175; have z9 := C5; rw [← HW.out]; refine (cWriteV _ lo b g' E h z m k e a V2 C5.out GE.out FE.out HB.out.z HM.out HB.out.k0 HB.out.k1 ab0 ab1 OV2.out).mono ?_; rintro e9 W6 ⟨g6, rfl, hc, hs⟩; rw [← HN.out] at hc ⊢; rw [← HF2.out]; try rw [HW.out]; unfold ftC; have C6 := hide hc; have R6 := hide (hs.blk R5.out (by omega) (by omega)); have n6 := hs.ne (b := w.heap.size + 1) R5.out.lt (by omega); have S6 := hide (S5.out.trans hs); have r6 := R6.out.all; have rf6 := R6.out.fz; clear hc hs) | (go_at_call 174; refine (cLogic _ lo b g' D h z V2 C4.out tw0 tw1).mono ?_; rintro e9 W5 ⟨rfl, hc, hk⟩; rw [← HE.out] at hc; have C5 := hide hc; have A5 := hide (A4.out.kept hk (by omega)); have R5 := hide (R4.out.kept hk (by omega)); have J5 := hide (J4.out.kept hk (by omega)); have S5 := hide (S4.out.keptS hk (Nat.le_refl _) (Nat.le_refl _)); have p5 := A5.out.all; have j5 := J5.out.all; have r5 := R5.out.all; have rf5 := R5.out.fz; clear hc hk) | (go_at_call 177; refine (onesOf _ _ HB.out.z).mono ?_; rintro e9 W9 ⟨rfl, hw⟩; have hw2 := hw.symm; clear hw; subst hw2))
    have KR := (((((kept_one W6 (w.heap.size + 1) 0 (.int .i64 F2.v)).one 1 (.int .i64 F2.pc)).one 2 (.int .i64 F2.ad)).one 3 (.int .i64 F2.wo)).one 4 (.bool F2.wr))
    refine bodyPost_ret (v := .agg #[.int .i64 F2.v, .int .i64 F2.pc, .int .i64 F2.ad, .int .i64 F2.wo, .bool F2.wr]) ?_ rfl ⟨g6, ?_, ?_, (S6.out).mine KR (by omega)⟩
    · rw [results_one rfl]; go_simp
    · rw [E1.out, E2.out, ← HF2.out]; rfl
    · rw [E1.out, E2.out]; exact ((C6.out).kept KR (by omega) (by omega))
  · have E1 : Hid (c.ch ⟨op, z, r, m, k, e, 2⟩ = D) := hide (by rw [ET.out, hv]; rfl)
    go_wp2_with fail
    have KR := (((((kept_one W4 (w.heap.size + 1) 0 (.int .i64 F.v)).one 1 (.int .i64 F.pc)).one 2 (.int .i64 F.ad)).one 3 (.int .i64 F.wo)).one 4 (.bool F.wr))
    refine bodyPost_ret (v := .agg #[.int .i64 F.v, .int .i64 F.pc, .int .i64 F.ad, .int .i64 F.wo, .bool F.wr]) ?_ rfl ⟨g', ?_, ?_, (S4.out).mine KR (by omega)⟩
    · rw [results_one rfl]; go_simp
    · rw [E1.out, ← HF.out]; rfl
    · rw [E1.out]; exact ((C4.out).kept KR (by omega) (by omega))
set_option maxRecDepth 100000 in
set_option maxHeartbeats 8000000 in
theorem cChange3 (w : World) (lo b g : Nat) (c : Pl.Mc) (h : Bool) (op z r m k e : Int) (hC : CAt w lo b g c h) (G : Pl.GM c) (hf : c.f = Pl.ftNo) (B : Pl.InB ⟨op, z, r, m, k, e, 3⟩) (hm : m = 0 ∨ (2 ≤ m ∧ m ≤ 6)) :
    Calls Tryz.prog 143 #[.pointer (some ⟨b, 0, none⟩), .agg #[.int .i64 op, .int .i64 z, .int .i64 r, .int .i64 m, .int .i64 k, .int .i64 e, .int .i64 3]] w fun e' w' => ∃ g', e' = .returned (.agg (ftC (c.ch ⟨op, z, r, m, k, e, 3⟩).f)) ∧ CAt w' lo b g' (c.ch ⟨op, z, r, m, k, e, 3⟩) h ∧ Since w b (b + 1) g w' g' := by
  have HB := hide B
  clear B
  obtain ⟨l0, l1, l2, l3, l4⟩ := hC.lt
  have HG := hide G
  have K0 := hide (kept_new (kept_alloc w (.cells #[.int .i64 op, .int .i64 z, .int .i64 r, .int .i64 m, .int .i64 k, .int .i64 e, .int .i64 3] 79)) (.cells #[.int .i64 0, .int .i64 0, .int .i64 0, .int .i64 0, .bool false] 38))
  have C0 := hide ((hC.alloc (.cells #[.int .i64 op, .int .i64 z, .int .i64 r, .int .i64 m, .int .i64 k, .int .i64 e, .int .i64 3] 79)).alloc (.cells #[.int .i64 0, .int .i64 0, .int .i64 0, .int .i64 0, .bool false] 38))
  have A0 := hide ((Blk.new w #[.int .i64 op, .int .i64 z, .int .i64 r, .int .i64 m, .int .i64 k, .int .i64 e, .int .i64 3] 79).alloc (.cells #[.int .i64 0, .int .i64 0, .int .i64 0, .int .i64 0, .bool false] 38))
  have R0 := Blk.new (w.alloc (.cells #[.int .i64 op, .int .i64 z, .int .i64 r, .int .i64 m, .int .i64 k, .int .i64 e, .int .i64 3] 79)) #[.int .i64 0, .int .i64 0, .int .i64 0, .int .i64 0, .bool false] 38
  simp only [World.size_alloc] at R0
  replace R0 := hide R0
  obtain ⟨X, hX⟩ : ∃ X : World, (w.alloc (.cells #[.int .i64 op, .int .i64 z, .int .i64 r, .int .i64 m, .int .i64 k, .int .i64 e, .int .i64 3] 79)).alloc (.cells #[.int .i64 0, .int .i64 0, .int .i64 0, .int .i64 0, .bool false] 38) = X := ⟨_, rfl⟩
  rw [hX] at K0 C0 A0 R0
  have sX : w.heap.size + 1 < X.heap.size := R0.out.lt
  have p := A0.out.all
  clear hC G
  have ab := Pl.readA_in HG.out (z := z) (m := m) (k := k) (e := e) HB.out.k0 HB.out.k1 HB.out.e0 HB.out.e1
  obtain ⟨a, ha⟩ : ∃ a, a = c.readA z m k e := ⟨_, rfl⟩
  rw [← ha] at ab
  obtain ⟨ab0, ab1⟩ := ab
  have HA := hide ha
  obtain ⟨T, U, hW⟩ := wayV_if m k e
  have HW := hide hW
  have HM := hide hm
  clear ha hW hm
  obtain ⟨D, hD⟩ : ∃ D, D = c.read z m k e := ⟨_, rfl⟩
  obtain ⟨V, hV⟩ : ∃ V, V = c.readV z m k e := ⟨_, rfl⟩
  obtain ⟨F, hF⟩ : ∃ F, F = D.f := ⟨_, rfl⟩
  have GD : Hid (Pl.GM D) := hide (by rw [hD]; exact HG.out.read HB.out.z HB.out.k0 HB.out.k1 HB.out.e0 HB.out.e1)
  have OV : Hid (Pl.okv z V = true) := hide (by rw [hV]; exact Pl.readV_in HG.out HB.out.z HB.out.k0 HB.out.k1 HB.out.e0 HB.out.e1 (fun q => by have := HM.out; omega) HB.out.n7)
  have ET : Hid (c.ch ⟨op, z, r, m, k, e, 3⟩ = bif !(F.v != 0) then D.ch' z m k a 3 V else D) := hide (by
    show (bif (c.read z m k e).fine then (c.read z m k e).ch' z m k (c.readA z m k e) 3 (c.readV z m k e) else c.read z m k e) = _
    rw [← hD, ← hV, hF, ← HA.out]; unfold Pl.Mc.fine; simp [bne])
  have HD := hide hD
  have HV := hide hV
  have HF := hide hF
  clear hD hV hF
  go_enter Tryz.func143, Tryz.ntmps143
  go_wp2_with (first | (go_at_call 170; have z9 := C1; have hr := cReadV _ lo b g c h z m k e C1.out HG.out hf HB.out.z HB.out.m0 HB.out.m1 HB.out.k0 HB.out.k1 HB.out.e0 HB.out.e1; rw [HW.out, ← HA.out] at hr; refine hr.mono ?_; clear hr; rintro e9 W2 ⟨g', rfl, hc, hs⟩; rw [← HD.out] at hc ⊢; rw [← HV.out, ← HF.out]; unfold ftC; have C2 := hide (hc.alloc (.cells #[.int .i64 F.v, .int .i64 F.pc, .int .i64 F.ad, .int .i64 F.wo, .bool F.wr] 38)); have A2 := hide ((hs.blk A1.out (by omega) (by omega)).alloc (.cells #[.int .i64 F.v, .int .i64 F.pc, .int .i64 F.ad, .int .i64 F.wo, .bool F.wr] 38)); have R2 := hide ((hs.blk R1.out (by omega) (by omega)).alloc (.cells #[.int .i64 F.v, .int .i64 F.pc, .int .i64 F.ad, .int .i64 F.wo, .bool F.wr] 38)); have J2 := hide ((hs.blk J1.out (by omega) (by have := J1.out.lt; omega)).alloc (.cells #[.int .i64 F.v, .int .i64 F.pc, .int .i64 F.ad, .int .i64 F.wo, .bool F.wr] 38)); have S2 := hide ((S1.out.trans hs).alloc (.cells #[.int .i64 F.v, .int .i64 F.pc, .int .i64 F.ad, .int .i64 F.wo, .bool F.wr] 38)); have L2 := hide (Blk.new W2 #[.int .i64 F.v, .int .i64 F.pc, .int .i64 F.ad, .int .i64 F.wo, .bool F.wr] 38); have z2 := hs.size; have n2 := hs.ne (b := w.heap.size + 1) R1.out.lt (by omega); have m2 := hs.ne (b := w.heap.size) A1.out.lt (by omega); have o2 := hs.ne (b := W1.heap.size) J1.out.lt (by omega); clear hc hs) | (go_at_call 144; refine (cSlot _ lo b g c h ⟨op, z, r, m, k, e, 3⟩ C0.out HG.out HB.out).mono ?_; rintro e9 W1 ⟨rfl, hc, hk⟩; rw [← HA.out]; rw [HW.out]; have C1 := hide (hc.alloc (.cells #[.iface T U, .int .i64 z, .int .i64 a] 162)); have A1 := hide ((A0.out.kept hk (by omega)).alloc (.cells #[.iface T U, .int .i64 z, .int .i64 a] 162)); have R1 := hide ((R0.out.kept hk (by omega)).alloc (.cells #[.iface T U, .int .i64 z, .int .i64 a] 162)); have S1 := hide ((((Since.refl w b (b + 1) g).any K0.out).keptS hk (Nat.le_refl _) (Nat.le_refl _)).alloc (.cells #[.iface T U, .int .i64 z, .int .i64 a] 162)); have J1 := hide (Blk.new W1 #[.iface T U, .int .i64 z, .int .i64 a] 162); have s1 := hk.size; have p1 := A1.out.all; have j1 := J1.out.all; clear hc hk))
  refine (isFault F _).mono ?_
  rintro e9 W4 ⟨rfl, kf⟩
  have C4 := hide (C2.out.any kf)
  have A4 := hide (A2.out.kept0 kf)
  have R4 := hide (R2.out.kept0 kf)
  have L4 := hide (L2.out.kept0 kf)
  have S4 := hide (S2.out.any kf)
  have p4 := A4.out.all
  have q4 := L4.out.all
  have r4 := R4.out.all
  have rf4 := R4.out.fz
  have J4 := hide (J2.out.kept0 kf)
  have j4 := J4.out.all
  clear kf
  clear hX p p1 j1
  have b4 := C4.out.cF
  have bz4 := C4.out.fz
  have tv := Pl.top_ok OV.out
  obtain ⟨tv0, tv1⟩ : 0 ≤ V ∧ V ≤ 65535 := by omega
  cases hv : (F.v != 0)
  · have E1 : Hid (c.ch ⟨op, z, r, m, k, e, 3⟩ = D.ch' z m k a 3 V) := hide (by rw [ET.out, hv]; rfl)
    have DF : Hid (D.f = Pl.ftNo) := hide (Pl.read_no hf HD.out (by rw [← HF.out]; exact hv))
    obtain ⟨V2, hV2⟩ : ∃ v, v = Pl.chV 3 z V := ⟨_, rfl⟩
    have OV2 : Hid (Pl.okv z V2 = true) := hide (by rw [hV2]; exact Pl.ch_ok HB.out.z OV.out)
    have tw := Pl.top_ok OV2.out
    obtain ⟨tw0, tw1⟩ : 0 ≤ V2 ∧ V2 ≤ 65535 := by omega
    obtain ⟨FL, hFL⟩ : ∃ v, v = Pl.chF 3 z D.r.f V := ⟨_, rfl⟩
    have fl : 0 ≤ FL ∧ FL ≤ 31 := by rw [hFL]; exact Pl.chF_in HB.out.z OV.out (Pl.flags_of GD.out)
    obtain ⟨E, hE⟩ : ∃ E, E = D.setF FL := ⟨_, rfl⟩
    have GE : Hid (Pl.GM E) := hide (by rw [hE]; exact GD.out.setF fl.1 fl.2)
    have FE : Hid (E.f = Pl.ftNo) := hide (by rw [hE]; exact DF.out)
    have E2 : Hid (D.ch' z m k a 3 V = E) := hide (by rw [hE, hFL]; rfl)
    have HE : Hid (E = D.setF (Pl.logF z D.r.f V)) := hide (by rw [hE, hFL]; rfl)
    clear hE hFL hV2 fl tw tv
    go_wp2_with (first | (go_at_call 174; refine (cLogic _ lo b g' D h z V C4.out tv0 tv1).mono ?_; rintro e9 W5 ⟨rfl, hc, hk⟩; rw [← HE.out] at hc; have C5 := hide hc; have A5 := hide (A4.out.kept hk (by omega)); have R5 := hide (R4.out.kept hk (by omega)); have J5 := hide (J4.out.kept hk (by omega)); have S5 := hide (S4.out.keptS hk (Nat.le_refl _) (Nat.le_refl _)); have p5 := A5.out.all; have j5 := J5.out.all; have r5 := R5.out.all; have rf5 := R5.out.fz; clear hc hk))
    have KR := (((((kept_one W5 (w.heap.size + 1) 0 (.int .i64 0)).one 1 (.int .i64 0)).one 2 (.int .i64 0)).one 3 (.int .i64 0)).one 4 (.bool false))
    refine bodyPost_ret (v := .agg #[.int .i64 0, .int .i64 0, .int .i64 0, .int .i64 0, .bool false]) ?_ rfl ⟨g', ?_, ?_, (S5.out).mine KR (by omega)⟩
    · rw [results_one rfl]; go_simp
    · rw [E1.out, E2.out, FE.out]; rfl
    · rw [E1.out, E2.out]; exact ((C5.out).kept KR (by omega) (by omega))
  · have E1 : Hid (c.ch ⟨op, z, r, m, k, e, 3⟩ = D) := hide (by rw [ET.out, hv]; rfl)
    go_wp2_with fail
    have KR := (((((kept_one W4 (w.heap.size + 1) 0 (.int .i64 F.v)).one 1 (.int .i64 F.pc)).one 2 (.int .i64 F.ad)).one 3 (.int .i64 F.wo)).one 4 (.bool F.wr))
    refine bodyPost_ret (v := .agg #[.int .i64 F.v, .int .i64 F.pc, .int .i64 F.ad, .int .i64 F.wo, .bool F.wr]) ?_ rfl ⟨g', ?_, ?_, (S4.out).mine KR (by omega)⟩
    · rw [results_one rfl]; go_simp
    · rw [E1.out, ← HF.out]; rfl
    · rw [E1.out]; exact ((C4.out).kept KR (by omega) (by omega))
end Go.Proofs.YtblddehlkaolbaaGreatDoor

