/- What the program's DecodeIns answers, for every argument: the second number is looked at only where the first word asks for it. What the program's fetch answers, of a processor that is worked on. A range over a function of which no round leaves early: a form of contract for the iterator (Gives), and one law for the caller (wp_range). An iterator may keep state of its own in new blocks. Products and quotients in numbers (Booth; Robertson): plain arithmetic; no Go text is spoken of here. Quotients place by place, put back or not (Robertson), and roots: plain arithmetic; no Go text is spoken of here. What the model's products answer. What the model's Booth digits, and its products with signs, are. The program's iterators over a word's digits: what each gives. The program's sum of shifted numbers, over any row of digits. What the model's product by digits, its quotients and its root are. What the program's three products answer. -/
import Derived.Test.YtblddehlkaolbaaGreatDoorJA27
import Derived.Test.YtblddehlkaolbaaGreatDoorJA25
import Derived.ScopeJumps
import Derived.WalkMore
import Derived.Test.YtblddehlkaolbaaGreatDoorJA1
import Derived.RangeFuncNested
import Derived.RangeFuncBound
import Derived.RangeFuncCalls
import Derived.RangeFuncLeaves
import Derived.Shelf.Abstract
import Derived.Shelf.RegionOpen
import Derived.WalkKit
import Derived.OwnWalkIn
import Derived.TacticsInMore
import Derived.LoopNIn
import Derived.LoopIn
import Derived.Test.YtblddehlkaolbaaGreatDoorJA7
import Derived.Deep.AppendLies
import Derived.Test.YtblddehlkaolbaaGreatDoorJA23
namespace Go.Proofs.YtblddehlkaolbaaGreatDoor
open Go.RowKit
set_option linter.unusedVariables false
def Pl.pdecOk (w v : Int) : Bool := Pl.wordOk w && Pl.inOk (Pl.decode w v)
def Pl.pdec (w v : Int) : Pl.In := if Pl.pdecOk w v = true then Pl.decode w v else Pl.inNo
def Pl.pdecN (w v : Int) : Int := if Pl.pdecOk w v = true then Pl.longW w else 0
theorem decWf {n v : Int} (h : Pl.wordOk n = true) (wfv : (Lit.int .i64 v).wf = true) : (Lit.int .i64 (Pl.decode n v).op).wf = true ∧ (Lit.int .i64 (Pl.decode n v).z).wf = true ∧ (Lit.int .i64 (Pl.decode n v).r).wf = true ∧ (Lit.int .i64 (Pl.decode n v).m).wf = true ∧ (Lit.int .i64 (Pl.decode n v).k).wf = true ∧ (Lit.int .i64 (Pl.decode n v).e).wf = true ∧ (Lit.int .i64 (Pl.decode n v).s).wf = true := by
  simp [Pl.wordOk, Pl.within] at h
  rw [Pl.decode_e]
  simp only [Pl.decode]
  refine ⟨wfSm (by omega) (by omega), wfSm (by omega) (by omega), wfSm (by omega) (by omega), wfSm (by omega) (by omega), wfSm (by omega) (by omega), ?_, wfSm (by omega) (by omega)⟩
  cases Pl.extM (n / 32 % 8)
  · exact wfSm (n := 0) (by decide) (by decide)
  · exact wfv
set_option maxRecDepth 20000 in
set_option maxHeartbeats 4000000 in
theorem pDecodeIns (w : World) (n v : Int) (wfn : (Lit.int .i64 n).wf = true) (wfv : (Lit.int .i64 v).wf = true) : Calls Tryz.prog 97 #[.int .i64 n, .int .i64 v] w fun e' w' => e' = .returned (.tuple #[.agg #[.int .i64 (Pl.pdec n v).op, .int .i64 (Pl.pdec n v).z, .int .i64 (Pl.pdec n v).r, .int .i64 (Pl.pdec n v).m, .int .i64 (Pl.pdec n v).k, .int .i64 (Pl.pdec n v).e, .int .i64 (Pl.pdec n v).s], .int .i64 (Pl.pdecN n v), .bool (Pl.pdecOk n v)]) ∧ Kept 0 0 w w' := by
  obtain ⟨lo, hi⟩ := wfB wfn
  have K0 := hide (kept_alloc w (.cells #[.int .i64 0, .int .i64 0, .int .i64 0, .int .i64 0, .int .i64 0, .int .i64 0, .int .i64 0] 79))
  have R0 := hide (Blk.new w #[.int .i64 0, .int .i64 0, .int .i64 0, .int .i64 0, .int .i64 0, .int .i64 0, .int .i64 0] 79)
  cases h : Pl.wordOk n
  · have G : Hid (Pl.pdecOk n v = false) := hide (by simp only [Pl.pdecOk, h]; rfl)
    go_enter Tryz.func97, Tryz.ntmps97
    go_wp2_with (go_at_call 89; refine (isWord _ _ lo hi).mono ?_; rintro e9 w9 ⟨rfl, hw⟩; have hw2 := hw.symm; clear hw; subst hw2; rw [h])
    refine bodyPost_ret (v := .tuple #[.agg #[.int .i64 0, .int .i64 0, .int .i64 0, .int .i64 0, .int .i64 0, .int .i64 0, .int .i64 0], .int .i64 0, .bool false]) ?_ rfl ⟨by simp [Pl.pdec, Pl.pdecN, G.out, Pl.inNo], ?_⟩
    · rw [results_ct2 rfl]; go_simp
    · exact K0.out
  · obtain ⟨n0, n1, wm, hl⟩ := decM (v := v) h
    have wx := decWf h wfv
    obtain ⟨x, hx⟩ : ∃ x, Pl.decode n v = x := ⟨_, rfl⟩
    rw [hx] at wm hl wx
    have HX := hide hx
    have HL := hide hl
    clear hx hl
    cases hg : Pl.inOk x
    · have G : Hid (Pl.pdecOk n v = false) := hide (by simp only [Pl.pdecOk, h, HX.out, hg]; rfl)
      go_enter Tryz.func97, Tryz.ntmps97
      go_wp2_with (first | (go_at_call 89; refine (isWord _ _ lo hi).mono ?_; rintro e9 w9 ⟨rfl, hw⟩; have hw2 := hw.symm; clear hw; subst hw2; rw [h]) | (go_at_call 137; refine (insOf _ n v n0 n1).mono ?_; rw [HX.out]; rintro e9 w2 ⟨rfl, k2⟩; have R2 := hide (R0.out.kept0 k2); have K2 := hide (K0.out.trans k2); have s2 := R2.out.lt; obtain ⟨y0, y1, y2, y3, y4, y5, y6⟩ := R2.out.c7; have fy0 := R2.out.frozen 0; have fy1 := R2.out.frozen 1; have fy2 := R2.out.frozen 2; have fy3 := R2.out.frozen 3; have fy4 := R2.out.frozen 4; have fy5 := R2.out.frozen 5; have fy6 := R2.out.frozen 6; clear k2) | (go_at_call 138; refine (implGoodIns _ x.op x.z x.r x.m x.k x.e x.s wx.1 wx.2.1 wx.2.2.1 wx.2.2.2.1 wx.2.2.2.2.1 wx.2.2.2.2.2.1 wx.2.2.2.2.2.2).mono ?_; rw [show Pl.inOk ⟨x.op, x.z, x.r, x.m, x.k, x.e, x.s⟩ = Pl.inOk x from rfl, hg]; rintro e9 w3 ⟨rfl, k3⟩; have R3 := hide ((R2.out.alloc _).kept0 k3); have X3 := hide ((Blk.new w2 #[.int .i64 x.op, .int .i64 x.z, .int .i64 x.r, .int .i64 x.m, .int .i64 x.k, .int .i64 x.e, .int .i64 x.s] 79).kept0 k3); have K3 := hide ((kept_new K2.out _).trans k3); have s3 := R3.out.lt; obtain ⟨q0, q1, q2, q3, q4, q5, q6⟩ := R3.out.c7; have fq0 := R3.out.frozen 0; have fq1 := R3.out.frozen 1; have fq2 := R3.out.frozen 2; have fq3 := R3.out.frozen 3; have fq4 := R3.out.frozen 4; have fq5 := R3.out.frozen 5; have fq6 := R3.out.frozen 6; clear k3))
      have s0 := R0.out.lt
      refine bodyPost_ret (v := .tuple #[.agg #[.int .i64 0, .int .i64 0, .int .i64 0, .int .i64 0, .int .i64 0, .int .i64 0, .int .i64 0], .int .i64 0, .bool false]) ?_ rfl ⟨by simp [Pl.pdec, Pl.pdecN, G.out, Pl.inNo], ?_⟩
      · rw [results_ct2 rfl]; go_simp
      · exact (kept_set (kept_set (kept_set (kept_set (kept_set (kept_set (kept_set K3.out _ _ _ (.inr (by omega))) _ _ _ (.inr (by omega))) _ _ _ (.inr (by omega))) _ _ _ (.inr (by omega))) _ _ _ (.inr (by omega))) _ _ _ (.inr (by omega))) _ _ _ (.inr (by omega)))
    · have G : Hid (Pl.pdecOk n v = true) := hide (by simp only [Pl.pdecOk, h, HX.out, hg]; rfl)
      have EX : Hid (Pl.pdec n v = x) := hide (by simp [Pl.pdec, G.out, HX.out])
      have EN : Hid (Pl.pdecN n v = Pl.longW n) := hide (by simp [Pl.pdecN, G.out])
      rw [EX.out, EN.out, G.out]
      obtain ⟨L, hL⟩ : ∃ L, Pl.longW n = L := ⟨_, rfl⟩
      rw [hL] at HL ⊢
      clear hL
      go_enter Tryz.func97, Tryz.ntmps97
      go_wp2_with (first | (go_at_call 89; refine (isWord _ _ lo hi).mono ?_; rintro e9 w9 ⟨rfl, hw⟩; have hw2 := hw.symm; clear hw; subst hw2; rw [h]) | (go_at_call 137; refine (insOf _ n v n0 n1).mono ?_; rw [HX.out]; rintro e9 w2 ⟨rfl, k2⟩; have R2 := hide (R0.out.kept0 k2); have K2 := hide (K0.out.trans k2); have s2 := R2.out.lt; obtain ⟨y0, y1, y2, y3, y4, y5, y6⟩ := R2.out.c7; have fy0 := R2.out.frozen 0; have fy1 := R2.out.frozen 1; have fy2 := R2.out.frozen 2; have fy3 := R2.out.frozen 3; have fy4 := R2.out.frozen 4; have fy5 := R2.out.frozen 5; have fy6 := R2.out.frozen 6; clear k2) | (go_at_call 138; refine (implGoodIns _ x.op x.z x.r x.m x.k x.e x.s wx.1 wx.2.1 wx.2.2.1 wx.2.2.2.1 wx.2.2.2.2.1 wx.2.2.2.2.2.1 wx.2.2.2.2.2.2).mono ?_; rw [show Pl.inOk ⟨x.op, x.z, x.r, x.m, x.k, x.e, x.s⟩ = Pl.inOk x from rfl, hg]; rintro e9 w3 ⟨rfl, k3⟩; have R3 := hide ((R2.out.alloc _).kept0 k3); have X3 := hide ((Blk.new w2 #[.int .i64 x.op, .int .i64 x.z, .int .i64 x.r, .int .i64 x.m, .int .i64 x.k, .int .i64 x.e, .int .i64 x.s] 79).kept0 k3); have K3 := hide ((kept_new K2.out _).trans k3); have s3 := R3.out.lt; clear k3))
      have hne : Hid (w.heap.size < w2.heap.size) := hide R2.out.lt
      refine wp_region_inv2 (fun A0 l A W => FR [19, 20, 21, 5, 6] A0 A ∧ Once l 0 (A.tmps[19]? = some (.agg #[.int .i64 x.op, .int .i64 x.z, .int .i64 x.r, .int .i64 x.m, .int .i64 x.k, .int .i64 x.e, .int .i64 x.s])) ∧ Once l 1 (A.tmps[20]? = some (.agg #[.int .i64 x.op, .int .i64 x.z, .int .i64 x.r, .int .i64 x.m, .int .i64 x.k, .int .i64 x.e, .int .i64 x.s])) ∧ Once l 2 (A.tmps[21]? = some (.int .i64 L)) ∧ Once l 3 (True) ∧ Once l 4 (A.tmps[5]? = some (.int .i64 L)) ∧ Once l 5 (A.tmps[6]? = some (.bool true)) ∧ Blk W w.heap.size (bif l.getD 3 true then #[.int .i64 x.op, .int .i64 x.z, .int .i64 x.r, .int .i64 x.m, .int .i64 x.k, .int .i64 x.e, .int .i64 x.s] else #[.int .i64 0, .int .i64 0, .int .i64 0, .int .i64 0, .int .i64 0, .int .i64 0, .int .i64 0]) 79 ∧ Blk W w2.heap.size #[.int .i64 x.op, .int .i64 x.z, .int .i64 x.r, .int .i64 x.m, .int .i64 x.k, .int .i64 x.e, .int .i64 x.s] 79 ∧ Kept 0 0 w W) (by kernel_rfl) (by kernel_rfl) ?start ?fin ?step
      case start => exact ⟨FR.refl _ _, once_start (by decide), once_start (by decide), once_start (by decide), once_start (by decide), once_start (by decide), once_start (by decide), (by rw [start_at (by decide)]; exact R3.out), X3.out, kept_drew K3.out⟩
      case fin =>
        intro l A W h hl
        obtain ⟨hFR, o0, o1, o2, o3, o4, o5, oR, oX, hK⟩ := h
        have g4 := o4 (hl 4 (by decide))
        have QR : Hid (Blk W w.heap.size #[.int .i64 x.op, .int .i64 x.z, .int .i64 x.r, .int .i64 x.m, .int .i64 x.k, .int .i64 x.e, .int .i64 x.s] 79) := hide (by rw [hl 3 (by decide)] at oR; exact oR)
        obtain ⟨q0, q1, q2, q3, q4, q5, q6⟩ := QR.out.c7
        have g5 := o5 (hl 5 (by decide))
        have QQ := hide hK
        have hc9 := hFR.chain
        simp only [List.foldl] at hc9
        rw [getD_of g4, getD_of g5] at hc9
        clear oR oX hl hK hFR g4 g5 o0 o1 o2 o3 o4 o5
        generalize A.tmps.getD 19 undef = s19 at hc9
        generalize A.tmps.getD 20 undef = s20 at hc9
        generalize A.tmps.getD 21 undef = s21 at hc9
        subst hc9
        go_simp
        go_wp2_with fail
        refine bodyPost_ret (v := .tuple #[.agg #[.int .i64 x.op, .int .i64 x.z, .int .i64 x.r, .int .i64 x.m, .int .i64 x.k, .int .i64 x.e, .int .i64 x.s], .int .i64 L, .bool true]) ?_ rfl ⟨rfl, QQ.out⟩
        rw [results_ct2 rfl]; go_simp
      case step =>
        intro l A W i hI hm
        obtain ⟨hFR, o0, o1, o2, o3, o4, o5, oR, oX, hK⟩ := hI
        obtain ⟨hi1, hi2⟩ := ready_new hm
        have hsz : Hid (21 < A.tmps.size) := hide (by rw [hFR.size]; simp)
        have m4 : A.tmps[4]? = some (.pointer (some ⟨w.heap.size, 0, none⟩)) := (hFR.out 4 (by decide)).trans rfl
        have m7 : A.tmps[7]? = some (.pointer (some ⟨w2.heap.size, 0, none⟩)) := (hFR.out 7 (by decide)).trans rfl
        rcases i with _ | _ | _ | _ | _ | _ | i
        · have OX := hide oX
          obtain ⟨x0, x1, x2, x3, x4, x5, x6⟩ := OX.out.c7
          refine wpOp_step rfl (fun KK hK2 => ?_)
          go_simp
          exact hK2 (A.put (some 19) (.agg #[.int .i64 x.op, .int .i64 x.z, .int .i64 x.r, .int .i64 x.m, .int .i64 x.k, .int .i64 x.e, .int .i64 x.s])) _ ⟨hFR.put (by decide) _, .now (put_eq (by have hz := hsz.out; omega)), o1.past (by decide) (fun h => (put_ne (by decide)).trans h), o2.past (by decide) (fun h => (put_ne (by decide)).trans h), o3.past (by decide) id, o4.past (by decide) (fun h => (put_ne (by decide)).trans h), o5.past (by decide) (fun h => (put_ne (by decide)).trans h), by rw [getD_set_ne (by decide)]; exact oR, oX, hK⟩
        · have OX := hide oX
          obtain ⟨x0, x1, x2, x3, x4, x5, x6⟩ := OX.out.c7
          refine wpOp_step rfl (fun KK hK2 => ?_)
          go_simp
          exact hK2 (A.put (some 20) (.agg #[.int .i64 x.op, .int .i64 x.z, .int .i64 x.r, .int .i64 x.m, .int .i64 x.k, .int .i64 x.e, .int .i64 x.s])) _ ⟨hFR.put (by decide) _, o0.past (by decide) (fun h => (put_ne (by decide)).trans h), .now (put_eq (by have hz := hsz.out; omega)), o2.past (by decide) (fun h => (put_ne (by decide)).trans h), o3.past (by decide) id, o4.past (by decide) (fun h => (put_ne (by decide)).trans h), o5.past (by decide) (fun h => (put_ne (by decide)).trans h), by rw [getD_set_ne (by decide)]; exact oR, oX, hK⟩
        · have e1 := o1 (ready_dep hm 1 (by kernel_rfl))
          refine wpOp_step rfl (fun KK hK2 => ?_)
          go_simp
          refine (lengthOf W x.op x.z x.r x.m x.k x.e x.s wm).mono ?_
          rw [HL.out]
          rintro r9 y ⟨rfl, kd⟩
          go_simp
          exact hK2 (A.put (some 21) (.int .i64 L)) _ ⟨hFR.put (by decide) _, o0.past (by decide) (fun h => (put_ne (by decide)).trans h), o1.past (by decide) (fun h => (put_ne (by decide)).trans h), .now (put_eq (by have hz := hsz.out; omega)), o3.past (by decide) id, o4.past (by decide) (fun h => (put_ne (by decide)).trans h), o5.past (by decide) (fun h => (put_ne (by decide)).trans h), by rw [getD_set_ne (by decide)]; exact oR.kept0 kd, oX.kept0 kd, (hK.trans kd)⟩
        · have e0 := o0 (ready_dep hm 0 (by kernel_rfl))
          have oR2 : Blk W w.heap.size #[.int .i64 0, .int .i64 0, .int .i64 0, .int .i64 0, .int .i64 0, .int .i64 0, .int .i64 0] 79 := by rw [hi2] at oR; exact oR
          have OR := hide oR2
          obtain ⟨q0, q1, q2, q3, q4, q5, q6⟩ := OR.out.c7
          have fq0 := OR.out.frozen 0; have fq1 := OR.out.frozen 1; have fq2 := OR.out.frozen 2; have fq3 := OR.out.frozen 3; have fq4 := OR.out.frozen 4; have fq5 := OR.out.frozen 5; have fq6 := OR.out.frozen 6
          have nh : w2.heap.size ≠ w.heap.size := by have := hne.out; omega
          refine wpOp_step rfl (fun KK hK2 => ?_)
          go_simp
          exact hK2 A _ ⟨hFR, o0.past (by decide) id, o1.past (by decide) id, o2.past (by decide) id, .now trivial, o4.past (by decide) id, o5.past (by decide) id, by rw [getD_set_eq]; exact (((((((oR2.set 0 (.int .i64 x.op)).set 1 (.int .i64 x.z)).set 2 (.int .i64 x.r)).set 3 (.int .i64 x.m)).set 4 (.int .i64 x.k)).set 5 (.int .i64 x.e)).set 6 (.int .i64 x.s)), (((((((oX.other w.heap.size 0 (.int .i64 x.op) nh).other w.heap.size 1 (.int .i64 x.z) nh).other w.heap.size 2 (.int .i64 x.r) nh).other w.heap.size 3 (.int .i64 x.m) nh).other w.heap.size 4 (.int .i64 x.k) nh).other w.heap.size 5 (.int .i64 x.e) nh).other w.heap.size 6 (.int .i64 x.s) nh), (kept_set (kept_set (kept_set (kept_set (kept_set (kept_set (kept_set hK _ _ _ (.inr (by omega))) _ _ _ (.inr (by omega))) _ _ _ (.inr (by omega))) _ _ _ (.inr (by omega))) _ _ _ (.inr (by omega))) _ _ _ (.inr (by omega))) _ _ _ (.inr (by omega)))⟩
        · have e2 := o2 (ready_dep hm 2 (by kernel_rfl))
          refine wpOp_step rfl (fun KK hK2 => ?_)
          go_simp
          exact hK2 (A.put (some 5) (.int .i64 L)) _ ⟨hFR.put (by decide) _, o0.past (by decide) (fun h => (put_ne (by decide)).trans h), o1.past (by decide) (fun h => (put_ne (by decide)).trans h), o2.past (by decide) (fun h => (put_ne (by decide)).trans h), o3.past (by decide) id, .now (put_eq (by have hz := hsz.out; omega)), o5.past (by decide) (fun h => (put_ne (by decide)).trans h), by rw [getD_set_ne (by decide)]; exact oR, oX, hK⟩
        · refine wpOp_step rfl (fun KK hK2 => ?_)
          go_simp
          exact hK2 (A.put (some 6) (.bool true)) _ ⟨hFR.put (by decide) _, o0.past (by decide) (fun h => (put_ne (by decide)).trans h), o1.past (by decide) (fun h => (put_ne (by decide)).trans h), o2.past (by decide) (fun h => (put_ne (by decide)).trans h), o3.past (by decide) id, o4.past (by decide) (fun h => (put_ne (by decide)).trans h), .now (put_eq (by have hz := hsz.out; omega)), by rw [getD_set_ne (by decide)]; exact oR, oX, hK⟩
        · simp at hi1
          omega
end Go.Proofs.YtblddehlkaolbaaGreatDoor

namespace Go.Proofs.YtblddehlkaolbaaGreatDoor
open Go.RowKit
set_option linter.unusedVariables false
theorem wp_scope_once {P : Program} {a : Act} {w : World} {Q : Exit → Act → World → Prop} {c rest : Code} (l : Nat) (hf : findLabel c l = some rest)
    (first : c.wp P (Exit.jump l (fun a' w' => rest.wp P (Exit.noGoto Q) a' w') Q) a w) : (Code.scope c).wp P Q a w := by
  refine wp_scope_jumps l (fun a' w' => rest.wp P (Exit.noGoto Q) a' w') (fun _ _ => 0) hf first (fun a' w' h => ?_)
  refine Code.wp_mono (fun e a'' w'' hq => ?_) h
  cases e <;> first | exact hq | exact (hq : False).elim
theorem results_ctc {fn : Func} {p u q : Tmp} {ty tz : TypeId} (h : fn.results = #[.cell p ty, .tmp u, .cell q tz]) (tmps : Array Value) (P : Program) (w : World) :
    (results fn tmps).run P w = ((asAddr (tmps.getD p undef)).run P w).andThen fun a w₁ => ((loadVar ty a).run P w₁).andThen fun v w₂ => ((asAddr (tmps.getD q undef)).run P w₂).andThen fun b w₃ => ((loadVar tz b).run P w₃).andThen fun x w₄ => .ok (.tuple #[v, tmps.getD u undef, x]) w₄ := by
  simp only [results, h]
  simp [Sem.run_bind, Result.andThen]
namespace Pl
def Mc.fetF (c : Mc) : Ft := bif c.fetch.fine then ftNo else c.fetch.f
theorem accF_with (p q : Int) (k s a : Int) : Mc.accF { ftNo with pc := p, wo := q } k s a = { Mc.accF ftNo k s a with pc := p, wo := q } := by
  unfold Mc.accF
  show (bif (code k s a != 0) && true then _ else _) = _
  cases code k s a != 0 <;> rfl
theorem accF_no {k s a : Int} (h : ((Mc.accF ftNo k s a).v != 0) = false) : code k s a = 0 ∧ Mc.accF ftNo k s a = ftNo := by
  unfold Mc.accF at *
  cases hc : code k s a != 0
  · exact ⟨by simpa using hc, rfl⟩
  · rw [hc] at h
    cases h2 : code k s a == 2 <;> rw [h2] at h <;> cases h
theorem accF_yes {k s a : Int} (h : ((Mc.accF ftNo k s a).v != 0) = true) : ¬ code k s a = 0 := by
  intro hc
  unfold Mc.accF at h
  rw [hc] at h
  cases h
theorem lv_zero {xs : List Int} {k s a : Int} (h : ¬ code k s a = 0) : lv xs k s a 0 = 0 := by
  unfold lv; rw [if_neg (fun q => h q.1)]
theorem fetch_A {c : Mc} (h1 : c.fe1.fine = false) : c.fetch = c.fe1 ∧ c.fetI = inNo ∧ c.fetN = 0 ∧ c.fetF = c.fe1.f := by
  have e : c.fetch = c.fe1 := by unfold Mc.fetch; rw [h1]; rfl
  refine ⟨e, ?_, ?_, ?_⟩
  · unfold Mc.fetI; rw [h1]; rfl
  · unfold Mc.fetN; rw [h1]; rfl
  · unfold Mc.fetF; rw [e, h1]; rfl
theorem fetch_B {c : Mc} (h1 : c.fe1.fine = true) (h3 : c.fe3.fine = false) : c.fetch = c.fe3 ∧ c.fetI = inNo ∧ c.fetN = 0 ∧ c.fetF = c.fe3.f := by
  have e : c.fetch = c.fe3 := by unfold Mc.fetch; rw [h1, h3]; rfl
  refine ⟨e, ?_, ?_, ?_⟩
  · unfold Mc.fetI; rw [h1, h3]; rfl
  · unfold Mc.fetN; rw [h1, h3]; rfl
  · unfold Mc.fetF; rw [e, h3]; rfl
theorem fetch_C {c : Mc} (h1 : c.fe1.fine = true) (h3 : c.fe3.fine = true) (hx : inOk c.feX = false) : c.fetch = c.fe4 ∧ c.fetI = inNo ∧ c.fetN = 0 ∧ c.fetF = c.fe4.f := by
  have e : c.fetch = c.fe4 := by unfold Mc.fetch; rw [h1, h3, hx]; rfl
  refine ⟨e, ?_, ?_, ?_⟩
  · unfold Mc.fetI; rw [h1, h3, hx]; rfl
  · unfold Mc.fetN; rw [h1, h3, hx]; rfl
  · unfold Mc.fetF; rw [e]; rfl
theorem fetch_D {c : Mc} (h1 : c.fe1.fine = true) (h3 : c.fe3.fine = true) (hx : inOk c.feX = true) : c.fetch = c.fe3 ∧ c.fetI = c.feX ∧ c.fetN = longW c.feW ∧ c.fetF = ftNo := by
  have e : c.fetch = c.fe3 := by unfold Mc.fetch; rw [h1, h3, hx]; rfl
  refine ⟨e, ?_, ?_, ?_⟩
  · unfold Mc.fetI; rw [h1, h3, hx]; rfl
  · unfold Mc.fetN; rw [h1, h3, hx]; rfl
  · unfold Mc.fetF; rw [e, h3]; rfl
theorem longW_12 (n : Int) : longW n = 1 ∨ longW n = 2 := by unfold longW; split <;> simp
end Pl
theorem CAt.fx {w : World} {lo b g : Nat} {c d : Pl.Mc} {h : Bool} (a : CAt w lo b g c h) (hr : d.r = c.r) (hx : d.bx = c.bx) (hl : d.bl = c.bl) (hm : d.bm = c.bm) (hs : d.st = c.st) : CAt w lo b g d h := by
  unfold CAt CBk at *
  rw [hr, hx, hl, hm, hs]
  exact a
set_option maxRecDepth 100000 in
set_option maxHeartbeats 8000000 in
theorem cFetch (w : World) (lo b g : Nat) (c : Pl.Mc) (h : Bool) (hC : CAt w lo b g c h) (G : Pl.GM c) (hf : c.f = Pl.ftNo) :
    Calls Tryz.prog 52 #[.pointer (some ⟨b, 0, none⟩)] w fun e w' => ∃ g', e = .returned (.tuple #[.agg (insC c.fetI), .int .i64 c.fetN, .agg (ftC c.fetF)]) ∧ CAt w' lo b g' (c.fetch) h ∧ Since w b (b + 1) g w' g' := by
  obtain ⟨l0, l1, l2, l3, l4⟩ := hC.lt
  have p0 := G.p0
  have p1 := G.p1
  have HG := hide G
  have K0 := hide (kept_new (kept_new (kept_alloc w (.cells #[.int .i64 0, .int .i64 0, .int .i64 0, .int .i64 0, .int .i64 0, .int .i64 0, .int .i64 0] 79)) (.cells #[.int .i64 0, .int .i64 0, .int .i64 0, .int .i64 0, .bool false] 38)) (.cells #[.int .i64 0, .int .i64 0] 129))
  have C0 := hide (((hC.alloc (.cells #[.int .i64 0, .int .i64 0, .int .i64 0, .int .i64 0, .int .i64 0, .int .i64 0, .int .i64 0] 79)).alloc (.cells #[.int .i64 0, .int .i64 0, .int .i64 0, .int .i64 0, .bool false] 38)).alloc (.cells #[.int .i64 0, .int .i64 0] 129))
  have I0 := hide (((Blk.new w #[.int .i64 0, .int .i64 0, .int .i64 0, .int .i64 0, .int .i64 0, .int .i64 0, .int .i64 0] 79).alloc (.cells #[.int .i64 0, .int .i64 0, .int .i64 0, .int .i64 0, .bool false] 38)).alloc (.cells #[.int .i64 0, .int .i64 0] 129))
  have R0 := (Blk.new (w.alloc (.cells #[.int .i64 0, .int .i64 0, .int .i64 0, .int .i64 0, .int .i64 0, .int .i64 0, .int .i64 0] 79)) #[.int .i64 0, .int .i64 0, .int .i64 0, .int .i64 0, .bool false] 38).alloc (.cells #[.int .i64 0, .int .i64 0] 129)
  have D0 := Blk.new ((w.alloc (.cells #[.int .i64 0, .int .i64 0, .int .i64 0, .int .i64 0, .int .i64 0, .int .i64 0, .int .i64 0] 79)).alloc (.cells #[.int .i64 0, .int .i64 0, .int .i64 0, .int .i64 0, .bool false] 38)) #[.int .i64 0, .int .i64 0] 129
  simp only [World.size_alloc] at R0 D0
  replace R0 := hide R0
  replace D0 := hide D0
  obtain ⟨X, hX⟩ : ∃ X : World, ((w.alloc (.cells #[.int .i64 0, .int .i64 0, .int .i64 0, .int .i64 0, .int .i64 0, .int .i64 0, .int .i64 0] 79)).alloc (.cells #[.int .i64 0, .int .i64 0, .int .i64 0, .int .i64 0, .bool false] 38)).alloc (.cells #[.int .i64 0, .int .i64 0] 129) = X := ⟨_, rfl⟩
  rw [hX] at K0 C0 I0 R0 D0
  have x9 := C0.out.cP
  have HA1 := hide (Pl.ask_read (k := 3) (.inr rfl) p0 p1)
  obtain ⟨V1, hV1⟩ : ∃ V, V = c.feW := ⟨_, rfl⟩
  have HV1 : Hid (V1 = if (3 : Int) = 2 then 0 else Pl.lv c.bx 3 2 c.r.p 0) := hide hV1
  obtain ⟨F1, hF1⟩ : ∃ F, F = Pl.Mc.accF Pl.ftNo 3 2 c.r.p := ⟨_, rfl⟩
  have HF1 := hide hF1
  have E1 : Hid (c.fe1.f = { F1 with pc := c.r.p, wo := 0 }) := hide (by
    show Pl.Mc.accF { c.f with pc := c.r.p } 3 2 c.r.p = _
    rw [hf, hF1]; exact Pl.accF_with c.r.p 0 3 2 c.r.p)
  have epp : c.r.p % 65536 = c.r.p := by omega
  have HW1 := hide hV1
  clear hC G hF1 hV1
  go_enter Tryz.func52, Tryz.ntmps52
  go_wp2_with fail
  refine wp_scope_once 0 rfl ?_
  go_wp2_with fail
  go_step3
  go_wp2_with (first | (go_at_call 95; refine (wrapWord _ _).mono ?_; rintro e w' ⟨rfl, hw⟩; have hw2 := hw.symm; clear hw; subst hw2) | (go_at_call 94; refine (cAccess _ lo b g c h 3 2 c.r.p 0 C0.out HG.out HA1.out V1 HV1 F1 HF1).mono ?_; rintro e W3 ⟨g3, rfl, hc3, hs3⟩; unfold ftC; have S3 := hide ((((Since.refl w b (b + 1) g).any K0.out).trans hs3).alloc (.cells #[.int .i64 F1.v, .int .i64 F1.pc, .int .i64 F1.ad, .int .i64 F1.wo, .bool F1.wr] 38)); have C3 := hide (hc3.alloc (.cells #[.int .i64 F1.v, .int .i64 F1.pc, .int .i64 F1.ad, .int .i64 F1.wo, .bool F1.wr] 38)); have I3 := hide ((hs3.blk I0.out (by omega) (by omega)).alloc (.cells #[.int .i64 F1.v, .int .i64 F1.pc, .int .i64 F1.ad, .int .i64 F1.wo, .bool F1.wr] 38)); have R3 := hide ((hs3.blk R0.out (by omega) (by omega)).alloc (.cells #[.int .i64 F1.v, .int .i64 F1.pc, .int .i64 F1.ad, .int .i64 F1.wo, .bool F1.wr] 38)); have D3 := hide ((hs3.blk D0.out (by omega) (by omega)).alloc (.cells #[.int .i64 F1.v, .int .i64 F1.pc, .int .i64 F1.ad, .int .i64 F1.wo, .bool F1.wr] 38)); have L3 := hide (Blk.new W3 #[.int .i64 F1.v, .int .i64 F1.pc, .int .i64 F1.ad, .int .i64 F1.wo, .bool F1.wr] 38); have sX := D0.out.lt; have s3 := hs3.size; obtain ⟨y0, y1, y2, y3, y4⟩ := hc3.lt; have n0 := hs3.ne (b := w.heap.size) I0.out.lt (by omega); have n1 := hs3.ne (b := w.heap.size + 1) R0.out.lt (by omega); have n2 := hs3.ne (b := w.heap.size + 1 + 1) D0.out.lt (by omega); have d3 := D3.out.all; have df3 := D3.out.fz; have l3c := fun v => (L3.out.other (w.heap.size + 1 + 1) 0 v (by omega)).all; clear hc3 hs3))
  refine (isFault F1 _).mono ?_
  rintro e W4 ⟨rfl, k4⟩
  have C4 := hide ((C3.out.other (w.heap.size + 1 + 1) 0 (.int .i64 V1) (by omega) (by omega)).any k4)
  have I4 := hide ((I3.out.other (w.heap.size + 1 + 1) 0 (.int .i64 V1) (by omega)).kept0 k4)
  have R4 := hide ((R3.out.other (w.heap.size + 1 + 1) 0 (.int .i64 V1) (by omega)).kept0 k4)
  have L4 := hide ((L3.out.other (w.heap.size + 1 + 1) 0 (.int .i64 V1) (by omega)).kept0 k4)
  have D4 : Hid (Blk W4 (w.heap.size + 1 + 1) #[.int .i64 V1, .int .i64 0] 129) := hide ((D3.out.set 0 (.int .i64 V1)).kept0 k4)
  have S4 := hide ((S3.out.mine (kept_one (W3.alloc (.cells #[.int .i64 F1.v, .int .i64 F1.pc, .int .i64 F1.ad, .int .i64 F1.wo, .bool F1.wr] 38)) (w.heap.size + 1 + 1) 0 (.int .i64 V1)) (by omega)).any k4)
  have s4 := L4.out.lt
  clear k4 C3 I3 R3 L3 D3 S3 d3 df3 l3c x9
  have d4 := D4.out.all
  have e4 := L4.out.all
  have ef4 := L4.out.fz
  have i4 := I4.out.all
  have if4 := I4.out.fz
  have r4 := R4.out.all
  have rf4 := R4.out.fz
  cases hv : (F1.v != 0)
  · obtain ⟨hc0, hFn⟩ := Pl.accF_no (by rw [← HF1.out]; exact hv)
    have EF1 : Hid (F1 = Pl.ftNo) := hide (by rw [HF1.out]; exact hFn)
    have h1 : c.fe1.fine = true := by unfold Pl.Mc.fine; rw [E1.out]; simpa using hv
    have hw : Pl.okv 2 V1 = true := by rw [HW1.out]; exact Pl.GM.accV (c := c.fe0) (HG.out.ft _) HA1.out
    have hw2 := Pl.top_ok hw
    obtain ⟨v0, v1⟩ : 0 ≤ V1 ∧ V1 ≤ 65535 := by omega
    have okW : Pl.wordOk V1 = true := by simp [Pl.wordOk, Pl.within]; omega
    have wfV1 : (Lit.int .i64 V1).wf = true := wfSm (by omega) (by omega)
    have E2 : Hid (c.fe2.f = ⟨0, c.r.p, 0, V1, false⟩) := hide (by
      show ({ c.fe1.f with wo := c.feW } : Pl.Ft) = _
      rw [E1.out, EF1.out, HW1.out]; rfl)
    clear hw hw2 hc0 hFn
    go_wp2_with fail
    refine (implLongIns _ V1 wfV1).mono ?_
    rintro e W5 ⟨rfl, k5⟩
    rw [if_pos okW, okW]
    have C5 := hide (C4.out.any k5)
    have I5 := hide (I4.out.kept0 k5)
    have R5 := hide (R4.out.kept0 k5)
    have D5 := hide (D4.out.kept0 k5)
    have S5 := hide (S4.out.any k5)
    have s5 := k5.size
    have d5 := D5.out.all
    clear k5
    clear d4 e4 ef4 i4 if4 r4 rf4
    rcases Pl.longW_12 V1 with hl | hl
    · have hl2 : (Pl.longW c.feW == 2) = false := by rw [← HW1.out, hl]; rfl
      have E3 : Hid (c.fe3.f = ⟨0, c.r.p, 0, V1, false⟩) := hide (by unfold Pl.Mc.fe3; rw [hl2]; exact E2.out)
      have EQ3 : Hid (c.fe3 = c.fe2) := hide (by unfold Pl.Mc.fe3; rw [hl2]; rfl)
      have h3 : c.fe3.fine = true := by unfold Pl.Mc.fine; rw [E3.out]; rfl
      have EX : Hid (c.feX = Pl.decode V1 0) := hide (by unfold Pl.Mc.feX Pl.Mc.feN; rw [hl2, ← HW1.out]; rfl)
      rw [hl]
      clear hl2
      go_wp2_with fail
      refine (pDecodeIns _ V1 0 wfV1 (by decide)).mono ?_
      rintro e W9 ⟨rfl, k9⟩
      obtain ⟨x, hx⟩ : ∃ x, x = Pl.pdec V1 0 := ⟨_, rfl⟩
      obtain ⟨N, hN⟩ : ∃ N, N = Pl.pdecN V1 0 := ⟨_, rfl⟩
      rw [← hx, ← hN]
      have C9 := hide ((C5.out.any k9).alloc (.cells #[.int .i64 x.op, .int .i64 x.z, .int .i64 x.r, .int .i64 x.m, .int .i64 x.k, .int .i64 x.e, .int .i64 x.s] 79))
      have I9 := hide ((I5.out.kept0 k9).alloc (.cells #[.int .i64 x.op, .int .i64 x.z, .int .i64 x.r, .int .i64 x.m, .int .i64 x.k, .int .i64 x.e, .int .i64 x.s] 79))
      have R9 := hide ((R5.out.kept0 k9).alloc (.cells #[.int .i64 x.op, .int .i64 x.z, .int .i64 x.r, .int .i64 x.m, .int .i64 x.k, .int .i64 x.e, .int .i64 x.s] 79))
      have D9 := hide ((D5.out.kept0 k9).alloc (.cells #[.int .i64 x.op, .int .i64 x.z, .int .i64 x.r, .int .i64 x.m, .int .i64 x.k, .int .i64 x.e, .int .i64 x.s] 79))
      have S9 := hide ((S5.out.any k9).alloc (.cells #[.int .i64 x.op, .int .i64 x.z, .int .i64 x.r, .int .i64 x.m, .int .i64 x.k, .int .i64 x.e, .int .i64 x.s] 79))
      have s9 := k9.size
      have i9 := I9.out.all
      have if9 := I9.out.fz
      have r9 := R9.out.all
      have rf9 := R9.out.fz
      have d9 := D9.out.all
      clear k9
      have HX := hide hx
      have HN := hide hN
      clear hx hN
      cases hk : Pl.pdecOk V1 0
      · have hb : Pl.inOk c.feX = false := by
          have := hk; unfold Pl.pdecOk at this; rw [okW, Bool.true_and] at this
          rw [show c.feX = Pl.decode V1 0 from EX.out]; exact this
        obtain ⟨ES, EI, EN, EF⟩ := Pl.fetch_C h1 h3 hb
        replace ES := hide (ES.trans (show c.fe4 = { c.fe3 with f := { c.fe3.f with v := 4 } } from rfl))
        replace EI := hide EI
        replace EN := hide EN
        have EF : Hid (c.fetF = ⟨4, c.r.p, 0, V1, false⟩) := hide (by rw [EF]; show ({ c.fe3.f with v := 4 } : Pl.Ft) = _; rw [E3.out])
        clear hb
        go_wp2_with fail
        go_region
        go_wp2_with fail
        have K7 := (((((((kept_one (W9.alloc (.cells #[.int .i64 x.op, .int .i64 x.z, .int .i64 x.r, .int .i64 x.m, .int .i64 x.k, .int .i64 x.e, .int .i64 x.s] 79)) w.heap.size 0 (.int .i64 0)).one 1 (.int .i64 0)).one 2 (.int .i64 0)).one 3 (.int .i64 0)).one 4 (.int .i64 0)).one 5 (.int .i64 0)).one 6 (.int .i64 0))
        have K8 := (kept_drew ((((((kept_one ((((((((W9.alloc (.cells #[.int .i64 x.op, .int .i64 x.z, .int .i64 x.r, .int .i64 x.m, .int .i64 x.k, .int .i64 x.e, .int .i64 x.s] 79)).setCell ⟨w.heap.size, 0, none⟩ (.int .i64 0)).setCell ⟨w.heap.size, 1, none⟩ (.int .i64 0)).setCell ⟨w.heap.size, 2, none⟩ (.int .i64 0)).setCell ⟨w.heap.size, 3, none⟩ (.int .i64 0)).setCell ⟨w.heap.size, 4, none⟩ (.int .i64 0)).setCell ⟨w.heap.size, 5, none⟩ (.int .i64 0)).setCell ⟨w.heap.size, 6, none⟩ (.int .i64 0)) (w.heap.size + 1) 0 (.int .i64 4)).one 1 (.int .i64 c.r.p)).one 2 (.int .i64 0)).one 3 (.int .i64 V1)).one 4 (.bool false))))
        first | simp only [Exit.jump] | rw [Exit.noGoto_ret]
        refine bodyPost_ret (v := .tuple #[.agg #[.int .i64 0, .int .i64 0, .int .i64 0, .int .i64 0, .int .i64 0, .int .i64 0, .int .i64 0], .int .i64 0, .agg #[.int .i64 4, .int .i64 c.r.p, .int .i64 0, .int .i64 V1, .bool false]]) ?_ rfl ⟨g3, ?_, ?_, ((S9.out).mine K7 (by omega)).mine K8 (by omega)⟩
        · rw [results_ctc rfl]; go_simp
        · rw [EI.out, EN.out, EF.out]; rfl
        · rw [ES.out, EQ3.out]; exact (((C9.out).kept K7 (by omega) (by omega)).kept K8 (by omega) (by omega)).fx rfl rfl rfl rfl rfl
      · have hb : Pl.inOk c.feX = true := by
          have := hk; unfold Pl.pdecOk at this; rw [okW, Bool.true_and] at this
          rw [show c.feX = Pl.decode V1 0 from EX.out]; exact this
        obtain ⟨ES, EI, EN, EF⟩ := Pl.fetch_D h1 h3 hb
        replace ES := hide ES
        have EI : Hid (c.fetI = x) := hide (by rw [EI, HX.out]; unfold Pl.pdec; rw [if_pos hk]; exact EX.out)
        have EN : Hid (c.fetN = N) := hide (by rw [EN, HN.out]; unfold Pl.pdecN; rw [if_pos hk, HW1.out])
        replace EF := hide EF
        clear hb
        go_wp2_with fail
        have K7 := (((((((kept_one (W9.alloc (.cells #[.int .i64 x.op, .int .i64 x.z, .int .i64 x.r, .int .i64 x.m, .int .i64 x.k, .int .i64 x.e, .int .i64 x.s] 79)) w.heap.size 0 (.int .i64 x.op)).one 1 (.int .i64 x.z)).one 2 (.int .i64 x.r)).one 3 (.int .i64 x.m)).one 4 (.int .i64 x.k)).one 5 (.int .i64 x.e)).one 6 (.int .i64 x.s))
        have K8 := ((((((kept_one ((((((((W9.alloc (.cells #[.int .i64 x.op, .int .i64 x.z, .int .i64 x.r, .int .i64 x.m, .int .i64 x.k, .int .i64 x.e, .int .i64 x.s] 79)).setCell ⟨w.heap.size, 0, none⟩ (.int .i64 x.op)).setCell ⟨w.heap.size, 1, none⟩ (.int .i64 x.z)).setCell ⟨w.heap.size, 2, none⟩ (.int .i64 x.r)).setCell ⟨w.heap.size, 3, none⟩ (.int .i64 x.m)).setCell ⟨w.heap.size, 4, none⟩ (.int .i64 x.k)).setCell ⟨w.heap.size, 5, none⟩ (.int .i64 x.e)).setCell ⟨w.heap.size, 6, none⟩ (.int .i64 x.s)) (w.heap.size + 1) 0 (.int .i64 0)).one 1 (.int .i64 0)).one 2 (.int .i64 0)).one 3 (.int .i64 0)).one 4 (.bool false)))
        first | simp only [Exit.jump] | rw [Exit.noGoto_ret]
        refine bodyPost_ret (v := .tuple #[.agg #[.int .i64 x.op, .int .i64 x.z, .int .i64 x.r, .int .i64 x.m, .int .i64 x.k, .int .i64 x.e, .int .i64 x.s], .int .i64 N, .agg #[.int .i64 0, .int .i64 0, .int .i64 0, .int .i64 0, .bool false]]) ?_ rfl ⟨g3, ?_, ?_, ((S9.out).mine K7 (by omega)).mine K8 (by omega)⟩
        · rw [results_ctc rfl]; go_simp
        · rw [EI.out, EN.out, EF.out]; rfl
        · rw [ES.out, EQ3.out]; exact (((C9.out).kept K7 (by omega) (by omega)).kept K8 (by omega) (by omega)).fx rfl rfl rfl rfl rfl
    · have hl2 : (Pl.longW c.feW == 2) = true := by rw [← HW1.out, hl]; rfl
      obtain ⟨A, hA⟩ : ∃ A, A = c.feA := ⟨_, rfl⟩
      have eA : (c.r.p + 2) % 65536 = A := hA.symm
      have a0 : 0 ≤ A := by omega
      have a1 : A ≤ 65535 := by omega
      have HA2 := hide (Pl.ask_read (k := 3) (.inr rfl) a0 a1)
      have HG1 := hide (HG.out.acc HA1.out)
      obtain ⟨V2, hV2⟩ : ∃ V, V = c.fe2.accV 3 2 A 0 := ⟨_, rfl⟩
      have HV2 : Hid (V2 = if (3 : Int) = 2 then 0 else Pl.lv (c.acc 3 2 c.r.p 0).bx 3 2 A 0) := hide hV2
      obtain ⟨F2, hF2⟩ : ∃ F, F = Pl.Mc.accF Pl.ftNo 3 2 A := ⟨_, rfl⟩
      have HF2 := hide hF2
      have EQ3 : Hid (c.fe3 = c.fe2.acc 3 2 A 0) := hide (by unfold Pl.Mc.fe3; rw [hl2, hA]; rfl)
      have E3 : Hid (c.fe3.f = { F2 with pc := c.r.p, wo := V1 }) := hide (by
        rw [EQ3.out]
        show Pl.Mc.accF c.fe2.f 3 2 A = _
        rw [E2.out, hF2]; exact Pl.accF_with c.r.p V1 3 2 A)
      have EX : Hid (c.feX = Pl.decode V1 V2) := hide (by unfold Pl.Mc.feX Pl.Mc.feN; rw [hl2, ← HW1.out, hV2, hA]; rfl)
      have hw : Pl.okv 2 V2 = true := by rw [hV2]; exact Pl.GM.accV (c := c.acc 3 2 c.r.p 0) HG1.out HA2.out
      have hw2 := Pl.top_ok hw
      have wfV2 : (Lit.int .i64 V2).wf = true := wfSm (by omega) (by omega)
      rw [hl]
      clear hl2 hA hV2 hF2 hw hw2
      go_wp2_with fail
      go_step3
      refine ⟨rfl, ?_⟩
      go_wp2_with (first | (go_at_call 95; refine (wrapWord _ _).mono ?_; rintro e w' ⟨rfl, hw⟩; have hw2 := hw.symm; clear hw; subst hw2; rw [eA]) | (go_at_call 94; refine (cAccess _ lo b g3 (c.acc 3 2 c.r.p 0) h 3 2 A 0 C5.out HG1.out HA2.out V2 HV2 F2 HF2).mono ?_; rintro e W6 ⟨g6, rfl, hc6, hs6⟩; unfold ftC; have S6 := hide ((S5.out.trans hs6).alloc (.cells #[.int .i64 F2.v, .int .i64 F2.pc, .int .i64 F2.ad, .int .i64 F2.wo, .bool F2.wr] 38)); have C6 := hide (hc6.alloc (.cells #[.int .i64 F2.v, .int .i64 F2.pc, .int .i64 F2.ad, .int .i64 F2.wo, .bool F2.wr] 38)); have I6 := hide ((hs6.blk I5.out (by omega) (by omega)).alloc (.cells #[.int .i64 F2.v, .int .i64 F2.pc, .int .i64 F2.ad, .int .i64 F2.wo, .bool F2.wr] 38)); have R6 := hide ((hs6.blk R5.out (by omega) (by omega)).alloc (.cells #[.int .i64 F2.v, .int .i64 F2.pc, .int .i64 F2.ad, .int .i64 F2.wo, .bool F2.wr] 38)); have D6 := hide ((hs6.blk D5.out (by omega) (by omega)).alloc (.cells #[.int .i64 F2.v, .int .i64 F2.pc, .int .i64 F2.ad, .int .i64 F2.wo, .bool F2.wr] 38)); have L6 := hide (Blk.new W6 #[.int .i64 F2.v, .int .i64 F2.pc, .int .i64 F2.ad, .int .i64 F2.wo, .bool F2.wr] 38); have s6 := hs6.size; obtain ⟨z0, z1, z2, z3, z4⟩ := hc6.lt; have m0 := hs6.ne (b := w.heap.size) I5.out.lt (by omega); have m1 := hs6.ne (b := w.heap.size + 1) R5.out.lt (by omega); have m2 := hs6.ne (b := w.heap.size + 1 + 1) D5.out.lt (by omega); have d6 := D6.out.all; have df6 := D6.out.fz; have l6c := fun v => (L6.out.other (w.heap.size + 1 + 1) 1 v (by omega)).all; clear hc6 hs6))
      refine (isFault F2 _).mono ?_
      rintro e W7 ⟨rfl, k7⟩
      have C7 := hide ((C6.out.other (w.heap.size + 1 + 1) 1 (.int .i64 V2) (by omega) (by omega)).any k7)
      have I7 := hide ((I6.out.other (w.heap.size + 1 + 1) 1 (.int .i64 V2) (by omega)).kept0 k7)
      have R7 := hide ((R6.out.other (w.heap.size + 1 + 1) 1 (.int .i64 V2) (by omega)).kept0 k7)
      have L7 := hide ((L6.out.other (w.heap.size + 1 + 1) 1 (.int .i64 V2) (by omega)).kept0 k7)
      have D7 : Hid (Blk W7 (w.heap.size + 1 + 1) #[.int .i64 V1, .int .i64 V2] 129) := hide ((D6.out.set 1 (.int .i64 V2)).kept0 k7)
      have S7 := hide ((S6.out.mine (kept_one (W6.alloc (.cells #[.int .i64 F2.v, .int .i64 F2.pc, .int .i64 F2.ad, .int .i64 F2.wo, .bool F2.wr] 38)) (w.heap.size + 1 + 1) 1 (.int .i64 V2)) (by omega)).any k7)
      have s7 := L7.out.lt
      clear k7 C6 I6 R6 L6 D6 S6 d6 df6 l6c d5
      have d7 := D7.out.all
      have e7 := L7.out.all
      have ef7 := L7.out.fz
      have i7 := I7.out.all
      have if7 := I7.out.fz
      have r7 := R7.out.all
      have rf7 := R7.out.fz
      cases hv2 : (F2.v != 0)
      · obtain ⟨hc0, hFn⟩ := Pl.accF_no (by rw [← HF2.out]; exact hv2)
        have EF2 : Hid (F2 = Pl.ftNo) := hide (by rw [HF2.out]; exact hFn)
        have h3 : c.fe3.fine = true := by unfold Pl.Mc.fine; rw [E3.out]; simpa using hv2
        replace E3 : Hid (c.fe3.f = ⟨0, c.r.p, 0, V1, false⟩) := hide (by rw [E3.out, EF2.out]; rfl)
        clear hc0 hFn
        go_wp2_with fail
        refine (implLongIns _ V1 wfV1).mono ?_
        rintro e W8 ⟨rfl, k8⟩
        rw [if_pos okW, okW, hl]
        have C8 := hide (C7.out.any k8)
        have I8 := hide (I7.out.kept0 k8)
        have R8 := hide (R7.out.kept0 k8)
        have D8 := hide (D7.out.kept0 k8)
        have S8 := hide (S7.out.any k8)
        have s8 := k8.size
        have d8 := D8.out.all
        clear k8
        clear d7 e7 ef7 i7 if7 r7 rf7
        go_wp2_with fail
        refine (pDecodeIns _ V1 V2 wfV1 wfV2).mono ?_
        rintro e W9 ⟨rfl, k9⟩
        obtain ⟨x, hx⟩ : ∃ x, x = Pl.pdec V1 V2 := ⟨_, rfl⟩
        obtain ⟨N, hN⟩ : ∃ N, N = Pl.pdecN V1 V2 := ⟨_, rfl⟩
        rw [← hx, ← hN]
        have C9 := hide ((C8.out.any k9).alloc (.cells #[.int .i64 x.op, .int .i64 x.z, .int .i64 x.r, .int .i64 x.m, .int .i64 x.k, .int .i64 x.e, .int .i64 x.s] 79))
        have I9 := hide ((I8.out.kept0 k9).alloc (.cells #[.int .i64 x.op, .int .i64 x.z, .int .i64 x.r, .int .i64 x.m, .int .i64 x.k, .int .i64 x.e, .int .i64 x.s] 79))
        have R9 := hide ((R8.out.kept0 k9).alloc (.cells #[.int .i64 x.op, .int .i64 x.z, .int .i64 x.r, .int .i64 x.m, .int .i64 x.k, .int .i64 x.e, .int .i64 x.s] 79))
        have D9 := hide ((D8.out.kept0 k9).alloc (.cells #[.int .i64 x.op, .int .i64 x.z, .int .i64 x.r, .int .i64 x.m, .int .i64 x.k, .int .i64 x.e, .int .i64 x.s] 79))
        have S9 := hide ((S8.out.any k9).alloc (.cells #[.int .i64 x.op, .int .i64 x.z, .int .i64 x.r, .int .i64 x.m, .int .i64 x.k, .int .i64 x.e, .int .i64 x.s] 79))
        have s9 := k9.size
        have i9 := I9.out.all
        have if9 := I9.out.fz
        have r9 := R9.out.all
        have rf9 := R9.out.fz
        have d9 := D9.out.all
        clear k9
        have HX := hide hx
        have HN := hide hN
        clear hx hN
        cases hk : Pl.pdecOk V1 V2
        · have hb : Pl.inOk c.feX = false := by
            have := hk; unfold Pl.pdecOk at this; rw [okW, Bool.true_and] at this
            rw [show c.feX = Pl.decode V1 V2 from EX.out]; exact this
          obtain ⟨ES, EI, EN, EF⟩ := Pl.fetch_C h1 h3 hb
          replace ES := hide (ES.trans (show c.fe4 = { c.fe3 with f := { c.fe3.f with v := 4 } } from rfl))
          replace EI := hide EI
          replace EN := hide EN
          have EF : Hid (c.fetF = ⟨4, c.r.p, 0, V1, false⟩) := hide (by rw [EF]; show ({ c.fe3.f with v := 4 } : Pl.Ft) = _; rw [E3.out])
          clear hb
          go_wp2_with fail
          go_region
          go_wp2_with fail
          have K7 := (((((((kept_one (W9.alloc (.cells #[.int .i64 x.op, .int .i64 x.z, .int .i64 x.r, .int .i64 x.m, .int .i64 x.k, .int .i64 x.e, .int .i64 x.s] 79)) w.heap.size 0 (.int .i64 0)).one 1 (.int .i64 0)).one 2 (.int .i64 0)).one 3 (.int .i64 0)).one 4 (.int .i64 0)).one 5 (.int .i64 0)).one 6 (.int .i64 0))
          have K8 := (kept_drew ((((((kept_one ((((((((W9.alloc (.cells #[.int .i64 x.op, .int .i64 x.z, .int .i64 x.r, .int .i64 x.m, .int .i64 x.k, .int .i64 x.e, .int .i64 x.s] 79)).setCell ⟨w.heap.size, 0, none⟩ (.int .i64 0)).setCell ⟨w.heap.size, 1, none⟩ (.int .i64 0)).setCell ⟨w.heap.size, 2, none⟩ (.int .i64 0)).setCell ⟨w.heap.size, 3, none⟩ (.int .i64 0)).setCell ⟨w.heap.size, 4, none⟩ (.int .i64 0)).setCell ⟨w.heap.size, 5, none⟩ (.int .i64 0)).setCell ⟨w.heap.size, 6, none⟩ (.int .i64 0)) (w.heap.size + 1) 0 (.int .i64 4)).one 1 (.int .i64 c.r.p)).one 2 (.int .i64 0)).one 3 (.int .i64 V1)).one 4 (.bool false))))
          first | simp only [Exit.jump] | rw [Exit.noGoto_ret]
          refine bodyPost_ret (v := .tuple #[.agg #[.int .i64 0, .int .i64 0, .int .i64 0, .int .i64 0, .int .i64 0, .int .i64 0, .int .i64 0], .int .i64 0, .agg #[.int .i64 4, .int .i64 c.r.p, .int .i64 0, .int .i64 V1, .bool false]]) ?_ rfl ⟨g6, ?_, ?_, ((S9.out).mine K7 (by omega)).mine K8 (by omega)⟩
          · rw [results_ctc rfl]; go_simp
          · rw [EI.out, EN.out, EF.out]; rfl
          · rw [ES.out, EQ3.out]; exact (((C9.out).kept K7 (by omega) (by omega)).kept K8 (by omega) (by omega)).fx rfl rfl rfl rfl rfl
        · have hb : Pl.inOk c.feX = true := by
            have := hk; unfold Pl.pdecOk at this; rw [okW, Bool.true_and] at this
            rw [show c.feX = Pl.decode V1 V2 from EX.out]; exact this
          obtain ⟨ES, EI, EN, EF⟩ := Pl.fetch_D h1 h3 hb
          replace ES := hide ES
          have EI : Hid (c.fetI = x) := hide (by rw [EI, HX.out]; unfold Pl.pdec; rw [if_pos hk]; exact EX.out)
          have EN : Hid (c.fetN = N) := hide (by rw [EN, HN.out]; unfold Pl.pdecN; rw [if_pos hk, HW1.out])
          replace EF := hide EF
          clear hb
          go_wp2_with fail
          have K7 := (((((((kept_one (W9.alloc (.cells #[.int .i64 x.op, .int .i64 x.z, .int .i64 x.r, .int .i64 x.m, .int .i64 x.k, .int .i64 x.e, .int .i64 x.s] 79)) w.heap.size 0 (.int .i64 x.op)).one 1 (.int .i64 x.z)).one 2 (.int .i64 x.r)).one 3 (.int .i64 x.m)).one 4 (.int .i64 x.k)).one 5 (.int .i64 x.e)).one 6 (.int .i64 x.s))
          have K8 := ((((((kept_one ((((((((W9.alloc (.cells #[.int .i64 x.op, .int .i64 x.z, .int .i64 x.r, .int .i64 x.m, .int .i64 x.k, .int .i64 x.e, .int .i64 x.s] 79)).setCell ⟨w.heap.size, 0, none⟩ (.int .i64 x.op)).setCell ⟨w.heap.size, 1, none⟩ (.int .i64 x.z)).setCell ⟨w.heap.size, 2, none⟩ (.int .i64 x.r)).setCell ⟨w.heap.size, 3, none⟩ (.int .i64 x.m)).setCell ⟨w.heap.size, 4, none⟩ (.int .i64 x.k)).setCell ⟨w.heap.size, 5, none⟩ (.int .i64 x.e)).setCell ⟨w.heap.size, 6, none⟩ (.int .i64 x.s)) (w.heap.size + 1) 0 (.int .i64 0)).one 1 (.int .i64 0)).one 2 (.int .i64 0)).one 3 (.int .i64 0)).one 4 (.bool false)))
          first | simp only [Exit.jump] | rw [Exit.noGoto_ret]
          refine bodyPost_ret (v := .tuple #[.agg #[.int .i64 x.op, .int .i64 x.z, .int .i64 x.r, .int .i64 x.m, .int .i64 x.k, .int .i64 x.e, .int .i64 x.s], .int .i64 N, .agg #[.int .i64 0, .int .i64 0, .int .i64 0, .int .i64 0, .bool false]]) ?_ rfl ⟨g6, ?_, ?_, ((S9.out).mine K7 (by omega)).mine K8 (by omega)⟩
          · rw [results_ctc rfl]; go_simp
          · rw [EI.out, EN.out, EF.out]; rfl
          · rw [ES.out, EQ3.out]; exact (((C9.out).kept K7 (by omega) (by omega)).kept K8 (by omega) (by omega)).fx rfl rfl rfl rfl rfl
      · have h3 : c.fe3.fine = false := by unfold Pl.Mc.fine; rw [E3.out]; simpa using hv2
        obtain ⟨ES, EI, EN, EF⟩ := Pl.fetch_B h1 h3
        replace ES := hide ES
        replace EI := hide EI
        replace EN := hide EN
        replace EF := hide (EF.trans E3.out)
        go_wp2_with fail
        go_region
        go_wp2_with fail
        go_region
        go_wp2_with fail
        have K6 := ((kept_one W7 W6.heap.size 1 (.int .i64 c.r.p)).one 3 (.int .i64 V1))
        have K7 := (((((((kept_one ((W7.setCell ⟨W6.heap.size, 1, none⟩ (.int .i64 c.r.p)).setCell ⟨W6.heap.size, 3, none⟩ (.int .i64 V1)) w.heap.size 0 (.int .i64 0)).one 1 (.int .i64 0)).one 2 (.int .i64 0)).one 3 (.int .i64 0)).one 4 (.int .i64 0)).one 5 (.int .i64 0)).one 6 (.int .i64 0))
        have K8 := (kept_drew (kept_drew ((((((kept_one (((((((((W7.setCell ⟨W6.heap.size, 1, none⟩ (.int .i64 c.r.p)).setCell ⟨W6.heap.size, 3, none⟩ (.int .i64 V1)).setCell ⟨w.heap.size, 0, none⟩ (.int .i64 0)).setCell ⟨w.heap.size, 1, none⟩ (.int .i64 0)).setCell ⟨w.heap.size, 2, none⟩ (.int .i64 0)).setCell ⟨w.heap.size, 3, none⟩ (.int .i64 0)).setCell ⟨w.heap.size, 4, none⟩ (.int .i64 0)).setCell ⟨w.heap.size, 5, none⟩ (.int .i64 0)).setCell ⟨w.heap.size, 6, none⟩ (.int .i64 0)) (w.heap.size + 1) 0 (.int .i64 F2.v)).one 1 (.int .i64 c.r.p)).one 2 (.int .i64 F2.ad)).one 3 (.int .i64 V1)).one 4 (.bool F2.wr)))))
        first | simp only [Exit.jump] | rw [Exit.noGoto_ret]
        refine bodyPost_ret (v := .tuple #[.agg #[.int .i64 0, .int .i64 0, .int .i64 0, .int .i64 0, .int .i64 0, .int .i64 0, .int .i64 0], .int .i64 0, .agg #[.int .i64 F2.v, .int .i64 c.r.p, .int .i64 F2.ad, .int .i64 V1, .bool F2.wr]]) ?_ rfl ⟨g6, ?_, ?_, ((S7.out.mine K6 (by omega)).mine K7 (by omega)).mine K8 (by omega)⟩
        · rw [results_ctc rfl]; go_simp
        · rw [EI.out, EN.out, EF.out]; rfl
        · rw [ES.out, EQ3.out]; exact (((C7.out.kept K6 (by omega) (by omega)).kept K7 (by omega) (by omega)).kept K8 (by omega) (by omega)).fx rfl rfl rfl rfl rfl
  · have h1 : c.fe1.fine = false := by unfold Pl.Mc.fine; rw [E1.out]; simpa using hv
    have hV0 : V1 = 0 := by
      rw [HW1.out]
      exact Pl.lv_zero (Pl.accF_yes (by rw [← HF1.out]; exact hv))
    obtain ⟨ES, EI, EN, EF⟩ := Pl.fetch_A h1
    replace ES := hide ES
    replace EI := hide EI
    replace EN := hide EN
    have EF : Hid (c.fetF = { F1 with pc := c.r.p, wo := V1 }) := hide (by rw [EF, E1.out, hV0])
    clear hV0
    go_wp2_with fail
    go_region
    go_wp2_with fail
    go_region
    go_wp2_with fail
    have K6 := ((kept_one W4 W3.heap.size 1 (.int .i64 c.r.p)).one 3 (.int .i64 V1))
    have K7 := (((((((kept_one ((W4.setCell ⟨W3.heap.size, 1, none⟩ (.int .i64 c.r.p)).setCell ⟨W3.heap.size, 3, none⟩ (.int .i64 V1)) w.heap.size 0 (.int .i64 0)).one 1 (.int .i64 0)).one 2 (.int .i64 0)).one 3 (.int .i64 0)).one 4 (.int .i64 0)).one 5 (.int .i64 0)).one 6 (.int .i64 0))
    have K8 := (kept_drew (kept_drew ((((((kept_one (((((((((W4.setCell ⟨W3.heap.size, 1, none⟩ (.int .i64 c.r.p)).setCell ⟨W3.heap.size, 3, none⟩ (.int .i64 V1)).setCell ⟨w.heap.size, 0, none⟩ (.int .i64 0)).setCell ⟨w.heap.size, 1, none⟩ (.int .i64 0)).setCell ⟨w.heap.size, 2, none⟩ (.int .i64 0)).setCell ⟨w.heap.size, 3, none⟩ (.int .i64 0)).setCell ⟨w.heap.size, 4, none⟩ (.int .i64 0)).setCell ⟨w.heap.size, 5, none⟩ (.int .i64 0)).setCell ⟨w.heap.size, 6, none⟩ (.int .i64 0)) (w.heap.size + 1) 0 (.int .i64 F1.v)).one 1 (.int .i64 c.r.p)).one 2 (.int .i64 F1.ad)).one 3 (.int .i64 V1)).one 4 (.bool F1.wr)))))
    first | simp only [Exit.jump] | rw [Exit.noGoto_ret]
    refine bodyPost_ret (v := .tuple #[.agg #[.int .i64 0, .int .i64 0, .int .i64 0, .int .i64 0, .int .i64 0, .int .i64 0, .int .i64 0], .int .i64 0, .agg #[.int .i64 F1.v, .int .i64 c.r.p, .int .i64 F1.ad, .int .i64 V1, .bool F1.wr]]) ?_ rfl ⟨g3, ?_, ?_, ((S4.out.mine K6 (by omega)).mine K7 (by omega)).mine K8 (by omega)⟩
    · rw [results_ctc rfl]; go_simp
    · rw [EI.out, EN.out, EF.out]; rfl
    · rw [ES.out]; exact (((C4.out.kept K6 (by omega) (by omega)).kept K7 (by omega) (by omega)).kept K8 (by omega) (by omega)).fx rfl rfl rfl rfl rfl
end Go.Proofs.YtblddehlkaolbaaGreatDoor

namespace Go.Proofs.YtblddehlkaolbaaGreatDoor
open Go.RowKit Go.Shelf
set_option linter.unusedVariables false
set_option linter.unusedSimpArgs false
/-- what a round keeps for its iterator: the blocks from B on that were there, and block c -/
structure Keep (B c : Nat) (W W' : World) : Prop where
  size : W.heap.size ≤ W'.heap.size
  block : ∀ k, k < W.heap.size → (B ≤ k ∨ k = c) → W'.heap[k]? = W.heap[k]?
theorem Keep.refl (B c : Nat) (W : World) : Keep B c W W := ⟨Nat.le_refl _, fun _ _ _ => rfl⟩
theorem Keep.trans {B c : Nat} {X Y Z : World} (h : Keep B c X Y) (k : Keep B c Y Z) : Keep B c X Z :=
  ⟨Nat.le_trans h.size k.size, fun i hi q => (k.block i (Nat.lt_of_lt_of_le hi h.size) q).trans (h.block i hi q)⟩
theorem Keep.mono {B B' c : Nat} {X Y : World} (h : Keep B c X Y) (hB : B ≤ B') : Keep B' c X Y := ⟨h.size, fun k hk q => h.block k hk (by omega)⟩
theorem Keep.drew {B c : Nat} {X Y : World} (h : Keep B c X Y) : Keep B c X Y.drew := ⟨h.size, h.block⟩
theorem Keep.setCell {B c : Nat} {X Y : World} (h : Keep B c X Y) {p : Addr} (h1 : p.block < B) (h2 : p.block ≠ c) (u : Value) : Keep B c X (Y.setCell p u) :=
  h.trans ⟨by simp [World.setCell], fun k hk q => Below.heap_setCell _ _ _ _ (by omega)⟩
theorem Keep.at {B c k : Nat} {X Y : World} {o : Obj} (h : Keep B c X Y) (hk : X.heap[k]? = some o) (q : B ≤ k ∨ k = c) : Y.heap[k]? = some o :=
  (h.block k (Array.getElem?_eq_some_iff.1 hk).1 q).trans hk
theorem below_put {B l : Nat} {W : World} (h : B ≤ l) (o : Obj) : Below B W (W.putObj l o) :=
  ⟨rfl, rfl, rfl, by simp, fun k hk => World.putObj_heap_other (by omega)⟩
theorem keep_put {B c l : Nat} {W : World} (h1 : l < B) (h2 : l ≠ c) (o : Obj) : Keep B c W (W.putObj l o) :=
  ⟨by simp, fun k hk q => World.putObj_heap_other (by omega)⟩
theorem room_wide (n : Nat) : Fence.wide.room n := fun d h => by simp [Fence.wide] at h
theorem round_any {m m' : Nat} {P : Program} {l : Nat} {f : FuncId} {tmps : Array Value} {assign body : Code} {w : World} {R : Ending → World → Prop}
    (h : RoundIn Fence.wide m P l f tmps assign body w R) : RoundIn Fence.wide m' P l f tmps assign body w R := ⟨h.1, fun c cs _ => h.2 c cs (room_wide _)⟩
theorem yield_any {m : Nat} (m' : Nat) {P : Program} {l : Nat} {args : Array Value} {W : World} {R : Ending → World → Prop} (h : YieldAt Fence.wide m P l args W R) : YieldAt Fence.wide m' P l args W R := by
  obtain ⟨fn, tmps, assign, body, hy, hR⟩ := h
  exact ⟨fn, tmps, assign, body, hy, round_any hR⟩
/-- the iterator g over lb gives N rounds, the k-th at enc k; block c, which it reads, holds o -/
def Gives (P : Program) (g : Nat) (lb : Array Value) (c : Nat) (o : Obj) (enc : Nat → Array Value) (N : Nat) : Prop :=
  ∀ (l : Nat) (J : Nat → World → Prop) (W : World), W.heap[c]? = some o → (∀ k W1 W2, J k W1 → Below W.heap.size W1 W2 → J k W2) →
    (∀ k W1, k < N → J k W1 → W.heap.size ≤ W1.heap.size → YieldAt Fence.wide 3 P l (enc k) W1 fun e W' => e = .returned (.bool true) ∧ J (k + 1) W' ∧ Keep W.heap.size c W1 W') →
    J 0 W → Calls P g (#[.func (.yield l) #[] #[]] ++ lb) W fun e W' => (∃ v, e = .returned v) ∧ J N W'
/-- how a round's body is left -/
def rngPost (B c : Nat) (J : World → Prop) (W : World) : Exit → Act → World → Prop
  | .normal, _, W' => J W' ∧ Keep B c W W'
  | .ret, _, _ => False
  | .exit _, _, _ => False
  | .goto _, _, _ => False
  | .panic _, _, _ => False
  | .outgrown, _, _ => False
theorem wp_range {P : Program} {g : Operand} {ps : Array Tmp} {assign body : Code} {Q : Exit → Act → World → Prop} {a : Act} {w : World} {n : Nat} {gf : Nat} {lb : Array Value} {c : Nat} {o : Obj} {enc : Nat → Array Value} {N : Nat}
    (hseq : Gives P gf lb c o enc N) (hg : a.eval g = .func (.func gf) #[] lb) (eg : ∀ args w, (callFunc gf args).run P w = .ok (.enter gf args) w) (hc : w.heap[c]? = some o) (hps : ∀ k, (enc k).size = ps.size)
    (I : Nat → World → Prop) (hI : ∀ k W1 W2, I k W1 → Below w.heap.size W1 W2 → I k W2) (h0 : I 0 w) (a₁ : Nat → Act)
    (hassign : ∀ (l k : Nat) (W : World) (K : Act → World → Prop), K (a₁ k) W →
      assign.wpIn (Fence.wide.inRound l) 3 P (Exit.then K (fun _ _ _ => False)) { tmps := (ps.zip (enc k)).foldl (fun t (p, v) => t.setIfInBounds p v) a.tmps, defers := [] } W)
    (hbody : ∀ (l k : Nat) (W : World), k < N → I k W → w.heap.size ≤ W.heap.size → body.wpIn (Fence.wide.inRound l) 3 P (rngPost w.heap.size c (I (k + 1)) W) (a₁ k) W)
    (hdone : ∀ W : World, I N W → W.heap[w.heap.size]? = some (.deferred (some [])) → Q .normal { a with defers := { target := .collected w.heap.size, args := #[] } :: a.defers } W) :
    (Code.rangeFunc g ps assign body).wpIn Fence.wide n P Q a w := by
  refine wpIn_rangeFunc ?_
  intro fn hfn
  have hclt : c < w.heap.size := (Array.getElem?_eq_some_iff.1 hc).1
  obtain ⟨rec, hrec⟩ : ∃ rec : LoopState → Option Code → Loop, rec = fun st pe => { state := st, pending := pe, fn, tmps := a.tmps, params := ps, assign, body, defers := w.heap.size } := ⟨_, rfl⟩
  obtain ⟨W1, hW1⟩ : ∃ W1, (w.alloc (.deferred (some []))).alloc (.loop (rec .ready none)) = W1 := ⟨_, rfl⟩
  have hs1 : W1.heap.size = w.heap.size + 2 := by rw [← hW1]; simp
  have hL1 : W1.heap[w.heap.size + 1]? = some (.loop (rec .ready none)) := by
    rw [← hW1]; have := World.alloc_heap_new (w.alloc (.deferred (some []))) (.loop (rec .ready none)); rwa [World.size_alloc] at this
  have hK1 : W1.heap[w.heap.size]? = some (.deferred (some [])) := by
    rw [← hW1]; exact (Below.heap_alloc _ _ _ (by simp)).trans (World.alloc_heap_new w _)
  have hb1 : Below w.heap.size w W1 := by
    rw [← hW1]; exact ((Below.refl _ w).alloc (Nat.le_refl _) _).alloc (by simp) _
  have hI1 : I 0 W1 := hI 0 w W1 h0 hb1
  refine ⟨w.heap.size + 1, [{ target := .collected w.heap.size, args := #[] }], W1, { target := .fn (.func gf) lb, args := #[.func (.yield (w.heap.size + 1)) #[] #[]] }, W1, gf,
    #[.func (.yield (w.heap.size + 1)) #[] #[]] ++ lb, W1, ?_, ?_, ?_, ?_, fun h => by simp [Fence.wide] at h, ?_⟩
  · rw [← hW1, hrec]; exact run_enterLoop_outer _ _ _ _ _
  · simp only [resolve, hg]
    simp [go_sem]
  · intro f' hf'; trivial
  · simp [invoke, go_sem, eg]
  · refine callsIn_wide.2 ((hseq (w.heap.size + 1)
      (fun k W => I k W ∧ W.heap[w.heap.size + 1]? = some (.loop (rec .ready none)) ∧ W.heap[w.heap.size]? = some (.deferred (some [])))
      W1 ((hb1.block c hclt).trans hc)
      (fun k X Y hs hb => ⟨hI k X Y hs.1 (hb.mono (by omega)), (hb.block _ (by omega)).trans hs.2.1, (hb.block _ (by omega)).trans hs.2.2⟩) ?_ ⟨hI1, hL1, hK1⟩).mono ?_)
    · rintro k W hk ⟨hi, hl, hd⟩ hsz
      have hlt : w.heap.size + 1 < W.heap.size := (Array.getElem?_eq_some_iff.1 hl).1
      have hy := run_yield (P := P) (args := enc k) hl (by rw [hrec]; exact hps k)
      rw [hrec] at hy
      refine ⟨fn, _, assign, body, hy, roundIn_of_wpIn hfn (hassign _ k W _ ⟨_, run_beginRound hl (by rw [hrec]), ?_⟩)⟩
      have hl2 : (W.putObj (w.heap.size + 1) (.loop { rec .ready none with state := .busy })).heap[w.heap.size + 1]? = some (.loop { rec .ready none with state := .busy }) := World.putObj_heap_same hlt
      have hd2 : (W.putObj (w.heap.size + 1) (.loop { rec .ready none with state := .busy })).heap[w.heap.size]? = some (.deferred (some [])) := (World.putObj_heap_other (by omega)).trans hd
      have hi2 := hI k _ _ hi (below_put (l := w.heap.size + 1) (W := W) (by omega) (.loop { rec .ready none with state := .busy }))
      have hk2 := keep_put (B := w.heap.size + 2) (c := c) (l := w.heap.size + 1) (W := W) (by omega) (by omega) (.loop { rec .ready none with state := .busy })
      refine wpIn_mono (hbody _ k _ hk hi2 (by simp; omega)) ?_
      rintro e a3 W3 hp
      cases e with
      | normal =>
        obtain ⟨hi3, hk3⟩ := hp
        have hl3 := hk3.at hl2 (.inl (by omega))
        have hd3 := hk3.at hd2 (.inl (by omega))
        have hr := run_endRound (P := P) none hl3
        rw [hrec] at hr hl3
        refine ⟨_, _, hr, rfl, ⟨hI _ _ _ hi3 (below_put (by omega) _), ?_, (World.putObj_heap_other (by omega)).trans hd3⟩, ?_⟩
        · rw [hrec]; exact World.putObj_heap_same (Array.getElem?_eq_some_iff.1 hl3).1
        · rw [hs1]
          exact (hk2.trans (hk3.mono (by omega))).trans (keep_put (by omega) (by omega) _)
      | ret => exact hp.elim
      | exit id => exact hp.elim
      | goto t => exact hp.elim
      | panic ch => exact hp.elim
      | outgrown => exact hp.elim
    · rintro e W2 ⟨⟨v, rfl⟩, hi, hl, hd⟩
      refine ⟨none, _, by have := run_endLoop (P := P) hl (by rw [hrec]; simp); rw [hrec] at this; exact this, hdone _ (hI _ _ _ hi (below_put (by omega) _)) ((World.putObj_heap_other (by omega)).trans hd)⟩
/-- a box -/
theorem boxed_below {W W' : World} {B b : Nat} {t : TypeId} {v : Value} (h : Boxed W b t v) (k : Below B W W') (hb : b < B) : Boxed W' b t v := (k.block b hb).trans h
end Go.Proofs.YtblddehlkaolbaaGreatDoor

namespace Go.Proofs.YtblddehlkaolbaaGreatDoor.Pl
set_option linter.unusedVariables false
set_option linter.unusedSimpArgs false
def wOk (v : Int) : Bool := decide (0 ≤ v) && decide (v ≤ 65535)
theorem wOk_ok {v : Int} (h : wOk v = true) : 0 ≤ v ∧ v ≤ 65535 := by simpa [wOk] using h
/-- two to a power -/
def p2 (k : Nat) : Int := (2 : Int) ^ k
theorem p2_zero : p2 0 = 1 := rfl
theorem p2_succ (k : Nat) : p2 (k + 1) = p2 k * 2 := by unfold p2; rw [Int.pow_succ]
theorem p2_pos (k : Nat) : 0 < p2 k := by
  induction k with
  | zero => decide
  | succ k ih => rw [p2_succ]; omega
theorem p2_16 : p2 16 = 65536 := by decide
theorem p2_le {k : Nat} (h : k ≤ 16) : p2 k ≤ 65536 := by
  have : ∀ j : Nat, j ≤ 16 → p2 j ≤ 65536 := by decide +kernel
  exact this k h
def wbit (v : Int) (k : Nat) : Int := v / p2 k % 2
theorem wbit_bd (v : Int) (k : Nat) : wbit v k = 0 ∨ wbit v k = 1 := by unfold wbit; omega
/-- the lowest bits, one more -/
theorem mod_succ (v : Int) (k : Nat) : v % p2 (k + 1) = v % p2 k + wbit v k * p2 k := by
  have hp := p2_pos k
  rw [p2_succ]
  unfold wbit
  have h1 := Int.mul_ediv_add_emod v (p2 k)
  have h2 := Int.mul_ediv_add_emod (v / p2 k) 2
  have h3 := Int.emod_nonneg v (show p2 k ≠ 0 by omega)
  have h4 := Int.emod_lt_of_pos v hp
  have h5 : 0 ≤ v / p2 k % 2 ∧ v / p2 k % 2 < 2 := by omega
  obtain ⟨q, hq⟩ : ∃ q, v / p2 k / 2 = q := ⟨_, rfl⟩
  obtain ⟨b, hb⟩ : ∃ b, v / p2 k % 2 = b := ⟨_, rfl⟩
  obtain ⟨r, hr⟩ : ∃ r, v % p2 k = r := ⟨_, rfl⟩
  rw [hq, hb] at h2
  rw [← h2, hr] at h1
  rw [hr] at h3 h4
  rw [hb] at h5
  have e : v = (r + b * p2 k) + (p2 k * 2) * q := by rw [← h1, Int.mul_add, Int.mul_comm b (p2 k), Int.mul_assoc]; omega
  have hb2 : b * p2 k ≤ p2 k := by
    rcases (show b = 0 ∨ b = 1 by omega) with rfl | rfl <;> omega
  have hb3 : 0 ≤ b * p2 k := by
    rcases (show b = 0 ∨ b = 1 by omega) with rfl | rfl <;> omega
  have e2 : v % (p2 k * 2) = r + b * p2 k := by
    rw [e, Int.add_mul_emod_self_left]
    exact Int.emod_eq_of_lt (by omega) (by omega)
  rw [e2, hr, hb]
/-- the two words of a number -/
def hiW (p : Int) : Int := p / 65536 % 65536
def loW (p : Int) : Int := p % 65536
end Go.Proofs.YtblddehlkaolbaaGreatDoor.Pl

namespace Go.Proofs.YtblddehlkaolbaaGreatDoor.Pl
set_option linter.unusedVariables false
/-- what is left behind so many places, the quotient so far, and how often it was taken away -/
def dR (h l b : Int) : Nat → Int
  | 0 => h
  | m + 1 => if b ≤ 2 * dR h l b m + wbit l (15 - m) then 2 * dR h l b m + wbit l (15 - m) - b else 2 * dR h l b m + wbit l (15 - m)
def dQ (h l b : Int) : Nat → Int
  | 0 => 0
  | m + 1 => 2 * dQ h l b m + (if b ≤ 2 * dR h l b m + wbit l (15 - m) then 1 else 0)
def dN (h l b : Int) : Nat → Int
  | 0 => 0
  | m + 1 => dN h l b m + (if b ≤ 2 * dR h l b m + wbit l (15 - m) then 1 else 0)
theorem div_next (l : Int) (m : Nat) (hm : m < 16) : l / p2 (16 - (m + 1)) = 2 * (l / p2 (16 - m)) + wbit l (15 - m) := by
  have e : 16 - m = (15 - m) + 1 := by omega
  have e1 : 16 - (m + 1) = 15 - m := by omega
  rw [e1, e, p2_succ]
  have hp := p2_pos (15 - m)
  rw [← Int.ediv_ediv_of_nonneg (by omega)]
  unfold wbit
  omega
theorem div_inv {h l b : Int} (h0 : 0 ≤ h) (h1 : h < b) (l0 : 0 ≤ l) : ∀ m : Nat, m ≤ 16 → (0 ≤ dR h l b m ∧ dR h l b m < b) ∧ dQ h l b m * b + dR h l b m = h * p2 m + (l / p2 (16 - m) - l / p2 16 * p2 m) ∧ 0 ≤ dQ h l b m ∧ dQ h l b m < p2 m := by
  intro m
  induction m with
  | zero =>
    intro _
    refine ⟨⟨h0, h1⟩, ?_, Int.le_refl _, (by show (0 : Int) < p2 0; decide)⟩
    show (0 : Int) * b + h = h * p2 0 + (l / p2 16 - l / p2 16 * p2 0)
    rw [p2_zero]
    omega
  | succ m ih =>
    intro hm
    obtain ⟨⟨r0, r1⟩, e, q0, q1⟩ := ih (by omega)
    have hb := wbit_bd l (15 - m)
    have hn := div_next l m (by omega)
    have hq : 0 ≤ dQ h l b m * b := Int.mul_nonneg q0 (by omega)
    rw [hn, p2_succ]
    have e2 : h * (p2 m * 2) = 2 * (h * p2 m) := by rw [← Int.mul_assoc]; omega
    have e3 : l / p2 16 * (p2 m * 2) = 2 * (l / p2 16 * p2 m) := by rw [← Int.mul_assoc]; omega
    rw [e2, e3]
    simp only [dR, dQ]
    by_cases hc : b ≤ 2 * dR h l b m + wbit l (15 - m)
    · rw [if_pos hc, if_pos hc]
      have e4 : (2 * dQ h l b m + 1) * b = 2 * (dQ h l b m * b) + b := by rw [Int.add_mul, Int.one_mul, Int.mul_assoc]
      rw [e4]
      omega
    · rw [if_neg hc, if_neg hc]
      have e4 : (2 * dQ h l b m + 0) * b = 2 * (dQ h l b m * b) := by rw [Int.add_zero, Int.mul_assoc]
      rw [e4]
      omega
theorem div_16 {h l b : Int} (h0 : 0 ≤ h) (h1 : h < b) (l0 : 0 ≤ l) (l1 : l ≤ 65535) : dQ h l b 16 * b + dR h l b 16 = h * 65536 + l ∧ 0 ≤ dR h l b 16 ∧ dR h l b 16 < b ∧ 0 ≤ dQ h l b 16 ∧ dQ h l b 16 ≤ 65535 := by
  obtain ⟨⟨r0, r1⟩, e, q0, q1⟩ := div_inv h0 h1 l0 16 (by omega)
  rw [p2_16, show 16 - 16 = 0 from rfl, p2_zero, Int.ediv_one] at e
  rw [p2_16] at q1
  have : l / 65536 = 0 := by omega
  rw [this] at e
  omega
/-- without putting back -/
def sL (l b : Int) : Nat → Int
  | 0 => 0
  | m + 1 => if 0 ≤ sL l b m then 2 * sL l b m + wbit l (15 - m) - b else 2 * sL l b m + wbit l (15 - m) + b
theorem sL_is {l b : Int} (hb : 1 ≤ b) (l0 : 0 ≤ l) : ∀ m : Nat, m ≤ 16 → (0 ≤ sL l b m ∧ sL l b m = dR 0 l b m) ∨ (sL l b m < 0 ∧ sL l b m = dR 0 l b m - b) := by
  intro m
  induction m with
  | zero => intro _; exact .inl ⟨Int.le_refl _, rfl⟩
  | succ m ih =>
    intro hm
    have hw := wbit_bd l (15 - m)
    obtain ⟨⟨r0, r1⟩, _⟩ := div_inv (h := 0) (l := l) (b := b) (Int.le_refl _) (by omega) l0 m (by omega)
    simp only [sL, dR]
    rcases ih (by omega) with ⟨i0, i1⟩ | ⟨i0, i1⟩
    · rw [if_pos i0, i1]
      split <;> omega
    · rw [if_neg (by omega), i1]
      split <;> omega
def sRest (l b : Int) : Int := if sL l b 16 < 0 then sL l b 16 + b else sL l b 16
theorem steps_16 {l b : Int} (hb : 1 ≤ b) (l0 : 0 ≤ l) (l1 : l ≤ 65535) : dQ 0 l b 16 = l / b ∧ sRest l b = l % b := by
  obtain ⟨e, r0, r1, q0, _⟩ := div_16 (h := 0) (l := l) (b := b) (Int.le_refl _) (by omega) l0 l1
  have h := sL_is hb l0 16 (Nat.le_refl _)
  have hr : sRest l b = dR 0 l b 16 := by unfold sRest; split <;> omega
  rw [hr]
  have e2 : dR 0 l b 16 + b * dQ 0 l b 16 = l := by rw [Int.mul_comm b]; omega
  have key := Int.ediv_emod_unique (a := l) (b := b) (r := dR 0 l b 16) (q := dQ 0 l b 16) (by omega)
  have := key.2 ⟨e2, r0, r1⟩
  exact ⟨this.1.symm, this.2.symm⟩
end Go.Proofs.YtblddehlkaolbaaGreatDoor.Pl

namespace Go.Proofs.YtblddehlkaolbaaGreatDoor
open Go.RowKit
set_option linter.unusedVariables false
def Pl.ok2 (a b : Int) : Bool := Pl.wOk a && Pl.wOk b
def Pl.mulH (a b : Int) : Int := if Pl.ok2 a b = true then a * b / 65536 else 0
def Pl.mulL (a b : Int) : Int := if Pl.ok2 a b = true then a * b % 65536 else 0
theorem mul_bd {a b : Int} (a0 : 0 ≤ a) (a1 : a ≤ 65535) (b0 : 0 ≤ b) (b1 : b ≤ 65535) : 0 ≤ a * b ∧ a * b ≤ 4294836225 := by
  refine ⟨Int.mul_nonneg a0 b0, ?_⟩
  have := Int.mul_le_mul a1 b1 b0 (by omega : (0 : Int) ≤ 65535)
  omega
end Go.Proofs.YtblddehlkaolbaaGreatDoor

namespace Go.Proofs.YtblddehlkaolbaaGreatDoor
open Go.RowKit
set_option linter.unusedVariables false
theorem bit_at (v : Int) (k : Nat) : bits .and .i64 (v / 2 ^ k) 1 = Pl.wbit v k := by rw [Pl.and1]; rfl
end Go.Proofs.YtblddehlkaolbaaGreatDoor

namespace Go.Proofs.YtblddehlkaolbaaGreatDoor
open Go.RowKit Go.Shelf
attribute [local go_sem] Oper.semAt_some
set_option linter.unusedVariables false
set_option linter.unusedSimpArgs false
abbrev encP (d : Nat → Int) (k : Nat) : Array Value := #[.int .i64 (k : Int), .int .i64 (d k)]
theorem plainDigits (v : Int) (w : World) : Calls Tryz.prog 226 #[.int .i64 v] w fun e w' => e = .returned (.func (.func 244) #[] #[.pointer (some ⟨w.heap.size, 0, none⟩)]) ∧ w' = w.alloc (.cells #[.int .i64 v] 3) := by
  go_enter Tryz.func226, Tryz.ntmps226
  go_wp2
  go_ret
  exact ⟨rfl, rfl⟩
theorem bitsDown (v : Int) (w : World) : Calls Tryz.prog 227 #[.int .i64 v] w fun e w' => e = .returned (.func (.func 245) #[] #[.pointer (some ⟨w.heap.size, 0, none⟩)]) ∧ w' = w.alloc (.cells #[.int .i64 v] 3) := by
  go_enter Tryz.func227, Tryz.ntmps227
  go_wp2
  go_ret
  exact ⟨rfl, rfl⟩
set_option maxHeartbeats 4000000 in
theorem plainGives {v : Int} (h : Pl.wOk v = true) (b : Nat) : Gives Tryz.prog 244 #[.pointer (some ⟨b, 0, none⟩)] b (.cells #[.int .i64 v] 3 (0, 0)) (encP (Pl.wbit v)) 16 := fun l J W hb hJ hY h0 => by
  have hv := Pl.wOk_ok h
  refine (callsIn_wide (n := 9)).1 (callsIn_of_wp Tryz.func244 rfl trivial ?_ rfl)
  simp only [Tryz.ntmps244, List.size_toArray, List.length_cons, List.length_nil, Nat.reduceAdd, Nat.reduceSub, Array.replicate_succ, Array.replicate_zero, List.push_toArray, List.append_toArray, List.nil_append, List.cons_append]
  gi_wp2
  gi_loopw [4] (fun p wr => ∃ k : Nat, p = .int .i64 (k : Int) ∧ k ≤ 16 ∧ J k wr ∧ W.heap.size ≤ wr.heap.size ∧ Boxed wr b 3 (.int .i64 v)) (fun p wr => 16 - (intOf p).toNat)
  case atStart => exact ⟨0, rfl, by omega, h0, Nat.le_refl _, hb⟩
  case round =>
    obtain ⟨k, rfl, hk, hj, hs, hB⟩ := hrel
    have hcell := hB.cell
    by_cases hlt : k < 16
    · have ht : ((k : Int) < 16) := by omega
      obtain ⟨fn, tmps, assign, body, hy, hR⟩ := yield_any 8 (hY k wr hlt hj hs)
      dsimp only [encP] at hy
      rw [← bit_at] at hy
      gi_wp2
      refine hR.mono ?_
      rintro e W3 ⟨rfl, hj3, hk3⟩
      have hB3 := hk3.at hB (.inr rfl)
      have hs3 := hk3.size
      gi_wp2
      go_roundw
      case rel => exact ⟨k + 1, by simp, by omega, hj3, by omega, hB3⟩
      case measure => simp [intOf]; omega
    · have ht : ¬ ((k : Int) < 16) := by omega
      have e : k = 16 := by omega
      subst e
      gi_wp2
      go_end0
      exact ⟨⟨_, rfl⟩, hj⟩

/-- the bits of a word, the highest first -/
abbrev encD (v : Int) (k : Nat) : Array Value := #[.int .i64 (Pl.wbit v (15 - k))]
set_option maxHeartbeats 4000000 in
theorem downGives {v : Int} (h : Pl.wOk v = true) (b : Nat) : Gives Tryz.prog 245 #[.pointer (some ⟨b, 0, none⟩)] b (.cells #[.int .i64 v] 3 (0, 0)) (encD v) 16 := fun l J W hb hJ hY h0 => by
  have hv := Pl.wOk_ok h
  refine (callsIn_wide (n := 9)).1 (callsIn_of_wp Tryz.func245 rfl trivial ?_ rfl)
  simp only [Tryz.ntmps245, List.size_toArray, List.length_cons, List.length_nil, Nat.reduceAdd, Nat.reduceSub, Array.replicate_succ, Array.replicate_zero, List.push_toArray, List.append_toArray, List.nil_append, List.cons_append]
  gi_wp2
  gi_loopw [3] (fun p wr => ∃ k : Nat, p = .int .i64 (15 - (k : Int)) ∧ k ≤ 16 ∧ J k wr ∧ W.heap.size ≤ wr.heap.size ∧ Boxed wr b 3 (.int .i64 v)) (fun p wr => (intOf p + 1).toNat)
  case atStart => exact ⟨0, rfl, by omega, h0, Nat.le_refl _, hb⟩
  case round =>
    obtain ⟨k, rfl, hk, hj, hs, hB⟩ := hrel
    have hcell := hB.cell
    by_cases hlt : k < 16
    · obtain ⟨fn, tmps, assign, body, hy, hR⟩ := yield_any 8 (hY k wr hlt hj hs)
      dsimp only [encD] at hy
      obtain ⟨q, hq⟩ : ∃ q : Nat, 15 - k = q := ⟨_, rfl⟩
      have hq2 : 15 - (k : Int) = (q : Int) := by omega
      have HQ : Hid (15 - k = q ∧ q ≤ 15) := ⟨hq, by omega⟩
      rw [hq] at hy
      rw [hq2]
      clear hq
      rw [← bit_at] at hy
      have ht : 0 ≤ (q : Int) := by omega
      have hq3 : (q : Int) ≤ 15 := by omega
      clear hq2
      gi_wp2
      refine hR.mono ?_
      rintro e W3 ⟨rfl, hj3, hk3⟩
      have hB3 := hk3.at hB (.inr rfl)
      have hs3 := hk3.size
      gi_wp2
      go_roundw
      case rel => exact ⟨k + 1, by have := HQ.out; congr 1; omega, by omega, hj3, by omega, hB3⟩
      case measure => have := HQ.out; simp [intOf]
    · have e : k = 16 := by omega
      subst e
      gi_wp2
      go_end0
      exact ⟨⟨_, rfl⟩, hj⟩
end Go.Proofs.YtblddehlkaolbaaGreatDoor

namespace Go.Proofs.YtblddehlkaolbaaGreatDoor
open Go.RowKit Go.Shelf
attribute [local go_sem] Oper.semAt_some
set_option linter.unusedVariables false
set_option linter.unusedSimpArgs false
/-- the number that digits tell -/
def Pl.dsm (d : Nat → Int) : Nat → Int
  | 0 => 0
  | k + 1 => Pl.dsm d k + d k * Pl.p2 k
theorem Pl.dsm_bd {d : Nat → Int} (hd : ∀ k, -1 ≤ d k ∧ d k ≤ 1) : ∀ k, -(Pl.p2 k) ≤ Pl.dsm d k ∧ Pl.dsm d k ≤ Pl.p2 k
  | 0 => by rw [Pl.p2_zero]; show -1 ≤ (0 : Int) ∧ (0 : Int) ≤ 1; omega
  | k + 1 => by
    have ih := Pl.dsm_bd hd k
    have hp := Pl.p2_pos k
    rw [Pl.p2_succ]
    show _ ≤ Pl.dsm d k + d k * Pl.p2 k ∧ Pl.dsm d k + d k * Pl.p2 k ≤ _
    rcases (show d k = -1 ∨ d k = 0 ∨ d k = 1 by have := hd k; omega) with e | e | e <;> rw [e] <;> omega
theorem Pl.mulS_bd {a x : Int} (ha : -65536 ≤ a ∧ a ≤ 65536) (hx : -65536 ≤ x ∧ x ≤ 65536) : -4294967296 ≤ a * x ∧ a * x ≤ 4294967296 := by
  have h := Int.natAbs_mul a x
  have h2 : a.natAbs * x.natAbs ≤ 65536 * 65536 := Nat.mul_le_mul (by omega) (by omega)
  omega
theorem wrapIn64 (x : Int) (h1 : -9223372036854775808 ≤ x) (h2 : x ≤ 9223372036854775807) : IntKind.i64.wrap x = x := by
  rw [IntKind.wrap_i64]; omega
set_option maxHeartbeats 4000000 in
theorem sumOfShifts {a : Int} (ha : -65536 ≤ a ∧ a ≤ 65536) {gf : Nat} {lb : Array Value} {c : Nat} {o : Obj} {d : Nat → Int} (hd : ∀ k, -1 ≤ d k ∧ d k ≤ 1) (w : World)
    (hG : Gives Tryz.prog gf lb c o (encP d) 16) (eg : ∀ args w, (callFunc gf args).run Tryz.prog w = .ok (.enter gf args) w) (hc : w.heap[c]? = some o) :
    Calls Tryz.prog 225 #[.int .i64 a, .func (.func gf) #[] lb] w fun e w' => e = .returned (.int .i64 (a * Pl.dsm d 16)) ∧ Kept 0 0 w w' := by
  have hclt : c < w.heap.size := (Array.getElem?_eq_some_iff.1 hc).1
  refine (callsIn_wide (n := 9)).1 (callsIn_of_wp_marks Tryz.func225 rfl trivial ?_ rfl)
  simp only [Tryz.ntmps225, List.size_toArray, List.length_cons, List.length_nil, Nat.reduceAdd, Nat.reduceSub, Array.replicate_succ, Array.replicate_zero, List.push_toArray, List.append_toArray, List.nil_append, List.cons_append]
  gi_wp2
  have hA : Boxed ((w.alloc (.cells #[.int .i64 a] 3)).alloc (.cells #[.int .i64 0] 3)) w.heap.size 3 (.int .i64 a) := (Boxed.new w _ _).alloc _
  have hS : Boxed ((w.alloc (.cells #[.int .i64 a] 3)).alloc (.cells #[.int .i64 0] 3)) (w.heap.size + 1) 3 (.int .i64 (a * Pl.dsm d 0)) := by
    have := Boxed.new (w.alloc (.cells #[.int .i64 a] 3)) 3 (.int .i64 0)
    rw [World.size_alloc] at this
    have e : a * Pl.dsm d 0 = 0 := by show a * 0 = 0; omega
    rw [e]; exact this
  have hBW : Below w.heap.size w ((w.alloc (.cells #[.int .i64 a] 3)).alloc (.cells #[.int .i64 0] 3)) := ((Below.refl _ w).alloc (Nat.le_refl _) _).alloc (by simp) _
  have hSz : ((w.alloc (.cells #[.int .i64 a] 3)).alloc (.cells #[.int .i64 0] 3)).heap.size = w.heap.size + 2 := by simp
  revert hA hS hBW hSz
  generalize (w.alloc (.cells #[.int .i64 a] 3)).alloc (.cells #[.int .i64 0] 3) = w0
  intro hA hS hBW hSz
  refine wp_range hG rfl eg ((hBW.block c hclt).trans hc) (fun _ => rfl)
    (fun k X => Below w.heap.size w X ∧ Boxed X w.heap.size 3 (.int .i64 a) ∧ Boxed X (w.heap.size + 1) 3 (.int .i64 (a * Pl.dsm d k)))
    (fun k X Y hs hb => ⟨hs.1.trans (hb.mono (by omega)), boxed_below hs.2.1 hb (by omega), boxed_below hs.2.2 hb (by omega)⟩)
    ⟨hBW, hA, hS⟩
    (fun k => { tmps := #[.int .i64 a, .func (.func gf) #[] lb, .pointer (some ⟨w.heap.size, 0, none⟩), undef, .int .i64 0, .pointer (some ⟨w.heap.size + 1, 0, none⟩), .int .i64 (k : Int), .int .i64 (d k), .func (.func gf) #[] lb, .int .i64 (k : Int), .int .i64 (d k), undef, undef, undef, undef, undef, undef, undef, undef, undef, undef, undef, undef, undef, undef, undef, undef], defers := [] }) ?assign ?body ?done
  case assign =>
    intro l' k X K hK
    gi_wp2
    exact hK
  case body =>
    rintro l' k X hk ⟨hB, hA, hS⟩ hs
    have hcA := hA.cell
    have hcS := hS.cell
    have hfS := hS.frozen
    have hd1 := hd k
    have hb1 := Pl.mulS_bd ha (show -65536 ≤ Pl.dsm d k ∧ Pl.dsm d k ≤ 65536 by have := Pl.dsm_bd hd k; have := Pl.p2_le (show k ≤ 16 by omega); omega)
    have hb2 := Pl.mulS_bd ha (show -65536 ≤ Pl.p2 k ∧ Pl.p2 k ≤ 65536 by have := Pl.p2_pos k; have := Pl.p2_le (show k ≤ 16 by omega); omega)
    have hstep : Hid (a * Pl.dsm d (k + 1) = a * Pl.dsm d k + d k * (a * Pl.p2 k)) := by
      show a * (Pl.dsm d k + d k * Pl.p2 k) = _
      rw [Int.mul_add, ← Int.mul_assoc, ← Int.mul_assoc, Int.mul_comm a (d k)]
    obtain ⟨s, es⟩ : ∃ s, a * Pl.dsm d k = s := ⟨_, rfl⟩
    obtain ⟨s2, es2⟩ : ∃ s2, a * Pl.dsm d (k + 1) = s2 := ⟨_, rfl⟩
    rw [es] at hcS hS hb1 hstep
    rw [es2] at hstep ⊢
    rcases (show d k = -1 ∨ d k = 0 ∨ d k = 1 by omega) with e | e | e
    · rw [e] at hstep ⊢
      clear hd1 e
      gi_wp2
      gi_region
      all_goals gi_wp2
      all_goals
        refine ⟨⟨(hB.setCell (p := ⟨w.heap.size + 1, 0, none⟩) (by simp) _).drew, Boxed.other hA (by omega) _, ?_⟩, ((Keep.refl _ _ _).setCell (p := ⟨w.heap.size + 1, 0, none⟩) (by simp; omega) (by simp; omega) _).drew⟩
        have e2 := hstep.out
        have hp : a * Pl.p2 k = a * 2 ^ k := rfl
        rw [hp] at e2 hb2
        have hv : IntKind.i64.wrap (s - IntKind.i64.wrap (a * 2 ^ k)) = s2 := by
          rw [wrapIn64 (a * 2 ^ k) (by omega) (by omega), wrapIn64 _ (by omega) (by omega)]; omega
        rw [← hv]
        exact hS.set _
    · rw [e] at hstep ⊢
      clear hd1 e
      gi_wp2
      exact ⟨⟨hB, hA, by have := hstep.out; rw [show s2 = s by omega]; exact hS⟩, Keep.refl _ _ _⟩
    · rw [e] at hstep ⊢
      clear hd1 e
      gi_wp2
      gi_region
      all_goals gi_wp2
      all_goals
        refine ⟨⟨(hB.setCell (p := ⟨w.heap.size + 1, 0, none⟩) (by simp) _).drew, Boxed.other hA (by omega) _, ?_⟩, ((Keep.refl _ _ _).setCell (p := ⟨w.heap.size + 1, 0, none⟩) (by simp; omega) (by simp; omega) _).drew⟩
        have e2 := hstep.out
        have hp : a * Pl.p2 k = a * 2 ^ k := rfl
        rw [hp] at e2 hb2
        have hv : IntKind.i64.wrap (s + IntKind.i64.wrap (a * 2 ^ k)) = s2 := by
          rw [wrapIn64 (a * 2 ^ k) (by omega) (by omega), wrapIn64 _ (by omega) (by omega)]; omega
        rw [← hv]
        exact hS.set _
  case done =>
    rintro X ⟨hB, hA, hS⟩ hK
    have hcS := hS.cell
    gi_wp2
    refine ⟨by simp, .inl ⟨_, _, rfl, run_takeDeferred hK, ?_⟩⟩
    exact ⟨_, results_tmp rfl _ _ _, rfl, kept_below (hB.trans (below_put (by omega) _))⟩
end Go.Proofs.YtblddehlkaolbaaGreatDoor

namespace Go.Proofs.YtblddehlkaolbaaGreatDoor
open Go.RowKit
set_option linter.unusedVariables false
def Pl.dOk (h l b : Int) : Bool := (Pl.wOk h && Pl.wOk l) && ((decide (1 ≤ b) && decide (b ≤ 65535)) && decide (h < b))
def Pl.dvQ (h l b : Int) : Int := if Pl.dOk h l b = true then Pl.dQ h l b 16 else 0
def Pl.dvR (h l b : Int) : Int := if Pl.dOk h l b = true then Pl.dR h l b 16 else 0
def Pl.dvN (h l b : Int) : Int := if Pl.dOk h l b = true then Pl.dN h l b 16 else 0
theorem dN_bd (h l b : Int) (m : Nat) : 0 ≤ Pl.dN h l b m ∧ Pl.dN h l b m ≤ m := by
  induction m with
  | zero => exact ⟨Int.le_refl _, Int.le_refl _⟩
  | succ m ih =>
    simp only [Pl.dN]
    split <;> omega
end Go.Proofs.YtblddehlkaolbaaGreatDoor

namespace Go.Proofs.YtblddehlkaolbaaGreatDoor
open Go.RowKit Go.Shelf
set_option linter.unusedVariables false
set_option linter.unusedSimpArgs false
theorem okv_w (v : Int) : Pl.okv 2 v = Pl.wOk v := by
  unfold Pl.okv Pl.wOk Pl.top
  rw [Bool.eq_iff_iff]; simp; omega
theorem isWordM (v : Int) (w : World) (hw : (Lit.int .i64 v).wf = true) :
    Calls Tryz.prog 89 #[.int .i64 v] w fun e w' => e = .returned (.bool (Pl.wOk v)) ∧ w' = w := by
  have hb := bounds_i64 hw
  go_enter Tryz.func89, Tryz.ntmps89
  go_wp2_with (go_at_call 133; refine (signedOf _ _ _ hb.1 hb.2).mono ?_; rintro e w' ⟨rfl, hw⟩; have hw2 := hw.symm; clear hw; subst hw2; rw [okv_w])
  go_ret
  exact ⟨rfl, rfl⟩
theorem wordPair (n : Int) (w : World) (h1 : -9223372036854775808 ≤ n) (h2 : n ≤ 9223372036854775807) : Calls Tryz.prog 224 #[.int .i64 n] w fun e w' => e = .returned (.tuple #[.int .i64 (Pl.hiW n), .int .i64 (Pl.loW n)]) ∧ w' = w := by
  go_enter Tryz.func224, Tryz.ntmps224
  go_wp2_with (go_at_call 95; refine (wrapWord _ _).mono ?_; rintro e9 w9 ⟨rfl, hw⟩; have hw2 := hw.symm; clear hw; subst hw2)
  go_ret2
  exact ⟨rfl, rfl⟩
theorem dsm_plain (v : Int) : ∀ k, Pl.dsm (Pl.wbit v) k = v % Pl.p2 k
  | 0 => by rw [Pl.p2_zero]; show 0 = v % 1; omega
  | k + 1 => by rw [Pl.mod_succ]; show Pl.dsm (Pl.wbit v) k + _ = _; rw [dsm_plain v k]
theorem dsm_word {v : Int} (h : Pl.wOk v = true) : Pl.dsm (Pl.wbit v) 16 = v := by
  have := Pl.wOk_ok h
  rw [dsm_plain, Pl.p2_16]; omega
theorem wbit_in (v : Int) (k : Nat) : -1 ≤ Pl.wbit v k ∧ Pl.wbit v k ≤ 1 := by have := Pl.wbit_bd v k; omega
theorem implMulWords (w : World) (a b : Int) (wfa : (Lit.int .i64 a).wf = true) (wfb : (Lit.int .i64 b).wf = true) : Calls Tryz.prog 205 #[.int .i64 a, .int .i64 b] w fun e w' => e = .returned (.tuple #[.int .i64 (Pl.mulH a b), .int .i64 (Pl.mulL a b), .bool (Pl.ok2 a b)]) ∧ Kept 0 0 w w' := by
  unfold Pl.mulH Pl.mulL Pl.ok2
  cases ha : Pl.wOk a
  · go_enter Tryz.func205, Tryz.ntmps205
    go_wp2_with (go_at_call 89; refine (isWordM _ _ wfa).mono ?_; rintro e9 w9 ⟨rfl, hw⟩; have hw2 := hw.symm; clear hw; subst hw2; rw [ha])
    go_ret3
    exact ⟨rfl, Kept.refl _ _ _⟩
  · cases hb : Pl.wOk b
    · go_enter Tryz.func205, Tryz.ntmps205
      go_wp2_with (first | (go_at_call 89; have z9 := Z1; refine (isWordM b _ wfb).mono ?_; rintro e9 w9 ⟨rfl, hw⟩; have hw2 := hw.symm; clear hw; subst hw2; rw [hb]) | (go_at_call 89; refine (isWordM a _ wfa).mono ?_; rintro e9 w9 ⟨rfl, hw⟩; have hw2 := hw.symm; clear hw; subst hw2; rw [ha]; have Z1 : True := trivial))
      go_ret3
      exact ⟨rfl, Kept.refl _ _ _⟩
    · obtain ⟨a0, a1⟩ := Pl.wOk_ok ha
      obtain ⟨b0, b1⟩ := Pl.wOk_ok hb
      obtain ⟨m0, m1⟩ := mul_bd a0 a1 b0 b1
      have EH : Hid (Pl.hiW (a * b) = a * b / 65536) := hide (by unfold Pl.hiW; omega)
      go_enter Tryz.func205, Tryz.ntmps205
      go_wp2_with (first | (go_at_call 89; have z9 := Z1; refine (isWordM b _ wfb).mono ?_; rintro e9 w9 ⟨rfl, hw⟩; have hw2 := hw.symm; clear hw; subst hw2; rw [hb]) | (go_at_call 89; refine (isWordM a _ wfa).mono ?_; rintro e9 w9 ⟨rfl, hw⟩; have hw2 := hw.symm; clear hw; subst hw2; rw [ha]; have Z1 : True := trivial) | (go_at_call 226; refine (plainDigits b _).mono ?_; rintro e9 w9 ⟨rfl, hw⟩; have hw2 := hw.symm; clear hw; subst hw2) | (go_at_call 225; refine (sumOfShifts (show -65536 ≤ a ∧ a ≤ 65536 by omega) (wbit_in b) _ (plainGives hb w.heap.size) (enters_of Tryz.func244 (by kernel_rfl) rfl) (World.alloc_heap_new w _)).mono ?_; rintro e9 w2 ⟨rfl, k2⟩; rw [dsm_word hb]) | (go_at_call 224; refine (wordPair _ _ (by omega) (by omega)).mono ?_; rintro e9 w9 ⟨rfl, hw⟩; have hw2 := hw.symm; clear hw; subst hw2; rw [EH.out]))
      go_ret3
      exact ⟨rfl, (kept_alloc w _).trans k2⟩
end Go.Proofs.YtblddehlkaolbaaGreatDoor

