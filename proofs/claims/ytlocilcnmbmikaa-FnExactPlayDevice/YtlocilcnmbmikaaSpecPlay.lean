/- What the model of PlayDevice answers, for every list of steps. -/
import Derived.Deep.DeepCutAuto
import Derived.Test.YtlocilcnmbmikaaSpecDev8
import Derived.Test.YtlocilcnmbmikaaDevSteps
namespace Go.Proofs.Ytlocilcnmbmikaa
open Go.RowKit
set_option linter.unusedVariables false

namespace Pl
def plD (zs : List Int) (n : Nat) : Dev := if playOk zs n = true then playD zs n else devNo
def plV (zs : List Int) (n : Nat) : List Int := if playOk zs n = true then playV zs n else []
theorem pl_len (zs : List Int) (n : Nat) : (plD zs n).xs.length ≤ 4 ∧ (plD zs n).ys.length ≤ 200 ∧ (plV zs n).length ≤ 80 := by
  unfold plD plV
  split
  · rename_i h
    simp only [playOk, Bool.and_eq_true, decide_eq_true_eq] at h
    have := small_play zs n (fun i hi => List.all_eq_true.1 h.2 i (List.mem_range.2 hi))
    exact ⟨this.x, this.y, by rw [playV_len]; exact h.1⟩
  · exact ⟨by decide, by decide, by decide⟩
end Pl
theorem SlotIn.by {w w' : World} {l h : Nat} {a : Option Addr} {xs : List Int} {row : Option Nat} (s : SlotIn w l h a xs) (k : w.grownBy w' row) (hn : ∀ g, blk a = some g → row ≠ some g) : SlotIn w' l h a xs := by
  rcases s with s | ⟨g, ea, g0, g1, ho⟩
  · exact .inl s
  · exact .inr ⟨g, ea, g0, g1, ho.kept k (fun e => hn g (by rw [ea]; rfl) e.symm)⟩
theorem Blk.by {w w' : World} {b : Nat} {cs : Array Value} {ty : TypeId} {row : Option Nat} (h : Blk w b cs ty) (k : w.grownBy w' row) (hn : row ≠ some b) : Blk w' b cs ty := (k.block b h.lt (fun e => hn e.symm)).trans h

theorem slotIn_of_row1 {w : World} {base n : Nat} {v : Value} {xs : List Int} (h : w.ownsRow base 3 1 v n (xs.map (Value.int .i64))) : ∃ (b : Option Addr) (cb : Nat), v = .slice b n cb ∧ SlotIn w base w.heap.size b xs := by
  rcases h.2 with ⟨e, e0⟩ | ⟨g, cap, cur, e, hb, hr⟩
  · subst e e0
    have h1 := h.1
    simp at h1
    exact ⟨none, 0, rfl, .inl ⟨rfl, h1⟩⟩
  · subst e
    exact ⟨some ⟨g, 0, none⟩, cap, rfl, slot_of_row h⟩

/-- a device under way, in a box, with what its steps have answered -/
structure PlayAt (w wr : World) (B : Nat) (D : Pl.Dev) (vs : List Int) (v : Value) (a b : Option Addr) (ca cb : Nat) : Prop where
  box : Blk wr B #[.int .i64 D.e, .int .i64 D.l, .bool D.r, .slice a D.xs.length ca, .slice b D.ys.length cb, .int .i64 D.t] 24
  dev : DevIn wr (w.heap.size + 1) D a b ca
  nb : ∀ g, blk a = some g ∨ blk b = some g → g ≠ B ∧ v.ownBlock ≠ some g
  row : wr.ownsRow (w.heap.size + 1) 3 1 v vs.length (vs.map (Value.int .i64))
  vb : v.ownBlock ≠ some B
  res : Blk wr w.heap.size #[.int .i64 0, .int .i64 0, .bool false, .slice none 0 0, .slice none 0 0, .int .i64 0] 24
  kept : Kept 0 0 w wr
  lo : w.heap.size < B
theorem PlayAt.keep {w wr wr' : World} {B : Nat} {D : Pl.Dev} {vs : List Int} {v : Value} {a b : Option Addr} {ca cb : Nat} (h : PlayAt w wr B D vs v a b ca cb) (k : Kept 0 0 wr wr') : PlayAt w wr' B D vs v a b ca cb :=
  ⟨h.box.kept0 k, h.dev.kept k, h.nb, h.row.kept k.grown (by cases e : v.ownBlock with | none => exact .inl rfl | some g => exact .inr (by simp)), h.vb, h.res.kept0 k, h.kept.trans k, h.lo⟩
theorem PlayAt.step {w Y w3 : World} {B : Nat} {D D2 : Pl.Dev} {vs : List Int} {v : Value} {a b a2 b2 : Option Addr} {ca cb ca2 cb2 : Nat} (h : PlayAt w Y B D vs v a b ca cb) (k3 : Kept 0 0 Y w3) (hD2 : DevIn w3 (w.heap.size + 1) D2 a2 b2 ca2) (hn : ∀ g, blk a2 = some g ∨ blk b2 = some g → (blk a = some g ∨ blk b = some g) ∨ Y.heap.size ≤ g) (o : Obj) :
    PlayAt w (((((((w3.alloc o).setCell ⟨B, 0, none⟩ (.int .i64 D2.e)).setCell ⟨B, 1, none⟩ (.int .i64 D2.l)).setCell ⟨B, 2, none⟩ (.bool D2.r)).setCell ⟨B, 3, none⟩ (.slice a2 D2.xs.length ca2)).setCell ⟨B, 4, none⟩ (.slice b2 D2.ys.length cb2)).setCell ⟨B, 5, none⟩ (.int .i64 D2.t)) B D2 vs v a2 b2 ca2 cb2 := by
  have h3 := (h.keep k3).keep (kept_alloc w3 o)
  have hl := h.box.lt
  have hx : ∀ g, blk a2 = some g ∨ blk b2 = some g → g ≠ B := fun g hg => (hn g hg).elim (fun z => (h.nb g z).1) (fun z => by omega)
  have hr : w.heap.size ≠ B := Nat.ne_of_lt h.lo
  have hs := h.kept.size
  refine ⟨((((((h3.box.set 0 _).set 1 _).set 2 _).set 3 _).set 4 _).set 5 _), (((((((hD2.kept (kept_alloc w3 o)).setOther _ _ _ hx).setOther _ _ _ hx).setOther _ _ _ hx).setOther _ _ _ hx).setOther _ _ _ hx).setOther _ _ _ hx), ?_, ?_, h.vb, ((((((h3.res.other _ _ _ hr).other _ _ _ hr).other _ _ _ hr).other _ _ _ hr).other _ _ _ hr).other _ _ _ hr), (kept_set (kept_set (kept_set (kept_set (kept_set (kept_set h3.kept _ _ _ (.inr (Nat.le_of_lt h.lo))) _ _ _ (.inr (Nat.le_of_lt h.lo))) _ _ _ (.inr (Nat.le_of_lt h.lo))) _ _ _ (.inr (Nat.le_of_lt h.lo))) _ _ _ (.inr (Nat.le_of_lt h.lo))) _ _ _ (.inr (Nat.le_of_lt h.lo))), h.lo⟩
  · intro g hg
    refine ⟨hx g hg, ?_⟩
    rcases hn g hg with z | z
    · exact (h.nb g z).2
    · intro e
      have := (h.row.lt g e).2
      omega
  · have hg : ∀ (W : World), W.ownsRow (w.heap.size + 1) 3 1 v vs.length (vs.map (Value.int .i64)) → ∀ i u, (W.setCell ⟨B, i, none⟩ u).ownsRow (w.heap.size + 1) 3 1 v vs.length (vs.map (Value.int .i64)) := fun W o i u => o.kept (grownBy_set W B i u) (.inr h.vb)
    exact (hg _ (hg _ (hg _ (hg _ (hg _ (hg _ h3.row _ _) _ _) _ _) _ _) _ _) _ _)
theorem PlayAt.grow {w W w5 : World} {B : Nat} {D : Pl.Dev} {vs : List Int} {v : Value} {a b : Option Addr} {ca cb : Nat} (h : PlayAt w W B D vs v a b ca cb) (x : Int) (g2 c2 N : Nat) (hN : vs.length = N) (o2 : w5.ownsRow (w.heap.size + 1) 3 1 (.slice (some ⟨g2, 0, none⟩) (N + 1) c2) (N + 1) (vs.map (Value.int .i64) ++ [.int .i64 x])) (k2 : W.grownBy w5 v.ownBlock) (hg : v.ownBlock = some g2 ∨ g2 = W.heap.size) :
    PlayAt w w5 B D (vs ++ [x]) (.slice (some ⟨g2, 0, none⟩) (N + 1) c2) a b ca cb := by
  subst hN
  have hl := h.box.lt
  have e1 : (vs ++ [x]).map (Value.int .i64) = vs.map (Value.int .i64) ++ [.int .i64 x] := by simp
  have hsz := k2.size
  have hlo : ∀ g, v.ownBlock = some g → w.heap.size + 1 ≤ g := fun g e => (h.row.lt g e).1
  refine ⟨h.box.by k2 h.vb, ⟨(h.dev.1.by k2 (fun g z => (h.nb g (.inl z)).2)).wide (Nat.le_refl _) hsz, (h.dev.2.1.by k2 (fun g z => (h.nb g (.inr z)).2)).wide (Nat.le_refl _) hsz, h.dev.2.2⟩, ?_, ?_, ?_, h.res.by k2 (fun e => by have := hlo _ e; omega), ?_, h.lo⟩
  · intro g z
    refine ⟨(h.nb g z).1, ?_⟩
    intro e
    have e2 : g2 = g := by simpa [Value.ownBlock] using e
    subst e2
    rcases hg with hg | hg
    · exact (h.nb _ z).2 hg
    · rcases z with z | z
      · have := (h.dev.1.blk_in _ z).2; omega
      · have := (h.dev.2.1.blk_in _ z).2; omega
  · rw [e1]; simpa using o2
  · intro e
    have e2 : g2 = B := by simpa [Value.ownBlock] using e
    subst e2
    rcases hg with hg | hg
    · exact h.vb hg
    · omega
  · refine ⟨k2.os.trans h.kept.os, k2.tape.trans h.kept.tape, k2.output.trans h.kept.output, Nat.le_trans h.kept.size hsz, ?_⟩
    intro i hi hn
    exact (k2.block i (Nat.lt_of_lt_of_le hi h.kept.size) (fun e => by have := hlo i e.symm; omega)).trans (h.kept.block i hi hn)

/-- what PlayDevice answers -/
def PlayRet (e : Ending) (w w' : World) (zs : List Int) (n : Nat) : Prop := ∃ (a b c : Option Addr) (ca cb cc : Nat), e = .returned (.tuple #[.agg #[.int .i64 (Pl.plD zs n).e, .int .i64 (Pl.plD zs n).l, .bool (Pl.plD zs n).r, .slice a (Pl.plD zs n).xs.length ca, .slice b (Pl.plD zs n).ys.length cb, .int .i64 (Pl.plD zs n).t], .slice c (Pl.plV zs n).length cc, .bool (Pl.playOk zs n)]) ∧ DevIn w' w.heap.size (Pl.plD zs n) a b ca ∧ SlotIn w' w.heap.size w'.heap.size c (Pl.plV zs n) ∧ (∀ g, blk c = some g → blk a ≠ some g ∧ blk b ≠ some g) ∧ Kept 0 0 w w'

set_option maxRecDepth 20000 in
set_option maxHeartbeats 8000000 in
theorem specPlay_good (w : World) (a : Option Addr) (ca n : Nat) (zs : List Int) (ha : IRow w a zs) (lz : zs.length = 3 * n) (bn : n ≤ 80) :
    Calls Try.prog 23 #[.slice a n ca] w fun e w' => PlayRet e w w' zs n := by
  have HA := hide ha
  have HZ := hide lz
  have K0 := hide (kept_alloc w (.cells #[.int .i64 0, .int .i64 0, .bool false, .slice none 0 0, .slice none 0 0, .int .i64 0] 24))
  have R0 := hide (Blk.new w #[.int .i64 0, .int .i64 0, .bool false, .slice none 0 0, .slice none 0 0, .int .i64 0] 24)
  have q1 : decide ((80 : Int) < (n : Int)) = false := by simp; omega
  obtain ⟨i0, hi0, hz0, hz1, hz2⟩ := info_parts Try.info3
  clear ha lz
  go_enter Try.func23, Try.ntmps23
  go_wp2_with fail
  refine (specNewDevice _).mono ?_
  rintro e w1 ⟨rfl, k1⟩
  have n1 := k1.size
  simp only [World.size_alloc] at n1
  have P0 : PlayAt w (w1.alloc (.cells #[.int .i64 8, .int .i64 8, .bool false, .slice none 0 0, .slice none 0 0, .int .i64 0] 24)) w1.heap.size (Pl.playD zs 0) [] (.slice none 0 0) none none 0 0 :=
    ⟨Blk.new _ _ _, ⟨.inl ⟨rfl, rfl⟩, .inl ⟨rfl, rfl⟩, by intro g hg; simp [blk] at hg, Nat.le_refl _⟩, by intro g hg; simp [blk] at hg, World.ownsRow_nil _ _ _ _, by simp [Value.ownBlock], (R0.out.kept0 k1).alloc _, kept_new (K0.out.trans k1) _, n1⟩
  have HP0 := hide P0
  clear k1 P0 R0 K0
  go_wp2_with fail
  go_loopw [6, 8, 9, 10, 18] (fun v _ _ _ j wr => ∃ k : Nat, k ≤ n ∧ j = .int .i64 k ∧ (∀ i, i < k → Pl.stepAt zs i = true) ∧ ∃ (a b : Option Addr) (ca cb : Nat), PlayAt w wr w1.heap.size (Pl.playD zs k) (Pl.playV zs k) v a b ca cb) (fun _ _ _ _ j _ => n - (intOf j).toNat)
  case atStart => exact ⟨0, Nat.zero_le _, rfl, fun i hi => absurd hi (by omega), none, none, 0, 0, HP0.out⟩
  case round =>
    clear HP0
    obtain ⟨k, hk, rfl, hall, a1, b1, ca1, cb1, hP⟩ := hrel
    have HALL := hide hall
    have HP := hide hP
    have hS := Pl.small_play zs k hall
    have hvl := Pl.playV_len zs k
    clear hall
    by_cases hlt : k < n
    · obtain ⟨g1, o1, rfl, p0, p1, p2⟩ := (HA.out.keptS hP.kept).at3 HZ.out hlt
      clear hP
      cases hs : Pl.stepAt zs k
      · have HS : Hid (Pl.stepOk (el zs (k * 3)) (el zs (k * 3 + 1)) (el zs (k * 3 + 2)) = false) := hide hs
        have E : Hid (Pl.playOk zs n = false) := hide (Pl.playOk_no hlt hs)
        clear hs
        go_wp2_with (go_at_call 43; refine (l5Good _ _ _ _).mono ?_; rintro e w9 ⟨rfl, o, rfl⟩; rw [HS.out]; have HQ := hide (HP.out.keep (kept_new (kept_alloc wr (.cells #[.int .i64 (el zs (k * 3)), .int .i64 (el zs (k * 3 + 1)), .int .i64 (el zs (k * 3 + 2))] 38)) o)); have y0 := HQ.out.res.cell (i := 0) rfl; have z0 := HQ.out.res.frozen 0; have y1 := HQ.out.res.cell (i := 1) rfl; have z1 := HQ.out.res.frozen 1; have y2 := HQ.out.res.cell (i := 2) rfl; have z2 := HQ.out.res.frozen 2; have y3 := HQ.out.res.cell (i := 3) rfl; have z3 := HQ.out.res.frozen 3; have y4 := HQ.out.res.cell (i := 4) rfl; have z4 := HQ.out.res.frozen 4; have y5 := HQ.out.res.cell (i := 5) rfl; have z5 := HQ.out.res.frozen 5)
        refine bodyPost_ret (v := .tuple #[.agg #[.int .i64 0, .int .i64 0, .bool false, .slice none 0 0, .slice none 0 0, .int .i64 0], .slice none 0 0, .bool false]) ?_ rfl ⟨none, none, none, 0, 0, 0, ?_, ?_, ?_, ?_, ?_⟩
        · rw [results_cell_tmp2 rfl]; go_simp
        · simp [Pl.plD, Pl.plV, E.out, Pl.devNo]
        · refine ⟨.inl ⟨rfl, by simp [Pl.plD, E.out, Pl.devNo]⟩, .inl ⟨rfl, by simp [Pl.plD, E.out, Pl.devNo]⟩, by intro g hg; simp [blk] at hg, by simp [Pl.plD, E.out, Pl.devNo]⟩
        · exact .inl ⟨rfl, by simp [Pl.plV, E.out]⟩
        · intro g hg; simp [blk] at hg
        · exact (kept_set (kept_set (kept_set (kept_set (kept_set (kept_set HQ.out.kept _ _ _ (.inr (Nat.le_refl _))) _ _ _ (.inr (Nat.le_refl _))) _ _ _ (.inr (Nat.le_refl _))) _ _ _ (.inr (Nat.le_refl _))) _ _ _ (.inr (Nat.le_refl _))) _ _ _ (.inr (Nat.le_refl _)))
      · have ED : Hid (Pl.stepD (Pl.playD zs k) (el zs (k * 3)) (el zs (k * 3 + 1)) (el zs (k * 3 + 2)) = Pl.playD zs (k + 1)) := hide rfl
        have EV : Hid (Pl.playV zs k ++ [Pl.stepV (Pl.playD zs k) (el zs (k * 3)) (el zs (k * 3 + 1)) (el zs (k * 3 + 2))] = Pl.playV zs (k + 1)) := hide rfl
        have HS : Hid (Pl.stepOk (el zs (k * 3)) (el zs (k * 3 + 1)) (el zs (k * 3 + 2)) = true) := hide hs
        clear hs
        generalize hX0 : el zs (k * 3) = x0 at p0 ED EV HS
        generalize hX1 : el zs (k * 3 + 1) = x1 at p1 ED EV HS
        generalize hX2 : el zs (k * 3 + 2) = x2 at p2 ED EV HS
        generalize hDD : Pl.playD zs k = D at HP hS ED EV
        generalize hVV : Pl.playV zs k = V at HP hvl EV
        generalize hEE : Pl.playD zs (k + 1) = D2 at ED
        go_wp2_with (go_at_call 43; refine (l5Good _ _ _ _).mono ?_; rintro e w9 ⟨rfl, o, rfl⟩; rw [HS.out]; have HQ := hide (HP.out.keep (kept_new (kept_alloc wr (.cells #[.int .i64 x0, .int .i64 x1, .int .i64 x2] 38)) o)); have XQ := hide ((Blk.new wr #[.int .i64 x0, .int .i64 x1, .int .i64 x2] 38).alloc o); have e0 := XQ.out.cell (i := 0) rfl; have e1 := XQ.out.cell (i := 1) rfl; have e2 := XQ.out.cell (i := 2) rfl; have c0 := HQ.out.box.cell (i := 0) rfl; have c1 := HQ.out.box.cell (i := 1) rfl; have c2 := HQ.out.box.cell (i := 2) rfl; have c3 := HQ.out.box.cell (i := 3) rfl; have c4 := HQ.out.box.cell (i := 4) rfl; have c5 := HQ.out.box.cell (i := 5) rfl)
        obtain ⟨Y, hY⟩ : ∃ Y : World, Y = (wr.alloc (.cells #[.int .i64 x0, .int .i64 x1, .int .i64 x2] 38)).alloc o := ⟨_, rfl⟩
        rw [← hY] at HQ XQ ⊢
        clear hY e0 e1 e2 c0 c1 c2 c3 c4 c5 XQ HP p0 p1 p2
        have sY := HQ.out.kept.size
        have lB := HQ.out.box.lt
        have CN := l5Step Y (w.heap.size + 1) D a1 b1 ca1 cb1 x0 x1 x2 HQ.out.dev (by omega) hS HS.out
        rw [ED.out] at CN
        refine CN.mono ?_
        clear CN
        rintro e w3 ⟨a2, b2, ca2, cb2, rfl, hD2, k3, hn3⟩
        have HR := hide (HQ.out.step k3 hD2 hn3 (.cells #[.int .i64 D2.e, .int .i64 D2.l, .bool D2.r, .slice a2 D2.xs.length ca2, .slice b2 D2.ys.length cb2, .int .i64 D2.t] 24) (cb2 := cb2))
        have U := ((HQ.out.box.kept0 k3).alloc (.cells #[.int .i64 D2.e, .int .i64 D2.l, .bool D2.r, .slice a2 D2.xs.length ca2, .slice b2 D2.ys.length cb2, .int .i64 D2.t] 24))
        have m0 := U.cell (i := 0) rfl
        have f0 := U.frozen 0
        have m1 := U.cell (i := 1) rfl
        have f1 := U.frozen 1
        have m2 := U.cell (i := 2) rfl
        have f2 := U.frozen 2
        have m3 := U.cell (i := 3) rfl
        have f3 := U.frozen 3
        have m4 := U.cell (i := 4) rfl
        have f4 := U.frozen 4
        have m5 := U.cell (i := 5) rfl
        have f5 := U.frozen 5
        clear U k3 hD2 hn3
        go_upto_region 12 with fail
        obtain ⟨W, hW⟩ : ∃ W : World, W = (((((((w3.alloc (.cells #[.int .i64 D2.e, .int .i64 D2.l, .bool D2.r, .slice a2 D2.xs.length ca2, .slice b2 D2.ys.length cb2, .int .i64 D2.t] 24)).setCell ⟨w1.heap.size, 0, none⟩ (.int .i64 D2.e)).setCell ⟨w1.heap.size, 1, none⟩ (.int .i64 D2.l)).setCell ⟨w1.heap.size, 2, none⟩ (.bool D2.r)).setCell ⟨w1.heap.size, 3, none⟩ (.slice a2 D2.xs.length ca2)).setCell ⟨w1.heap.size, 4, none⟩ (.slice b2 D2.ys.length cb2)).setCell ⟨w1.heap.size, 5, none⟩ (.int .i64 D2.t)) := ⟨_, rfl⟩
        rw [← hW] at HR ⊢
        clear hW m0 m1 m2 m3 m4 m5 f0 f1 f2 f3 f4 f5 HQ
        have sW := HR.out.kept.size
        have lW := HR.out.box.lt
        have HU := hide (HR.out.keep (kept_alloc W (.cells #[.int .i64 (Pl.stepV D x0 x1 x2)] 3)))
        have H63 : Hid (V.length + 1 ≤ maxLen) := hide (by unfold maxLen; omega)
        have HBT : Hid ((V.length + 1) * 8 ≤ 140737488355328) := hide (by omega)
        go_wp2_with (at_builtin; refine wpList_append_lies _ rfl (.tmp 33) (.tmp 35) 22 rfl (w.heap.size + 1) 3 i0 (.int .i64 0) 1 8 Try.underlying22 hi0 hz0 hz1 hz2 rfl (by decide) u6 V.length (V.map (Value.int .i64)) rfl HU.out.row ⟨W.heap.size, 0, none⟩ 1 1 [.int .i64 (Pl.stepV D x0 x1 x2)] rfl rfl (World.news_of_block (cs := #[.int .i64 (Pl.stepV D x0 x1 x2)]) (t := 3) (fr := (0, 0)) (heap_alloc_new W _)) (by simp [Value.oneCell']) (by decide) H63.out HBT.out (by simp; omega) (W.heap.size + 1) (by simp) ?_)
        intro g5 c5 w5 o5 k5 hg5 l5
        have HV := hide (HU.out.grow _ g5 c5 k hvl o5 k5 (hg5.imp id (fun h => by simpa using h)))
        clear o5 k5 hg5
        go_wp2_with fail
        go_roundw
        case rel =>
          refine ⟨k + 1, by omega, by go_num, ?_, a2, b2, ca2, cb2, ?_⟩
          · intro i hi
            by_cases e : i < k
            · exact HALL.out i e
            · obtain rfl : i = k := by omega
              show Pl.stepOk _ _ _ = true
              rw [hX0, hX1, hX2]; exact HS.out
          · rw [hEE, ← EV.out]; exact HV.out
        case measure => simp [intOf]; omega
    · obtain rfl : k = n := by omega
      clear hP
      have E : Hid (Pl.playOk zs k = true) := hide (Pl.playOk_of bn HALL.out)
      have EE : Hid (Pl.plD zs k = Pl.playD zs k) := hide (by simp [Pl.plD, E.out])
      have EF : Hid (Pl.plV zs k = Pl.playV zs k) := hide (by simp [Pl.plV, E.out])
      generalize hDD : Pl.playD zs k = D at HP hS EE
      generalize hVV : Pl.playV zs k = V at HP hvl EF
      clear hvl
      obtain ⟨c, cc, rfl, hcc⟩ := slotIn_of_row1 HP.out.row
      have HC := hide hcc
      clear hcc
      have c0 := HP.out.box.cell (i := 0) rfl
      have c1 := HP.out.box.cell (i := 1) rfl
      have c2 := HP.out.box.cell (i := 2) rfl
      have c3 := HP.out.box.cell (i := 3) rfl
      have c4 := HP.out.box.cell (i := 4) rfl
      have c5 := HP.out.box.cell (i := 5) rfl
      go_wp2_with fail
      refine (l5Own wr D a1 b1 ca1 cb1 HP.out.dev.1.row HP.out.dev.2.1.row (by have := hS.x; omega) (by have := hS.y; omega)).mono ?_
      rintro e w2 ⟨a2, b2, ca2, cb2, rfl, hD2, k2⟩
      clear c0 c1 c2 c3 c4 c5
      have HQ := hide (HP.out.keep k2)
      have HD2 := hide hD2
      have HC2 := hide ((HC.out.kept k2 (by omega)).wide (Nat.le_refl _) k2.size)
      have sr := HP.out.kept.size
      have lr := HP.out.res.lt
      have HNE : Hid (∀ g, blk a2 = some g ∨ blk b2 = some g → g ≠ w.heap.size) := hide (by
        intro g hg
        rcases hg with hg | hg
        · have := hD2.1.blk_in g hg; omega
        · have := hD2.2.1.blk_in g hg; omega)
      have HNC : Hid (∀ g, blk c = some g → g ≠ w.heap.size) := hide (by intro g hg; have := HC.out.blk_in g hg; omega)
      clear hD2 k2
      have y0 := HQ.out.res.cell (i := 0) rfl
      have z0 := HQ.out.res.frozen 0
      have y1 := HQ.out.res.cell (i := 1) rfl
      have z1 := HQ.out.res.frozen 1
      have y2 := HQ.out.res.cell (i := 2) rfl
      have z2 := HQ.out.res.frozen 2
      have y3 := HQ.out.res.cell (i := 3) rfl
      have z3 := HQ.out.res.frozen 3
      have y4 := HQ.out.res.cell (i := 4) rfl
      have z4 := HQ.out.res.frozen 4
      have y5 := HQ.out.res.cell (i := 5) rfl
      have z5 := HQ.out.res.frozen 5
      go_wp2_with fail
      refine bodyPost_ret (v := .tuple #[.agg #[.int .i64 D.e, .int .i64 D.l, .bool D.r, .slice a2 D.xs.length ca2, .slice b2 D.ys.length cb2, .int .i64 D.t], .slice c V.length cc, .bool true]) ?_ rfl ⟨a2, b2, c, ca2, cb2, cc, ?_, ?_, ?_, ?_, ?_⟩
      · rw [results_cell_tmp2 rfl]; go_simp
      · rw [EE.out, EF.out, E.out]
      · rw [EE.out]; exact (((((((HD2.out.base sr).setOther _ _ _ HNE.out).setOther _ _ _ HNE.out).setOther _ _ _ HNE.out).setOther _ _ _ HNE.out).setOther _ _ _ HNE.out).setOther _ _ _ HNE.out)
      · rw [EF.out]; exact ((((((((HC2.out.setOther _ _ _ HNC.out).setOther _ _ _ HNC.out).setOther _ _ _ HNC.out).setOther _ _ _ HNC.out).setOther _ _ _ HNC.out).setOther _ _ _ HNC.out)).wide (Nat.le_succ _) (by simp))
      · intro g hg
        have := HC.out.blk_in g hg
        exact ⟨fun z => by have := HD2.out.1.blk_in g z; omega, fun z => by have := HD2.out.2.1.blk_in g z; omega⟩
      · exact (kept_set (kept_set (kept_set (kept_set (kept_set (kept_set HQ.out.kept _ _ _ (.inr (Nat.le_refl _))) _ _ _ (.inr (Nat.le_refl _))) _ _ _ (.inr (Nat.le_refl _))) _ _ _ (.inr (Nat.le_refl _))) _ _ _ (.inr (Nat.le_refl _))) _ _ _ (.inr (Nat.le_refl _)))

theorem specPlay_long (w : World) (a : Option Addr) (ca n : Nat) (zs : List Int) (bn : 80 < n) (bm : n ≤ 2000000) :
    Calls Try.prog 23 #[.slice a n ca] w fun e w' => PlayRet e w w' zs n := by
  have K0 := hide (kept_alloc w (.cells #[.int .i64 0, .int .i64 0, .bool false, .slice none 0 0, .slice none 0 0, .int .i64 0] 24))
  have q1 : decide ((80 : Int) < (n : Int)) = true := by simp; omega
  have E : Hid (Pl.playOk zs n = false) := hide (by unfold Pl.playOk; rw [decide_eq_false (by omega)]; rfl)
  go_enter Try.func23, Try.ntmps23
  go_wp2_with fail
  refine bodyPost_ret (v := .tuple #[.agg #[.int .i64 0, .int .i64 0, .bool false, .slice none 0 0, .slice none 0 0, .int .i64 0], .slice none 0 0, .bool false]) ?_ rfl ⟨none, none, none, 0, 0, 0, ?_, ?_, ?_, ?_, ?_⟩
  · rw [results_cell_tmp2 rfl]; go_simp
  · simp [Pl.plD, Pl.plV, E.out, Pl.devNo]
  · refine ⟨.inl ⟨rfl, by simp [Pl.plD, E.out, Pl.devNo]⟩, .inl ⟨rfl, by simp [Pl.plD, E.out, Pl.devNo]⟩, by intro g hg; simp [blk] at hg, by simp [Pl.plD, E.out, Pl.devNo]⟩
  · exact .inl ⟨rfl, by simp [Pl.plV, E.out]⟩
  · intro g hg; simp [blk] at hg
  · exact K0.out
theorem specPlayDevice (w : World) (a : Option Addr) (ca n : Nat) (zs : List Int) (ha : IRow w a zs) (lz : zs.length = 3 * n) (bn : n ≤ 2000000) :
    Calls Try.prog 23 #[.slice a n ca] w fun e w' => PlayRet e w w' zs n := by
  by_cases h : n ≤ 80
  · exact specPlay_good w a ca n zs ha lz h
  · exact specPlay_long w a ca n zs (by omega) bn
end Go.Proofs.Ytlocilcnmbmikaa
