/- What the program's device in work answers: tick, come, read, write, step. -/
import Derived.Test.YtlocilcnmbmikaaImplDrain
import Derived.Test.YtlocilcnmbmikaaImplSteps
namespace Go.Proofs.Ytlocilcnmbmikaa
open Go.RowKit Go.Conc
set_option linter.unusedVariables false

theorem implFlags (b : Bool) (f : Int) (w : World) : Calls Try.prog 71 #[.bool b, .int .i64 f] w fun e w' => e = .returned (.int .i64 (Pl.fl b f)) ∧ w' = w := by
  cases b
  all_goals
    go_enter Try.func71, Try.ntmps71
    go_wp2
    go_ret
    exact ⟨rfl, rfl⟩
theorem Ch.set {w : World} {c cap b i : Nat} {vs : List Int} {v : Value} {cs : Array Value} {ty : TypeId} (h : Ch w c cap vs) (k : Blk w b cs ty) : Ch (w.setCell ⟨b, i, none⟩ v) c cap vs := h.setOther _ _ _ (k.ne_ch h)
theorem Wd.hs {w : World} {lo hi B ci co : Nat} {d : Pl.Dev} (h : Wd w lo hi B ci co d) : Kept lo hi w w := Kept.refl _ _ _
/-- a field of the device in work was written -/
theorem Wd.field {w : World} {lo hi B ci co i : Nat} {d d' : Pl.Dev} {v : Value} (h : Wd w lo hi B ci co d) (hx : d'.xs = d.xs) (hy : d'.ys = d.ys)
    (hv : (#[.int .i64 d.e, .int .i64 d.l, .bool d.r, .chan (some ci), .chan (some co), .int .i64 d.t] : Array Value).setIfInBounds i v = #[.int .i64 d'.e, .int .i64 d'.l, .bool d'.r, .chan (some ci), .chan (some co), .int .i64 d'.t]) : Wd (w.setCell ⟨B, i, none⟩ v) lo hi B ci co d' := by
  refine ⟨?_, ?_, ?_, h.b1, h.b2, h.i1, h.i2, h.o1, h.o2⟩
  · have := h.blk.set i v
    rwa [hv] at this
  · rw [hx]; exact h.ic.set h.blk
  · rw [hy]; exact h.oc.set h.blk
theorem keptB {w : World} {lo hi B i : Nat} {v : Value} (h1 : lo ≤ B) (h2 : B < hi) : Kept lo hi w (w.setCell ⟨B, i, none⟩ v) := kept_set (Kept.refl _ _ _) B i v (.inl ⟨h1, h2⟩)

theorem wiredTick (w : World) (lo hi B ci co : Nat) (d : Pl.Dev) (hd : Wd w lo hi B ci co d) (hS : Pl.Small d) :
    Calls Try.prog 62 #[.pointer (some ⟨B, 0, none⟩)] w fun e w' => e = .returned (.tuple #[]) ∧ Wd w' lo hi B ci co (Pl.tick d) ∧ Kept lo hi w w' := by
  have HD := hide hd
  have x0 := hd.blk.cell (i := 0) rfl
  have x1 := hd.blk.cell (i := 1) rfl
  have x2 := hd.blk.cell (i := 2) rfl
  have f1 := hd.blk.frozen 1
  have f2 := hd.blk.frozen 2
  obtain ⟨s1, s2, s3, s4, s5, s6, s7, s8⟩ := hS
  clear hd
  by_cases h0 : d.e = 0
  · have q0 : (d.e == 0) = true := by simpa using h0
    go_enter Try.func62, Try.ntmps62
    go_wp2
    first | go_end0 | refine bodyPost_ret (results_none rfl _ _ _) rfl ?_
    refine ⟨rfl, ?_, Kept.refl _ _ _⟩
    have : Pl.tick d = d := by unfold Pl.tick; rw [if_pos h0]
    rw [this]; exact HD.out
  · have q0 : (d.e == 0) = false := by simpa using h0
    by_cases h1 : 1 < d.l
    · have E : Pl.tick d = { d with l := d.l - 1 } := by unfold Pl.tick; rw [if_neg h0, if_neg (by omega), if_pos (by omega)]
      go_enter Try.func62, Try.ntmps62
      go_wp2
      first | go_end0 | refine bodyPost_ret (results_none rfl _ _ _) rfl ?_
      refine ⟨rfl, ?_, keptB HD.out.b1 HD.out.b2⟩
      try rw [E]
      exact HD.out.field rfl rfl rfl
    · have E : Pl.tick d = { d with l := d.e, r := true } := by unfold Pl.tick; rw [if_neg h0, if_pos (by omega)]
      go_enter Try.func62, Try.ntmps62
      go_wp2
      first | go_end0 | refine bodyPost_ret (results_none rfl _ _ _) rfl ?_
      refine ⟨rfl, ?_, (keptB HD.out.b1 HD.out.b2).trans (keptB HD.out.b1 HD.out.b2)⟩
      try rw [E]
      exact (HD.out.field (d' := { d with l := d.e }) rfl rfl rfl).field rfl rfl rfl

theorem Wd.kept0 {w w' : World} {lo hi B ci co : Nat} {d : Pl.Dev} (h : Wd w lo hi B ci co d) (k : Kept 0 0 w w') : Wd w' lo hi B ci co d :=
  ⟨h.blk.kept0 k, h.ic.kept k (by omega), h.oc.kept k (by omega), h.b1, h.b2, h.i1, h.i2, h.o1, h.o2⟩
theorem Wd.onIn {w w' : World} {lo hi B ci co : Nat} {d : Pl.Dev} {xs : List Int} (h : Wd w lo hi B ci co d) (k : Kept ci (ci + 1) w w') (c : Ch w' ci 4 xs) : Wd w' lo hi B ci co { d with xs := xs } := by
  have n1 := h.blk.ne_ch h.ic
  have n2 := h.ic.ne h.oc (by decide)
  exact ⟨h.blk.kept k (by omega), c, h.oc.kept k (by omega), h.b1, h.b2, h.i1, h.i2, h.o1, h.o2⟩
theorem Wd.onOut {w w' : World} {lo hi B ci co : Nat} {d : Pl.Dev} {ys : List Int} (h : Wd w lo hi B ci co d) (k : Kept co (co + 1) w w') (c : Ch w' co 200 ys) : Wd w' lo hi B ci co { d with ys := ys } := by
  have n1 := h.blk.ne_ch h.oc
  have n2 := h.ic.ne h.oc (by decide)
  exact ⟨h.blk.kept k (by omega), h.ic.kept k (by omega), c, h.b1, h.b2, h.i1, h.i2, h.o1, h.o2⟩
theorem Wd.inK {w w' : World} {lo hi B ci co : Nat} {d : Pl.Dev} (h : Wd w lo hi B ci co d) (k : Kept ci (ci + 1) w w') : Kept lo hi w w' := by
  have := h.i1; have := h.i2
  exact k.wide (by omega)
theorem Wd.outK {w w' : World} {lo hi B ci co : Nat} {d : Pl.Dev} (h : Wd w lo hi B ci co d) (k : Kept co (co + 1) w w') : Kept lo hi w w' := by
  have := h.o1; have := h.o2
  exact k.wide (by omega)

theorem wiredCome (w : World) (lo hi B ci co : Nat) (d : Pl.Dev) (v : Int) (hd : Wd w lo hi B ci co d) (hS : Pl.Small d) :
    Calls Try.prog 63 #[.pointer (some ⟨B, 0, none⟩), .int .i64 v] w fun e w' => e = .returned (.tuple #[]) ∧ Wd w' lo hi B ci co (Pl.come d v) ∧ Kept lo hi w w' := by
  have HD := hide hd
  have x3 := hd.blk.cell (i := 3) rfl
  obtain ⟨s1, s2, s3, s4, s5, s6, s7, s8⟩ := hS
  clear hd
  by_cases h0 : d.xs.length < 4
  · have E : Pl.come d v = { d with xs := d.xs ++ [v] } := by unfold Pl.come; rw [if_pos h0]
    go_enter Try.func63, Try.ntmps63
    go_wp2_with (go_at_call 70; refine (fifoPut _ _ _ _ _ HD.out.ic).mono ?_; rintro e w2 ⟨rfl, hC, hK⟩; rw [decide_eq_true h0]; rw [if_pos h0] at hC)
    first | go_end0 | refine bodyPost_ret (results_none rfl _ _ _) rfl ?_
    refine ⟨rfl, ?_, HD.out.inK hK⟩
    try rw [E]
    exact HD.out.onIn hK hC
  · by_cases h1 : d.t < 1000
    · have E : Pl.come d v = { d with t := d.t + 1 } := by unfold Pl.come; rw [if_neg h0, if_pos h1]
      have hm : min (d.t + 1) 1000 = d.t + 1 := by omega
      go_enter Try.func63, Try.ntmps63
      go_wp2_with (go_at_call 70; refine (fifoPut _ _ _ _ _ HD.out.ic).mono ?_; rintro e w2 ⟨rfl, hC, hK⟩; rw [decide_eq_false h0]; rw [if_neg h0] at hC; have HD2 := hide (HD.out.onIn hK hC); have x5 := HD2.out.blk.cell (i := 5) rfl; have f5 := HD2.out.blk.frozen 5)
      first | go_end0 | refine bodyPost_ret (results_none rfl _ _ _) rfl ?_
      refine ⟨rfl, ?_, (HD.out.inK hK).trans (keptB HD.out.b1 HD.out.b2)⟩
      try rw [E]
      exact HD2.out.field rfl rfl rfl
    · have E : Pl.come d v = d := by unfold Pl.come; rw [if_neg h0, if_neg h1]
      have e2 : d.t = 1000 := by omega
      go_enter Try.func63, Try.ntmps63
      go_wp2_with (go_at_call 70; refine (fifoPut _ _ _ _ _ HD.out.ic).mono ?_; rintro e w2 ⟨rfl, hC, hK⟩; rw [decide_eq_false h0]; rw [if_neg h0] at hC; have HD2 := hide (HD.out.onIn hK hC); have x5 := HD2.out.blk.cell (i := 5) rfl; have f5 := HD2.out.blk.frozen 5; rw [e2] at x5)
      first | go_end0 | refine bodyPost_ret (results_none rfl _ _ _) rfl ?_
      refine ⟨rfl, ?_, (HD.out.inK hK).trans (keptB HD.out.b1 HD.out.b2)⟩
      try rw [E]
      exact HD2.out.field rfl rfl (by rw [e2]; rfl)

theorem wiredRead (w : World) (lo hi B ci co : Nat) (d : Pl.Dev) (p : Int) (hd : Wd w lo hi B ci co d) (hS : Pl.Small d) (hp : 0 ≤ p ∧ p ≤ 3) :
    Calls Try.prog 64 #[.pointer (some ⟨B, 0, none⟩), .int .i64 p] w fun e w' => e = .returned (.int .i64 (Pl.rdV d p)) ∧ Wd w' lo hi B ci co (Pl.rdD d p) ∧ Kept lo hi w w' := by
  have HD := hide hd
  have x0 := hd.blk.cell (i := 0) rfl
  have x2 := hd.blk.cell (i := 2) rfl
  have x3 := hd.blk.cell (i := 3) rfl
  have f2 := hd.blk.frozen 2
  have hlen := fun ty => lenChan hd.ic ty
  clear hd
  have hc : p = 0 ∨ p = 1 ∨ p = 2 ∨ p = 3 := by omega
  rcases hc with rfl | rfl | rfl | rfl
  · have EV : Hid (Pl.rdV d 0 = d.e) := hide rfl
    have ED : Hid (Pl.rdD d 0 = d) := hide rfl
    go_enter Try.func64, Try.ntmps64
    go_wp2
    go_ret
    exact ⟨rI EV.out.symm, by rw [ED.out]; exact HD.out, Kept.refl _ _ _⟩
  · have EV : Hid (Pl.rdV d 1 = Pl.fl d.r 1) := hide (by show (if d.r = true then (1 : Int) else 0) = _; cases d.r <;> rfl)
    have ED : Hid (Pl.rdD d 1 = { d with r := false }) := hide rfl
    go_enter Try.func64, Try.ntmps64
    go_wp2_with (go_at_call 71; refine (implFlags _ _ _).mono ?_; rintro e w9 ⟨rfl, hw⟩; have hw2 := hw.symm; clear hw; subst hw2)
    go_ret
    exact ⟨rI EV.out.symm, by rw [ED.out]; exact HD.out.field rfl rfl rfl, keptB HD.out.b1 HD.out.b2⟩
  · have EV : Hid (Pl.rdV d 2 = el d.xs 0) := hide rfl
    have ED : Hid (Pl.rdD d 2 = { d with xs := d.xs.drop 1 }) := hide rfl
    go_enter Try.func64, Try.ntmps64
    go_wp2_with (go_at_call 72; refine (fifoTake _ _ _ _ HD.out.ic).mono ?_; rintro e w2 ⟨rfl, hC, hK⟩)
    go_ret
    exact ⟨rI EV.out.symm, by rw [ED.out]; exact HD.out.onIn hK hC, HD.out.inK hK⟩
  · have EV : Hid (Pl.rdV d 3 = (d.xs.length : Int)) := hide rfl
    have ED : Hid (Pl.rdD d 3 = d) := hide rfl
    go_enter Try.func64, Try.ntmps64
    go_wp2
    go_ret
    exact ⟨rI EV.out.symm, by rw [ED.out]; exact HD.out, Kept.refl _ _ _⟩

theorem wiredWrite (w : World) (lo hi B ci co : Nat) (d : Pl.Dev) (p v : Int) (hd : Wd w lo hi B ci co d) (hS : Pl.Small d) (hp : 0 ≤ p ∧ p ≤ 3) :
    Calls Try.prog 65 #[.pointer (some ⟨B, 0, none⟩), .int .i64 p, .int .i64 v] w fun e w' => e = .returned (.tuple #[]) ∧ Wd w' lo hi B ci co (Pl.wrD d p v) ∧ Kept lo hi w w' := by
  have HD := hide hd
  have x0 := hd.blk.cell (i := 0) rfl
  have x1 := hd.blk.cell (i := 1) rfl
  have x2 := hd.blk.cell (i := 2) rfl
  have x3 := hd.blk.cell (i := 3) rfl
  have x4 := hd.blk.cell (i := 4) rfl
  have f0 := hd.blk.frozen 0
  have f1 := hd.blk.frozen 1
  have f2 := hd.blk.frozen 2
  have s7 := hS.x
  clear hd
  have hc : p = 0 ∨ p = 1 ∨ p = 2 ∨ p = 3 := by omega
  rcases hc with rfl | rfl | rfl | rfl
  · have ED : Hid (Pl.wrD d 0 v = { d with e := v, l := v }) := hide rfl
    go_enter Try.func65, Try.ntmps65
    go_wp2
    first | go_end0 | refine bodyPost_ret (results_none rfl _ _ _) rfl ?_
    exact ⟨rfl, by rw [ED.out]; exact (HD.out.field (d' := { d with e := v }) rfl rfl rfl).field rfl rfl rfl, (keptB HD.out.b1 HD.out.b2).trans (keptB HD.out.b1 HD.out.b2)⟩
  · have ED : Hid (Pl.wrD d 1 v = { d with r := false }) := hide rfl
    go_enter Try.func65, Try.ntmps65
    go_wp2
    first | go_end0 | refine bodyPost_ret (results_none rfl _ _ _) rfl ?_
    exact ⟨rfl, by rw [ED.out]; exact HD.out.field rfl rfl rfl, keptB HD.out.b1 HD.out.b2⟩
  · have ED : Hid (Pl.wrD d 2 v = { d with ys := if d.ys.length < 200 then d.ys ++ [v] else d.ys }) := hide (by
      show (if d.ys.length < 200 then { d with ys := d.ys ++ [v] } else d) = _
      split <;> rfl)
    go_enter Try.func65, Try.ntmps65
    go_wp2_with (go_at_call 70; refine (fifoPut _ _ _ _ _ HD.out.oc).mono ?_; rintro e w2 ⟨rfl, hC, hK⟩)
    first | go_end0 | refine bodyPost_ret (results_none rfl _ _ _) rfl ?_
    exact ⟨rfl, by rw [ED.out]; exact HD.out.onOut hK hC, HD.out.outK hK⟩
  · have ED : Hid (Pl.wrD d 3 v = { d with xs := [] }) := hide rfl
    go_enter Try.func65, Try.ntmps65
    go_wp2_with (go_at_call 66; refine (fifoDrain _ _ _ _ HD.out.ic (by omega)).mono ?_; rintro e w2 ⟨rfl, _, hC, hK⟩)
    first | go_end0 | refine bodyPost_ret (results_none rfl _ _ _) rfl ?_
    exact ⟨rfl, by rw [ED.out]; exact HD.out.onIn hK hC, HD.out.inK hK⟩

theorem wiredStep (w : World) (lo hi B ci co : Nat) (d : Pl.Dev) (k p v : Int) (hd : Wd w lo hi B ci co d) (hS : Pl.Small d) (hok : Pl.stepOk k p v = true) :
    Calls Try.prog 48 #[.pointer (some ⟨B, 0, none⟩), .agg #[.int .i64 k, .int .i64 p, .int .i64 v]] w fun e w' => e = .returned (.int .i64 (Pl.stepV d k p v)) ∧ Wd w' lo hi B ci co (Pl.stepD d k p v) ∧ Kept lo hi w w' := by
  have K0 := hide (kept_alloc w (.cells #[.int .i64 k, .int .i64 p, .int .i64 v] 38))
  have HD := hide (hd.kept0 K0.out)
  have X0 := Blk.new w #[.int .i64 k, .int .i64 p, .int .i64 v] 38
  clear hd
  rcases Pl.step_ok hok with ⟨rfl, rfl, rfl⟩ | ⟨rfl, rfl, hv⟩ | ⟨rfl, hp, rfl⟩ | ⟨rfl, hp, hv⟩
  · go_enter Try.func48, Try.ntmps48
    go_wp2_with (go_at_call 62; refine (wiredTick _ _ _ _ _ _ _ HD.out hS).mono ?_; rintro e w2 ⟨rfl, hW, hK⟩)
    go_ret
    exact ⟨rfl, hW, K0.out.any.trans hK⟩
  · go_enter Try.func48, Try.ntmps48
    go_wp2_with (go_at_call 63; refine (wiredCome _ _ _ _ _ _ _ _ HD.out hS).mono ?_; rintro e w2 ⟨rfl, hW, hK⟩)
    go_ret
    exact ⟨rfl, hW, K0.out.any.trans hK⟩
  · go_enter Try.func48, Try.ntmps48
    go_wp2_with (go_at_call 64; refine (wiredRead _ _ _ _ _ _ _ _ HD.out hS hp).mono ?_; rintro e w2 ⟨rfl, hW, hK⟩)
    go_ret
    exact ⟨rfl, hW, K0.out.any.trans hK⟩
  · go_enter Try.func48, Try.ntmps48
    go_wp2_with (go_at_call 65; refine (wiredWrite _ _ _ _ _ _ _ _ _ HD.out hS hp).mono ?_; rintro e w2 ⟨rfl, hW, hK⟩)
    go_ret
    exact ⟨rfl, hW, K0.out.any.trans hK⟩
end Go.Proofs.Ytlocilcnmbmikaa
