/- What the program's row of bytes answers that is a channel: put and take, neither of which waits; for every row and every room. -/
import Derived.Test.YtlocilcnmbmikaaFrame
import Derived.Conc.LoneSelect
import Derived.Conc.LoneSelectN
import Derived.KernelRfl
namespace Go.Proofs.Ytlocilcnmbmikaa
open Go.RowKit Go.Conc
set_option linter.unusedVariables false

/-- block c is an open channel with so much room, and these bytes lie in it, the eldest first -/
def Ch (w : World) (c cap : Nat) (vs : List Int) : Prop := ∃ s r : Nat, w.heap[c]? = some (.chan cap (cellsOf vs) false s r false)
theorem Ch.lt {w : World} {c cap : Nat} {vs : List Int} (h : Ch w c cap vs) : c < w.heap.size := by
  obtain ⟨s, r, h⟩ := h
  exact (Array.getElem?_eq_some_iff.1 h).1
theorem Ch.kept {w w' : World} {c cap lo hi : Nat} {vs : List Int} (h : Ch w c cap vs) (k : Kept lo hi w w') (hn : ¬ (lo ≤ c ∧ c < hi)) : Ch w' c cap vs := by
  have hl := h.lt
  obtain ⟨s, r, h⟩ := h
  exact ⟨s, r, (k.block c hl hn).trans h⟩
theorem cellsOf_snoc (vs : List Int) (v : Int) : (cellsOf vs).push (.int .i64 v) = cellsOf (vs ++ [v]) := by simp [cellsOf]
theorem cellsOf_drop (vs : List Int) : (cellsOf vs).extract 1 (cellsOf vs).size = cellsOf (vs.drop 1) := by
  simp [cellsOf]
  rw [List.take_of_length_le (by simp)]
theorem kept_chan (w : World) (c cap : Nat) (buf : Array Value) (s r : Nat) : Kept c (c + 1) w (w.setChan c cap buf false s r false) :=
  ⟨rfl, rfl, rfl, by simp [World.setChan], fun k hk hn => by simp only [World.setChan]; rw [Array.getElem?_setIfInBounds_ne (by omega)]⟩

set_option maxRecDepth 100000 in
theorem fifoPut (w : World) (c cap : Nat) (vs : List Int) (v : Int) (h : Ch w c cap vs) :
    Calls Try.prog 70 #[.chan (some c), .int .i64 v] w fun e w' => e = .returned (.bool (decide (vs.length < cap))) ∧ Ch w' c cap (if vs.length < cap then vs ++ [v] else vs) ∧ Kept c (c + 1) w w' := by
  have hl := h.lt
  obtain ⟨s, r, hc⟩ := h
  refine calls_of_loneTo fun cs => ?_
  have e : Frame.enter Try.prog 70 #[.chan (some c), .int .i64 v] .normal = (base 70).at ⟨#[.chan (some c), .int .i64 v, undef, undef, undef, undef, undef, undef, undef, undef], []⟩ [.code (Try.f70.body.getD .skip)] := by
    simp [Frame.enter, Frame.at, Try.func70, base, Try.f70]
  rw [e]
  refine LoneTo.goes (n := 14) ?_
  simp only [Try.f70, Option.getD_some]
  s_c stepG_seq
  s_reg
  s_op
  s_c stepG_region_end
  s_c stepG_seq
  s_c stepG_seq
  s_reg
  s_op
  s_c stepG_region_end
  s_reg
  s_op
  s_c stepG_region_end
  s_c stepG_seq
  s_reg
  s_stop
  by_cases hr : vs.length < cap
  · refine LoneTo.step (step_lone_select_send_room (c := c) (v := .int .i64 v) (z' := .int .i64 0) (cap := cap) (buf := cellsOf vs) (s := s) (r := r) (tm := false)
      (stepG_comm (cases := #[scase c (.int .i64 v) (.int .i64 0)]) (blocking := false) (shape := .select) (w' := w) rfl rfl (by decide) (by simp [go_sem, execOp, scase, Act.eval]))
      hc (by rw [cellsOf_size]; exact hr)) ?_
    rw [Frame.finish_at]
    walk_nrm
    refine LoneTo.goes (n := 10) ?_
    s_op
    s_op
    s_c stepG_region_end
    s_c stepG_block
    s_cond true
    s_c stepG_seq
    s_reg
    s_op
    s_c stepG_region_end
    s_c stepG_ret'
    s_stop
    refine LoneTo.done ⟨.returned (.bool true), _, rfl, ⟨by rw [decide_eq_true hr], ?_, kept_chan _ _ _ _ _ _⟩, rfl, rfl, rfl, rfl, _, Try.func70, by simp [results, Try.f70, Frame.at]⟩
    rw [if_pos hr]
    exact ⟨s + 1, r, by rw [heap_setChan _ _ _ _ _ _ _ _ hl, cellsOf_snoc]⟩
  · refine LoneTo.step (step_lone_select_send_full (c := c) (v := .int .i64 v) (z' := .int .i64 0) (cap := cap) (buf := cellsOf vs) (s := s) (r := r) (tm := false)
      (stepG_comm (cases := #[scase c (.int .i64 v) (.int .i64 0)]) (blocking := false) (shape := .select) (w' := w) rfl rfl (by decide) (by simp [go_sem, execOp, scase, Act.eval]))
      hc (by rw [cellsOf_size]; omega)) ?_
    rw [Frame.finish_at]
    walk_nrm
    refine LoneTo.goes (n := 10) ?_
    s_op
    s_op
    s_c stepG_region_end
    s_c stepG_block
    s_cond false
    s_c stepG_seq
    s_reg
    s_op
    s_c stepG_region_end
    s_c stepG_ret'
    s_stop
    refine LoneTo.done ⟨.returned (.bool false), _, rfl, ⟨by rw [decide_eq_false hr], ?_, Kept.refl _ _ _⟩, rfl, rfl, rfl, rfl, _, Try.func70, by simp [results, Try.f70, Frame.at]⟩
    rw [if_neg hr]
    exact ⟨s, r, hc⟩

theorem cellsOf_head (vs : List Int) (h : 0 < vs.length) : (cellsOf vs).getD 0 undef = .int .i64 (el vs 0) := by
  cases vs with
  | nil => simp at h
  | cons x t => simp [cellsOf, el]

set_option maxRecDepth 100000 in
theorem fifoTake (w : World) (c cap : Nat) (vs : List Int) (h : Ch w c cap vs) :
    Calls Try.prog 72 #[.chan (some c)] w fun e w' => e = .returned (.tuple #[.int .i64 (el vs 0), .bool (decide (0 < vs.length))]) ∧ Ch w' c cap (vs.drop 1) ∧ Kept c (c + 1) w w' := by
  have hl := h.lt
  obtain ⟨s, r, hc⟩ := h
  refine calls_of_loneTo fun cs => ?_
  have e : Frame.enter Try.prog 72 #[.chan (some c)] .normal = (base 72).at ⟨#[.chan (some c), undef, undef, undef, undef, undef, undef, undef, undef, undef, undef], []⟩ [.code (Try.f72.body.getD .skip)] := by
    simp [Frame.enter, Frame.at, Try.func72, base, Try.f72]
  rw [e]
  refine LoneTo.goes (n := 11) ?_
  simp only [Try.f72, Option.getD_some]
  s_c stepG_seq
  s_reg
  s_op
  s_op
  s_c stepG_region_end
  s_c stepG_seq
  s_reg
  s_op
  s_c stepG_region_end
  s_c stepG_seq
  s_reg
  s_stop
  by_cases hr : 0 < vs.length
  · refine LoneTo.step (step_lone_select_recv_buf (c := c) (z := .int .i64 0) (cap := cap) (buf := cellsOf vs) (closed := false) (s := s) (r := r) (tm := false)
      (stepG_comm (cases := #[rcase c (.int .i64 0)]) (blocking := false) (shape := .select) (w' := w) rfl rfl (by decide) (by simp [go_sem, execOp, rcase, Act.eval]))
      hc (by rw [cellsOf_size]; exact hr)) ?_
    rw [Frame.finish_at, cellsOf_head vs hr]
    walk_nrm
    refine LoneTo.goes (n := 17) ?_
    s_op
    s_op
    s_c stepG_region_end
    s_c stepG_block
    s_cond true
    s_c stepG_seq
    s_reg
    s_op
    s_op
    s_c stepG_region_end
    s_c stepG_seq
    s_reg
    s_op
    s_op
    s_op
    s_c stepG_region_end
    s_c stepG_ret'
    s_stop
    refine LoneTo.done ⟨.returned (.tuple #[.int .i64 (el vs 0), .bool true]), _, rfl, ⟨by rw [decide_eq_true hr], ?_, kept_chan _ _ _ _ _ _⟩, rfl, rfl, rfl, rfl, _, Try.func72, by simp [results, Try.f72, Frame.at]⟩
    exact ⟨s, r + 1, by rw [heap_setChan _ _ _ _ _ _ _ _ hl, cellsOf_drop]⟩
  · have hn : vs = [] := List.length_eq_zero_iff.1 (by omega)
    subst hn
    refine LoneTo.step (step_lone_select_default (c := c) (z := .int .i64 0) (cap := cap) (s := s) (r := r) (tm := false)
      (stepG_comm (cases := #[rcase c (.int .i64 0)]) (blocking := false) (shape := .select) (w' := w) rfl rfl (by decide) (by simp [go_sem, execOp, rcase, Act.eval]))
      hc) ?_
    rw [Frame.finish_at]
    walk_nrm
    refine LoneTo.goes (n := 11) ?_
    s_op
    s_op
    s_c stepG_region_end
    s_c stepG_block
    s_cond false
    s_c stepG_seq
    s_reg
    s_op
    s_op
    s_c stepG_region_end
    s_c stepG_ret'
    s_stop
    refine LoneTo.done ⟨.returned (.tuple #[.int .i64 0, .bool false]), _, rfl, ⟨by simp [el], ?_, Kept.refl _ _ _⟩, rfl, rfl, rfl, rfl, _, Try.func72, by simp [results, Try.f72, Frame.at]⟩
    exact ⟨s, r, hc⟩
end Go.Proofs.Ytlocilcnmbmikaa
