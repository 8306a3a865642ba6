/- What the program's functions do that carry an access out on a board, and write it down. -/
import Derived.Test.YtbkafdphagmgpaaImplTch2
import Derived.Deep.AppendLies
namespace Go.Proofs.Ytbkafdphagmgpaa
open Go.RowKit
set_option linter.unusedVariables false

theorem accS {w : World} {q : Nat} {k s a v c : Int} {ty : TypeId} (h : Blk w q #[.int .i64 k, .int .i64 s, .int .i64 a, .int .i64 v, .int .i64 c] ty) : w.cell? ⟨q, 1, none⟩ = some (.int .i64 s) ∧ w.cell? ⟨q, 2, none⟩ = some (.int .i64 a) ∧ w.cell? ⟨q, 3, none⟩ = some (.int .i64 v) :=
  ⟨h.cell (i := 1) rfl, h.cell (i := 2) rfl, h.cell (i := 3) rfl⟩
theorem accR {w : World} {q : Nat} {k s a v c : Int} {ty : TypeId} (h : Blk w q #[.int .i64 k, .int .i64 s, .int .i64 a, .int .i64 v, .int .i64 c] ty) : w.cell? ⟨q, 1, none⟩ = some (.int .i64 s) ∧ w.cell? ⟨q, 2, none⟩ = some (.int .i64 a) :=
  ⟨h.cell (i := 1) rfl, h.cell (i := 2) rfl⟩

set_option maxRecDepth 100000 in
set_option maxHeartbeats 4000000 in
theorem carryOut_w (w : World) (b q : Nat) (u : Value) (xs : List Int) (s : Int) (n : Nat) (v c : Int) (hB : Blk w b (brd xs u) 71) (hQ : Blk w q #[.int .i64 2, .int .i64 s, .int .i64 n, .int .i64 v, .int .i64 c] 61) (lx : xs.length = 512) (hs : (s = 1 ∧ v ≤ 255) ∨ (s = 2 ∧ v ≤ 65535)) (hn : (n : Int) + s ≤ 512) (v0 : 0 ≤ v) (hne : q ≠ b) :
    Calls Try.prog 69 #[.pointer (some ⟨b, 0, none⟩), .pointer (some ⟨q, 0, none⟩)] w fun e w' => e = .returned (.tuple #[]) ∧ Blk w' b (brd (Pl.wr xs s n v) u) 71 ∧ Kept b (b + 1) w w' := by
  have HB := hide hB
  have HX := hide lx
  have HS := hide hs
  have HN := hide hn
  have HQ := hide hQ
  have q0 := hQ.cell (i := 0) rfl
  have q1 := hQ.cell (i := 1) rfl
  have q2 := hQ.cell (i := 2) rfl
  have q3 := hQ.cell (i := 3) rfl
  clear hB hQ lx hs hn
  go_enter Try.func69, Try.ntmps69
  go_wp2_with fail
  go_region_held3 (fun w' => w'.cell? ⟨q, 1, none⟩ = some (.int .i64 s) ∧ w'.cell? ⟨q, 2, none⟩ = some (.int .i64 n) ∧ w'.cell? ⟨q, 3, none⟩ = some (.int .i64 v)) (first | exact accS Q3.out | go_keep)
    (first | (go_at_call 72; refine (memWrite _ b u 71 xs s n v (HB.out.kept0 (kept_drew (Kept.refl _ _ _))) HX.out HS.out HN.out v0).mono ?_; rintro e w3 ⟨rfl, hb3, kd⟩; have B3 := hide hb3; have K3 := hide (undrewK kd); have Q3 := hide (HQ.out.kept (undrewK kd) (by omega)); clear hb3 kd))
  go_wp2_with fail
  refine bodyPost_ret (results_none rfl _ _ _) rfl ⟨rfl, B3.out, K3.out⟩

set_option maxRecDepth 100000 in
set_option maxHeartbeats 4000000 in
theorem carryOut_r (w : World) (b q : Nat) (u : Value) (xs : List Int) (k s : Int) (n : Nat) (v c : Int) (hB : Blk w b (brd xs u) 71) (hQ : Blk w q #[.int .i64 k, .int .i64 s, .int .i64 n, .int .i64 v, .int .i64 c] 61) (lx : xs.length = 512) (hby : Pl.bytesOk xs = true) (hk : ¬ k = 2) (hs : s = 1 ∨ s = 2) (hn : (n : Int) + s ≤ 512) (hne : q ≠ b) :
    Calls Try.prog 69 #[.pointer (some ⟨b, 0, none⟩), .pointer (some ⟨q, 0, none⟩)] w fun e w' => e = .returned (.tuple #[]) ∧ Blk w' q #[.int .i64 k, .int .i64 s, .int .i64 n, .int .i64 (Pl.rd xs s n), .int .i64 c] 61 ∧ Kept q (q + 1) w w' := by
  have HB := hide hB
  have HX := hide lx
  have HS := hide hs
  have HN := hide hn
  have HQ := hide hQ
  have HBY := hide hby
  have hu := Try.underlying57
  have hcs : (xs.map (Value.int .i64)).length = 512 := by rw [List.length_map, lx]
  have hi : (Try.prog.info? 57).map (·.size) = some (xs.map (Value.int .i64)).length := by rw [hcs]; exact Try.memSize
  have h1 : ∀ v ∈ xs.map (Value.int .i64), v.oneCell' = true := news_one
  have q0 := hQ.cell (i := 0) rfl
  have q1 := hQ.cell (i := 1) rfl
  have q2 := hQ.cell (i := 2) rfl
  have q3 := hQ.cell (i := 3) rfl
  have r1 := (brdS hB lx).1
  have k2 : (k == 2) = false := by simpa using hk
  clear hB hQ lx hs hn hk hby
  go_enter Try.func69, Try.ntmps69
  go_wp2_with fail
  go_region_held3 (fun w' => w'.rangeAt b 0 (xs.map (Value.int .i64)) ∧ w'.cell? ⟨q, 1, none⟩ = some (.int .i64 s) ∧ w'.cell? ⟨q, 2, none⟩ = some (.int .i64 n)) (first | exact ⟨(brdS B3.out HX.out).1, accR Q3.out⟩ | exact ⟨(brdS (B3.out.other _ _ _ (fun e => hne e.symm)) HX.out).1, accR (Q3.out.set 3 _)⟩ | go_keep_ranges | go_keep)
    (first | (go_at_call 58; refine (memReadI _ xs s n HX.out HBY.out HS.out HN.out).mono ?_; rintro e w3 ⟨rfl, kd⟩; have K3 := hide (undrewK kd); have B3 := hide (HB.out.kept0 (undrewK kd)); have Q3 := hide (HQ.out.kept0 (undrewK kd)); have c3 := Q3.out.cell (i := 3) rfl; have f3 := Q3.out.frozen 3; clear kd))
  go_wp2_with fail
  go_end0
  refine ⟨rfl, Q3.out.set 3 _, ?_⟩
  exact kept_set K3.out.any _ _ _ (.inl (by omega))

theorem brd_setLog {xs : List Int} {u u' : Value} (hl : xs.length = 512) : (brd xs u).setIfInBounds 512 u' = brd xs u' := by
  apply Array.ext_getElem?
  intro j
  simp only [brd, Array.getElem?_setIfInBounds, Array.getElem?_push, cellsOf_size, Array.size_push, hl]
  by_cases e : 512 = j
  · subst e; simp
  · simp [e, show ¬ j = 512 from fun q => e q.symm]
theorem Blk.setLog {w : World} {b : Nat} {xs : List Int} {u : Value} {ty : TypeId} (h : Blk w b (brd xs u) ty) (hl : xs.length = 512) (u' : Value) : Blk (w.setCell ⟨b, 512, none⟩ u') b (brd xs u') ty := by
  have := h.set 512 u'
  rwa [brd_setLog hl] at this

set_option maxRecDepth 100000 in
set_option maxHeartbeats 4000000 in
theorem note_not (w : World) (b : Nat) (xs : List Int) (d : Option Addr) (m cu : Nat) (k s a v c : Int) (hB : Blk w b (brd xs (.slice d m cu)) 71) (lx : xs.length = 512) (bm : m ≤ 400) (lo : -9223372036854775808 ≤ v) (hi : v ≤ 9223372036854775807) (hno : (decide (m < 400) && Pl.accOk k s a v c) = false) :
    Calls Try.prog 70 #[.pointer (some ⟨b, 0, none⟩), .agg #[.int .i64 k, .int .i64 s, .int .i64 a, .int .i64 v, .int .i64 c]] w fun e w' => e = .returned (.tuple #[]) ∧ Kept 0 0 w w' := by
  have HB := hide hB
  have l0 := hB.cell (brd_log lx)
  have K0 := hide (kept_alloc w (.cells #[.int .i64 k, .int .i64 s, .int .i64 a, .int .i64 v, .int .i64 c] 61))
  have l1 := (hB.alloc (.cells #[.int .i64 k, .int .i64 s, .int .i64 a, .int .i64 v, .int .i64 c] 61)).cell (brd_log lx)
  clear hB
  cases h1 : decide ((m : Int) < 400)
  · go_enter Try.func70, Try.ntmps70
    go_wp2_with (go_at_call 43; fail)
    go_end0
    exact ⟨rfl, K0.out⟩
  · have h2 : Pl.accOk k s a v c = false := by
      rw [show decide (m < 400) = true from by simp at h1; simp; omega, Bool.true_and] at hno
      exact hno
    clear hno
    go_enter Try.func70, Try.ntmps70
    go_wp2_with (go_at_call 43; refine (isLogged _ _ _ _ _ _ lo hi).mono ?_; rintro e w' ⟨rfl, o, p, rfl⟩; rw [h2])
    go_end0
    exact ⟨rfl, kept_new (kept_new K0.out _) _⟩

set_option maxRecDepth 100000 in
set_option maxHeartbeats 4000000 in
theorem note_put (w : World) (b base g2 N : Nat) (xs ys : List Int) (m cu : Nat) (k s a v c : Int) (hB : Blk w b (brd xs (.slice (some ⟨g2, 0, none⟩) m cu)) 71) (lx : xs.length = 512) (hO : w.ownsRow base 61 5 (.slice (some ⟨g2, 0, none⟩) m cu) m (ys.map (Value.int .i64))) (hb : base ≤ b) (hbs : base ≤ w.heap.size) (hne : b ≠ g2) (hbN : b < N) (hgN : g2 < N) (bm : m < 400) (lo : -9223372036854775808 ≤ v) (hi : v ≤ 9223372036854775807) (hyes : Pl.accOk k s a v c = true) :
    Calls Try.prog 70 #[.pointer (some ⟨b, 0, none⟩), .agg #[.int .i64 k, .int .i64 s, .int .i64 a, .int .i64 v, .int .i64 c]] w fun e w' => ∃ g3 c3 : Nat, e = .returned (.tuple #[]) ∧ Blk w' b (brd xs (.slice (some ⟨g3, 0, none⟩) (m + 1) c3)) 71 ∧ w'.ownsRow base 61 5 (.slice (some ⟨g3, 0, none⟩) (m + 1) c3) (m + 1) ((ys ++ [k, s, a, v, c]).map (Value.int .i64)) ∧ b ≠ g3 ∧ Kept base N w w' := by
  obtain ⟨i, hi0, hz0, hz1, hz2⟩ := info_parts Try.infoAcc
  have HB := hide hB
  have HO := hide hO
  have HX := hide lx
  have l0 := hB.cell (brd_log lx)
  have K0 := hide (kept_alloc w (.cells #[.int .i64 k, .int .i64 s, .int .i64 a, .int .i64 v, .int .i64 c] 61))
  have l1 := (hB.alloc (.cells #[.int .i64 k, .int .i64 s, .int .i64 a, .int .i64 v, .int .i64 c] 61)).cell (brd_log lx)
  have h1 : decide ((m : Int) < 400) = true := by simp; omega
  clear hB hO
  go_enter Try.func70, Try.ntmps70
  go_wp2_with (go_at_call 43; refine (isLogged _ _ _ _ _ _ lo hi).mono ?_; rintro e w' ⟨rfl, o, p, rfl⟩; rw [hyes])
  have BW := hide ((((HB.out.alloc (.cells #[.int .i64 k, .int .i64 s, .int .i64 a, .int .i64 v, .int .i64 c] 61)).alloc o)).alloc p)
  have AW := hide (((Blk.new w #[.int .i64 k, .int .i64 s, .int .i64 a, .int .i64 v, .int .i64 c] 61).alloc o).alloc p)
  have KW := hide (kept_new (kept_new K0.out o) p)
  have OW := hide (((HO.out.alloc (.cells #[.int .i64 k, .int .i64 s, .int .i64 a, .int .i64 v, .int .i64 c] 61)).alloc o).alloc p)
  obtain ⟨W, hW⟩ : ∃ W : World, W = ((w.alloc (.cells #[.int .i64 k, .int .i64 s, .int .i64 a, .int .i64 v, .int .i64 c] 61)).alloc o).alloc p := ⟨_, rfl⟩
  rw [← hW] at BW AW KW OW ⊢
  have hsz : w.heap.size < W.heap.size := AW.out.lt
  clear hW l0 l1
  have z0 := BW.out.cell (brd_log HX.out)
  have a0 := AW.out.cell (i := 0) rfl
  have a1 := AW.out.cell (i := 1) rfl
  have a2 := AW.out.cell (i := 2) rfl
  have a3 := AW.out.cell (i := 3) rfl
  have a4 := AW.out.cell (i := 4) rfl
  have y0 : ∀ o, (W.alloc o).cell? ⟨b, 512, none⟩ = some (.slice (some ⟨g2, 0, none⟩) m cu) := fun o => (BW.out.alloc o).cell (brd_log HX.out)
  have H63 : Hid (m + 1 ≤ maxLen) := hide (by unfold maxLen; omega)
  have HBY : Hid ((m + 1) * 40 ≤ 140737488355328) := hide (by omega)
  go_region_law ((refine step_append_lies _ (by rfl) _ _ _ (by rfl) base 61 i _ 5 40 Try.underlying23 hi0 hz0 hz1 hz2 rfl (by omega) (.slice (some ⟨g2, 0, none⟩) m cu) m (ys.map (Value.int .i64)) (by rfl) ((OW.out.alloc _).drew) ⟨W.heap.size, 0, none⟩ 1 1 [.int .i64 k, .int .i64 s, .int .i64 a, .int .i64 v, .int .i64 c] (by rfl) (by rfl) (World.news_of_block (cs := #[.int .i64 k, .int .i64 s, .int .i64 a, .int .i64 v, .int .i64 c]) (t := 61) (fr := (0, 0)) (heap_alloc_new W _)) (by simp [Value.oneCell']) (by omega) H63.out HBY.out (by simp; omega) (W.heap.size + 1) (by simp) ?_; intro g3 c3 w1 hown1 hgrow hat hlt; have B1 : Hid (Blk w1 b (brd xs (.slice (some ⟨g2, 0, none⟩) m cu)) 71) := hide ((hgrow.block b (by have := BW.out.lt; simp; omega) (by simp [Value.ownBlock]; omega)).trans (BW.out.alloc _)); have e0 := B1.out.cell (brd_log HX.out); have e1 := B1.out.frozen 512; have G1 := hide hgrow; have O1 := hide hown1; clear hgrow hown1))
  all_goals
    go_end0
    have lb := HB.out.lt
    have lB := BW.out.lt
    obtain ⟨l1, l2⟩ := HO.out.lt g2 rfl
    have hat' : g2 = g3 ∨ g3 = W.heap.size + 1 := by
      rcases hat with h | h
      · exact .inl (Option.some.inj h)
      · exact .inr h
    have hb3 : b ≠ g3 := by omega
    refine ⟨g3, c3, rfl, B1.out.setLog HX.out _, ?_, hb3, ?_⟩
    · have h := O1.out.kept (grownBy_set w1 b 512 (.slice (some ⟨g3, 0, none⟩) (m + 1) c3)) (.inr (fun e => by have h2 : g3 = b := Option.some.inj e; omega))
      rw [List.map_append]
      exact h
    · refine kept_set ?_ _ _ _ (.inl (by omega))
      have k1 : Kept base N w (W.alloc (.cells #[.int .i64 k, .int .i64 s, .int .i64 a, .int .i64 v, .int .i64 c] 61)).drew := kept_drew (kept_new KW.out.any _)
      exact k1.trans (kept_row G1.out (by intro g hg; have h2 : g2 = g := Option.some.inj hg; omega))
end Go.Proofs.Ytbkafdphagmgpaa
