/- What the program does to the bytes of a processor that is worked on. What the program does with an access on a processor that is worked on. Every cell of a block at once. What the program's access, push and pop answer, of a processor that is worked on. What the program's functions of an access answer: its code; a value laid into the bytes. What the program's functions over a board answer: a bus opened onto it and shut again. A processor opened to be worked on, and shut again. An instruction whose fields fit into its words: plain arithmetic; no Go text is spoken of here. The ways to name an operand, as the program holds them: one type a way; the operand that each comes back as. A region that draws its order, by what holds whatever has come up so far: every order at once. A frame of which some slots alone are written: for a drawn region walked by what holds, the frame a variable. -/
import Derived.Test.YtblddehlkaolbaaGreatJF12
import Derived.Deep.AppendLies
import Derived.Deep.QuietTactic
import Derived.BigQuiet
import Derived.Test.YtblddehlkaolbaaGreatJF1
import Derived.Test.YtblddehlkaolbaaGreatJF11
import Derived.Test.YtblddehlkaolbaaGreatJF3
import Derived.Test.YtblddehlkaolbaaGreatJF4
import Derived.Test.YtblddehlkaolbaaGreatJF9
import Derived.Test.YtblddehlkaolbaaGreatJF2
import Derived.Deep.RegionHeld3
import Derived.RegionTactic
namespace Go.Proofs.YtblddehlkaolbaaGreat
open Go.RowKit
set_option linter.unusedVariables false
theorem Blk.setCB {w : World} {b : Nat} {r : Pl.Rg} {st ha : Bool} {xs : List Int} {u : Value} {ty : TypeId} (h : Blk w b (cor r xs u st ha) ty) {i : Nat} (hi : i < xs.length) (z : Int) : Blk (w.setCell ⟨b, 14 + i, none⟩ (.int .i64 z)) b (cor r (xs.set i z) u st ha) ty := by
  have := h.set (14 + i) (.int .i64 z)
  rwa [cor_setB hi] at this
theorem Blk.setCU {w : World} {b : Nat} {r : Pl.Rg} {st ha : Bool} {xs : List Int} {u : Value} {ty : TypeId} (h : Blk w b (cor r xs u st ha) ty) (hl : xs.length = 512) (u' : Value) : Blk (w.setCell ⟨b, 526, none⟩ u') b (cor r xs u' st ha) ty := by
  have := h.set 526 u'
  rwa [cor_setU hl] at this
theorem corS {w : World} {b : Nat} {r : Pl.Rg} {st ha : Bool} {xs : List Int} {u : Value} {ty : TypeId} (h : Blk w b (cor r xs u st ha) ty) (lx : xs.length = 512) : w.rangeAt b 14 (xs.map (Value.int .i64)) ∧ w.cell? ⟨b, 526, none⟩ = some u := by
  refine ⟨?_, h.cell (cor_log lx)⟩
  intro j v hv
  have hj : j < xs.length := by
    rcases Nat.lt_or_ge j xs.length with h' | h'
    · exact h'
    · rw [List.getElem?_eq_none (by simpa using h')] at hv; cases hv
  refine h.cell ?_
  rw [cor_at hj]
  simpa [el, hj] using hv
set_option maxHeartbeats 4000000 in
theorem cMemWrite1 (w : World) {R : Pl.Rg} {ST HA : Bool} (b : Nat) (u : Value) (ty : TypeId) (xs : List Int) (n : Nat) (v : Int) (hB : Blk w b (cor R xs u ST HA) ty) (lx : xs.length = 512) (hn : n + 1 ≤ 512) (v0 : 0 ≤ v) (v1 : v ≤ 255) :
    Calls Tryz.prog 97 #[.pointer (some ⟨b, 14, none⟩), .int .i64 1, .int .i64 n, .int .i64 v] w fun e w' => e = .returned (.tuple #[]) ∧ Blk w' b (cor R (xs.set n v) u ST HA) ty ∧ Kept b (b + 1) w w' := by
  have HB := hide hB
  have LX := hide lx
  have c0 := hB.cell (cor_at (r := R) (u := u) (st := ST) (ha := HA) (i := n) (by omega))
  have f0 := hB.frozen (14 + n)
  have e255 := Pl.and255 v
  have e0 : v % 256 = v := by omega
  rw [e0] at e255
  have i0 : (0 : Int) ≤ (n : Int) := by omega
  have i1 : (n : Int) < 512 := by omega
  clear hB lx e0
  go_enter Tryz.func97, Tryz.ntmps97
  go_wp2_with fail
  go_loopw [3, 8] (fun x i wr => (i = .int .i64 n ∧ x = .int .i64 v ∧ wr = w) ∨ (i = .int .i64 ((n : Int) - 1) ∧ Blk wr b (cor R (xs.set n v) u ST HA) ty ∧ Kept b (b + 1) w wr)) (fun _ i _ => (intOf i - n + 1).toNat)
  case atStart => exact .inl ⟨by go_num, rfl, rfl⟩
  case round =>
    rcases hrel with ⟨rfl, rfl, rfl⟩ | ⟨rfl, hb, hk⟩
    · go_wp2
      go_roundw
      case rel => exact .inr ⟨rfl, HB.out.setCB (by rw [LX.out]; omega) v, kept_set (Kept.refl _ _ _) _ _ _ (.inl (by omega))⟩
      case measure => simp [intOf]; omega
    · have HB2 := hide hb
      have HK2 := hide hk
      clear hb hk
      have hd : decide ((n : Int) ≤ (n : Int) - 1) = false := by simp; omega
      go_wp2
      go_end0
      exact ⟨rfl, HB2.out, HK2.out⟩

set_option maxRecDepth 100000 in
set_option maxHeartbeats 4000000 in
theorem cMemWrite2 (w : World) {R : Pl.Rg} {ST HA : Bool} (b : Nat) (u : Value) (ty : TypeId) (xs : List Int) (n : Nat) (v : Int) (hB : Blk w b (cor R xs u ST HA) ty) (lx : xs.length = 512) (hn : n + 2 ≤ 512) (v0 : 0 ≤ v) (v1 : v ≤ 65535) :
    Calls Tryz.prog 97 #[.pointer (some ⟨b, 14, none⟩), .int .i64 2, .int .i64 n, .int .i64 v] w fun e w' => e = .returned (.tuple #[]) ∧ Blk w' b (cor R ((xs.set n (v / 256)).set (n + 1) (v % 256)) u ST HA) ty ∧ Kept b (b + 1) w w' := by
  have HB := hide hB
  have LX := hide lx
  have c1 := hB.cell (cor_at (r := R) (u := u) (st := ST) (ha := HA) (i := n + 1) (by omega))
  have f1 := hB.frozen (14 + (n + 1))
  have e255 := Pl.and255 v
  have e256 := Pl.and255 (v / 256)
  have e0 : v / 256 % 256 = v / 256 := by omega
  rw [e0] at e256
  have i0 : (0 : Int) ≤ (n : Int) := by omega
  have i1 : (n : Int) + 1 < 512 := by omega
  have i2 : (0 : Int) ≤ (n : Int) + 1 := by omega
  have i3 : (n : Int) < 512 := by omega
  clear hB lx e0
  go_enter Tryz.func97, Tryz.ntmps97
  go_wp2_with fail
  go_loopw [3, 8] (fun x i wr => (i = .int .i64 ((n : Int) + 1) ∧ x = .int .i64 v ∧ wr = w) ∨ (i = .int .i64 n ∧ x = .int .i64 (v / 256) ∧ Blk wr b (cor R (xs.set (n + 1) (v % 256)) u ST HA) ty ∧ Kept b (b + 1) w wr) ∨ (i = .int .i64 ((n : Int) - 1) ∧ Blk wr b (cor R ((xs.set (n + 1) (v % 256)).set n (v / 256)) u ST HA) ty ∧ Kept b (b + 1) w wr)) (fun _ i _ => (intOf i - n + 1).toNat)
  case atStart => exact .inl ⟨by go_num, rfl, rfl⟩
  case round =>
    rcases hrel with ⟨rfl, rfl, rfl⟩ | ⟨rfl, rfl, hb, hk⟩ | ⟨rfl, hb, hk⟩
    · go_wp2
      go_roundw
      case rel => exact .inr (.inl ⟨by go_num, by go_num, HB.out.setCB (by rw [LX.out]; omega) _, kept_set (Kept.refl _ _ _) _ _ _ (.inl (by omega))⟩)
      case measure => simp [intOf]; omega
    · have HB2 := hide hb
      have HK2 := hide hk
      have c0 := hb.cell (cor_at (r := R) (u := u) (st := ST) (ha := HA) (i := n) (by rw [List.length_set, LX.out]; omega))
      have f0 := hb.frozen (14 + n)
      clear hb hk c1 f1
      go_wp2
      go_roundw
      case rel => exact .inr (.inr ⟨rfl, HB2.out.setCB (by rw [List.length_set, LX.out]; omega) _, kept_set HK2.out _ _ _ (.inl (by omega))⟩)
      case measure => simp [intOf]; omega
    · have HB2 := hide hb
      have HK2 := hide hk
      clear hb hk
      have hd : decide ((n : Int) ≤ (n : Int) - 1) = false := by simp; omega
      go_wp2
      go_end0
      refine ⟨rfl, ?_, HK2.out⟩
      have h := HB2.out
      rw [List.set_comm _ _ (by omega)] at h
      exact h

theorem cMemWrite (w : World) {R : Pl.Rg} {ST HA : Bool} (b : Nat) (u : Value) (ty : TypeId) (xs : List Int) (s : Int) (n : Nat) (v : Int) (hB : Blk w b (cor R xs u ST HA) ty) (lx : xs.length = 512) (hs : (s = 1 ∧ v ≤ 255) ∨ (s = 2 ∧ v ≤ 65535)) (hn : (n : Int) + s ≤ 512) (v0 : 0 ≤ v) :
    Calls Tryz.prog 97 #[.pointer (some ⟨b, 14, none⟩), .int .i64 s, .int .i64 n, .int .i64 v] w fun e w' => e = .returned (.tuple #[]) ∧ Blk w' b (cor R (Pl.wr xs s n v) u ST HA) ty ∧ Kept b (b + 1) w w' := by
  rcases hs with ⟨rfl, hv⟩ | ⟨rfl, hv⟩
  · exact cMemWrite1 w b u ty xs n v hB lx (by omega) v0 hv
  · exact cMemWrite2 w b u ty xs n v hB lx (by omega) v0 hv
set_option maxRecDepth 100000 in
set_option maxHeartbeats 4000000 in
theorem cCarryOut_w (w : World) {R : Pl.Rg} {ST HA : Bool} (b q : Nat) (u : Value) (xs : List Int) (s : Int) (n : Nat) (v c : Int) (hB : Blk w b (cor R xs u ST HA) 90) (hQ : Blk w q #[.int .i64 2, .int .i64 s, .int .i64 n, .int .i64 v, .int .i64 c] 95) (lx : xs.length = 512) (hs : (s = 1 ∧ v ≤ 255) ∨ (s = 2 ∧ v ≤ 65535)) (hn : (n : Int) + s ≤ 512) (v0 : 0 ≤ v) (hne : q ≠ b) :
    Calls Tryz.prog 82 #[.pointer (some ⟨b, 14, none⟩), .pointer (some ⟨q, 0, none⟩)] w fun e w' => e = .returned (.tuple #[]) ∧ Blk w' b (cor R (Pl.wr xs s n v) u ST HA) 90 ∧ Kept b (b + 1) w w' := by
  have HB := hide hB
  have HX := hide lx
  have HS := hide hs
  have HN := hide hn
  have HQ := hide hQ
  have q0 := hQ.cell (i := 0) rfl
  have q1 := hQ.cell (i := 1) rfl
  have q2 := hQ.cell (i := 2) rfl
  have q3 := hQ.cell (i := 3) rfl
  clear hB hQ lx hs hn
  go_enter Tryz.func82, Tryz.ntmps82
  go_wp2_with fail
  go_region_held3 (fun w' => w'.cell? ⟨q, 1, none⟩ = some (.int .i64 s) ∧ w'.cell? ⟨q, 2, none⟩ = some (.int .i64 n) ∧ w'.cell? ⟨q, 3, none⟩ = some (.int .i64 v)) (first | exact accS Q3.out | go_keep)
    (first | (go_at_call 97; refine (cMemWrite _ b u 90 xs s n v (HB.out.kept0 (kept_drew (Kept.refl _ _ _))) HX.out HS.out HN.out v0).mono ?_; rintro e w3 ⟨rfl, hb3, kd⟩; have B3 := hide hb3; have K3 := hide (undrewK kd); have Q3 := hide (HQ.out.kept (undrewK kd) (by omega)); clear hb3 kd))
  go_wp2_with fail
  refine bodyPost_ret (results_none rfl _ _ _) rfl ⟨rfl, B3.out, K3.out⟩

set_option maxRecDepth 100000 in
set_option maxHeartbeats 4000000 in
theorem cCarryOut_r (w : World) {R : Pl.Rg} {ST HA : Bool} (b q : Nat) (u : Value) (xs : List Int) (k s : Int) (n : Nat) (v c : Int) (hB : Blk w b (cor R xs u ST HA) 90) (hQ : Blk w q #[.int .i64 k, .int .i64 s, .int .i64 n, .int .i64 v, .int .i64 c] 95) (lx : xs.length = 512) (hby : Pl.bytesOk xs = true) (hk : ¬ k = 2) (hs : s = 1 ∨ s = 2) (hn : (n : Int) + s ≤ 512) (hne : q ≠ b) :
    Calls Tryz.prog 82 #[.pointer (some ⟨b, 14, none⟩), .pointer (some ⟨q, 0, none⟩)] w fun e w' => e = .returned (.tuple #[]) ∧ Blk w' q #[.int .i64 k, .int .i64 s, .int .i64 n, .int .i64 (Pl.rd xs s n), .int .i64 c] 95 ∧ Kept q (q + 1) w w' := by
  have HB := hide hB
  have HX := hide lx
  have HS := hide hs
  have HN := hide hn
  have HQ := hide hQ
  have HBY := hide hby
  have hu := Tryz.underlying85
  have hcs : (xs.map (Value.int .i64)).length = 512 := by rw [List.length_map, lx]
  have hi : (Tryz.prog.info? 85).map (·.size) = some (xs.map (Value.int .i64)).length := by rw [hcs]; exact Tryz.memSize
  have h1 : ∀ v ∈ xs.map (Value.int .i64), v.oneCell' = true := news_one
  have q0 := hQ.cell (i := 0) rfl
  have q1 := hQ.cell (i := 1) rfl
  have q2 := hQ.cell (i := 2) rfl
  have q3 := hQ.cell (i := 3) rfl
  have r1 := (corS hB lx).1
  have k2 : (k == 2) = false := by simpa using hk
  clear hB hQ lx hs hn hk hby
  go_enter Tryz.func82, Tryz.ntmps82
  go_wp2_with fail
  go_region_held3 (fun w' => w'.rangeAt b 14 (xs.map (Value.int .i64)) ∧ w'.cell? ⟨q, 1, none⟩ = some (.int .i64 s) ∧ w'.cell? ⟨q, 2, none⟩ = some (.int .i64 n)) (first | exact ⟨(corS B3.out HX.out).1, accR Q3.out⟩ | exact ⟨(corS (B3.out.other _ _ _ (fun e => hne e.symm)) HX.out).1, accR (Q3.out.set 3 _)⟩ | go_keep_ranges | go_keep)
    (first | (go_at_call 98; refine (memReadI _ xs s n HX.out HBY.out HS.out HN.out).mono ?_; rintro e w3 ⟨rfl, kd⟩; have K3 := hide (undrewK kd); have B3 := hide (HB.out.kept0 (undrewK kd)); have Q3 := hide (HQ.out.kept0 (undrewK kd)); have c3 := Q3.out.cell (i := 3) rfl; have f3 := Q3.out.frozen 3; clear kd))
  go_wp2_with fail
  go_end0
  refine ⟨rfl, Q3.out.set 3 _, ?_⟩
  exact kept_set K3.out.any _ _ _ (.inl (by omega))

end Go.Proofs.YtblddehlkaolbaaGreat

namespace Go.Proofs.YtblddehlkaolbaaGreat
open Go.RowKit
set_option linter.unusedVariables false
theorem since_two {w X w3 : World} {b q g : Nat} (k : Kept 0 0 w X) (h : FrP (fun i => i = b ∨ i = q) X w3) (hq : w.heap.size ≤ q) : Since w b (b + 1) g w3 g :=
  ⟨.inl rfl, ⟨h.os.trans k.os, h.tape.trans k.tape, h.output.trans k.output, Nat.le_trans k.size h.size, fun i hi hn => (h.block i (Nat.lt_of_lt_of_le hi k.size) (by unfold own at hn; omega)).trans (k.block i hi (by omega))⟩⟩
set_option maxRecDepth 100000 in
set_option maxHeartbeats 4000000 in
theorem cNote_not (w : World) {R : Pl.Rg} {ST HA : Bool} (b : Nat) (xs : List Int) (d : Option Addr) (m cu : Nat) (k s a v c : Int) (hB : Blk w b (cor R xs (.slice d m cu) ST HA) 90) (lx : xs.length = 512) (bm : m ≤ 400) (lo : -9223372036854775808 ≤ v) (hi : v ≤ 9223372036854775807) (hno : (decide (m < 400) && Pl.accOk k s a v c) = false) :
    Calls Tryz.prog 83 #[.pointer (some ⟨b, 14, none⟩), .agg #[.int .i64 k, .int .i64 s, .int .i64 a, .int .i64 v, .int .i64 c]] w fun e w' => e = .returned (.tuple #[]) ∧ Kept 0 0 w w' := by
  have HB := hide hB
  have l0 := hB.cell (cor_log lx)
  have K0 := hide (kept_alloc w (.cells #[.int .i64 k, .int .i64 s, .int .i64 a, .int .i64 v, .int .i64 c] 95))
  have l1 := (hB.alloc (.cells #[.int .i64 k, .int .i64 s, .int .i64 a, .int .i64 v, .int .i64 c] 95)).cell (cor_log lx)
  clear hB
  cases h1 : decide ((m : Int) < 400)
  · go_enter Tryz.func83, Tryz.ntmps83
    go_wp2_with (go_at_call 68; fail)
    go_end0
    exact ⟨rfl, K0.out⟩
  · have h2 : Pl.accOk k s a v c = false := by
      rw [show decide (m < 400) = true from by simp at h1; simp; omega, Bool.true_and] at hno
      exact hno
    clear hno
    go_enter Tryz.func83, Tryz.ntmps83
    go_wp2_with (go_at_call 68; refine (isLogged _ _ _ _ _ _ lo hi).mono ?_; rintro e w' ⟨rfl, o, p, rfl⟩; rw [h2])
    go_end0
    exact ⟨rfl, kept_new (kept_new K0.out _) _⟩

set_option maxRecDepth 100000 in
set_option maxHeartbeats 4000000 in
theorem cNote_put (w : World) {R : Pl.Rg} {ST HA : Bool} (b base g2 : Nat) (xs ys : List Int) (m cu : Nat) (k s a v c : Int) (hB : Blk w b (cor R xs (.slice (some ⟨g2, 0, none⟩) m cu) ST HA) 90) (lx : xs.length = 512) (hO : w.ownsRow base 95 5 (.slice (some ⟨g2, 0, none⟩) m cu) m (ys.map (Value.int .i64))) (hb : base ≤ b) (hbs : base ≤ w.heap.size) (hne : b ≠ g2) (bm : m < 400) (lo : -9223372036854775808 ≤ v) (hi : v ≤ 9223372036854775807) (hyes : Pl.accOk k s a v c = true) :
    Calls Tryz.prog 83 #[.pointer (some ⟨b, 14, none⟩), .agg #[.int .i64 k, .int .i64 s, .int .i64 a, .int .i64 v, .int .i64 c]] w fun e w' => ∃ g3 c3 : Nat, e = .returned (.tuple #[]) ∧ Blk w' b (cor R xs (.slice (some ⟨g3, 0, none⟩) (m + 1) c3) ST HA) 90 ∧ w'.ownsRow base 95 5 (.slice (some ⟨g3, 0, none⟩) (m + 1) c3) (m + 1) ((ys ++ [k, s, a, v, c]).map (Value.int .i64)) ∧ b ≠ g3 ∧ Since w b (b + 1) g2 w' g3 := by
  obtain ⟨i, hi0, hz0, hz1, hz2⟩ := info_parts Tryz.infoAcc
  have HB := hide hB
  have HO := hide hO
  have HX := hide lx
  have l0 := hB.cell (cor_log lx)
  have K0 := hide (kept_alloc w (.cells #[.int .i64 k, .int .i64 s, .int .i64 a, .int .i64 v, .int .i64 c] 95))
  have l1 := (hB.alloc (.cells #[.int .i64 k, .int .i64 s, .int .i64 a, .int .i64 v, .int .i64 c] 95)).cell (cor_log lx)
  have h1 : decide ((m : Int) < 400) = true := by simp; omega
  clear hB hO
  go_enter Tryz.func83, Tryz.ntmps83
  go_wp2_with (go_at_call 68; refine (isLogged _ _ _ _ _ _ lo hi).mono ?_; rintro e w' ⟨rfl, o, p, rfl⟩; rw [hyes])
  have BW := hide ((((HB.out.alloc (.cells #[.int .i64 k, .int .i64 s, .int .i64 a, .int .i64 v, .int .i64 c] 95)).alloc o)).alloc p)
  have AW := hide (((Blk.new w #[.int .i64 k, .int .i64 s, .int .i64 a, .int .i64 v, .int .i64 c] 95).alloc o).alloc p)
  have KW := hide (kept_new (kept_new K0.out o) p)
  have OW := hide (((HO.out.alloc (.cells #[.int .i64 k, .int .i64 s, .int .i64 a, .int .i64 v, .int .i64 c] 95)).alloc o).alloc p)
  obtain ⟨W, hW⟩ : ∃ W : World, W = ((w.alloc (.cells #[.int .i64 k, .int .i64 s, .int .i64 a, .int .i64 v, .int .i64 c] 95)).alloc o).alloc p := ⟨_, rfl⟩
  rw [← hW] at BW AW KW OW ⊢
  have hsz : w.heap.size < W.heap.size := AW.out.lt
  clear hW l0 l1
  have z0 := BW.out.cell (cor_log HX.out)
  have a0 := AW.out.cell (i := 0) rfl
  have a1 := AW.out.cell (i := 1) rfl
  have a2 := AW.out.cell (i := 2) rfl
  have a3 := AW.out.cell (i := 3) rfl
  have a4 := AW.out.cell (i := 4) rfl
  have y0 : ∀ o, (W.alloc o).cell? ⟨b, 526, none⟩ = some (.slice (some ⟨g2, 0, none⟩) m cu) := fun o => (BW.out.alloc o).cell (cor_log HX.out)
  have H63 : Hid (m + 1 ≤ maxLen) := hide (by unfold maxLen; omega)
  have HBY : Hid ((m + 1) * 40 ≤ 140737488355328) := hide (by omega)
  go_region_law ((refine step_append_lies _ (by rfl) _ _ _ (by rfl) base 95 i _ 5 40 Tryz.underlying40 hi0 hz0 hz1 hz2 rfl (by omega) (.slice (some ⟨g2, 0, none⟩) m cu) m (ys.map (Value.int .i64)) (by rfl) ((OW.out.alloc _).drew) ⟨W.heap.size, 0, none⟩ 1 1 [.int .i64 k, .int .i64 s, .int .i64 a, .int .i64 v, .int .i64 c] (by rfl) (by rfl) (World.news_of_block (cs := #[.int .i64 k, .int .i64 s, .int .i64 a, .int .i64 v, .int .i64 c]) (t := 95) (fr := (0, 0)) (heap_alloc_new W _)) (by simp [Value.oneCell']) (by omega) H63.out HBY.out (by simp; omega) (W.heap.size + 1) (by simp) ?_; intro g3 c3 w1 hown1 hgrow hat hlt; have B1 : Hid (Blk w1 b (cor R xs (.slice (some ⟨g2, 0, none⟩) m cu) ST HA) 90) := hide ((hgrow.block b (by have := BW.out.lt; simp; omega) (by simp [Value.ownBlock]; omega)).trans (BW.out.alloc _)); have e0 := B1.out.cell (cor_log HX.out); have e1 := B1.out.frozen 526; have G1 := hide hgrow; have O1 := hide hown1; clear hgrow hown1))
  all_goals
    go_end0
    have lb := HB.out.lt
    have lB := BW.out.lt
    obtain ⟨l1, l2⟩ := HO.out.lt g2 rfl
    have hat' : g2 = g3 ∨ g3 = W.heap.size + 1 := by
      rcases hat with h | h
      · exact .inl (Option.some.inj h)
      · exact .inr h
    have hb3 : b ≠ g3 := by omega
    refine ⟨g3, c3, rfl, B1.out.setCU HX.out _, ?_, hb3, ?_⟩
    · have h := O1.out.kept (grownBy_set w1 b 526 (.slice (some ⟨g3, 0, none⟩) (m + 1) c3)) (.inr (fun e => by have h2 : g3 = b := Option.some.inj e; omega))
      rw [List.map_append]
      exact h
    · have k1 : Kept 0 0 w (W.alloc (.cells #[.int .i64 k, .int .i64 s, .int .i64 a, .int .i64 v, .int .i64 c] 95)).drew := kept_drew (kept_new KW.out _)
      exact ⟨by omega, ((frp_kept k1 (by omega)).grown G1.out (fun x hx => .inr (Option.some.inj hx).symm)).set b 526 _ (.inl (.inl (by omega)))⟩
theorem cCarryOut (w : World) {R : Pl.Rg} {ST HA : Bool} (b q base g2 : Nat) (xs ys : List Int) (m cu : Nat) (k s a v c : Int) (hB : Blk w b (cor R xs (.slice (some ⟨g2, 0, none⟩) m cu) ST HA) 90) (hQ : Blk w q #[.int .i64 k, .int .i64 s, .int .i64 a, .int .i64 v, .int .i64 c] 95) (lx : xs.length = 512) (hby : Pl.bytesOk xs = true)
    (hO : w.ownsRow base 95 5 (.slice (some ⟨g2, 0, none⟩) m cu) m (ys.map (Value.int .i64))) (hb : base ≤ b) (hq : base ≤ q) (n1 : q ≠ b) (n2 : b ≠ g2) (n3 : q ≠ g2) (hask : Pl.askOk k s a v = true) (hc : Pl.code k s a = 0) :
    Calls Tryz.prog 82 #[.pointer (some ⟨b, 14, none⟩), .pointer (some ⟨q, 0, none⟩)] w fun e w' => e = .returned (.tuple #[]) ∧ Blk w' b (cor R (Pl.nb xs k s a v) (.slice (some ⟨g2, 0, none⟩) m cu) ST HA) 90 ∧ Blk w' q #[.int .i64 k, .int .i64 s, .int .i64 a, .int .i64 (Pl.lv xs k s a v), .int .i64 c] 95 ∧
      w'.ownsRow base 95 5 (.slice (some ⟨g2, 0, none⟩) m cu) m (ys.map (Value.int .i64)) ∧ FrP (fun i => i = b ∨ i = q) w w' := by
  obtain ⟨hk, hs, v0, ⟨a0, a1⟩, hkv⟩ := Pl.ask_ok hask
  have hlow := Pl.code_low hc a0
  obtain ⟨n, rfl⟩ : ∃ n : Nat, a = (n : Int) := ⟨a.toNat, by omega⟩
  by_cases h2 : k = 2
  · subst h2
    have e1 : Pl.nb xs 2 s n v = Pl.wr xs s n v := by unfold Pl.nb; rw [if_pos ⟨hc, rfl⟩]; rfl
    have e2 : Pl.lv xs 2 s n v = v := by unfold Pl.lv; rw [if_neg (by simp)]
    refine (cCarryOut_w w b q _ xs s n v c hB hQ lx hs (by omega) v0 n1).mono ?_
    rintro e w' ⟨rfl, hb', hk'⟩
    have lb := hB.lt
    refine ⟨rfl, by rw [e1]; exact hb', by rw [e2]; exact hQ.kept hk' (by omega), hO.kept (kept_by hk') (.inr (fun e => by have h3 : g2 = b := Option.some.inj e; omega)), frp_kept hk' (by omega)⟩
  · have e1 : Pl.nb xs k s n v = xs := by unfold Pl.nb; rw [if_neg (fun h => h2 h.2)]
    have e2 : Pl.lv xs k s n v = Pl.rd xs s n := by unfold Pl.lv; rw [if_pos ⟨hc, h2⟩]; rfl
    refine (cCarryOut_r w b q _ xs k s n v c hB hQ lx hby h2 (by omega) (by omega) n1).mono ?_
    rintro e w' ⟨rfl, hq', hk'⟩
    have lq := hQ.lt
    refine ⟨rfl, by rw [e1]; exact hB.kept hk' (by omega), by rw [e2]; exact hq', hO.kept (kept_by hk') (.inr (fun e => by have h3 : g2 = q := Option.some.inj e; omega)), frp_kept hk' (by omega)⟩

theorem cNote (w : World) {R : Pl.Rg} {ST HA : Bool} (b base g2 : Nat) (xs ys : List Int) (m cu : Nat) (k s a v c : Int) (hB : Blk w b (cor R xs (.slice (some ⟨g2, 0, none⟩) m cu) ST HA) 90) (lx : xs.length = 512) (hO : w.ownsRow base 95 5 (.slice (some ⟨g2, 0, none⟩) m cu) m (ys.map (Value.int .i64))) (hb : base ≤ b) (hne : b ≠ g2) (bm : m ≤ 400) (lo : -9223372036854775808 ≤ v) (hi : v ≤ 9223372036854775807)
    (m' : Nat) (ys' : List Int) (hm : m' = if (decide (m < 400) && Pl.accOk k s a v c) = true then m + 1 else m) (hy : ys' = if (decide (m < 400) && Pl.accOk k s a v c) = true then ys ++ [k, s, a, v, c] else ys) :
    Calls Tryz.prog 83 #[.pointer (some ⟨b, 14, none⟩), .agg #[.int .i64 k, .int .i64 s, .int .i64 a, .int .i64 v, .int .i64 c]] w fun e w' => ∃ g3 c3 : Nat, e = .returned (.tuple #[]) ∧ Blk w' b (cor R xs (.slice (some ⟨g3, 0, none⟩) m' c3) ST HA) 90 ∧ w'.ownsRow base 95 5 (.slice (some ⟨g3, 0, none⟩) m' c3) m' (ys'.map (Value.int .i64)) ∧ b ≠ g3 ∧ Since w b (b + 1) g2 w' g3 := by
  cases h : (decide (m < 400) && Pl.accOk k s a v c)
  · rw [hm, hy, h]
    refine (cNote_not w b xs _ m cu k s a v c hB lx bm lo hi h).mono ?_
    rintro e w' ⟨rfl, k'⟩
    exact ⟨g2, cu, rfl, hB.kept0 k', hO.kept k'.grown (.inr (fun e => by cases e)), hne, (Since.refl _ _ _ _).any k'⟩
  · rw [hm, hy, h]
    simp only [Bool.and_eq_true, decide_eq_true_eq] at h
    have lb := hB.lt
    show Calls _ _ _ _ _
    exact cNote_put w b base g2 xs ys m cu k s a v c hB lx hO hb (by omega) hne h.1 lo hi h.2

set_option maxRecDepth 100000 in
set_option maxHeartbeats 8000000 in
theorem cTouch (w : World) {R : Pl.Rg} {ST HA : Bool} (b base g2 : Nat) (xs ys : List Int) (m cu : Nat) (k s a v : Int) (hB : Blk w b (cor R xs (.slice (some ⟨g2, 0, none⟩) m cu) ST HA) 90) (lx : xs.length = 512) (hby : Pl.bytesOk xs = true)
    (hO : w.ownsRow base 95 5 (.slice (some ⟨g2, 0, none⟩) m cu) m (ys.map (Value.int .i64))) (hb : base ≤ b) (n2 : b ≠ g2) (bm : m ≤ 400) (hask : Pl.askOk k s a v = true) (T : Int) (HT : Hid (T = if k = 2 then 0 else Pl.lv xs k s a v)) :
    Calls Tryz.prog 70 #[.pointer (some ⟨b, 14, none⟩), .agg #[.int .i64 k, .int .i64 s, .int .i64 a, .int .i64 v, .int .i64 0]] w fun e w' => ∃ g3 c3 : Nat, e = .returned (.tuple #[.int .i64 T, .int .i64 (Pl.code k s a)]) ∧
      Blk w' b (cor R (Pl.nb xs k s a v) (.slice (some ⟨g3, 0, none⟩) (Pl.nm m k s a) c3) ST HA) 90 ∧ w'.ownsRow base 95 5 (.slice (some ⟨g3, 0, none⟩) (Pl.nm m k s a) c3) (Pl.nm m k s a) ((Pl.nl xs ys m k s a v).map (Value.int .i64)) ∧ b ≠ g3 ∧ Since w b (b + 1) g2 w' g3 := by
  obtain ⟨_, hs, v0, ⟨a0, a1⟩, hkv⟩ := Pl.ask_ok hask
  have hs' : s = 1 ∨ s = 2 := by omega
  have hlog := Pl.acc_logs lx hby hask
  have hvb := Pl.lv_bd lx hby hask
  have hv1 : Pl.lv xs k s a v ≤ 65535 := by split at hvb <;> omega
  obtain ⟨hg0, hg1⟩ := hO.lt g2 rfl
  have lb := hB.lt
  have HLOG := hide hlog
  have HV := hide (And.intro hvb.1 hv1)
  have HX := hide lx
  have HBY := hide hby
  have HASK := hide hask
  have HB0 := hide hB
  have HO0 := hide hO
  clear hB hO lx hby hask hlog hvb hs hkv
  go_enter Tryz.func70, Tryz.ntmps70
  go_wp2_with fail
  refine (codeOf k s a v 0 _ hs' a0 a1).mono ?_
  rintro e w1 ⟨rfl, o, rfl⟩
  obtain ⟨C, hC⟩ : ∃ C, C = Pl.code k s a := ⟨_, rfl⟩
  rw [← hC]
  have HC := hide hC
  clear hC
  have BX := hide ((HB0.out.alloc (.cells #[.int .i64 k, .int .i64 s, .int .i64 a, .int .i64 v, .int .i64 C] 95)).alloc o)
  have OX := hide ((HO0.out.alloc (.cells #[.int .i64 k, .int .i64 s, .int .i64 a, .int .i64 v, .int .i64 C] 95)).alloc o)
  have QX := hide ((Blk.new w #[.int .i64 k, .int .i64 s, .int .i64 a, .int .i64 v, .int .i64 C] 95).alloc o)
  have KX := hide (kept_new (kept_alloc w (.cells #[.int .i64 k, .int .i64 s, .int .i64 a, .int .i64 v, .int .i64 C] 95)) o)
  obtain ⟨X, hX⟩ : ∃ X : World, X = (w.alloc (.cells #[.int .i64 k, .int .i64 s, .int .i64 a, .int .i64 v, .int .i64 C] 95)).alloc o := ⟨_, rfl⟩
  rw [← hX] at BX OX QX KX
  cases hc : (C == 0)
  · have hc' : ¬ Pl.code k s a = 0 := by rw [← HC.out]; simpa using hc
    have e1 : Pl.nb xs k s a v = xs := by unfold Pl.nb; rw [if_neg (fun h => hc' h.1)]
    have e2 : Pl.lv xs k s a v = v := by unfold Pl.lv; rw [if_neg (fun h => hc' h.1)]
    have E1 := hide e1
    have E2 := hide e2
    have HM : Hid (Pl.nm m k s a = if (decide (m < 400) && Pl.accOk k s a v C) = true then m + 1 else m) := hide (by
      have h := HLOG.out; rw [e2] at h; rw [HC.out, h]; rfl)
    have HY : Hid (Pl.nl xs ys m k s a v = if (decide (m < 400) && Pl.accOk k s a v C) = true then ys ++ [k, s, a, v, C] else ys) := hide (by
      have h := HLOG.out; rw [e2] at h; rw [HC.out, h]; unfold Pl.nl; rw [e2]; rfl)
    clear hc' e1 e2
    go_wp2_with fail
    rw [← hX]
    clear hX
    refine (cNote X b base g2 xs ys m cu k s a v C BX.out HX.out OX.out hb n2 bm (by omega) (by have := HV.out; rw [E2.out] at this; omega) _ _ HM.out HY.out).mono ?_
    rintro e w4 ⟨g3, c3, rfl, hb4, ho4, hn4, hk4⟩
    have Q4 := hk4.blk QX.out (by omega) (by omega)
    have B4 := hide hb4
    have O4 := hide ho4
    have K4 := hide (((Since.refl w b (b + 1) g2).any KX.out).trans hk4)
    have y0 := Q4.cell (i := 0) rfl
    have y3 := Q4.cell (i := 3) rfl
    have y4 := Q4.cell (i := 4) rfl
    clear hb4 ho4 hk4 Q4
    cases hk2 : (k == 2)
    · have E3 : Hid (v = T) := hide (by rw [HT.out, if_neg (by simpa using hk2), E2.out])
      go_wp2_with fail
      go_quiet (fail)
      go_wp2_with fail
      go_ret2
      exact ⟨g3, c3, rII E3.out HC.out, by rw [E1.out]; exact B4.out, O4.out, hn4, K4.out.any (kept_drewN (Kept.refl 0 0 _) _)⟩
    · have E3 : Hid (0 = T) := hide (by rw [HT.out, if_pos (by simpa using hk2)])
      go_wp2_with fail
      go_quiet (fail)
      go_wp2_with fail
      go_ret2
      exact ⟨g3, c3, rII E3.out HC.out, by rw [E1.out]; exact B4.out, O4.out, hn4, K4.out.any (kept_drewN (Kept.refl 0 0 _) _)⟩
  · have hc' : Pl.code k s a = 0 := by rw [← HC.out]; simpa using hc
    have HC0 := hide hc'
    have HNL : Hid ((Pl.nb xs k s a v).length = 512) := hide (by rw [Pl.nb_len]; exact HX.out)
    have HM : Hid (Pl.nm m k s a = if (decide (m < 400) && Pl.accOk k s a (Pl.lv xs k s a v) C) = true then m + 1 else m) := hide (by
      have h := HLOG.out; rw [HC.out, h]; rfl)
    have HY : Hid (Pl.nl xs ys m k s a v = if (decide (m < 400) && Pl.accOk k s a (Pl.lv xs k s a v) C) = true then ys ++ [k, s, a, Pl.lv xs k s a v, C] else ys) := hide (by
      have h := HLOG.out; rw [HC.out, h]; unfold Pl.nl; rfl)
    clear hc'
    go_wp2_with fail
    rw [← hX]
    clear hX
    refine (cCarryOut X b w.heap.size base g2 xs ys m cu k s a v C BX.out QX.out HX.out HBY.out OX.out hb (by omega) (by omega) n2 (by omega) HASK.out HC0.out).mono ?_
    rintro e w3 ⟨rfl, hb3, hq3, ho3, hk3⟩
    have B3 := hide hb3
    have O3 := hide ho3
    have K3 := hide (since_two (g := g2) KX.out hk3 (Nat.le_refl _))
    have Q3 := hide hq3
    have z0 := hq3.cell (i := 0) rfl
    have z1 := hq3.cell (i := 1) rfl
    have z2 := hq3.cell (i := 2) rfl
    have z3 := hq3.cell (i := 3) rfl
    have z4 := hq3.cell (i := 4) rfl
    clear hb3 ho3 hk3 hq3
    go_wp2_with fail
    clear z0 z1 z2 z3 z4
    refine (cNote w3 b base g2 (Pl.nb xs k s a v) ys m cu k s a (Pl.lv xs k s a v) C B3.out HNL.out O3.out hb n2 bm (by have := HV.out; omega) (by have := HV.out; omega) _ _ HM.out HY.out).mono ?_
    rintro e w4 ⟨g3, c3, rfl, hb4, ho4, hn4, hk4⟩
    have Q4 := hk4.blk Q3.out (by omega) (by omega)
    have B4 := hide hb4
    have O4 := hide ho4
    have K4 := hide (K3.out.trans hk4)
    have y0 := Q4.cell (i := 0) rfl
    have y3 := Q4.cell (i := 3) rfl
    have y4 := Q4.cell (i := 4) rfl
    clear hb4 ho4 hk4 Q4
    cases hk2 : (k == 2)
    · have E3 : Hid (Pl.lv xs k s a v = T) := hide (by rw [HT.out, if_neg (by simpa using hk2)])
      go_wp2_with fail
      go_quiet (fail)
      go_wp2_with fail
      go_ret2
      exact ⟨g3, c3, rII E3.out HC.out, B4.out, O4.out, hn4, K4.out.any (kept_drewN (Kept.refl 0 0 _) _)⟩
    · have E3 : Hid (0 = T) := hide (by rw [HT.out, if_pos (by simpa using hk2)])
      go_wp2_with fail
      go_quiet (fail)
      go_wp2_with fail
      go_ret2
      exact ⟨g3, c3, rII E3.out HC.out, B4.out, O4.out, hn4, K4.out.any (kept_drewN (Kept.refl 0 0 _) _)⟩
/-- .. of a processor -/
theorem cTouchC (w : World) (lo b g : Nat) (c : Pl.Mc) (h : Bool) (k s a v T : Int) (hC : CAt w lo b g c h) (G : Pl.GM c) (hask : Pl.askOk k s a v = true) (HT : Hid (T = if k = 2 then 0 else Pl.lv c.bx k s a v)) :
    Calls Tryz.prog 70 #[.pointer (some ⟨b, 14, none⟩), .agg #[.int .i64 k, .int .i64 s, .int .i64 a, .int .i64 v, .int .i64 0]] w fun e w' => ∃ g', e = .returned (.tuple #[.int .i64 T, .int .i64 (Pl.code k s a)]) ∧ CAt w' lo b g' (c.acc k s a v) h ∧ Since w b (b + 1) g w' g' := by
  obtain ⟨cu, hB, hO⟩ := hC
  refine (cTouch w b lo g c.bx c.bl c.bm cu k s a v hB G.bx G.ok hO.l hO.lo' hO.ne G.bm hask T HT).mono ?_
  rintro e w' ⟨g3, c3, he, hb, ho, hn, hk⟩
  exact ⟨g3, he, ⟨c3, hb, ⟨ho, hO.lo', hn⟩⟩, hk⟩
end Go.Proofs.YtblddehlkaolbaaGreat

namespace Go.Proofs.YtblddehlkaolbaaGreat
open Go.RowKit
theorem Blk.all {w : World} {b : Nat} {cs : Array Value} {ty : TypeId} (h : Blk w b cs ty) (i : Nat) : w.cell? ⟨b, i, none⟩ = cs[i]? := by
  have e : w.heap[b]? = some (.cells cs ty (0, 0)) := h
  unfold World.cell?
  dsimp only
  rw [e]
  simp
theorem Blk.fz {w : World} {b : Nat} {cs : Array Value} {ty : TypeId} (h : Blk w b cs ty) (i : Nat) : w.frozen? ⟨b, i, none⟩ = false := h.frozen i
end Go.Proofs.YtblddehlkaolbaaGreat

namespace Go.Proofs.YtblddehlkaolbaaGreat
open Go.RowKit
set_option linter.unusedVariables false
theorem isFault (f : Pl.Ft) (w : World) : Calls Tryz.prog 42 #[.agg #[.int .i64 f.v, .int .i64 f.pc, .int .i64 f.ad, .int .i64 f.wo, .bool f.wr]] w fun e w' => e = .returned (.bool (f.v != 0)) ∧ Kept 0 0 w w' := by
  go_enter Tryz.func42, Tryz.ntmps42
  go_wp2
  go_ret
  exact ⟨rfl, kept_alloc _ _⟩
theorem acc5 {w : World} {q : Nat} {k s a v c : Int} {ty : TypeId} (h : Blk w q #[.int .i64 k, .int .i64 s, .int .i64 a, .int .i64 v, .int .i64 c] ty) : w.cell? ⟨q, 0, none⟩ = some (.int .i64 k) ∧ w.cell? ⟨q, 1, none⟩ = some (.int .i64 s) ∧ w.cell? ⟨q, 2, none⟩ = some (.int .i64 a) ∧ w.cell? ⟨q, 3, none⟩ = some (.int .i64 v) ∧ w.cell? ⟨q, 4, none⟩ = some (.int .i64 c) :=
  ⟨h.cell (i := 0) rfl, h.cell (i := 1) rfl, h.cell (i := 2) rfl, h.cell (i := 3) rfl, h.cell (i := 4) rfl⟩
set_option maxRecDepth 100000 in
set_option maxHeartbeats 4000000 in
theorem cAccess (w : World) (lo b g : Nat) (c : Pl.Mc) (h : Bool) (k s a v : Int) (hC : CAt w lo b g c h) (G : Pl.GM c) (hask : Pl.askOk k s a v = true) (V : Int) (HV : Hid (V = if k = 2 then 0 else Pl.lv c.bx k s a v)) (F : Pl.Ft) (HF : Hid (F = Pl.Mc.accF Pl.ftNo k s a)) :
    Calls Tryz.prog 40 #[.pointer (some ⟨b, 0, none⟩), .agg #[.int .i64 k, .int .i64 s, .int .i64 a, .int .i64 v, .int .i64 0]] w fun e w' => ∃ g', e = .returned (.tuple #[.int .i64 V, .agg (ftC F)]) ∧ CAt w' lo b g' (c.acc k s a v) h ∧ Since w b (b + 1) g w' g' := by
  obtain ⟨l0, l1, l2, l3, l4⟩ := hC.lt
  have HC := hide ((hC.alloc (.cells #[.int .i64 k, .int .i64 s, .int .i64 a, .int .i64 v, .int .i64 0] 95)).alloc (.cells (ftC Pl.ftNo) 36))
  have A0 := hide ((Blk.new w #[.int .i64 k, .int .i64 s, .int .i64 a, .int .i64 v, .int .i64 0] 95).alloc (.cells (ftC Pl.ftNo) 36))
  have F0 := Blk.new (w.alloc (.cells #[.int .i64 k, .int .i64 s, .int .i64 a, .int .i64 v, .int .i64 0] 95)) (ftC Pl.ftNo) 36
  simp only [World.size_alloc] at F0
  replace F0 := hide F0
  have K0 := hide (kept_new (kept_alloc w (.cells #[.int .i64 k, .int .i64 s, .int .i64 a, .int .i64 v, .int .i64 0] 95)) (.cells (ftC Pl.ftNo) 36))
  have HG := hide G
  have HASK := hide hask
  clear hC G hask
  obtain ⟨X, hX⟩ : ∃ X : World, (w.alloc (.cells #[.int .i64 k, .int .i64 s, .int .i64 a, .int .i64 v, .int .i64 0] 95)).alloc (.cells (ftC Pl.ftNo) 36) = X := ⟨_, rfl⟩
  rw [hX] at HC A0 F0 K0
  obtain ⟨a0, a1, a2, a3, a4⟩ := acc5 A0.out
  have hX' : (w.alloc (.cells #[.int .i64 k, .int .i64 s, .int .i64 a, .int .i64 v, .int .i64 0] 95)).alloc (.cells #[.int .i64 0, .int .i64 0, .int .i64 0, .int .i64 0, .bool false] 36) = X := hX
  clear hX
  go_enter Tryz.func40, Tryz.ntmps40
  go_wp2_with fail
  clear hX'
  go_region_held3 (fun w' => w'.cell? ⟨w.heap.size, 0, none⟩ = some (.int .i64 k) ∧ w'.cell? ⟨w.heap.size, 1, none⟩ = some (.int .i64 s) ∧ w'.cell? ⟨w.heap.size, 2, none⟩ = some (.int .i64 a) ∧ w'.cell? ⟨w.heap.size, 3, none⟩ = some (.int .i64 v) ∧ w'.cell? ⟨w.heap.size, 4, none⟩ = some (.int .i64 0)) (first | exact acc5 A3.out | exact acc5 (show Blk _ _ _ _ from A0.out) | go_keep)
    (first | (go_at_call 70; refine (cTouchC _ lo b g c h k s a v V HC.out.drew HG.out HASK.out HV).mono ?_; rintro e w3 ⟨g', rfl, hc3, hs3⟩; have C3 := hide hc3; have S3 := hide (((Since.refl w b (b + 1) g).any (kept_drew K0.out)).trans hs3); have A3 := hide (hs3.blk (show Blk X.drew _ _ _ from A0.out) (by omega) (by omega)); have F3 := hide (hs3.blk (show Blk X.drew _ _ _ from F0.out) (by omega) (by omega)); have n3 := hs3.ne (b := w.heap.size + 1) F0.out.lt (by omega); clear hc3 hs3))
  clear a0 a1 a2 a3 a4
  obtain ⟨a0, a1, a2, a3, a4⟩ := acc5 A3.out
  have p := (show Blk w3 (w.heap.size + 1) #[.int .i64 0, .int .i64 0, .int .i64 0, .int .i64 0, .bool false] 36 from F3.out).all
  have z := F3.out.fz
  obtain ⟨C, hCd⟩ : ∃ C, C = Pl.code k s a := ⟨_, rfl⟩
  rw [← hCd]
  unfold Pl.Mc.accF at HF
  rw [← hCd] at HF
  have V0 : Hid (¬ C = 0 → V = 0) := hide (by
    intro hn
    rw [HV.out]
    split
    · rfl
    · rename_i h2
      obtain ⟨_, _, _, _, h5⟩ := Pl.ask_ok HASK.out
      rw [show v = 0 by omega]
      unfold Pl.lv
      rw [if_neg (by rw [← hCd]; exact fun q => hn q.1)])
  clear hCd HV
  cases h0 : (C == 0)
  · have EV := hide (V0.out (by simpa using h0))
    have e1 : (C != 0) = true := by simpa using h0
    rw [e1] at HF
    cases h2 : (C == 2)
    · rw [h2] at HF
      have q : F = ⟨2, 0, a, 0, k == 2⟩ := HF.out
      subst q
      clear HF e1
      go_wp2_with fail
      go_region
      go_wp2_with fail
      have K5 := kept_drew (((((kept_one w3 (w.heap.size + 1) 0 (.int .i64 2)).one 1 (.int .i64 0)).one 2 (.int .i64 a)).one 3 (.int .i64 0)).one 4 (.bool (k == 2)))
      refine bodyPost_ret (v := .tuple #[.int .i64 0, .agg #[.int .i64 2, .int .i64 0, .int .i64 a, .int .i64 0, .bool (k == 2)]]) ?_ rfl ⟨g', by rw [EV.out]; rfl, C3.out.kept K5 (by omega) (by omega), S3.out.mine K5 (by omega)⟩
      rw [results_tc rfl]; go_simp
    · rw [h2] at HF
      have q : F = ⟨3, 0, a, 0, k == 2⟩ := HF.out
      subst q
      clear HF e1
      go_wp2_with fail
      go_region
      go_wp2_with fail
      have K5 := kept_drew (((((kept_one w3 (w.heap.size + 1) 0 (.int .i64 3)).one 1 (.int .i64 0)).one 2 (.int .i64 a)).one 3 (.int .i64 0)).one 4 (.bool (k == 2)))
      refine bodyPost_ret (v := .tuple #[.int .i64 0, .agg #[.int .i64 3, .int .i64 0, .int .i64 a, .int .i64 0, .bool (k == 2)]]) ?_ rfl ⟨g', by rw [EV.out]; rfl, C3.out.kept K5 (by omega) (by omega), S3.out.mine K5 (by omega)⟩
      rw [results_tc rfl]; go_simp
  · have e1 : (C != 0) = false := by simpa using h0
    rw [e1] at HF
    have q : F = Pl.ftNo := HF.out
    subst q
    clear HF e1
    go_wp2_with fail
    have K5 := ((((kept_one w3 (w.heap.size + 1) 0 (.int .i64 0)).one 1 (.int .i64 0)).one 2 (.int .i64 0)).one 3 (.int .i64 0)).one 4 (.bool false)
    refine bodyPost_ret (v := .tuple #[.int .i64 V, .agg #[.int .i64 0, .int .i64 0, .int .i64 0, .int .i64 0, .bool false]]) ?_ rfl ⟨g', rfl, C3.out.kept K5 (by omega) (by omega), S3.out.mine K5 (by omega)⟩
    rw [results_tc rfl]; go_simp
end Go.Proofs.YtblddehlkaolbaaGreat

namespace Go.Proofs.YtblddehlkaolbaaGreat
open Go.RowKit
set_option linter.unusedVariables false

/-- a board's cells: 512 bytes and the log -/
def brd (xs : List Int) (u : Value) : Array Value := (cellsOf xs).push u
theorem brd_at {xs : List Int} {u : Value} {i : Nat} (hi : i < xs.length) : (brd xs u)[i]? = some (.int .i64 (el xs i)) := by
  simp [brd, cellsOf, el, hi]
  rw [List.getElem?_append_left (by simpa using hi)]
  simp [hi]
theorem brd_log {xs : List Int} {u : Value} (hl : xs.length = 512) : (brd xs u)[512]? = some u := by
  simp [brd, cellsOf, hl]
end Go.Proofs.YtblddehlkaolbaaGreat

namespace Go.Proofs.YtblddehlkaolbaaGreat
open Go.RowKit
set_option linter.unusedVariables false

theorem fold_set (off : Nat) : ∀ (l : List Value) (k : Nat) (A : Array Value) (i : Nat), off + k + l.length ≤ A.size →
    ((l.zipIdx k).foldl (fun a (x : Value × Nat) => a.setIfInBounds (off + x.2) x.1) A)[i]? = if off + k ≤ i ∧ i < off + k + l.length then l[i - (off + k)]? else A[i]?
  | [], k, A, i, h => by
    simp only [List.zipIdx_nil, List.foldl_nil, List.length_nil]
    rw [if_neg (by omega)]
  | v :: r, k, A, i, h => by
    simp only [List.length_cons] at h
    simp only [List.zipIdx_cons, List.foldl_cons, List.length_cons]
    rw [fold_set off r (k + 1) _ i (by simp; omega)]
    by_cases h1 : off + (k + 1) ≤ i ∧ i < off + (k + 1) + r.length
    · rw [if_pos h1, if_pos (by omega), show i - (off + k) = (i - (off + (k + 1))) + 1 by omega, List.getElem?_cons_succ]
    · rw [if_neg h1, Array.getElem?_setIfInBounds]
      by_cases h2 : off + k = i
      · rw [if_pos h2, if_pos (by omega), if_pos (by omega), show i - (off + k) = 0 by omega]; rfl
      · rw [if_neg h2, if_neg (by omega)]
theorem Tryz.infoBoard : (Tryz.prog.info? 87).map (fun i => (i.zero, i.size)) = some (some (.agg (brd zeros (.slice none 0 0))), 513) := by kernel_rfl
theorem Tryz.boardZero : ∀ w, (zeroValue 87).run Tryz.prog w = .ok (.agg (brd zeros (.slice none 0 0))) w := (zero_of_info Tryz.infoBoard).1
theorem Tryz.boardSize : (Tryz.prog.info? 87).map (·.size) = some 513 := (zero_of_info Tryz.infoBoard).2
theorem brd_size (xs : List Int) (u : Value) : (brd xs u).size = xs.length + 1 := by simp [brd, cellsOf]
theorem fold_size (off : Nat) : ∀ (l : List (Value × Nat)) (A : Array Value), (l.foldl (fun a (x : Value × Nat) => a.setIfInBounds (off + x.2) x.1) A).size = A.size
  | [], A => rfl
  | v :: r, A => by rw [List.foldl_cons, fold_size off r]; simp
/-- what 'fill' lays, of a part that fits -/
def laid (off : Nat) (cs A : Array Value) : Array Value := cs.zipIdx.foldl (fun a (x : Value × Nat) => a.setIfInBounds (off + x.2) x.1) A
theorem laid_size (off : Nat) (cs A : Array Value) : (laid off cs A).size = A.size := by
  unfold laid
  rw [← Array.foldl_toList]
  exact fold_size off _ A
theorem laid_at (off : Nat) (cs A : Array Value) (h : off + cs.size ≤ A.size) (i : Nat) : (laid off cs A)[i]? = if off ≤ i ∧ i < off + cs.size then cs[i - off]? else A[i]? := by
  unfold laid
  rw [← Array.foldl_toList, Array.toList_zipIdx]
  have := fold_set off cs.toList 0 A i (by simpa using h)
  simpa using this
theorem fill_two (cs A : Array Value) (u : Value) (hu : u.cells = #[u]) (hc : cs.size = 512) (hA : A.size = 513) :
    Instr.fill (#[(0, 512), (512, 1)][·]?) A [(0, .agg cs), (1, u)] = some (laid 512 #[u] (laid 0 cs A)) := by
  have h1 : ((laid 0 cs A)).size = 513 := by rw [laid_size, hA]
  have e1 : cs.zipIdx.foldl (fun a (x : Value × Nat) => a.setIfInBounds (0 + x.2) x.1) A = laid 0 cs A := rfl
  unfold Instr.fill
  simp only [Value.cells, List.getElem?_toArray, List.getElem?_cons_zero]
  rw [if_neg (by simp [hc, hA])]
  rw [e1]
  unfold Instr.fill
  simp only [hu, List.getElem?_cons_succ, List.getElem?_cons_zero]
  rw [if_neg (by simp [h1])]
  unfold Instr.fill
  rfl
theorem brd_one (xs : List Int) (u : Value) (h : u.oneCell' = true) : (brd xs u).all (·.oneCell') = true := by
  rw [Array.all_eq_true_iff_forall_mem]
  intro v hv
  simp only [brd, Array.mem_push] at hv
  rcases hv with hv | rfl
  · exact Array.all_eq_true_iff_forall_mem.1 (cellsOf_one xs) v hv
  · exact h
theorem build_two {P : Program} {ops : Array Oper} {rest : List Oper} {o : Oper} {a : Act} {w : World} {Q : Exit → Act → World → Prop} (hg : o.guard = none) (t : TypeId) (x y : Operand) (ho : o.op = .build t #[(0, x), (1, y)])
    (v u : Value) (hx : a.eval x = v) (hy : a.eval y = u) (cells : Array Value) (hf : P.built t [(0, v), (1, u)] = some cells)
    (h : wpList P ops Q rest (a.put o.dst (.agg cells)) w) : wpList P ops Q (o :: rest) a w := by
  have e : P.built t (#[(0, x), (1, y)].map fun (p : Nat × Operand) => (p.1, a.eval p.2)).toList = some cells := by
    simp [hx, hy, hf]
  refine wpList_build hg t #[(0, x), (1, y)] ho (by rw [e]; rfl) ?_
  rw [e]
  exact h
theorem boardBuilt (xs : List Int) (b : Option Addr) (n c : Nat) (lx : xs.length = 512) :
    Tryz.prog.built 87 [(0, .agg (cellsOf xs)), (1, .slice b n c)] = some (brd xs (.slice b n c)) := by
  have hp : (match Tryz.prog.underlying 87 with | some (.struct fields) => fields.toList.mapM (fun f => (Tryz.prog.info? f.type).map fun i => (f.offset, i.size)) | _ => none) = some [(0, 512), (512, 1)] := by kernel_rfl
  have e : Tryz.prog.built 87 [(0, .agg (cellsOf xs)), (1, .slice b n c)] = Instr.fill (#[(0, 512), (512, 1)][·]?) (brd zeros (.slice none 0 0)) [(0, .agg (cellsOf xs)), (1, .slice b n c)] := by
    have hi := Tryz.infoBoard
    unfold Program.built
    cases h1 : Tryz.prog.info? 87 with
    | none => rw [h1] at hi; cases hi
    | some it =>
      rw [h1] at hi
      have hz : it.zero = some (.agg (brd zeros (.slice none 0 0))) := congrArg (fun o => (o.map Prod.fst).getD none) hi
      cases h2 : Tryz.prog.underlying 87 with
      | none => rw [h2] at hp; cases hp
      | some d =>
        rw [h2] at hp
        cases d
        case struct fields =>
          have hp' : fields.toList.mapM (fun f => (Tryz.prog.info? f.type).map fun i => (f.offset, i.size)) = some [(0, 512), (512, 1)] := hp
          simp only [hz, hp']
          rfl
        all_goals cases hp
  rw [e, fill_two (cellsOf xs) (brd zeros (.slice none 0 0)) (.slice b n c) rfl (by rw [cellsOf_size, lx]) (by rw [brd_size, zeros_len])]
  refine congrArg some ?_
  apply Array.ext_getElem?
  intro i
  rw [laid_at 512 #[.slice b n c] _ (by rw [laid_size, brd_size, zeros_len]; simp), laid_at 0 _ _ (by rw [brd_size, zeros_len, cellsOf_size, lx]; decide), cellsOf_size, lx]
  simp only [brd, Array.getElem?_push, cellsOf_size, lx]
  by_cases h : i < 512
  · rw [if_neg (by simp; omega), if_pos (by omega), if_neg (by omega)]
    rfl
  · by_cases h2 : i = 512
    · subst h2
      rfl
    · have h3 : ¬ i < 513 := by omega
      rw [if_neg (by simp; omega), if_neg (by omega)]
      simp only [zeros_len]
      rw [if_neg h2, if_neg h2]
      rw [Array.getElem?_eq_none (by rw [cellsOf_size, zeros_len]; omega), Array.getElem?_eq_none (by rw [cellsOf_size, lx]; omega)]

/-- a row of accesses copied into a block as long -/
theorem copy5_at (W : World) (g m sCap : Nat) (sp : Option Addr) (ys : List Int) (cur : List Value) (t : TypeId) (hB : Blk W g cur.toArray t) (hr : IRow W sp ys) (hl : ys.length = 5 * m) (hc : cur.length = 5 * m) :
    ∃ W', (Builtin.copy_ #[40, 40] 3 #[.slice (some ⟨g, 0, none⟩) m m, .slice sp m sCap]).run Tryz.prog W = .ok (.int .i64 m) W' ∧ Blk W' g (cellsOf ys) t ∧ Kept g (g + 1) W W' := by
  obtain ⟨i, hi, hz0, hz1, hz2⟩ := info_parts Tryz.infoAcc
  have hmin : Nat.min m m = m := Nat.min_self m
  by_cases h0 : m = 0
  · subst h0
    obtain rfl : ys = [] := List.eq_nil_of_length_eq_zero (by omega)
    obtain rfl : cur = [] := List.eq_nil_of_length_eq_zero (by omega)
    refine ⟨W, ?_, hB, Kept.refl _ _ _⟩
    have hl0 : ∀ (x : Addr), (loadCells x 0).run Tryz.prog W = .ok #[] W := fun x => by simpa using run_loadCells_list (P := Tryz.prog) W x [] (by simp)
    cases sp <;> simp [Builtin.copy_, run_underlying Tryz.underlying40, Builtin.lenOf, Builtin.firstCells, sizeOf, typeInfo, hi, storeCells, hl0] <;> rfl
  · obtain ⟨ga, oa, rfl, _⟩ := hr 0 (by omega)
    have hld := run_loadCells_list (P := Tryz.prog) W ⟨ga, oa, none⟩ (ys.map (Value.int .i64)) (news_of hr)
    have hst := run_storeCells_at Tryz.prog g 0 t (ys.map (Value.int .i64)) 0 cur.toArray W hB (by simp [hl, hc]) news_one
    have e5 : (ys.map (Value.int .i64)).length = m * 5 := by rw [List.length_map, hl]; omega
    rw [e5] at hld
    have e : (List.take (0 + 0) cur.toArray.toList ++ ys.map (Value.int .i64) ++ List.drop (0 + 0 + (ys.map (Value.int .i64)).length) cur.toArray.toList) = ys.map (Value.int .i64) := by
      rw [List.drop_eq_nil_of_le (by simp [hl, hc])]; simp
    rw [e] at hst
    refine ⟨W.setRow g (cellsOf ys), ?_, hB.setRow, ⟨rfl, rfl, rfl, by simp, fun k hk hn => setRow_other W g k _ (by omega)⟩⟩
    simp [Builtin.copy_, run_underlying Tryz.underlying40, Builtin.lenOf, Builtin.firstCells, sizeOf, typeInfo, hi, hz1, hmin, hld]
    have hst' : (storeCells ⟨g, 0, none⟩ (ys.map (Value.int .i64))).run Tryz.prog W = .ok () (W.setRow g (cellsOf ys)) := hst
    rw [hst']
    rfl
theorem own5_of_blk {w : World} {base g m : Nat} {ys : List Int} (h : Blk w g (cellsOf ys) 95) (hl : ys.length = 5 * m) (hb : base ≤ g) (bm : m ≤ 2000000) : w.ownsRow base 95 5 (.slice (some ⟨g, 0, none⟩) m m) m (ys.map (Value.int .i64)) := by
  refine ⟨by simp [hl]; omega, .inr ⟨g, m, cellsOf ys, rfl, hb, h, Nat.le_refl _, by unfold maxLen; omega, by rw [cellsOf_size, hl]; omega, ?_⟩⟩
  rw [List.take_of_length_le (by simp [cellsOf, hl]; omega)]
  simp [cellsOf]

set_option maxHeartbeats 4000000 in
theorem boardOf (w : World) (a b : Option Addr) (ca cb m : Nat) (xs ys : List Int) (ha : IRow w a xs) (hb : IRow w b ys) (lx : xs.length = 512) (ly : ys.length = 5 * m) (bm : m ≤ 400) :
    Calls Tryz.prog 39 #[.agg #[.slice a xs.length ca, .slice b m cb]] w fun e w' => ∃ g : Nat, e = .returned (.agg (brd xs (.slice (some ⟨g, 0, none⟩) m m))) ∧ Blk w' g (cellsOf ys) 95 ∧ w.heap.size ≤ g ∧ Kept 0 0 w w' := by
  obtain ⟨i, hi, hz0, hz1, hz2⟩ := info_parts Tryz.infoAcc
  have HA := hide ha
  have HB := hide hb
  have HX := hide lx
  have HY := hide ly
  have bz := Tryz.boardZero
  have hbuilt := hide (boardBuilt xs (some ⟨w.heap.size + 1 + 1, 0, none⟩) m m lx)
  have K0 := hide (kept_new (kept_alloc w (.cells #[.slice a xs.length ca, .slice b m cb] 42)) (.cells (brd zeros (.slice none 0 0)) 87))
  have B0 := hide ((Blk.new w #[.slice a xs.length ca, .slice b m cb] 42).alloc (.cells (brd zeros (.slice none 0 0)) 87))
  have B1 := Blk.new (w.alloc (.cells #[.slice a xs.length ca, .slice b m cb] 42)) (brd zeros (.slice none 0 0)) 87
  simp only [World.size_alloc] at B1
  replace B1 := hide B1
  clear ha hb lx ly
  go_enter Tryz.func39, Tryz.ntmps39
  go_wp2_with (at_make; refine wpList_make_full _ rfl _ _ 40 rfl w.heap.size 95 i (.agg #[.int .i64 0, .int .i64 0, .int .i64 0, .int .i64 0, .int .i64 0]) 5 Tryz.underlying40 hi hz0 hz1 _ _ _ _ m rfl rfl rfl rfl ?c1 ?c2 ?c3 ?_)
  case c1 => rw [hz2]; omega
  case c2 => unfold maxLen; omega
  case c3 => simp; omega
  intro w1 hown hg
  have k1 := kept_grown hg
  have C0 := B0.out.kept0 k1
  have C1 := B1.out.kept0 k1
  have K1 := K0.out.trans k1
  obtain ⟨W2, hcopy, E2, k2⟩ := copy5_at w1 (w.heap.size + 1 + 1) m cb b ys _ _ (blk_of_row hown) (HB.out.keptS K1) HY.out (by rw [hown.1]; omega)
  have D0 := hide (C0.kept k2 (by omega))
  have D1 := hide (C1.kept k2 (by omega))
  have K2 := hide (kept_over K1 k2 (by omega))
  have H2 := hide E2
  have HZ : ∀ u, Hid ((Tryz.prog.info? 87).map (·.size) = some (brd xs u).size) := fun u => hide (by rw [brd_size, HX.out]; exact Tryz.boardSize)
  have HZ2 : ∀ u, Hid ((brd zeros (.slice none 0 0)).size = (brd xs u).size) := fun u => hide (by rw [brd_size, brd_size, HX.out, zeros_len])
  have p1 := C0.cell (i := 1) rfl
  have d0 := D0.out.cell (i := 0) rfl
  have d1 := D0.out.cell (i := 1) rfl
  clear hown hg k1 C0 C1 K1 E2 k2
  go_wp2_with (first
    | (go_at_call 69; refine (memoryOf _ a b ca cb m xs (HA.out.keptS K2.out) HX.out).mono ?_; rintro e w3 ⟨rfl, k3⟩; have D3 := hide (D1.out.kept0 k3); have H3 := hide (H2.out.kept0 k3); have K3 := hide (K2.out.trans k3); clear k3)
    | (refine build_two rfl 87 (.tmp 13) (.tmp 14) rfl (.agg (cellsOf xs)) (.slice (some ⟨w.heap.size + 1 + 1, 0, none⟩) m m) rfl rfl (brd xs (.slice (some ⟨w.heap.size + 1 + 1, 0, none⟩) m m)) hbuilt.out ?_)
    | (refine wpList_store_row rfl 87 (.tmp 2) (.tmp 15) rfl (w.heap.size + 1) (brd xs (.slice (some ⟨w.heap.size + 1 + 1, 0, none⟩) m m)) rfl rfl 87 (brd zeros (.slice none 0 0)) D3.out (HZ _).out (HZ2 _).out (brd_one _ _ rfl) ?_))
  refine bodyPost_ret (v := .agg (brd xs (.slice (some ⟨w.heap.size + 1 + 1, 0, none⟩) m m))) ?_ rfl ⟨w.heap.size + 1 + 1, rfl, H3.out.setRowOther (by omega), by omega, kept_setRow K3.out _ _ (by omega)⟩
  exact results_cell_row rfl _ _ _ _ _ (0, 0) _ rfl D3.out.setRow Tryz.underlying87 rfl (HZ _).out

end Go.Proofs.YtblddehlkaolbaaGreat

namespace Go.Proofs.YtblddehlkaolbaaGreat
open Go.RowKit
set_option linter.unusedVariables false
theorem Tryz.infoCore : (Tryz.prog.info? 90).map (fun i => (i.zero, i.size)) = some (some (.agg (cor ⟨[0, 0, 0, 0], [0, 0, 0, 0], 0, 0, 0, 0, false, false⟩ zeros (.slice none 0 0) false false)), 529) := by kernel_rfl
theorem cor_laid (r : Pl.Rg) (xs : List Int) (u : Value) (st ha : Bool) (A : Array Value) (hA : A.size = 529) (lx : xs.length = 512) : laid 528 #[.bool ha] (laid 527 #[.bool st] (laid 14 (brd xs u) (laid 0 (bkR r) A))) = cor r xs u st ha := by
  have hb : (brd xs u).size = 513 := by rw [brd_size, lx]
  have hr : (bkR r).size = 14 := rfl
  apply Array.ext_getElem?
  intro i
  rw [laid_at 528 _ _ (by simp only [laid_size, hA]; exact Nat.le_refl 529), laid_at 527 _ _ (by simp only [laid_size, hA]; exact Nat.le_succ 528), laid_at 14 _ _ (by rw [laid_size, hA, hb]; decide), laid_at 0 _ _ (by rw [hA, hr]; decide), hb, hr]
  by_cases h1 : i < 14
  · rw [if_neg (by simp; omega), if_neg (by simp; omega), if_neg (by omega), if_pos (by omega), cor_lo h1]; rfl
  · by_cases h2 : i < 526
    · rw [if_neg (by simp; omega), if_neg (by simp; omega), if_pos (by omega)]
      obtain ⟨n, rfl⟩ : ∃ n, i = 14 + n := ⟨i - 14, by omega⟩
      rw [cor_at (by omega), Nat.add_sub_cancel_left, brd_at (by omega)]
    · by_cases h3 : i < 529
      · have : i = 526 ∨ i = 527 ∨ i = 528 := by omega
        rcases this with rfl | rfl | rfl
        · rw [if_neg (by simp), if_neg (by simp), if_pos (by omega), cor_log lx]; exact brd_log lx
        · rw [if_neg (by simp), if_pos (by simp), cor_st lx]; rfl
        · rw [if_pos (by simp), cor_ha lx]; rfl
      · rw [if_neg (by simp; omega), if_neg (by simp; omega), if_neg (by omega), if_neg (by omega), Array.getElem?_eq_none (by omega), Array.getElem?_eq_none (by rw [cor_size lx]; omega)]
theorem laid_one (k : Nat) (v : Value) (A : Array Value) : laid k #[v] A = A.setIfInBounds k v := rfl
/-- what the walk's own rules want of a processor that is laid down part by part -/
theorem coreFill (r : Pl.Rg) (xs : List Int) (m : Nat) (st ha : Bool) (lx : xs.length = 512) : ∃ (Z L : Array Value) (M : Option Addr → Array Value), (∀ w, (zeroValue 90).run Tryz.prog w = .ok (.agg Z) w) ∧ Z.size = 529 ∧ (bkR r).size = 14 ∧ (∀ d, (brd xs (.slice d m m)).size = 513) ∧
    (bkR r).zipIdx.foldl (fun cs x => cs.setIfInBounds x.2 x.1) Z 0 14 = L ∧ L.size = 529 ∧ (∀ d, (brd xs (.slice d m m)).zipIdx.foldl (fun cs x => cs.setIfInBounds (14 + x.2) x.1) L 0 513 = M d) ∧ (∀ d, (M d).size = 529) ∧
    ∀ d, ((M d).setIfInBounds 527 (.bool st)).setIfInBounds 528 (.bool ha) = cor r xs (.slice d m m) st ha := by
  have hr : (bkR r).size = 14 := rfl
  have hd : ∀ d, (brd xs (.slice d m m)).size = 513 := fun d => by rw [brd_size, lx]
  obtain ⟨Z, hz, hs⟩ : ∃ Z : Array Value, (∀ w, (zeroValue 90).run Tryz.prog w = .ok (.agg Z) w) ∧ Z.size = 529 := ⟨_, (zero_of_info Tryz.infoCore).1, cor_size zeros_len⟩
  refine ⟨Z, laid 0 (bkR r) Z, fun d => laid 14 (brd xs (.slice d m m)) (laid 0 (bkR r) Z), hz, hs, hr, hd, ?_, ?_, ?_, ?_, ?_⟩
  · unfold laid; simp [hr]
  · rw [laid_size]; exact hs
  · intro d; unfold laid; simp [hr, hd]
  · intro d; rw [laid_size, laid_size]; exact hs
  · intro d
    have := cor_laid r xs (.slice d m m) st ha Z hs lx
    rw [laid_one, laid_one] at this
    exact this
theorem cpu12 {w : World} {x : Nat} {c : Pl.Cp} {a b e q : Option Addr} {ca cb ce cq : Nat} {ty : TypeId} (h : Blk w x #[.slice a c.r.xs.length ca, .slice b c.r.ys.length cb, .int .i64 c.r.o, .int .i64 c.r.p, .int .i64 c.r.f, .int .i64 c.r.m, .bool c.r.s, .bool c.r.t, .slice e c.bx.length ce, .slice q c.bm cq, .bool c.st, .bool c.ha] ty) : w.cell? ⟨x, 0, none⟩ = some (.slice a c.r.xs.length ca) ∧ w.cell? ⟨x, 1, none⟩ = some (.slice b c.r.ys.length cb) ∧ w.cell? ⟨x, 2, none⟩ = some (.int .i64 c.r.o) ∧ w.cell? ⟨x, 3, none⟩ = some (.int .i64 c.r.p) ∧ w.cell? ⟨x, 4, none⟩ = some (.int .i64 c.r.f) ∧ w.cell? ⟨x, 5, none⟩ = some (.int .i64 c.r.m) ∧ w.cell? ⟨x, 6, none⟩ = some (.bool c.r.s) ∧ w.cell? ⟨x, 7, none⟩ = some (.bool c.r.t) ∧ w.cell? ⟨x, 8, none⟩ = some (.slice e c.bx.length ce) ∧ w.cell? ⟨x, 9, none⟩ = some (.slice q c.bm cq) ∧ w.cell? ⟨x, 10, none⟩ = some (.bool c.st) ∧ w.cell? ⟨x, 11, none⟩ = some (.bool c.ha) :=
  ⟨h.cell (i := 0) rfl, h.cell (i := 1) rfl, h.cell (i := 2) rfl, h.cell (i := 3) rfl, h.cell (i := 4) rfl, h.cell (i := 5) rfl, h.cell (i := 6) rfl, h.cell (i := 7) rfl, h.cell (i := 8) rfl, h.cell (i := 9) rfl, h.cell (i := 10) rfl, h.cell (i := 11) rfl⟩
set_option maxRecDepth 100000 in
set_option maxHeartbeats 4000000 in
theorem coreOf (w : World) (c : Pl.Cp) (a b e q : Option Addr) (ca cb ce cq : Nat) (ha : IRow w a c.r.xs) (hb : IRow w b c.r.ys) (he : IRow w e c.bx) (hq : IRow w q c.bl) (lx : c.r.xs.length = 4) (ly : c.r.ys.length = 4) (lb : c.bx.length = 512) (ll : c.bl.length = 5 * c.bm) (lm : c.bm ≤ 400) :
    Calls Tryz.prog 20 #[.agg #[.slice a c.r.xs.length ca, .slice b c.r.ys.length cb, .int .i64 c.r.o, .int .i64 c.r.p, .int .i64 c.r.f, .int .i64 c.r.m, .bool c.r.s, .bool c.r.t, .slice e c.bx.length ce, .slice q c.bm cq, .bool c.st, .bool c.ha]] w fun r w' => ∃ p g : Nat, r = .returned (.pointer (some ⟨p, 0, none⟩)) ∧ CAt w' w.heap.size p g (Pl.Mc.ofC c) c.ha ∧ Kept 0 0 w w' := by
  have K0 := hide (kept_alloc w (.cells #[.slice a c.r.xs.length ca, .slice b c.r.ys.length cb, .int .i64 c.r.o, .int .i64 c.r.p, .int .i64 c.r.f, .int .i64 c.r.m, .bool c.r.s, .bool c.r.t, .slice e c.bx.length ce, .slice q c.bm cq, .bool c.st, .bool c.ha] 44))
  have HBA := hide (Blk.new w #[.slice a c.r.xs.length ca, .slice b c.r.ys.length cb, .int .i64 c.r.o, .int .i64 c.r.p, .int .i64 c.r.f, .int .i64 c.r.m, .bool c.r.s, .bool c.r.t, .slice e c.bx.length ce, .slice q c.bm cq, .bool c.st, .bool c.ha] 44)
  obtain ⟨X, hX⟩ : ∃ X : World, w.alloc (.cells #[.slice a c.r.xs.length ca, .slice b c.r.ys.length cb, .int .i64 c.r.o, .int .i64 c.r.p, .int .i64 c.r.f, .int .i64 c.r.m, .bool c.r.s, .bool c.r.t, .slice e c.bx.length ce, .slice q c.bm cq, .bool c.st, .bool c.ha] 44) = X := ⟨_, rfl⟩
  rw [hX] at K0 HBA
  have HA := hide (ha.keptS K0.out)
  have HB := hide (hb.keptS K0.out)
  have HE := hide (he.keptS K0.out)
  have HQ := hide (hq.keptS K0.out)
  obtain ⟨CZ, L1, L2, bz, z1, z2, z3, z4, z5, z6, z7, z8⟩ := coreFill c.r c.bx c.bm c.st c.ha lb
  have LX := hide lx
  have LY := hide ly
  have LB := hide lb
  have LL := hide ll
  have LM := hide lm
  clear ha hb he hq lx ly lb ll lm
  obtain ⟨i0, i1, i2, i3, i4, i5, i6, i7, i8, i9, i10, i11⟩ := cpu12 HBA.out
  go_enter Tryz.func20, Tryz.ntmps20
  go_wp2_with fail
  clear hX
  go_region_held3 (fun w' => w'.cell? ⟨w.heap.size, 0, none⟩ = some (.slice a c.r.xs.length ca) ∧ w'.cell? ⟨w.heap.size, 1, none⟩ = some (.slice b c.r.ys.length cb) ∧ w'.cell? ⟨w.heap.size, 2, none⟩ = some (.int .i64 c.r.o) ∧ w'.cell? ⟨w.heap.size, 3, none⟩ = some (.int .i64 c.r.p) ∧ w'.cell? ⟨w.heap.size, 4, none⟩ = some (.int .i64 c.r.f) ∧ w'.cell? ⟨w.heap.size, 5, none⟩ = some (.int .i64 c.r.m) ∧ w'.cell? ⟨w.heap.size, 6, none⟩ = some (.bool c.r.s) ∧ w'.cell? ⟨w.heap.size, 7, none⟩ = some (.bool c.r.t) ∧ w'.cell? ⟨w.heap.size, 8, none⟩ = some (.slice e c.bx.length ce) ∧ w'.cell? ⟨w.heap.size, 9, none⟩ = some (.slice q c.bm cq) ∧ w'.cell? ⟨w.heap.size, 10, none⟩ = some (.bool c.st) ∧ w'.cell? ⟨w.heap.size, 11, none⟩ = some (.bool c.ha)) (first | exact cpu12 B4.out | exact cpu12 B3.out | exact cpu12 (show Blk _ _ _ _ from HBA.out) | exact cpu12 (B4.out.alloc _))
    (first | (go_at_call 39; have z9 := B3; refine (boardOf _ e q ce cq c.bm c.bx c.bl (HE.out.keptS K3.out) (HQ.out.keptS K3.out) LB.out LL.out LM.out).mono ?_; rintro e9 w4 ⟨g, rfl, hb4, hg4, k4⟩; have B4 := hide (B3.out.kept0 k4); have G4 := hide hb4; have L4 := hide hg4; have K4 := hide (K3.out.trans k4); clear hb4 hg4 k4) | (go_at_call 38; refine (bankOf _ c.r a b ca cb (HA.out.keptS (kept_drew (Kept.refl _ _ _))) (HB.out.keptS (kept_drew (Kept.refl _ _ _))) LX.out LY.out).mono ?_; rintro e9 w3 ⟨rfl, kd⟩; have k3 := undrewK kd; have B3 := hide (HBA.out.kept0 k3); have K3 := hide k3; clear kd k3))
  go_wp2_with fail
  go_ret
  have s0 := K0.out.size
  have s3 := K3.out.size
  have l4 := L4.out
  have g4 := G4.out.lt
  refine ⟨w4.heap.size, g, rfl, ⟨c.bm, Blk.new w4 _ _, ⟨own5_of_blk (G4.out.alloc _) LL.out (by omega) (show c.bm ≤ 2000000 by have := LM.out; omega), ?_, ?_⟩⟩, K0.out.trans (kept_new K4.out _)⟩
  · have := K4.out.size; omega
  · omega
end Go.Proofs.YtblddehlkaolbaaGreat

namespace Go.Proofs.YtblddehlkaolbaaGreat.Pl
set_option linter.unusedVariables false
def sameIn (a b : In) : Bool := (a.op == b.op) && ((a.z == b.z) && ((a.r == b.r) && ((a.m == b.m) && ((a.k == b.k) && ((a.e == b.e) && (a.s == b.s))))))
/-- it comes back from its words -/
def fits (x : In) : Bool := sameIn (decode (word1 x % 65536) x.e) x
def fitZ (x : In) : Bool := !(x.m == 7) || (!(x.z == 1) || within x.e 0 255)
theorem decode_e (w v : Int) : (decode w v).e = bif extM (w / 32 % 8) then v else 0 := by
  show (if longW w = 2 then v else 0) = _
  unfold longW
  cases extM (w / 32 % 8) <;> simp
theorem fits_iff (x : In) : fits x = true ↔ (0 ≤ x.op ∧ x.op ≤ 31) ∧ (1 ≤ x.z ∧ x.z ≤ 2) ∧ (0 ≤ x.r ∧ x.r ≤ 3) ∧ (0 ≤ x.m ∧ x.m ≤ 7) ∧ (0 ≤ x.k ∧ x.k ≤ 3) ∧ (0 ≤ x.s ∧ x.s ≤ 7) ∧ (extM x.m = false → x.e = 0) := by
  obtain ⟨op, z, r, m, k, e, s⟩ := x
  unfold fits
  have hW : word1 ⟨op, z, r, m, k, e, s⟩ % 65536 = (op * 2048 + (z - 1) * 1024 + r * 256 + m * 32 + k * 8 + s) % 65536 := rfl
  generalize word1 ⟨op, z, r, m, k, e, s⟩ % 65536 = W at hW
  unfold sameIn
  rw [decode_e]
  simp only [decode, Bool.and_eq_true, beq_iff_eq]
  constructor
  · rintro ⟨h1, h2, h3, h4, h5, h6, h7⟩
    refine ⟨⟨by omega, by omega⟩, ⟨by omega, by omega⟩, ⟨by omega, by omega⟩, ⟨by omega, by omega⟩, ⟨by omega, by omega⟩, ⟨by omega, by omega⟩, fun q => ?_⟩
    rw [h4, q] at h6
    simpa using h6.symm
  · rintro ⟨⟨a1, a2⟩, ⟨b1, b2⟩, ⟨c1, c2⟩, ⟨d1, d2⟩, ⟨e1, e2⟩, ⟨f1, f2⟩, g⟩
    have hm : W / 32 % 8 = m := by omega
    refine ⟨by omega, by omega, by omega, hm, by omega, ?_, by omega⟩
    rw [hm]
    cases q : extM m
    · rw [g q]; rfl
    · rfl
/-- what is asked one behind the other is what makes a good one -/
theorem ok_of_fits (x : In) : inOk x = (fits x && (opOk x.m x.k x.e && (fitZ x && inKind x))) := by
  cases hf : fits x
  · cases hq : inOk x
    · rfl
    · exfalso
      have h := modeR hq
      have : fits x = true := (fits_iff x).2 ⟨by omega, by omega, by omega, by omega, by omega, by omega, h.2.2.2.2.2.2.2.2.2.2.2.2.2⟩
      rw [hf] at this; cases this
  · obtain ⟨a, b, c, d, e, f, g⟩ := (fits_iff x).1 hf
    obtain ⟨op, z, r, m, k, e', s⟩ := x
    simp only at a b c d e f g
    unfold inOk inBase fitZ byteNow
    simp only
    have w1 : within r 0 3 = true := by simp [within]; omega
    have w2 : within s 0 7 = true := by simp [within]; omega
    have w3 : (decide (z = 1) || decide (z = 2)) = true := by simp; omega
    rw [w1, w2, w3]
    cases ho : opOk m k e'
    · simp
    · have : 0 ≤ e' := by simp [opOk, wordOk, within] at ho; omega
      have w4 : (!((m == 7) && (z == 1) && decide (255 < e'))) = (!(m == 7) || (!(z == 1) || within e' 0 255)) := by
        rw [Bool.eq_iff_iff]; simp [within]; omega
      rw [w4]
      simp
end Go.Proofs.YtblddehlkaolbaaGreat.Pl

namespace Go.Proofs.YtblddehlkaolbaaGreat
open Go.RowKit
set_option linter.unusedVariables false
theorem wayOf0 (k e : Int) (w : World) : Calls Tryz.prog 101 #[.agg #[.int .i64 0, .int .i64 k, .int .i64 e]] w fun r w' => r = .returned (.iface 140 (.agg #[.int .i64 k])) ∧ Kept 0 0 w w' := by
  go_enter Tryz.func101, Tryz.ntmps101
  go_wp2
  go_ret
  exact ⟨rfl, kept_alloc w _⟩
theorem wayOf1 (k e : Int) (w : World) : Calls Tryz.prog 101 #[.agg #[.int .i64 1, .int .i64 k, .int .i64 e]] w fun r w' => r = .returned (.iface 141 (.agg #[.int .i64 k])) ∧ Kept 0 0 w w' := by
  go_enter Tryz.func101, Tryz.ntmps101
  go_wp2
  go_ret
  exact ⟨rfl, kept_alloc w _⟩
theorem wayOf2 (k e : Int) (w : World) : Calls Tryz.prog 101 #[.agg #[.int .i64 2, .int .i64 k, .int .i64 e]] w fun r w' => r = .returned (.iface 142 (.agg #[.int .i64 k])) ∧ Kept 0 0 w w' := by
  go_enter Tryz.func101, Tryz.ntmps101
  go_wp2
  go_ret
  exact ⟨rfl, kept_alloc w _⟩
theorem wayOf3 (k e : Int) (w : World) : Calls Tryz.prog 101 #[.agg #[.int .i64 3, .int .i64 k, .int .i64 e]] w fun r w' => r = .returned (.iface 143 (.agg #[.int .i64 k])) ∧ Kept 0 0 w w' := by
  go_enter Tryz.func101, Tryz.ntmps101
  go_wp2
  go_ret
  exact ⟨rfl, kept_alloc w _⟩
theorem wayOf4 (k e : Int) (w : World) : Calls Tryz.prog 101 #[.agg #[.int .i64 4, .int .i64 k, .int .i64 e]] w fun r w' => r = .returned (.iface 144 (.agg #[.int .i64 k])) ∧ Kept 0 0 w w' := by
  go_enter Tryz.func101, Tryz.ntmps101
  go_wp2
  go_ret
  exact ⟨rfl, kept_alloc w _⟩
theorem wayOf5 (k e : Int) (w : World) : Calls Tryz.prog 101 #[.agg #[.int .i64 5, .int .i64 k, .int .i64 e]] w fun r w' => r = .returned (.iface 146 (.agg #[.int .i64 k, .int .i64 e])) ∧ Kept 0 0 w w' := by
  go_enter Tryz.func101, Tryz.ntmps101
  go_wp2
  go_ret
  exact ⟨rfl, kept_alloc w _⟩
theorem wayOf6 (k e : Int) (w : World) : Calls Tryz.prog 101 #[.agg #[.int .i64 6, .int .i64 k, .int .i64 e]] w fun r w' => r = .returned (.iface 148 (.agg #[.int .i64 e])) ∧ Kept 0 0 w w' := by
  go_enter Tryz.func101, Tryz.ntmps101
  go_wp2
  go_ret
  exact ⟨rfl, kept_alloc w _⟩
theorem wayOf7 (k e : Int) (w : World) : Calls Tryz.prog 101 #[.agg #[.int .i64 7, .int .i64 k, .int .i64 e]] w fun r w' => r = .returned (.iface 149 (.agg #[.int .i64 e])) ∧ Kept 0 0 w w' := by
  go_enter Tryz.func101, Tryz.ntmps101
  go_wp2
  go_ret
  exact ⟨rfl, kept_alloc w _⟩
theorem wayOfNo (m k e : Int) (w : World) (h : Pl.modeOk m = false) : Calls Tryz.prog 101 #[.agg #[.int .i64 m, .int .i64 k, .int .i64 e]] w fun r w' => r = .returned .nilIface ∧ Kept 0 0 w w' := by
  obtain ⟨n0, n1, n2, n3, n4, n5, n6, n7⟩ : ¬ m = 0 ∧ ¬ m = 1 ∧ ¬ m = 2 ∧ ¬ m = 3 ∧ ¬ m = 4 ∧ ¬ m = 5 ∧ ¬ m = 6 ∧ ¬ m = 7 := by
    simp [Pl.modeOk, Pl.within] at h
    omega
  go_enter Tryz.func101, Tryz.ntmps101
  go_wp2
  go_ret
  exact ⟨rfl, kept_alloc w _⟩
theorem operand0 (k e : Int) (w : World) : Calls Tryz.prog 128 #[.agg #[.int .i64 k]] w fun r w' => r = .returned (.agg #[.int .i64 0, .int .i64 k, .int .i64 0]) ∧ Kept 0 0 w w' := by
  go_enter Tryz.func128, Tryz.ntmps128
  go_wp2
  refine bodyPost_ret (v := .agg #[.int .i64 0, .int .i64 k, .int .i64 0]) ?_ rfl ⟨rfl, kept_new (kept_alloc w _) _⟩
  rw [results_one rfl]; go_simp
theorem operand1 (k e : Int) (w : World) : Calls Tryz.prog 129 #[.agg #[.int .i64 k]] w fun r w' => r = .returned (.agg #[.int .i64 1, .int .i64 k, .int .i64 0]) ∧ Kept 0 0 w w' := by
  go_enter Tryz.func129, Tryz.ntmps129
  go_wp2
  refine bodyPost_ret (v := .agg #[.int .i64 1, .int .i64 k, .int .i64 0]) ?_ rfl ⟨rfl, kept_new (kept_alloc w _) _⟩
  rw [results_one rfl]; go_simp
theorem operand2 (k e : Int) (w : World) : Calls Tryz.prog 130 #[.agg #[.int .i64 k]] w fun r w' => r = .returned (.agg #[.int .i64 2, .int .i64 k, .int .i64 0]) ∧ Kept 0 0 w w' := by
  go_enter Tryz.func130, Tryz.ntmps130
  go_wp2
  refine bodyPost_ret (v := .agg #[.int .i64 2, .int .i64 k, .int .i64 0]) ?_ rfl ⟨rfl, kept_new (kept_alloc w _) _⟩
  rw [results_one rfl]; go_simp
theorem operand3 (k e : Int) (w : World) : Calls Tryz.prog 131 #[.agg #[.int .i64 k]] w fun r w' => r = .returned (.agg #[.int .i64 3, .int .i64 k, .int .i64 0]) ∧ Kept 0 0 w w' := by
  go_enter Tryz.func131, Tryz.ntmps131
  go_wp2
  refine bodyPost_ret (v := .agg #[.int .i64 3, .int .i64 k, .int .i64 0]) ?_ rfl ⟨rfl, kept_new (kept_alloc w _) _⟩
  rw [results_one rfl]; go_simp
theorem operand4 (k e : Int) (w : World) : Calls Tryz.prog 132 #[.agg #[.int .i64 k]] w fun r w' => r = .returned (.agg #[.int .i64 4, .int .i64 k, .int .i64 0]) ∧ Kept 0 0 w w' := by
  go_enter Tryz.func132, Tryz.ntmps132
  go_wp2
  refine bodyPost_ret (v := .agg #[.int .i64 4, .int .i64 k, .int .i64 0]) ?_ rfl ⟨rfl, kept_new (kept_alloc w _) _⟩
  rw [results_one rfl]; go_simp
theorem operand5 (k e : Int) (w : World) : Calls Tryz.prog 133 #[.agg #[.int .i64 k, .int .i64 e]] w fun r w' => r = .returned (.agg #[.int .i64 5, .int .i64 k, .int .i64 e]) ∧ Kept 0 0 w w' := by
  go_enter Tryz.func133, Tryz.ntmps133
  go_wp2
  refine bodyPost_ret (v := .agg #[.int .i64 5, .int .i64 k, .int .i64 e]) ?_ rfl ⟨rfl, kept_new (kept_alloc w _) _⟩
  rw [results_one rfl]; go_simp
theorem operand6 (k e : Int) (w : World) : Calls Tryz.prog 134 #[.agg #[.int .i64 e]] w fun r w' => r = .returned (.agg #[.int .i64 6, .int .i64 0, .int .i64 e]) ∧ Kept 0 0 w w' := by
  go_enter Tryz.func134, Tryz.ntmps134
  go_wp2
  refine bodyPost_ret (v := .agg #[.int .i64 6, .int .i64 0, .int .i64 e]) ?_ rfl ⟨rfl, kept_new (kept_alloc w _) _⟩
  rw [results_one rfl]; go_simp
theorem operand7 (k e : Int) (w : World) : Calls Tryz.prog 135 #[.agg #[.int .i64 e]] w fun r w' => r = .returned (.agg #[.int .i64 7, .int .i64 0, .int .i64 e]) ∧ Kept 0 0 w w' := by
  go_enter Tryz.func135, Tryz.ntmps135
  go_wp2
  refine bodyPost_ret (v := .agg #[.int .i64 7, .int .i64 0, .int .i64 e]) ?_ rfl ⟨rfl, kept_new (kept_alloc w _) _⟩
  rw [results_one rfl]; go_simp
theorem fn0 (a : Array Value) (w : World) : (callFunc 128 a).run Tryz.prog w = .ok (.enter 128 a) w := by kernel_rfl
theorem meth0 (v : Value) (w : World) : (method 268 140 v "loop.example/g00389/impl.operand").run Tryz.prog w = .ok (128, v) w := by kernel_rfl
theorem fn1 (a : Array Value) (w : World) : (callFunc 129 a).run Tryz.prog w = .ok (.enter 129 a) w := by kernel_rfl
theorem meth1 (v : Value) (w : World) : (method 268 141 v "loop.example/g00389/impl.operand").run Tryz.prog w = .ok (129, v) w := by kernel_rfl
theorem fn2 (a : Array Value) (w : World) : (callFunc 130 a).run Tryz.prog w = .ok (.enter 130 a) w := by kernel_rfl
theorem meth2 (v : Value) (w : World) : (method 268 142 v "loop.example/g00389/impl.operand").run Tryz.prog w = .ok (130, v) w := by kernel_rfl
theorem fn3 (a : Array Value) (w : World) : (callFunc 131 a).run Tryz.prog w = .ok (.enter 131 a) w := by kernel_rfl
theorem meth3 (v : Value) (w : World) : (method 268 143 v "loop.example/g00389/impl.operand").run Tryz.prog w = .ok (131, v) w := by kernel_rfl
theorem fn4 (a : Array Value) (w : World) : (callFunc 132 a).run Tryz.prog w = .ok (.enter 132 a) w := by kernel_rfl
theorem meth4 (v : Value) (w : World) : (method 268 144 v "loop.example/g00389/impl.operand").run Tryz.prog w = .ok (132, v) w := by kernel_rfl
theorem fn5 (a : Array Value) (w : World) : (callFunc 133 a).run Tryz.prog w = .ok (.enter 133 a) w := by kernel_rfl
theorem meth5 (v : Value) (w : World) : (method 268 146 v "loop.example/g00389/impl.operand").run Tryz.prog w = .ok (133, v) w := by kernel_rfl
theorem fn6 (a : Array Value) (w : World) : (callFunc 134 a).run Tryz.prog w = .ok (.enter 134 a) w := by kernel_rfl
theorem meth6 (v : Value) (w : World) : (method 268 148 v "loop.example/g00389/impl.operand").run Tryz.prog w = .ok (134, v) w := by kernel_rfl
theorem fn7 (a : Array Value) (w : World) : (callFunc 135 a).run Tryz.prog w = .ok (.enter 135 a) w := by kernel_rfl
theorem meth7 (v : Value) (w : World) : (method 268 149 v "loop.example/g00389/impl.operand").run Tryz.prog w = .ok (135, v) w := by kernel_rfl
end Go.Proofs.YtblddehlkaolbaaGreat

namespace Go.Proofs.YtblddehlkaolbaaGreat
open Go.RowKit
set_option linter.unusedVariables false

/-- operation k of the region waits for operation j -/
def waitsB (md : Region.Mode) (ops : Array Oper) (i k : Nat) : Bool := ((ops[i]?).map fun o => o.after.any fun e => Region.binds md e && e.on == k).getD false
theorem ready_new {md : Region.Mode} {ops : Array Oper} {l : Array Bool} {i : Nat} (h : i ∈ Region.ready md ops l) : i < ops.size ∧ l.getD i true = false := by
  unfold Region.ready at h
  rw [List.mem_filter, Bool.and_eq_true] at h
  refine ⟨List.mem_range.1 h.1, ?_⟩
  have := h.2.1
  revert this
  cases l.getD i true <;> simp
theorem getD_true {l : Array Bool} {k : Nat} (h : l.getD k false = true) : l.getD k true = true := by
  unfold Array.getD at *
  split
  · rename_i hk; simpa [hk] using h
  · rfl
theorem ready_dep {md : Region.Mode} {ops : Array Oper} {l : Array Bool} {i : Nat} (h : i ∈ Region.ready md ops l) (k : Nat) (hk : waitsB md ops i k = true) : l.getD k true = true := by
  unfold Region.ready at h
  rw [List.mem_filter, Bool.and_eq_true] at h
  have h2 := h.2.2
  unfold waitsB at hk
  cases ho : ops[i]? with
  | none => rw [ho] at hk; simp at hk
  | some o =>
    rw [ho] at hk h2
    simp only [Option.map_some, Option.getD_some] at hk h2
    rw [Array.any_eq_true'] at hk
    obtain ⟨e, he, hb⟩ := hk
    rw [Array.all_eq_true'] at h2
    have h3 := h2 e he
    rw [Bool.and_eq_true] at hb
    rw [hb.1] at h3
    have h4 : e.on = k := by simpa using hb.2
    rw [h4] at h3
    exact getD_true (by simpa using h3)
theorem filter_lt {xs : List Nat} {p q : Nat → Bool} (hpq : ∀ x, q x = true → p x = true) {i : Nat} (hi : i ∈ xs) (hp : p i = true) (hq : q i = false) : (xs.filter q).length < (xs.filter p).length := by
  induction xs with
  | nil => cases hi
  | cons x t ih =>
    have hle : (t.filter q).length ≤ (t.filter p).length := by
      clear ih hi
      induction t with
      | nil => simp
      | cons y t ih =>
        cases h1 : q y
        · cases h2 : p y <;> simp [h1, h2] <;> omega
        · simp [h1, hpq y h1]; exact ih
    rcases List.mem_cons.1 hi with rfl | hi
    · simp [hp, hq]; omega
    · have := ih hi
      cases h1 : q x
      · cases h2 : p x <;> simp [h1, h2] <;> omega
      · simp [h1, hpq x h1]; exact this
theorem getD_set_ne {l : Array Bool} {i j : Nat} (h : j ≠ i) : (l.setIfInBounds i true).getD j true = l.getD j true := by
  simp only [Array.getD_eq_getD_getElem?]
  rw [Array.getElem?_setIfInBounds_ne (Ne.symm h)]
theorem getD_set_eq {l : Array Bool} {i : Nat} : (l.setIfInBounds i true).getD i true = true := by
  simp only [Array.getD_eq_getD_getElem?, Array.getElem?_setIfInBounds]
  split
  · split <;> rfl
  · rename_i h; exact absurd trivial h

theorem wpAny_inv {P : Program} {md : Region.Mode} {ops : Array Oper} {Q : Exit → Act → World → Prop} {I : Array Bool → Act → World → Prop}
    (hfin : ∀ l a w, l.size = ops.size → I l a w → Region.ready md ops l = [] → Q .normal a w)
    (hstep : ∀ l a w i, I l a w → i ∈ Region.ready md ops l → wpOp P ops Q i (I (l.setIfInBounds i true)) a w) :
    ∀ (fuel : Nat) (l : Array Bool) (a : Act) (w : World), l.size = ops.size → ((List.range ops.size).filter fun i => !l.getD i true).length ≤ fuel → I l a w → wpAny P md ops Q fuel l a w := by
  intro fuel
  induction fuel with
  | zero =>
    intro l a w hz hn hI
    have h0 : Region.ready md ops l = [] := by
      cases hr : Region.ready md ops l with
      | nil => rfl
      | cons i t =>
        exfalso
        have hi : i ∈ Region.ready md ops l := by rw [hr]; simp
        obtain ⟨h1, h2⟩ := ready_new hi
        have : i ∈ (List.range ops.size).filter fun i => !l.getD i true := List.mem_filter.2 ⟨List.mem_range.2 h1, by rw [h2]; rfl⟩
        have := List.length_pos_of_mem this
        omega
    exact ⟨h0, hfin l a w hz hI h0⟩
  | succ n ih =>
    intro l a w hz hn hI
    refine ⟨fun h0 => hfin l a w hz hI h0, fun i hi => ?_⟩
    refine wpOp_mono (fun a' w' h' => ih _ a' w' (by simp [hz]) ?_ h') (hstep l a w i hI hi)
    obtain ⟨h1, h2⟩ := ready_new hi
    have := filter_lt (xs := List.range ops.size) (p := fun j => !l.getD j true) (q := fun j => !(l.setIfInBounds i true).getD j true) (i := i) (by
      intro x hx
      by_cases e : x = i
      · subst e; rw [h2]; rfl
      · rw [getD_set_ne e] at hx; exact hx) (List.mem_range.2 h1) (by rw [h2]; rfl) (by rw [getD_set_eq]; rfl)
    omega

/-- an operation waits for earlier ones alone -/
def lowB (md : Region.Mode) (ops : Array Oper) : Bool := (List.range ops.size).all fun i => ((ops[i]?).map fun o => o.after.all fun e => !Region.binds md e || decide (e.on < i)).getD true
theorem ready_none {md : Region.Mode} {ops : Array Oper} {l : Array Bool} (hz : l.size = ops.size) (hB : lowB md ops = true) (h0 : Region.ready md ops l = []) : ∀ i, i < ops.size → l.getD i true = true := by
  intro i
  induction i using Nat.strongRecOn with
  | ind i ih =>
    intro hi
    cases hl : l.getD i true
    · exfalso
      have hm : i ∈ Region.ready md ops l := by
        unfold Region.ready
        rw [List.mem_filter, Bool.and_eq_true]
        refine ⟨List.mem_range.2 hi, by rw [hl]; rfl, ?_⟩
        have hb := List.all_eq_true.1 hB i (List.mem_range.2 hi)
        rw [Array.getElem?_eq_getElem hi] at hb ⊢
        simp only [Option.map_some, Option.getD_some] at hb ⊢
        rw [Array.all_eq_true'] at hb ⊢
        intro e he
        have h1 := hb e he
        rw [Bool.or_eq_true] at h1 ⊢
        rcases h1 with h1 | h1
        · exact .inl h1
        · have h2 : e.on < i := by simpa using h1
          have h3 := ih e.on h2 (by omega)
          refine .inr ?_
          unfold Array.getD at h3 ⊢
          split
          · rename_i hk; simpa [hk] using h3
          · rename_i hk; omega
      rw [h0] at hm
      cases hm
    · rfl
theorem wp_region_inv {P : Program} {ops : Array Oper} {Q : Exit → Act → World → Prop} {id : Nat} {a : Act} {w : World} (I : Array Bool → Act → World → Prop) (hm : P.follows .mixedOrders = true) (hB : lowB .any ops = true)
    (hstart : I (Array.replicate ops.size false) a w.drew)
    (hfin : ∀ l a w, I l a w → (∀ i, i < ops.size → l.getD i true = true) → Q .normal a w)
    (hstep : ∀ l a w i, I l a w → i ∈ Region.ready .any ops l → wpOp P ops Q i (I (l.setIfInBounds i true)) a w) :
    (Code.region id ops true).wp P Q a w := by
  refine wp_region_any hm (wpAny_inv (I := I) (fun l a w hz h h0 => hfin l a w h (ready_none hz hB h0)) hstep _ _ _ _ (by simp) ?_ hstart)
  exact Nat.le_trans (List.length_filter_le _ _) (by simp)

/-- what holds once operation i has come up -/
def Once (l : Array Bool) (i : Nat) (p : Prop) : Prop := l.getD i true = true → p
theorem Once.past {l : Array Bool} {i j : Nat} {p q : Prop} (h : Once l j p) (hn : j ≠ i) (hp : p → q) : Once (l.setIfInBounds i true) j q := fun e => hp (h (by rwa [getD_set_ne hn] at e))
theorem Once.now {l : Array Bool} {i j : Nat} {p : Prop} (h : p) : Once (l.setIfInBounds i true) j p := fun _ => h
theorem once_start {n i : Nat} {p : Prop} (hi : i < n) : Once (Array.replicate n false) i p := by
  intro e
  simp [Array.getD_eq_getD_getElem?, hi] at e
theorem start_at {n i : Nat} (hi : i < n) : (Array.replicate n false).getD i true = false := by
  simp [Array.getD_eq_getD_getElem?, hi]
end Go.Proofs.YtblddehlkaolbaaGreat

namespace Go.Proofs.YtblddehlkaolbaaGreat
open Go.RowKit
set_option linter.unusedVariables false

/-- the frame A is A0 but for these slots -/
structure FR (SL : List Nat) (A0 A : Act) : Prop where
  size : A.tmps.size = A0.tmps.size
  defers : A.defers = A0.defers
  out : ∀ k, k ∉ SL → A.tmps[k]? = A0.tmps[k]?
theorem FR.refl (SL : List Nat) (A : Act) : FR SL A A := ⟨rfl, rfl, fun _ _ => rfl⟩
theorem put_ne {A : Act} {j k : Nat} {v : Value} (h : k ≠ j) : (A.put (some j) v).tmps[k]? = A.tmps[k]? := by
  show (A.tmps.setIfInBounds j v)[k]? = _
  rw [Array.getElem?_setIfInBounds_ne (Ne.symm h)]
theorem put_eq {A : Act} {k : Nat} {v : Value} (h : k < A.tmps.size) : (A.put (some k) v).tmps[k]? = some v := by
  show (A.tmps.setIfInBounds k v)[k]? = _
  rw [Array.getElem?_setIfInBounds]
  simp [h]
theorem FR.put {SL : List Nat} {A0 A : Act} (h : FR SL A0 A) {k : Nat} (hk : k ∈ SL) (v : Value) : FR SL A0 (A.put (some k) v) := by
  refine ⟨?_, h.defers, fun j hj => ?_⟩
  · show (A.tmps.setIfInBounds k v).size = _
    rw [Array.size_setIfInBounds]; exact h.size
  · rw [put_ne (fun e => hj (by rw [e]; exact hk))]; exact h.out j hj
theorem act_ext {A B : Act} (hs : A.tmps.size = B.tmps.size) (hd : A.defers = B.defers) (h : ∀ k : Nat, A.tmps[k]? = B.tmps[k]?) : A = B := by
  cases A; cases B
  simp only at hs hd h
  subst hd
  congr 1
  exact Array.ext_getElem? h
theorem chain_of {A : Act} : ∀ (SL : List Nat) (B : Act), A.tmps.size = B.tmps.size → A.defers = B.defers → (∀ k, k ∉ SL → A.tmps[k]? = B.tmps[k]?) → A = SL.foldl (fun a k => a.put (some k) (A.tmps.getD k undef)) B
  | [], B, hs, hd, h => act_ext hs hd (fun k => h k (by simp))
  | k :: t, B, hs, hd, h => by
    refine chain_of t (B.put (some k) (A.tmps.getD k undef)) ?_ hd (fun j hj => ?_)
    · show _ = (B.tmps.setIfInBounds k _).size
      rw [Array.size_setIfInBounds]; exact hs
    · by_cases e : j = k
      · subst e
        by_cases hb : j < B.tmps.size
        · rw [put_eq hb]
          have : j < A.tmps.size := by omega
          rw [Array.getElem?_eq_getElem this]
          simp [Array.getD_eq_getD_getElem?, this]
        · show _ = (B.tmps.setIfInBounds j _)[j]?
          rw [Array.getElem?_eq_none (by omega), Array.getElem?_eq_none (by rw [Array.size_setIfInBounds]; omega)]
      · rw [put_ne e]
        exact h j (by simp [e, hj])
theorem FR.chain {SL : List Nat} {A0 A : Act} (h : FR SL A0 A) : A = SL.foldl (fun a k => a.put (some k) (A.tmps.getD k undef)) A0 := chain_of SL A0 h.size h.defers h.out
theorem getD_of {A : Act} {k : Nat} {v : Value} (h : A.tmps[k]? = some v) : A.tmps.getD k undef = v := by
  rw [Array.getD_eq_getD_getElem?, h]; rfl
theorem wp_region_inv2 {P : Program} {ops : Array Oper} {Q : Exit → Act → World → Prop} {id : Nat} {a : Act} {w : World} (I : Act → Array Bool → Act → World → Prop) (hm : P.follows .mixedOrders = true) (hB : lowB .any ops = true)
    (hstart : I a (Array.replicate ops.size false) a w.drew)
    (hfin : ∀ l A w, I a l A w → (∀ i, i < ops.size → l.getD i true = true) → Q .normal A w)
    (hstep : ∀ l A w i, I a l A w → i ∈ Region.ready .any ops l → wpOp P ops Q i (I a (l.setIfInBounds i true)) A w) :
    (Code.region id ops true).wp P Q a w := wp_region_inv (I a) hm hB hstart hfin hstep
end Go.Proofs.YtblddehlkaolbaaGreat

