/- What the program's access, push and pop answer, of a processor that is worked on. What the program's push and pop answer, of a processor that is worked on. What the program's functions of an access answer: its code; a value laid into the bytes. What the program's functions over a board answer: a bus opened onto it and shut again. What the program's bank answers for registers, status. A processor opened to be worked on, and shut again. What the program's GoodCpu answers, for every processor. -/
import Derived.Test.YtblddehlkaolbaaJO8
import Derived.Test.YtblddehlkaolbaaJO7
import Derived.Test.YtblddehlkaolbaaJO5
import Derived.Test.YtblddehlkaolbaaJO3
import Derived.Test.YtblddehlkaolbaaJO1
import Derived.Deep.QuietTactic
import Derived.Deep.RegionHeld3
import Derived.BigQuiet
import Derived.Test.YtblddehlkaolbaaJO2
namespace Go.Proofs.Ytblddehlkaolbaa
open Go.RowKit
set_option linter.unusedVariables false
theorem isFault (f : Pl.Ft) (w : World) : Calls Try.prog 53 #[.agg #[.int .i64 f.v, .int .i64 f.pc, .int .i64 f.ad, .int .i64 f.wo, .bool f.wr]] w fun e w' => e = .returned (.bool (f.v != 0)) ∧ Kept 0 0 w w' := by
  go_enter Try.func53, Try.ntmps53
  go_wp2
  go_ret
  exact ⟨rfl, kept_alloc _ _⟩
theorem acc5 {w : World} {q : Nat} {k s a v c : Int} {ty : TypeId} (h : Blk w q #[.int .i64 k, .int .i64 s, .int .i64 a, .int .i64 v, .int .i64 c] ty) : w.cell? ⟨q, 0, none⟩ = some (.int .i64 k) ∧ w.cell? ⟨q, 1, none⟩ = some (.int .i64 s) ∧ w.cell? ⟨q, 2, none⟩ = some (.int .i64 a) ∧ w.cell? ⟨q, 3, none⟩ = some (.int .i64 v) ∧ w.cell? ⟨q, 4, none⟩ = some (.int .i64 c) :=
  ⟨h.cell (i := 0) rfl, h.cell (i := 1) rfl, h.cell (i := 2) rfl, h.cell (i := 3) rfl, h.cell (i := 4) rfl⟩
set_option maxRecDepth 100000 in
set_option maxHeartbeats 4000000 in
theorem cAccess (w : World) (lo b g : Nat) (c : Pl.Mc) (h : Bool) (k s a v : Int) (hC : CAt w lo b g c h) (G : Pl.GM c) (hask : Pl.askOk k s a v = true) (V : Int) (HV : Hid (V = if k = 2 then 0 else Pl.lv c.bx k s a v)) (F : Pl.Ft) (HF : Hid (F = Pl.Mc.accF Pl.ftNo k s a)) :
    Calls Try.prog 85 #[.pointer (some ⟨b, 0, none⟩), .agg #[.int .i64 k, .int .i64 s, .int .i64 a, .int .i64 v, .int .i64 0]] w fun e w' => ∃ g', e = .returned (.tuple #[.int .i64 V, .agg (ftC F)]) ∧ CAt w' lo b g' (c.acc k s a v) h ∧ Since w b (b + 1) g w' g' := by
  obtain ⟨l0, l1, l2, l3, l4⟩ := hC.lt
  have HC := hide ((hC.alloc (.cells #[.int .i64 k, .int .i64 s, .int .i64 a, .int .i64 v, .int .i64 0] 91)).alloc (.cells (ftC Pl.ftNo) 76))
  have A0 := hide ((Blk.new w #[.int .i64 k, .int .i64 s, .int .i64 a, .int .i64 v, .int .i64 0] 91).alloc (.cells (ftC Pl.ftNo) 76))
  have F0 := Blk.new (w.alloc (.cells #[.int .i64 k, .int .i64 s, .int .i64 a, .int .i64 v, .int .i64 0] 91)) (ftC Pl.ftNo) 76
  simp only [World.size_alloc] at F0
  replace F0 := hide F0
  have K0 := hide (kept_new (kept_alloc w (.cells #[.int .i64 k, .int .i64 s, .int .i64 a, .int .i64 v, .int .i64 0] 91)) (.cells (ftC Pl.ftNo) 76))
  have HG := hide G
  have HASK := hide hask
  clear hC G hask
  obtain ⟨X, hX⟩ : ∃ X : World, (w.alloc (.cells #[.int .i64 k, .int .i64 s, .int .i64 a, .int .i64 v, .int .i64 0] 91)).alloc (.cells (ftC Pl.ftNo) 76) = X := ⟨_, rfl⟩
  rw [hX] at HC A0 F0 K0
  obtain ⟨a0, a1, a2, a3, a4⟩ := acc5 A0.out
  have hX' : (w.alloc (.cells #[.int .i64 k, .int .i64 s, .int .i64 a, .int .i64 v, .int .i64 0] 91)).alloc (.cells #[.int .i64 0, .int .i64 0, .int .i64 0, .int .i64 0, .bool false] 76) = X := hX
  clear hX
  go_enter Try.func85, Try.ntmps85
  go_wp2_with fail
  clear hX'
  go_region_held3 (fun w' => w'.cell? ⟨w.heap.size, 0, none⟩ = some (.int .i64 k) ∧ w'.cell? ⟨w.heap.size, 1, none⟩ = some (.int .i64 s) ∧ w'.cell? ⟨w.heap.size, 2, none⟩ = some (.int .i64 a) ∧ w'.cell? ⟨w.heap.size, 3, none⟩ = some (.int .i64 v) ∧ w'.cell? ⟨w.heap.size, 4, none⟩ = some (.int .i64 0)) (first | exact acc5 A3.out | exact acc5 (show Blk _ _ _ _ from A0.out) | go_keep)
    (first | (go_at_call 99; refine (cTouchC _ lo b g c h k s a v V HC.out.drew HG.out HASK.out HV).mono ?_; rintro e w3 ⟨g', rfl, hc3, hs3⟩; have C3 := hide hc3; have S3 := hide (((Since.refl w b (b + 1) g).any (kept_drew K0.out)).trans hs3); have A3 := hide (hs3.blk (show Blk X.drew _ _ _ from A0.out) (by omega) (by omega)); have F3 := hide (hs3.blk (show Blk X.drew _ _ _ from F0.out) (by omega) (by omega)); have n3 := hs3.ne (b := w.heap.size + 1) F0.out.lt (by omega); clear hc3 hs3))
  clear a0 a1 a2 a3 a4
  obtain ⟨a0, a1, a2, a3, a4⟩ := acc5 A3.out
  have p := (show Blk w3 (w.heap.size + 1) #[.int .i64 0, .int .i64 0, .int .i64 0, .int .i64 0, .bool false] 76 from F3.out).all
  have z := F3.out.fz
  obtain ⟨C, hCd⟩ : ∃ C, C = Pl.code k s a := ⟨_, rfl⟩
  rw [← hCd]
  unfold Pl.Mc.accF at HF
  rw [← hCd] at HF
  have V0 : Hid (¬ C = 0 → V = 0) := hide (by
    intro hn
    rw [HV.out]
    split
    · rfl
    · rename_i h2
      obtain ⟨_, _, _, _, h5⟩ := Pl.ask_ok HASK.out
      rw [show v = 0 by omega]
      unfold Pl.lv
      rw [if_neg (by rw [← hCd]; exact fun q => hn q.1)])
  clear hCd HV
  cases h0 : (C == 0)
  · have EV := hide (V0.out (by simpa using h0))
    have e1 : (C != 0) = true := by simpa using h0
    rw [e1] at HF
    cases h2 : (C == 2)
    · rw [h2] at HF
      have q : F = ⟨2, 0, a, 0, k == 2⟩ := HF.out
      subst q
      clear HF e1
      go_wp2_with fail
      go_region
      go_wp2_with fail
      have K5 := kept_drew (((((kept_one w3 (w.heap.size + 1) 0 (.int .i64 2)).one 1 (.int .i64 0)).one 2 (.int .i64 a)).one 3 (.int .i64 0)).one 4 (.bool (k == 2)))
      refine bodyPost_ret (v := .tuple #[.int .i64 0, .agg #[.int .i64 2, .int .i64 0, .int .i64 a, .int .i64 0, .bool (k == 2)]]) ?_ rfl ⟨g', by rw [EV.out]; rfl, C3.out.kept K5 (by omega) (by omega), S3.out.mine K5 (by omega)⟩
      rw [results_tc rfl]; go_simp
    · rw [h2] at HF
      have q : F = ⟨3, 0, a, 0, k == 2⟩ := HF.out
      subst q
      clear HF e1
      go_wp2_with fail
      go_region
      go_wp2_with fail
      have K5 := kept_drew (((((kept_one w3 (w.heap.size + 1) 0 (.int .i64 3)).one 1 (.int .i64 0)).one 2 (.int .i64 a)).one 3 (.int .i64 0)).one 4 (.bool (k == 2)))
      refine bodyPost_ret (v := .tuple #[.int .i64 0, .agg #[.int .i64 3, .int .i64 0, .int .i64 a, .int .i64 0, .bool (k == 2)]]) ?_ rfl ⟨g', by rw [EV.out]; rfl, C3.out.kept K5 (by omega) (by omega), S3.out.mine K5 (by omega)⟩
      rw [results_tc rfl]; go_simp
  · have e1 : (C != 0) = false := by simpa using h0
    rw [e1] at HF
    have q : F = Pl.ftNo := HF.out
    subst q
    clear HF e1
    go_wp2_with fail
    have K5 := ((((kept_one w3 (w.heap.size + 1) 0 (.int .i64 0)).one 1 (.int .i64 0)).one 2 (.int .i64 0)).one 3 (.int .i64 0)).one 4 (.bool false)
    refine bodyPost_ret (v := .tuple #[.int .i64 V, .agg #[.int .i64 0, .int .i64 0, .int .i64 0, .int .i64 0, .bool false]]) ?_ rfl ⟨g', rfl, C3.out.kept K5 (by omega) (by omega), S3.out.mine K5 (by omega)⟩
    rw [results_tc rfl]; go_simp
end Go.Proofs.Ytblddehlkaolbaa

namespace Go.Proofs.Ytblddehlkaolbaa
open Go.RowKit
set_option linter.unusedVariables false
set_option maxRecDepth 100000 in
set_option maxHeartbeats 4000000 in
theorem cPop (w : World) (lo b g : Nat) (c : Pl.Mc) (h : Bool) (hC : CAt w lo b g c h) (G : Pl.GM c) (hf : c.f = Pl.ftNo) :
    Calls Try.prog 55 #[.pointer (some ⟨b, 0, none⟩)] w fun e w' => ∃ g', e = .returned (.tuple #[.int .i64 c.popV, .agg (ftC c.pop.f)]) ∧ CAt w' lo b g' (c.pop) h ∧ Since w b (b + 1) g w' g' := by
  obtain ⟨l0, l1, l2, l3, l4⟩ := hC.lt
  obtain ⟨a30, a31⟩ := G.g.aw 3 (by omega)
  have h4 := hide G.g.a4
  have HG := hide G
  have C0 := hide (hC.alloc (.cells #[.int .i64 0, .int .i64 0, .int .i64 0, .int .i64 0, .bool false] 76))
  have R0 := hide (Blk.new w #[.int .i64 0, .int .i64 0, .int .i64 0, .int .i64 0, .bool false] 76)
  have K0 := hide (kept_alloc w (.cells #[.int .i64 0, .int .i64 0, .int .i64 0, .int .i64 0, .bool false] 76))
  obtain ⟨X, hX⟩ : ∃ X : World, w.alloc (.cells #[.int .i64 0, .int .i64 0, .int .i64 0, .int .i64 0, .bool false] 76) = X := ⟨_, rfl⟩
  rw [hX] at C0 R0 K0
  have x7 : X.cell? ⟨b, 7, none⟩ = some (.int .i64 (el c.r.ys 3)) := C0.out.cY (k := 3) (by omega)
  clear hC G
  have HA := hide (Pl.ask_read (k := 1) (.inl rfl) a30 a31)
  obtain ⟨F, hF⟩ : ∃ F, F = Pl.Mc.accF Pl.ftNo 1 2 (el c.r.ys 3) := ⟨_, rfl⟩
  have HF := hide hF
  have EF : Hid ((c.acc 1 2 (el c.r.ys 3) 0).f = F) := hide (by show Pl.Mc.accF c.f 1 2 _ = F; rw [hf, hF])
  obtain ⟨V, hV⟩ : ∃ V, V = c.popV := ⟨_, rfl⟩
  have HV : Hid (V = if (1 : Int) = 2 then 0 else Pl.lv c.bx 1 2 (el c.r.ys 3) 0) := hide hV
  rw [← hV]
  clear hF hV
  cases hv : (F.v != 0)
  · have E : Hid (c.pop = (c.acc 1 2 (el c.r.ys 3) 0).setA 3 ((el c.r.ys 3 + 2) % 65536)) := hide (by
      unfold Pl.Mc.pop
      rw [show (c.acc 1 2 (el c.r.ys 3) 0).fine = true by unfold Pl.Mc.fine; rw [EF.out]; simpa using hv]; rfl)
    go_enter Try.func55, Try.ntmps55
    go_wp2_with (first | (go_at_call 85; refine (cAccess _ lo b g c h 1 2 (el c.r.ys 3) 0 C0.out HG.out HA.out V HV F HF).mono ?_; rintro e w3 ⟨g', rfl, hc3, hs3⟩; unfold ftC; have S3 := hide (((Since.refl w b (b + 1) g).any K0.out).trans hs3); have R3 := hide ((hs3.blk R0.out (by omega) (by omega)).alloc (.cells #[.int .i64 F.v, .int .i64 F.pc, .int .i64 F.ad, .int .i64 F.wo, .bool F.wr] 76)); have C3 := hide (hc3.alloc (.cells #[.int .i64 F.v, .int .i64 F.pc, .int .i64 F.ad, .int .i64 F.wo, .bool F.wr] 76)); have L3 := hide (Blk.new w3 #[.int .i64 F.v, .int .i64 F.pc, .int .i64 F.ad, .int .i64 F.wo, .bool F.wr] 76); have z3 := hs3.size; have n3 := hs3.ne (b := w.heap.size) R0.out.lt (by omega); clear hc3 hs3) | (go_at_call 53; refine (isFault F _).mono ?_; rintro e w4 ⟨rfl, k4⟩; have S4 := hide (S3.out.any ((kept_alloc w3 (.cells #[.int .i64 F.v, .int .i64 F.pc, .int .i64 F.ad, .int .i64 F.wo, .bool F.wr] 76)).trans k4)); have R4 := hide (R3.out.kept0 k4); have C4 := hide (C3.out.any k4); have L4 := hide (L3.out.kept0 k4); have y7 : w4.cell? ⟨b, 7, none⟩ = some (.int .i64 (el c.r.ys 3)) := C4.out.cY (k := 3) (by omega); have yf := C4.out.fz; have q := L4.out.all; have r := (show Blk w4 w.heap.size #[.int .i64 0, .int .i64 0, .int .i64 0, .int .i64 0, .bool false] 76 from R4.out).all; have rf := R4.out.fz; clear k4; rw [hv]))
    go_region_with (first | (go_at_call 84; refine (wrapWord _ _).mono ?_; rintro e w' ⟨rfl, rfl⟩))
    go_wp2_with fail
    go_region
    go_wp2_with fail
    have C5 := C4.out.setY h4.out (k := 3) (by omega) ((el c.r.ys 3 + 2) % 65536)
    have S5 := S4.out.set b 7 (.int .i64 ((el c.r.ys 3 + 2) % 65536)) (.inl (by omega))
    have K5 := kept_drew (kept_drew ((((((kept_one (w4.setCell ⟨b, 7, none⟩ (.int .i64 ((el c.r.ys 3 + 2) % 65536))) w.heap.size 0 (.int .i64 F.v)).one 1 (.int .i64 F.pc)).one 2 (.int .i64 F.ad)).one 3 (.int .i64 F.wo)).one 4 (.bool F.wr))))
    refine bodyPost_ret (v := .tuple #[.int .i64 V, .agg #[.int .i64 F.v, .int .i64 F.pc, .int .i64 F.ad, .int .i64 F.wo, .bool F.wr]]) ?_ rfl ⟨g', ?_, ?_, S5.mine K5 (by omega)⟩
    · rw [results_tc rfl]; go_simp
    · rw [E.out, show ((c.acc 1 2 (el c.r.ys 3) 0).setA 3 ((el c.r.ys 3 + 2) % 65536)).f = F from EF.out]; rfl
    · rw [E.out]; exact C5.kept K5 (by omega) (by omega)
  · have E : Hid (c.pop = c.acc 1 2 (el c.r.ys 3) 0) := hide (by
      unfold Pl.Mc.pop
      rw [show (c.acc 1 2 (el c.r.ys 3) 0).fine = false by unfold Pl.Mc.fine; rw [EF.out]; simpa using hv]; rfl)
    go_enter Try.func55, Try.ntmps55
    go_wp2_with (first | (go_at_call 85; refine (cAccess _ lo b g c h 1 2 (el c.r.ys 3) 0 C0.out HG.out HA.out V HV F HF).mono ?_; rintro e w3 ⟨g', rfl, hc3, hs3⟩; unfold ftC; have S3 := hide (((Since.refl w b (b + 1) g).any K0.out).trans hs3); have R3 := hide ((hs3.blk R0.out (by omega) (by omega)).alloc (.cells #[.int .i64 F.v, .int .i64 F.pc, .int .i64 F.ad, .int .i64 F.wo, .bool F.wr] 76)); have C3 := hide (hc3.alloc (.cells #[.int .i64 F.v, .int .i64 F.pc, .int .i64 F.ad, .int .i64 F.wo, .bool F.wr] 76)); have L3 := hide (Blk.new w3 #[.int .i64 F.v, .int .i64 F.pc, .int .i64 F.ad, .int .i64 F.wo, .bool F.wr] 76); have z3 := hs3.size; have n3 := hs3.ne (b := w.heap.size) R0.out.lt (by omega); clear hc3 hs3) | (go_at_call 53; refine (isFault F _).mono ?_; rintro e w4 ⟨rfl, k4⟩; have S4 := hide (S3.out.any ((kept_alloc w3 (.cells #[.int .i64 F.v, .int .i64 F.pc, .int .i64 F.ad, .int .i64 F.wo, .bool F.wr] 76)).trans k4)); have R4 := hide (R3.out.kept0 k4); have C4 := hide (C3.out.any k4); have L4 := hide (L3.out.kept0 k4); have y7 : w4.cell? ⟨b, 7, none⟩ = some (.int .i64 (el c.r.ys 3)) := C4.out.cY (k := 3) (by omega); have yf := C4.out.fz; have q := L4.out.all; have r := (show Blk w4 w.heap.size #[.int .i64 0, .int .i64 0, .int .i64 0, .int .i64 0, .bool false] 76 from R4.out).all; have rf := R4.out.fz; clear k4; rw [hv]))
    go_region
    go_wp2_with fail
    have K5 := kept_drew ((((((kept_one w4 w.heap.size 0 (.int .i64 F.v)).one 1 (.int .i64 F.pc)).one 2 (.int .i64 F.ad)).one 3 (.int .i64 F.wo)).one 4 (.bool F.wr)))
    refine bodyPost_ret (v := .tuple #[.int .i64 V, .agg #[.int .i64 F.v, .int .i64 F.pc, .int .i64 F.ad, .int .i64 F.wo, .bool F.wr]]) ?_ rfl ⟨g', ?_, ?_, S4.out.mine K5 (by omega)⟩
    · rw [results_tc rfl]; go_simp
    · rw [E.out, EF.out]; rfl
    · rw [E.out]; exact C4.out.kept K5 (by omega) (by omega)
end Go.Proofs.Ytblddehlkaolbaa

namespace Go.Proofs.Ytblddehlkaolbaa
open Go.RowKit
set_option linter.unusedVariables false

/-- a board's cells: 512 bytes and the log -/
def brd (xs : List Int) (u : Value) : Array Value := (cellsOf xs).push u
theorem brd_at {xs : List Int} {u : Value} {i : Nat} (hi : i < xs.length) : (brd xs u)[i]? = some (.int .i64 (el xs i)) := by
  simp [brd, cellsOf, el, hi]
  rw [List.getElem?_append_left (by simpa using hi)]
  simp [hi]
theorem brd_log {xs : List Int} {u : Value} (hl : xs.length = 512) : (brd xs u)[512]? = some u := by
  simp [brd, cellsOf, hl]
end Go.Proofs.Ytblddehlkaolbaa

namespace Go.Proofs.Ytblddehlkaolbaa
open Go.RowKit
set_option linter.unusedVariables false

theorem fold_set (off : Nat) : ∀ (l : List Value) (k : Nat) (A : Array Value) (i : Nat), off + k + l.length ≤ A.size →
    ((l.zipIdx k).foldl (fun a (x : Value × Nat) => a.setIfInBounds (off + x.2) x.1) A)[i]? = if off + k ≤ i ∧ i < off + k + l.length then l[i - (off + k)]? else A[i]?
  | [], k, A, i, h => by
    simp only [List.zipIdx_nil, List.foldl_nil, List.length_nil]
    rw [if_neg (by omega)]
  | v :: r, k, A, i, h => by
    simp only [List.length_cons] at h
    simp only [List.zipIdx_cons, List.foldl_cons, List.length_cons]
    rw [fold_set off r (k + 1) _ i (by simp; omega)]
    by_cases h1 : off + (k + 1) ≤ i ∧ i < off + (k + 1) + r.length
    · rw [if_pos h1, if_pos (by omega), show i - (off + k) = (i - (off + (k + 1))) + 1 by omega, List.getElem?_cons_succ]
    · rw [if_neg h1, Array.getElem?_setIfInBounds]
      by_cases h2 : off + k = i
      · rw [if_pos h2, if_pos (by omega), if_pos (by omega), show i - (off + k) = 0 by omega]; rfl
      · rw [if_neg h2, if_neg (by omega)]
theorem Try.infoBoard : (Try.prog.info? 106).map (fun i => (i.zero, i.size)) = some (some (.agg (brd zeros (.slice none 0 0))), 513) := by kernel_rfl
theorem Try.boardZero : ∀ w, (zeroValue 106).run Try.prog w = .ok (.agg (brd zeros (.slice none 0 0))) w := (zero_of_info Try.infoBoard).1
theorem Try.boardSize : (Try.prog.info? 106).map (·.size) = some 513 := (zero_of_info Try.infoBoard).2
theorem brd_size (xs : List Int) (u : Value) : (brd xs u).size = xs.length + 1 := by simp [brd, cellsOf]
theorem fold_size (off : Nat) : ∀ (l : List (Value × Nat)) (A : Array Value), (l.foldl (fun a (x : Value × Nat) => a.setIfInBounds (off + x.2) x.1) A).size = A.size
  | [], A => rfl
  | v :: r, A => by rw [List.foldl_cons, fold_size off r]; simp
/-- what 'fill' lays, of a part that fits -/
def laid (off : Nat) (cs A : Array Value) : Array Value := cs.zipIdx.foldl (fun a (x : Value × Nat) => a.setIfInBounds (off + x.2) x.1) A
theorem laid_size (off : Nat) (cs A : Array Value) : (laid off cs A).size = A.size := by
  unfold laid
  rw [← Array.foldl_toList]
  exact fold_size off _ A
theorem laid_at (off : Nat) (cs A : Array Value) (h : off + cs.size ≤ A.size) (i : Nat) : (laid off cs A)[i]? = if off ≤ i ∧ i < off + cs.size then cs[i - off]? else A[i]? := by
  unfold laid
  rw [← Array.foldl_toList, Array.toList_zipIdx]
  have := fold_set off cs.toList 0 A i (by simpa using h)
  simpa using this
theorem fill_two (cs A : Array Value) (u : Value) (hu : u.cells = #[u]) (hc : cs.size = 512) (hA : A.size = 513) :
    Instr.fill (#[(0, 512), (512, 1)][·]?) A [(0, .agg cs), (1, u)] = some (laid 512 #[u] (laid 0 cs A)) := by
  have h1 : ((laid 0 cs A)).size = 513 := by rw [laid_size, hA]
  have e1 : cs.zipIdx.foldl (fun a (x : Value × Nat) => a.setIfInBounds (0 + x.2) x.1) A = laid 0 cs A := rfl
  unfold Instr.fill
  simp only [Value.cells, List.getElem?_toArray, List.getElem?_cons_zero]
  rw [if_neg (by simp [hc, hA])]
  rw [e1]
  unfold Instr.fill
  simp only [hu, List.getElem?_cons_succ, List.getElem?_cons_zero]
  rw [if_neg (by simp [h1])]
  unfold Instr.fill
  rfl
theorem brd_one (xs : List Int) (u : Value) (h : u.oneCell' = true) : (brd xs u).all (·.oneCell') = true := by
  rw [Array.all_eq_true_iff_forall_mem]
  intro v hv
  simp only [brd, Array.mem_push] at hv
  rcases hv with hv | rfl
  · exact Array.all_eq_true_iff_forall_mem.1 (cellsOf_one xs) v hv
  · exact h
theorem build_two {P : Program} {ops : Array Oper} {rest : List Oper} {o : Oper} {a : Act} {w : World} {Q : Exit → Act → World → Prop} (hg : o.guard = none) (t : TypeId) (x y : Operand) (ho : o.op = .build t #[(0, x), (1, y)])
    (v u : Value) (hx : a.eval x = v) (hy : a.eval y = u) (cells : Array Value) (hf : P.built t [(0, v), (1, u)] = some cells)
    (h : wpList P ops Q rest (a.put o.dst (.agg cells)) w) : wpList P ops Q (o :: rest) a w := by
  have e : P.built t (#[(0, x), (1, y)].map fun (p : Nat × Operand) => (p.1, a.eval p.2)).toList = some cells := by
    simp [hx, hy, hf]
  refine wpList_build hg t #[(0, x), (1, y)] ho (by rw [e]; rfl) ?_
  rw [e]
  exact h
theorem boardBuilt (xs : List Int) (b : Option Addr) (n c : Nat) (lx : xs.length = 512) :
    Try.prog.built 106 [(0, .agg (cellsOf xs)), (1, .slice b n c)] = some (brd xs (.slice b n c)) := by
  have hp : (match Try.prog.underlying 106 with | some (.struct fields) => fields.toList.mapM (fun f => (Try.prog.info? f.type).map fun i => (f.offset, i.size)) | _ => none) = some [(0, 512), (512, 1)] := by kernel_rfl
  have e : Try.prog.built 106 [(0, .agg (cellsOf xs)), (1, .slice b n c)] = Instr.fill (#[(0, 512), (512, 1)][·]?) (brd zeros (.slice none 0 0)) [(0, .agg (cellsOf xs)), (1, .slice b n c)] := by
    have hi := Try.infoBoard
    unfold Program.built
    cases h1 : Try.prog.info? 106 with
    | none => rw [h1] at hi; cases hi
    | some it =>
      rw [h1] at hi
      have hz : it.zero = some (.agg (brd zeros (.slice none 0 0))) := congrArg (fun o => (o.map Prod.fst).getD none) hi
      cases h2 : Try.prog.underlying 106 with
      | none => rw [h2] at hp; cases hp
      | some d =>
        rw [h2] at hp
        cases d
        case struct fields =>
          have hp' : fields.toList.mapM (fun f => (Try.prog.info? f.type).map fun i => (f.offset, i.size)) = some [(0, 512), (512, 1)] := hp
          simp only [hz, hp']
          rfl
        all_goals cases hp
  rw [e, fill_two (cellsOf xs) (brd zeros (.slice none 0 0)) (.slice b n c) rfl (by rw [cellsOf_size, lx]) (by rw [brd_size, zeros_len])]
  refine congrArg some ?_
  apply Array.ext_getElem?
  intro i
  rw [laid_at 512 #[.slice b n c] _ (by rw [laid_size, brd_size, zeros_len]; simp), laid_at 0 _ _ (by rw [brd_size, zeros_len, cellsOf_size, lx]; decide), cellsOf_size, lx]
  simp only [brd, Array.getElem?_push, cellsOf_size, lx]
  by_cases h : i < 512
  · rw [if_neg (by simp; omega), if_pos (by omega), if_neg (by omega)]
    rfl
  · by_cases h2 : i = 512
    · subst h2
      rfl
    · have h3 : ¬ i < 513 := by omega
      rw [if_neg (by simp; omega), if_neg (by omega)]
      simp only [zeros_len]
      rw [if_neg h2, if_neg h2]
      rw [Array.getElem?_eq_none (by rw [cellsOf_size, zeros_len]; omega), Array.getElem?_eq_none (by rw [cellsOf_size, lx]; omega)]

/-- a row of accesses copied into a block as long -/
theorem copy5_at (W : World) (g m sCap : Nat) (sp : Option Addr) (ys : List Int) (cur : List Value) (t : TypeId) (hB : Blk W g cur.toArray t) (hr : IRow W sp ys) (hl : ys.length = 5 * m) (hc : cur.length = 5 * m) :
    ∃ W', (Builtin.copy_ #[25, 25] 3 #[.slice (some ⟨g, 0, none⟩) m m, .slice sp m sCap]).run Try.prog W = .ok (.int .i64 m) W' ∧ Blk W' g (cellsOf ys) t ∧ Kept g (g + 1) W W' := by
  obtain ⟨i, hi, hz0, hz1, hz2⟩ := info_parts Try.infoAcc
  have hmin : Nat.min m m = m := Nat.min_self m
  by_cases h0 : m = 0
  · subst h0
    obtain rfl : ys = [] := List.eq_nil_of_length_eq_zero (by omega)
    obtain rfl : cur = [] := List.eq_nil_of_length_eq_zero (by omega)
    refine ⟨W, ?_, hB, Kept.refl _ _ _⟩
    have hl0 : ∀ (x : Addr), (loadCells x 0).run Try.prog W = .ok #[] W := fun x => by simpa using run_loadCells_list (P := Try.prog) W x [] (by simp)
    cases sp <;> simp [Builtin.copy_, run_underlying Try.underlying25, Builtin.lenOf, Builtin.firstCells, sizeOf, typeInfo, hi, storeCells, hl0] <;> rfl
  · obtain ⟨ga, oa, rfl, _⟩ := hr 0 (by omega)
    have hld := run_loadCells_list (P := Try.prog) W ⟨ga, oa, none⟩ (ys.map (Value.int .i64)) (news_of hr)
    have hst := run_storeCells_at Try.prog g 0 t (ys.map (Value.int .i64)) 0 cur.toArray W hB (by simp [hl, hc]) news_one
    have e5 : (ys.map (Value.int .i64)).length = m * 5 := by rw [List.length_map, hl]; omega
    rw [e5] at hld
    have e : (List.take (0 + 0) cur.toArray.toList ++ ys.map (Value.int .i64) ++ List.drop (0 + 0 + (ys.map (Value.int .i64)).length) cur.toArray.toList) = ys.map (Value.int .i64) := by
      rw [List.drop_eq_nil_of_le (by simp [hl, hc])]; simp
    rw [e] at hst
    refine ⟨W.setRow g (cellsOf ys), ?_, hB.setRow, ⟨rfl, rfl, rfl, by simp, fun k hk hn => setRow_other W g k _ (by omega)⟩⟩
    simp [Builtin.copy_, run_underlying Try.underlying25, Builtin.lenOf, Builtin.firstCells, sizeOf, typeInfo, hi, hz1, hmin, hld]
    have hst' : (storeCells ⟨g, 0, none⟩ (ys.map (Value.int .i64))).run Try.prog W = .ok () (W.setRow g (cellsOf ys)) := hst
    rw [hst']
    rfl
theorem own5_of_blk {w : World} {base g m : Nat} {ys : List Int} (h : Blk w g (cellsOf ys) 91) (hl : ys.length = 5 * m) (hb : base ≤ g) (bm : m ≤ 2000000) : w.ownsRow base 91 5 (.slice (some ⟨g, 0, none⟩) m m) m (ys.map (Value.int .i64)) := by
  refine ⟨by simp [hl]; omega, .inr ⟨g, m, cellsOf ys, rfl, hb, h, Nat.le_refl _, by unfold maxLen; omega, by rw [cellsOf_size, hl]; omega, ?_⟩⟩
  rw [List.take_of_length_le (by simp [cellsOf, hl]; omega)]
  simp [cellsOf]

set_option maxHeartbeats 4000000 in
theorem boardOf (w : World) (a b : Option Addr) (ca cb m : Nat) (xs ys : List Int) (ha : IRow w a xs) (hb : IRow w b ys) (lx : xs.length = 512) (ly : ys.length = 5 * m) (bm : m ≤ 400) :
    Calls Try.prog 83 #[.agg #[.slice a xs.length ca, .slice b m cb]] w fun e w' => ∃ g : Nat, e = .returned (.agg (brd xs (.slice (some ⟨g, 0, none⟩) m m))) ∧ Blk w' g (cellsOf ys) 91 ∧ w.heap.size ≤ g ∧ Kept 0 0 w w' := by
  obtain ⟨i, hi, hz0, hz1, hz2⟩ := info_parts Try.infoAcc
  have HA := hide ha
  have HB := hide hb
  have HX := hide lx
  have HY := hide ly
  have bz := Try.boardZero
  have hbuilt := hide (boardBuilt xs (some ⟨w.heap.size + 1 + 1, 0, none⟩) m m lx)
  have K0 := hide (kept_new (kept_alloc w (.cells #[.slice a xs.length ca, .slice b m cb] 27)) (.cells (brd zeros (.slice none 0 0)) 106))
  have B0 := hide ((Blk.new w #[.slice a xs.length ca, .slice b m cb] 27).alloc (.cells (brd zeros (.slice none 0 0)) 106))
  have B1 := Blk.new (w.alloc (.cells #[.slice a xs.length ca, .slice b m cb] 27)) (brd zeros (.slice none 0 0)) 106
  simp only [World.size_alloc] at B1
  replace B1 := hide B1
  clear ha hb lx ly
  go_enter Try.func83, Try.ntmps83
  go_wp2_with (at_make; refine wpList_make_full _ rfl _ _ 25 rfl w.heap.size 91 i (.agg #[.int .i64 0, .int .i64 0, .int .i64 0, .int .i64 0, .int .i64 0]) 5 Try.underlying25 hi hz0 hz1 _ _ _ _ m rfl rfl rfl rfl ?c1 ?c2 ?c3 ?_)
  case c1 => rw [hz2]; omega
  case c2 => unfold maxLen; omega
  case c3 => simp; omega
  intro w1 hown hg
  have k1 := kept_grown hg
  have C0 := B0.out.kept0 k1
  have C1 := B1.out.kept0 k1
  have K1 := K0.out.trans k1
  obtain ⟨W2, hcopy, E2, k2⟩ := copy5_at w1 (w.heap.size + 1 + 1) m cb b ys _ _ (blk_of_row hown) (HB.out.keptS K1) HY.out (by rw [hown.1]; omega)
  have D0 := hide (C0.kept k2 (by omega))
  have D1 := hide (C1.kept k2 (by omega))
  have K2 := hide (kept_over K1 k2 (by omega))
  have H2 := hide E2
  have HZ : ∀ u, Hid ((Try.prog.info? 106).map (·.size) = some (brd xs u).size) := fun u => hide (by rw [brd_size, HX.out]; exact Try.boardSize)
  have HZ2 : ∀ u, Hid ((brd zeros (.slice none 0 0)).size = (brd xs u).size) := fun u => hide (by rw [brd_size, brd_size, HX.out, zeros_len])
  have p1 := C0.cell (i := 1) rfl
  have d0 := D0.out.cell (i := 0) rfl
  have d1 := D0.out.cell (i := 1) rfl
  clear hown hg k1 C0 C1 K1 E2 k2
  go_wp2_with (first
    | (go_at_call 60; refine (memoryOf _ a b ca cb m xs (HA.out.keptS K2.out) HX.out).mono ?_; rintro e w3 ⟨rfl, k3⟩; have D3 := hide (D1.out.kept0 k3); have H3 := hide (H2.out.kept0 k3); have K3 := hide (K2.out.trans k3); clear k3)
    | (refine build_two rfl 106 (.tmp 13) (.tmp 14) rfl (.agg (cellsOf xs)) (.slice (some ⟨w.heap.size + 1 + 1, 0, none⟩) m m) rfl rfl (brd xs (.slice (some ⟨w.heap.size + 1 + 1, 0, none⟩) m m)) hbuilt.out ?_)
    | (refine wpList_store_row rfl 106 (.tmp 2) (.tmp 15) rfl (w.heap.size + 1) (brd xs (.slice (some ⟨w.heap.size + 1 + 1, 0, none⟩) m m)) rfl rfl 106 (brd zeros (.slice none 0 0)) D3.out (HZ _).out (HZ2 _).out (brd_one _ _ rfl) ?_))
  refine bodyPost_ret (v := .agg (brd xs (.slice (some ⟨w.heap.size + 1 + 1, 0, none⟩) m m))) ?_ rfl ⟨w.heap.size + 1 + 1, rfl, H3.out.setRowOther (by omega), by omega, kept_setRow K3.out _ _ (by omega)⟩
  exact results_cell_row rfl _ _ _ _ _ (0, 0) _ rfl D3.out.setRow Try.underlying106 rfl (HZ _).out

end Go.Proofs.Ytblddehlkaolbaa

namespace Go.Proofs.Ytblddehlkaolbaa
open Go.RowKit
set_option linter.unusedVariables false
theorem listOf (x0 x1 x2 x3 : Int) (w : World) :
    Calls Try.prog 90 #[.agg #[.int .i64 x0, .int .i64 x1, .int .i64 x2, .int .i64 x3]] w fun e w' => ∃ g : Nat, e = .returned (.slice (some ⟨g, 0, none⟩) 4 4) ∧ w.heap.size ≤ g ∧ Blk w' g (cellsOf [x0, x1, x2, x3]) 3 ∧ Kept 0 0 w w' :=
  (listOf4 x0 x1 x2 x3 w).mono (fun e w' h => ⟨_, h.1, by omega, h.2⟩)
theorem bkS {w : World} {b : Nat} {r : Pl.Rg} {t : TypeId} (h : Blk w b (bkR r) t) : w.cell? ⟨b, 0, none⟩ = some (.int .i64 (el r.xs 0)) ∧ w.cell? ⟨b, 1, none⟩ = some (.int .i64 (el r.xs 1)) ∧ w.cell? ⟨b, 2, none⟩ = some (.int .i64 (el r.xs 2)) ∧ w.cell? ⟨b, 3, none⟩ = some (.int .i64 (el r.xs 3)) ∧ w.cell? ⟨b, 4, none⟩ = some (.int .i64 (el r.ys 0)) ∧ w.cell? ⟨b, 5, none⟩ = some (.int .i64 (el r.ys 1)) ∧ w.cell? ⟨b, 6, none⟩ = some (.int .i64 (el r.ys 2)) ∧ w.cell? ⟨b, 7, none⟩ = some (.int .i64 (el r.ys 3)) ∧ w.cell? ⟨b, 8, none⟩ = some (.int .i64 r.o) ∧ w.cell? ⟨b, 9, none⟩ = some (.int .i64 r.p) ∧ w.cell? ⟨b, 10, none⟩ = some (.int .i64 r.f) ∧ w.cell? ⟨b, 11, none⟩ = some (.int .i64 r.m) ∧ w.cell? ⟨b, 12, none⟩ = some (.bool r.s) ∧ w.cell? ⟨b, 13, none⟩ = some (.bool r.t) :=
  ⟨h.cell (i := 0) rfl, h.cell (i := 1) rfl, h.cell (i := 2) rfl, h.cell (i := 3) rfl, h.cell (i := 4) rfl, h.cell (i := 5) rfl, h.cell (i := 6) rfl, h.cell (i := 7) rfl, h.cell (i := 8) rfl, h.cell (i := 9) rfl, h.cell (i := 10) rfl, h.cell (i := 11) rfl, h.cell (i := 12) rfl, h.cell (i := 13) rfl⟩
theorem Bd {w : World} {b : Nat} {cs : Array Value} {t : TypeId} (h : Blk w b cs t) : Blk w.drew b cs t := h
set_option maxHeartbeats 4000000 in
theorem bankRegs (r : Pl.Rg) (w : World) (lx : r.xs.length = 4) (ly : r.ys.length = 4) :
    Calls Try.prog 67 #[.agg (bkR r)] w fun e w' => ∃ (a' b' : Option Addr) (ca' cb' : Nat), e = .returned (.agg #[.slice a' r.xs.length ca', .slice b' r.ys.length cb', .int .i64 r.o, .int .i64 r.p, .int .i64 r.f, .int .i64 r.m, .bool r.s, .bool r.t]) ∧ RegIn w' w.heap.size r a' b' ∧ Kept 0 0 w w' := by
  have LX := hide lx
  have LY := hide ly
  clear lx ly
  have B0 := hide ((Blk.new w (bkR r) 85).alloc (.cells #[.slice none 0 0, .slice none 0 0, .int .i64 0, .int .i64 0, .int .i64 0, .int .i64 0, .bool false, .bool false] 24))
  have R0 := Blk.new (w.alloc (.cells (bkR r) 85)) #[.slice none 0 0, .slice none 0 0, .int .i64 0, .int .i64 0, .int .i64 0, .int .i64 0, .bool false, .bool false] 24
  simp only [World.size_alloc] at R0
  replace R0 := hide R0
  have K0 := hide (kept_new (kept_alloc w (.cells (bkR r) 85)) (.cells #[.slice none 0 0, .slice none 0 0, .int .i64 0, .int .i64 0, .int .i64 0, .int .i64 0, .bool false, .bool false] 24))
  unfold bkR
  go_enter Try.func67, Try.ntmps67
  go_wp2_with fail
  obtain ⟨W, hW⟩ : ∃ W : World, W = (w.alloc (.cells (bkR r) 85)).alloc (.cells #[.slice none 0 0, .slice none 0 0, .int .i64 0, .int .i64 0, .int .i64 0, .int .i64 0, .bool false, .bool false] 24) := ⟨_, rfl⟩
  have hW2 : (w.alloc (.cells #[.int .i64 (el r.xs 0), .int .i64 (el r.xs 1), .int .i64 (el r.xs 2), .int .i64 (el r.xs 3), .int .i64 (el r.ys 0), .int .i64 (el r.ys 1), .int .i64 (el r.ys 2), .int .i64 (el r.ys 3), .int .i64 r.o, .int .i64 r.p, .int .i64 r.f, .int .i64 r.m, .bool r.s, .bool r.t] 85)).alloc (.cells #[.slice none 0 0, .slice none 0 0, .int .i64 0, .int .i64 0, .int .i64 0, .int .i64 0, .bool false, .bool false] 24) = W := hW.symm
  rw [← hW] at B0 R0 K0
  rw [hW2]
  clear hW hW2
  obtain ⟨c0, c1, c2, c3, c4, c5, c6, c7, c8, c9, c10, c11, c12, c13⟩ := bkS B0.out
  go_region_held3 (fun w' => w'.cell? ⟨w.heap.size, 0, none⟩ = some (.int .i64 (el r.xs 0)) ∧ w'.cell? ⟨w.heap.size, 1, none⟩ = some (.int .i64 (el r.xs 1)) ∧ w'.cell? ⟨w.heap.size, 2, none⟩ = some (.int .i64 (el r.xs 2)) ∧ w'.cell? ⟨w.heap.size, 3, none⟩ = some (.int .i64 (el r.xs 3)) ∧ w'.cell? ⟨w.heap.size, 4, none⟩ = some (.int .i64 (el r.ys 0)) ∧ w'.cell? ⟨w.heap.size, 5, none⟩ = some (.int .i64 (el r.ys 1)) ∧ w'.cell? ⟨w.heap.size, 6, none⟩ = some (.int .i64 (el r.ys 2)) ∧ w'.cell? ⟨w.heap.size, 7, none⟩ = some (.int .i64 (el r.ys 3)) ∧ w'.cell? ⟨w.heap.size, 8, none⟩ = some (.int .i64 r.o) ∧ w'.cell? ⟨w.heap.size, 9, none⟩ = some (.int .i64 r.p) ∧ w'.cell? ⟨w.heap.size, 10, none⟩ = some (.int .i64 r.f) ∧ w'.cell? ⟨w.heap.size, 11, none⟩ = some (.int .i64 r.m) ∧ w'.cell? ⟨w.heap.size, 12, none⟩ = some (.bool r.s) ∧ w'.cell? ⟨w.heap.size, 13, none⟩ = some (.bool r.t)) (first | with_reducible exact bkS B4.out | with_reducible exact bkS B3.out | with_reducible exact bkS (Bd B0.out) | exact bkS ((((((((B4.out.other _ _ _ (by omega)).other _ _ _ (by omega)).other _ _ _ (by omega)).other _ _ _ (by omega)).other _ _ _ (by omega)).other _ _ _ (by omega)).other _ _ _ (by omega)).other _ _ _ (by omega)))
    (first | (go_at_call 90; have B4 := B3; clear B4; refine (listOf _ _ _ _ _).mono ?_; rintro e w4 ⟨g', rfl, hg4, hb4, kd⟩; have B4 := hide (B3.out.kept0 kd); have R4 := hide (R3.out.kept0 kd); have q0 := R4.out.cell (i := 0) rfl; have fq0 := R4.out.frozen 0; have q1 := R4.out.cell (i := 1) rfl; have fq1 := R4.out.frozen 1; have q2 := R4.out.cell (i := 2) rfl; have fq2 := R4.out.frozen 2; have q3 := R4.out.cell (i := 3) rfl; have fq3 := R4.out.frozen 3; have q4 := R4.out.cell (i := 4) rfl; have fq4 := R4.out.frozen 4; have q5 := R4.out.cell (i := 5) rfl; have fq5 := R4.out.frozen 5; have q6 := R4.out.cell (i := 6) rfl; have fq6 := R4.out.frozen 6; have q7 := R4.out.cell (i := 7) rfl; have fq7 := R4.out.frozen 7; have G4 := hide (G3.out.kept0 kd); have H4 := hide hb4; have L4 := hide hg4; have K4 := hide (K3.out.trans kd); clear hg4 hb4 kd) | (go_at_call 90; refine (listOf _ _ _ _ _).mono ?_; rintro e w3 ⟨g, rfl, hg3, hb3, kd⟩; have k3 := undrewK kd; have B3 := hide (B0.out.kept0 k3); have R3 := hide (R0.out.kept0 k3); have G3 := hide hb3; have L3 : Hid (W.heap.size ≤ g) := hide hg3; have K3 := hide (K0.out.trans k3); clear hg3 hb3 kd k3))
  go_wp2_with fail
  have l0 := R0.out.lt
  have l3 := L3.out
  have l4 := L4.out
  have l5 := G3.out.lt
  have l6 := H4.out.lt
  have l7 := G4.out.lt
  have k0 := K0.out.size
  refine bodyPost_ret (v := .agg #[.slice (some ⟨g, 0, none⟩) 4 4, .slice (some ⟨g', 0, none⟩) 4 4, .int .i64 r.o, .int .i64 r.p, .int .i64 r.f, .int .i64 r.m, .bool r.s, .bool r.t]) ?_ rfl ⟨some ⟨g, 0, none⟩, some ⟨g', 0, none⟩, 4, 4, ?_, ⟨.inr ⟨g, rfl, by omega, ?_, ?_⟩, .inr ⟨g', rfl, by omega, ?_, ?_⟩, ?_⟩, ?_⟩
  · rw [results_one rfl]; go_simp
  · rw [LX.out, LY.out]
  · simpa using l7
  · rw [list4 LX.out]; exact own_of_blk ((((((((G4.out.other _ _ _ (by omega)).other _ _ _ (by omega)).other _ _ _ (by omega)).other _ _ _ (by omega)).other _ _ _ (by omega)).other _ _ _ (by omega)).other _ _ _ (by omega)).other _ _ _ (by omega))
  · simpa using l6
  · rw [list4 LY.out]; exact own_of_blk ((((((((H4.out.other _ _ _ (by omega)).other _ _ _ (by omega)).other _ _ _ (by omega)).other _ _ _ (by omega)).other _ _ _ (by omega)).other _ _ _ (by omega)).other _ _ _ (by omega)).other _ _ _ (by omega))
  · intro g2 h2 h3
    simp [blk] at h2 h3
    omega
  · exact (kept_set (kept_set (kept_set (kept_set (kept_set (kept_set (kept_set (kept_set K4.out _ _ _ (.inr (by omega))) _ _ _ (.inr (by omega))) _ _ _ (.inr (by omega))) _ _ _ (.inr (by omega))) _ _ _ (.inr (by omega))) _ _ _ (.inr (by omega))) _ _ _ (.inr (by omega))) _ _ _ (.inr (by omega)))
end Go.Proofs.Ytblddehlkaolbaa

namespace Go.Proofs.Ytblddehlkaolbaa
open Go.RowKit
set_option linter.unusedVariables false
theorem Try.infoCore : (Try.prog.info? 109).map (fun i => (i.zero, i.size)) = some (some (.agg (cor ⟨[0, 0, 0, 0], [0, 0, 0, 0], 0, 0, 0, 0, false, false⟩ zeros (.slice none 0 0) false false)), 529) := by kernel_rfl
theorem cor_laid (r : Pl.Rg) (xs : List Int) (u : Value) (st ha : Bool) (A : Array Value) (hA : A.size = 529) (lx : xs.length = 512) : laid 528 #[.bool ha] (laid 527 #[.bool st] (laid 14 (brd xs u) (laid 0 (bkR r) A))) = cor r xs u st ha := by
  have hb : (brd xs u).size = 513 := by rw [brd_size, lx]
  have hr : (bkR r).size = 14 := rfl
  apply Array.ext_getElem?
  intro i
  rw [laid_at 528 _ _ (by simp only [laid_size, hA]; exact Nat.le_refl 529), laid_at 527 _ _ (by simp only [laid_size, hA]; exact Nat.le_succ 528), laid_at 14 _ _ (by rw [laid_size, hA, hb]; decide), laid_at 0 _ _ (by rw [hA, hr]; decide), hb, hr]
  by_cases h1 : i < 14
  · rw [if_neg (by simp; omega), if_neg (by simp; omega), if_neg (by omega), if_pos (by omega), cor_lo h1]; rfl
  · by_cases h2 : i < 526
    · rw [if_neg (by simp; omega), if_neg (by simp; omega), if_pos (by omega)]
      obtain ⟨n, rfl⟩ : ∃ n, i = 14 + n := ⟨i - 14, by omega⟩
      rw [cor_at (by omega), Nat.add_sub_cancel_left, brd_at (by omega)]
    · by_cases h3 : i < 529
      · have : i = 526 ∨ i = 527 ∨ i = 528 := by omega
        rcases this with rfl | rfl | rfl
        · rw [if_neg (by simp), if_neg (by simp), if_pos (by omega), cor_log lx]; exact brd_log lx
        · rw [if_neg (by simp), if_pos (by simp), cor_st lx]; rfl
        · rw [if_pos (by simp), cor_ha lx]; rfl
      · rw [if_neg (by simp; omega), if_neg (by simp; omega), if_neg (by omega), if_neg (by omega), Array.getElem?_eq_none (by omega), Array.getElem?_eq_none (by rw [cor_size lx]; omega)]
theorem laid_one (k : Nat) (v : Value) (A : Array Value) : laid k #[v] A = A.setIfInBounds k v := rfl
/-- what the walk's own rules want of a processor that is laid down part by part -/
theorem coreFill (r : Pl.Rg) (xs : List Int) (m : Nat) (st ha : Bool) (lx : xs.length = 512) : ∃ (Z L : Array Value) (M : Option Addr → Array Value), (∀ w, (zeroValue 109).run Try.prog w = .ok (.agg Z) w) ∧ Z.size = 529 ∧ (bkR r).size = 14 ∧ (∀ d, (brd xs (.slice d m m)).size = 513) ∧
    (bkR r).zipIdx.foldl (fun cs x => cs.setIfInBounds x.2 x.1) Z 0 14 = L ∧ L.size = 529 ∧ (∀ d, (brd xs (.slice d m m)).zipIdx.foldl (fun cs x => cs.setIfInBounds (14 + x.2) x.1) L 0 513 = M d) ∧ (∀ d, (M d).size = 529) ∧
    ∀ d, ((M d).setIfInBounds 527 (.bool st)).setIfInBounds 528 (.bool ha) = cor r xs (.slice d m m) st ha := by
  have hr : (bkR r).size = 14 := rfl
  have hd : ∀ d, (brd xs (.slice d m m)).size = 513 := fun d => by rw [brd_size, lx]
  obtain ⟨Z, hz, hs⟩ : ∃ Z : Array Value, (∀ w, (zeroValue 109).run Try.prog w = .ok (.agg Z) w) ∧ Z.size = 529 := ⟨_, (zero_of_info Try.infoCore).1, cor_size zeros_len⟩
  refine ⟨Z, laid 0 (bkR r) Z, fun d => laid 14 (brd xs (.slice d m m)) (laid 0 (bkR r) Z), hz, hs, hr, hd, ?_, ?_, ?_, ?_, ?_⟩
  · unfold laid; simp [hr]
  · rw [laid_size]; exact hs
  · intro d; unfold laid; simp [hr, hd]
  · intro d; rw [laid_size, laid_size]; exact hs
  · intro d
    have := cor_laid r xs (.slice d m m) st ha Z hs lx
    rw [laid_one, laid_one] at this
    exact this
theorem cpu12 {w : World} {x : Nat} {c : Pl.Cp} {a b e q : Option Addr} {ca cb ce cq : Nat} {ty : TypeId} (h : Blk w x #[.slice a c.r.xs.length ca, .slice b c.r.ys.length cb, .int .i64 c.r.o, .int .i64 c.r.p, .int .i64 c.r.f, .int .i64 c.r.m, .bool c.r.s, .bool c.r.t, .slice e c.bx.length ce, .slice q c.bm cq, .bool c.st, .bool c.ha] ty) : w.cell? ⟨x, 0, none⟩ = some (.slice a c.r.xs.length ca) ∧ w.cell? ⟨x, 1, none⟩ = some (.slice b c.r.ys.length cb) ∧ w.cell? ⟨x, 2, none⟩ = some (.int .i64 c.r.o) ∧ w.cell? ⟨x, 3, none⟩ = some (.int .i64 c.r.p) ∧ w.cell? ⟨x, 4, none⟩ = some (.int .i64 c.r.f) ∧ w.cell? ⟨x, 5, none⟩ = some (.int .i64 c.r.m) ∧ w.cell? ⟨x, 6, none⟩ = some (.bool c.r.s) ∧ w.cell? ⟨x, 7, none⟩ = some (.bool c.r.t) ∧ w.cell? ⟨x, 8, none⟩ = some (.slice e c.bx.length ce) ∧ w.cell? ⟨x, 9, none⟩ = some (.slice q c.bm cq) ∧ w.cell? ⟨x, 10, none⟩ = some (.bool c.st) ∧ w.cell? ⟨x, 11, none⟩ = some (.bool c.ha) :=
  ⟨h.cell (i := 0) rfl, h.cell (i := 1) rfl, h.cell (i := 2) rfl, h.cell (i := 3) rfl, h.cell (i := 4) rfl, h.cell (i := 5) rfl, h.cell (i := 6) rfl, h.cell (i := 7) rfl, h.cell (i := 8) rfl, h.cell (i := 9) rfl, h.cell (i := 10) rfl, h.cell (i := 11) rfl⟩
set_option maxRecDepth 100000 in
set_option maxHeartbeats 4000000 in
theorem coreOf (w : World) (c : Pl.Cp) (a b e q : Option Addr) (ca cb ce cq : Nat) (ha : IRow w a c.r.xs) (hb : IRow w b c.r.ys) (he : IRow w e c.bx) (hq : IRow w q c.bl) (lx : c.r.xs.length = 4) (ly : c.r.ys.length = 4) (lb : c.bx.length = 512) (ll : c.bl.length = 5 * c.bm) (lm : c.bm ≤ 400) :
    Calls Try.prog 50 #[.agg #[.slice a c.r.xs.length ca, .slice b c.r.ys.length cb, .int .i64 c.r.o, .int .i64 c.r.p, .int .i64 c.r.f, .int .i64 c.r.m, .bool c.r.s, .bool c.r.t, .slice e c.bx.length ce, .slice q c.bm cq, .bool c.st, .bool c.ha]] w fun r w' => ∃ p g : Nat, r = .returned (.pointer (some ⟨p, 0, none⟩)) ∧ CAt w' w.heap.size p g (Pl.Mc.ofC c) c.ha ∧ Kept 0 0 w w' := by
  have K0 := hide (kept_alloc w (.cells #[.slice a c.r.xs.length ca, .slice b c.r.ys.length cb, .int .i64 c.r.o, .int .i64 c.r.p, .int .i64 c.r.f, .int .i64 c.r.m, .bool c.r.s, .bool c.r.t, .slice e c.bx.length ce, .slice q c.bm cq, .bool c.st, .bool c.ha] 29))
  have HBA := hide (Blk.new w #[.slice a c.r.xs.length ca, .slice b c.r.ys.length cb, .int .i64 c.r.o, .int .i64 c.r.p, .int .i64 c.r.f, .int .i64 c.r.m, .bool c.r.s, .bool c.r.t, .slice e c.bx.length ce, .slice q c.bm cq, .bool c.st, .bool c.ha] 29)
  obtain ⟨X, hX⟩ : ∃ X : World, w.alloc (.cells #[.slice a c.r.xs.length ca, .slice b c.r.ys.length cb, .int .i64 c.r.o, .int .i64 c.r.p, .int .i64 c.r.f, .int .i64 c.r.m, .bool c.r.s, .bool c.r.t, .slice e c.bx.length ce, .slice q c.bm cq, .bool c.st, .bool c.ha] 29) = X := ⟨_, rfl⟩
  rw [hX] at K0 HBA
  have HA := hide (ha.keptS K0.out)
  have HB := hide (hb.keptS K0.out)
  have HE := hide (he.keptS K0.out)
  have HQ := hide (hq.keptS K0.out)
  obtain ⟨CZ, L1, L2, bz, z1, z2, z3, z4, z5, z6, z7, z8⟩ := coreFill c.r c.bx c.bm c.st c.ha lb
  have LX := hide lx
  have LY := hide ly
  have LB := hide lb
  have LL := hide ll
  have LM := hide lm
  clear ha hb he hq lx ly lb ll lm
  obtain ⟨i0, i1, i2, i3, i4, i5, i6, i7, i8, i9, i10, i11⟩ := cpu12 HBA.out
  go_enter Try.func50, Try.ntmps50
  go_wp2_with fail
  clear hX
  go_region_held3 (fun w' => w'.cell? ⟨w.heap.size, 0, none⟩ = some (.slice a c.r.xs.length ca) ∧ w'.cell? ⟨w.heap.size, 1, none⟩ = some (.slice b c.r.ys.length cb) ∧ w'.cell? ⟨w.heap.size, 2, none⟩ = some (.int .i64 c.r.o) ∧ w'.cell? ⟨w.heap.size, 3, none⟩ = some (.int .i64 c.r.p) ∧ w'.cell? ⟨w.heap.size, 4, none⟩ = some (.int .i64 c.r.f) ∧ w'.cell? ⟨w.heap.size, 5, none⟩ = some (.int .i64 c.r.m) ∧ w'.cell? ⟨w.heap.size, 6, none⟩ = some (.bool c.r.s) ∧ w'.cell? ⟨w.heap.size, 7, none⟩ = some (.bool c.r.t) ∧ w'.cell? ⟨w.heap.size, 8, none⟩ = some (.slice e c.bx.length ce) ∧ w'.cell? ⟨w.heap.size, 9, none⟩ = some (.slice q c.bm cq) ∧ w'.cell? ⟨w.heap.size, 10, none⟩ = some (.bool c.st) ∧ w'.cell? ⟨w.heap.size, 11, none⟩ = some (.bool c.ha)) (first | exact cpu12 B4.out | exact cpu12 B3.out | exact cpu12 (show Blk _ _ _ _ from HBA.out) | exact cpu12 (B4.out.alloc _))
    (first | (go_at_call 83; have z9 := B3; refine (boardOf _ e q ce cq c.bm c.bx c.bl (HE.out.keptS K3.out) (HQ.out.keptS K3.out) LB.out LL.out LM.out).mono ?_; rintro e9 w4 ⟨g, rfl, hb4, hg4, k4⟩; have B4 := hide (B3.out.kept0 k4); have G4 := hide hb4; have L4 := hide hg4; have K4 := hide (K3.out.trans k4); clear hb4 hg4 k4) | (go_at_call 59; refine (bankOf _ c.r a b ca cb (HA.out.keptS (kept_drew (Kept.refl _ _ _))) (HB.out.keptS (kept_drew (Kept.refl _ _ _))) LX.out LY.out).mono ?_; rintro e9 w3 ⟨rfl, kd⟩; have k3 := undrewK kd; have B3 := hide (HBA.out.kept0 k3); have K3 := hide k3; clear kd k3))
  go_wp2_with fail
  go_ret
  have s0 := K0.out.size
  have s3 := K3.out.size
  have l4 := L4.out
  have g4 := G4.out.lt
  refine ⟨w4.heap.size, g, rfl, ⟨c.bm, Blk.new w4 _ _, ⟨own5_of_blk (G4.out.alloc _) LL.out (by omega) (show c.bm ≤ 2000000 by have := LM.out; omega), ?_, ?_⟩⟩, K0.out.trans (kept_new K4.out _)⟩
  · have := K4.out.size; omega
  · omega
theorem CAt.all16 {w : World} {lo b g : Nat} {c : Pl.Mc} {h : Bool} (a : CAt w lo b g c h) (l : c.bx.length = 512) : w.cell? ⟨b, 0, none⟩ = some (.int .i64 (el c.r.xs 0)) ∧ w.cell? ⟨b, 1, none⟩ = some (.int .i64 (el c.r.xs 1)) ∧ w.cell? ⟨b, 2, none⟩ = some (.int .i64 (el c.r.xs 2)) ∧ w.cell? ⟨b, 3, none⟩ = some (.int .i64 (el c.r.xs 3)) ∧ w.cell? ⟨b, 4, none⟩ = some (.int .i64 (el c.r.ys 0)) ∧ w.cell? ⟨b, 5, none⟩ = some (.int .i64 (el c.r.ys 1)) ∧ w.cell? ⟨b, 6, none⟩ = some (.int .i64 (el c.r.ys 2)) ∧ w.cell? ⟨b, 7, none⟩ = some (.int .i64 (el c.r.ys 3)) ∧ w.cell? ⟨b, 8, none⟩ = some (.int .i64 c.r.o) ∧ w.cell? ⟨b, 9, none⟩ = some (.int .i64 c.r.p) ∧ w.cell? ⟨b, 10, none⟩ = some (.int .i64 c.r.f) ∧ w.cell? ⟨b, 11, none⟩ = some (.int .i64 c.r.m) ∧ w.cell? ⟨b, 12, none⟩ = some (.bool c.r.s) ∧ w.cell? ⟨b, 13, none⟩ = some (.bool c.r.t) ∧ w.cell? ⟨b, 527, none⟩ = some (.bool c.st) ∧ w.cell? ⟨b, 528, none⟩ = some (.bool h) :=
  ⟨a.cX (by omega), a.cX (by omega), a.cX (by omega), a.cX (by omega), a.cY (k := 0) (by omega), a.cY (k := 1) (by omega), a.cY (k := 2) (by omega), a.cY (k := 3) (by omega), a.cO, a.cP, a.cF, a.cM, a.cS, a.cT, a.cSt l, a.cH l⟩
set_option maxRecDepth 100000 in
set_option maxHeartbeats 4000000 in
theorem cBus (w : World) {r : Pl.Rg} {st ha : Bool} (b : Nat) (xs : List Int) (d : Option Addr) (n c : Nat) (hB : Blk w b (cor r xs (.slice d n c) st ha) 109) (lx : xs.length = 512) :
    Calls Try.prog 86 #[.pointer (some ⟨b, 14, none⟩)] w fun e w' => ∃ g : Nat, e = .returned (.agg #[.slice (some ⟨g, 0, none⟩) 512 512, .slice d n c]) ∧ Blk w' g (cellsOf xs) 3 ∧ w.heap.size ≤ g ∧ Kept 0 0 w w' := by
  have HX := hide lx
  have HB := hide hB
  have hu := Try.underlying88
  have hcs : (xs.map (Value.int .i64)).length = 512 := by rw [List.length_map, lx]
  have hi : (Try.prog.info? 88).map (·.size) = some (xs.map (Value.int .i64)).length := by rw [hcs]; exact Try.memSize
  have h1 : ∀ v ∈ xs.map (Value.int .i64), v.oneCell' = true := news_one
  have hlt := hB.lt
  have HR := hide ((Blk.new w #[.slice none 0 0, .slice none 0 0] 27))
  have K0 := hide (kept_alloc w (.cells #[.slice none 0 0, .slice none 0 0] 27))
  have B0 := hide (hB.alloc (.cells #[.slice none 0 0, .slice none 0 0] 27))
  clear hB lx
  go_enter Try.func86, Try.ntmps86
  go_wp2_with fail
  obtain ⟨W, hW⟩ : ∃ W : World, W = w.alloc (.cells #[.slice none 0 0, .slice none 0 0] 27) := ⟨_, rfl⟩
  rw [← hW] at HR K0 B0 ⊢
  clear hW
  obtain ⟨r1, r2⟩ := corS B0.out HX.out
  go_region_held3 (fun w' => w'.rangeAt b 14 (xs.map (Value.int .i64)) ∧ w'.cell? ⟨b, 526, none⟩ = some (.slice d n c)) (first | exact corS B3.out HX.out | exact corS ((B3.out.other _ _ _ (by omega)).other _ _ _ (by omega)) HX.out | go_keep_ranges | go_keep)
    (first | (go_at_call 65; refine (memList _ xs HX.out).mono ?_; rintro e w3 ⟨g, rfl, hb3, hg3, kd⟩; have k3 := undrewK kd; have B3 := hide (B0.out.kept0 k3); have R3 := hide (HR.out.kept0 k3); have q0 := R3.out.cell (i := 0) rfl; have q1 := R3.out.cell (i := 1) rfl; have f0 := R3.out.frozen 0; have f1 := R3.out.frozen 1; have G3 := hide hb3; have L3 := hide hg3; have K3 := hide (K0.out.trans k3); clear hb3 hg3 kd k3))
  go_wp2_with fail
  have l3 : W.heap.size ≤ g := L3.out
  have k0 := K0.out.size
  have k1 := HR.out.lt
  refine bodyPost_ret (v := .agg #[.slice (some ⟨g, 0, none⟩) 512 512, .slice d n c]) ?_ rfl ⟨g, rfl, ?_, by omega, ?_⟩
  · rw [results_one rfl]; go_simp
  · exact (G3.out.other _ _ _ (by omega)).other _ _ _ (by omega)
  · exact kept_set (kept_set K3.out _ _ _ (.inr (by omega))) _ _ _ (.inr (by omega))
set_option maxRecDepth 100000 in
set_option maxHeartbeats 4000000 in
theorem cCpu (w : World) (lo b g : Nat) (c : Pl.Mc) (h : Bool) (hC : CAt w lo b g c h) (G : Pl.GM c) :
    Calls Try.prog 52 #[.pointer (some ⟨b, 0, none⟩)] w fun r w' => ∃ (a' b' e' q' : Option Addr) (ca' cb' ce' cq' : Nat), r = .returned (.agg (cpuV (c.cpu h) a' b' e' q' ca' cb' ce' cq')) ∧ CpuIn w' lo (c.cpu h) a' b' e' q' ∧ Kept 0 0 w w' := by
  obtain ⟨l0, l1, l2, l3, l4⟩ := hC.lt
  have K0 := hide (kept_alloc w (.cells #[.slice none 0 0, .slice none 0 0, .int .i64 0, .int .i64 0, .int .i64 0, .int .i64 0, .bool false, .bool false, .slice none 0 0, .slice none 0 0, .bool false, .bool false] 29))
  have R0 := hide (Blk.new w #[.slice none 0 0, .slice none 0 0, .int .i64 0, .int .i64 0, .int .i64 0, .int .i64 0, .bool false, .bool false, .slice none 0 0, .slice none 0 0, .bool false, .bool false] 29)
  have C0 := hide (hC.alloc (.cells #[.slice none 0 0, .slice none 0 0, .int .i64 0, .int .i64 0, .int .i64 0, .int .i64 0, .bool false, .bool false, .slice none 0 0, .slice none 0 0, .bool false, .bool false] 29))
  have LX := hide G.g.d4
  have LY := hide G.g.a4
  have LB := hide G.bx
  clear hC G
  obtain ⟨X, hX⟩ : ∃ X : World, w.alloc (.cells #[.slice none 0 0, .slice none 0 0, .int .i64 0, .int .i64 0, .int .i64 0, .int .i64 0, .bool false, .bool false, .slice none 0 0, .slice none 0 0, .bool false, .bool false] 29) = X := ⟨_, rfl⟩
  rw [hX] at K0 R0 C0
  obtain ⟨i0, i1, i2, i3, i4, i5, i6, i7, i8, i9, i10, i11, i12, i13, j1, j2⟩ := C0.out.all16 LB.out
  go_enter Try.func52, Try.ntmps52
  go_wp2_with fail
  clear hX
  go_region_held3 (fun w' => w'.cell? ⟨b, 0, none⟩ = some (.int .i64 (el c.r.xs 0)) ∧ w'.cell? ⟨b, 1, none⟩ = some (.int .i64 (el c.r.xs 1)) ∧ w'.cell? ⟨b, 2, none⟩ = some (.int .i64 (el c.r.xs 2)) ∧ w'.cell? ⟨b, 3, none⟩ = some (.int .i64 (el c.r.xs 3)) ∧ w'.cell? ⟨b, 4, none⟩ = some (.int .i64 (el c.r.ys 0)) ∧ w'.cell? ⟨b, 5, none⟩ = some (.int .i64 (el c.r.ys 1)) ∧ w'.cell? ⟨b, 6, none⟩ = some (.int .i64 (el c.r.ys 2)) ∧ w'.cell? ⟨b, 7, none⟩ = some (.int .i64 (el c.r.ys 3)) ∧ w'.cell? ⟨b, 8, none⟩ = some (.int .i64 c.r.o) ∧ w'.cell? ⟨b, 9, none⟩ = some (.int .i64 c.r.p) ∧ w'.cell? ⟨b, 10, none⟩ = some (.int .i64 c.r.f) ∧ w'.cell? ⟨b, 11, none⟩ = some (.int .i64 c.r.m) ∧ w'.cell? ⟨b, 12, none⟩ = some (.bool c.r.s) ∧ w'.cell? ⟨b, 13, none⟩ = some (.bool c.r.t) ∧ w'.cell? ⟨b, 527, none⟩ = some (.bool c.st) ∧ w'.cell? ⟨b, 528, none⟩ = some (.bool h)) (first | with_reducible exact C4.out.all16 LB.out | with_reducible exact C3.out.all16 LB.out | with_reducible exact C0.out.drew.all16 LB.out | exact (C4.out.kept (((((((((((( kept_one _ w.heap.size _ _).one _ _).one _ _).one _ _).one _ _).one _ _).one _ _).one _ _).one _ _).one _ _).one _ _).one _ _) (by omega) (by omega)).all16 LB.out)
    (first | (go_at_call 86; have z9 := C3; obtain ⟨cu, hb9, ho9⟩ := C3.out; refine (cBus _ b c.bx _ _ _ hb9 LB.out).mono ?_; rintro e9 w4 ⟨gb, rfl, hb4, hg4, k4⟩; have C4 := hide (C3.out.any k4); have B4 := hide hb4; have L4 := hide hg4; have RI4 := hide (RI3.out.kept k4); have R4 := hide (R3.out.kept0 k4); have p := R4.out.all; have pf := R4.out.fz; have O4 := hide (ho9.any k4); have K4 := hide (K3.out.trans k4); clear hb4 hg4 k4 hb9 ho9) | (go_at_call 67; refine (bankRegs c.r _ LX.out LY.out).mono ?_; rintro e9 w3 ⟨a', b', ca', cb', rfl, hr3, kd⟩; have k3 := undrewK kd; have C3 := hide (C0.out.any k3); have R3 := hide (R0.out.kept0 k3); have RI3 := hide hr3; have K3 := hide k3; clear kd k3 hr3))
  go_wp2_with fail
  have K5 := ((((((((((((kept_one w4 w.heap.size 0 (.slice a' c.r.xs.length ca')).one 1 (.slice b' c.r.ys.length cb')).one 2 (.int .i64 c.r.o)).one 3 (.int .i64 c.r.p)).one 4 (.int .i64 c.r.f)).one 5 (.int .i64 c.r.m)).one 6 (.bool c.r.s)).one 7 (.bool c.r.t)).one 8 (.slice (some ⟨gb, 0, none⟩) 512 512)).one 9 (.slice (some ⟨g, 0, none⟩) c.bm cu)).one 10 (.bool c.st)).one 11 (.bool h))
  have s0 : w.heap.size < X.heap.size := R0.out.lt
  have s3 : X.heap.size ≤ w3.heap.size := K3.out.size
  have s4 : w3.heap.size ≤ w4.heap.size := by have := K4.out.size; have := L4.out; have := B4.out.lt; omega
  have l4 := L4.out
  have b4 := B4.out.lt
  have s5 := K5.size
  have ra : ∀ x, blk a' = some x → X.heap.size ≤ x ∧ x < w3.heap.size := by
    intro x hx
    rcases RI3.out.1 with ⟨e1, _⟩ | ⟨y, e1, y0, y1, _⟩
    · rw [e1] at hx; cases hx
    · rw [e1] at hx; have hx' : y = x := Option.some.inj hx; subst hx'; exact ⟨y0, y1⟩
  have rb : ∀ x, blk b' = some x → X.heap.size ≤ x ∧ x < w3.heap.size := by
    intro x hx
    rcases RI3.out.2.1 with ⟨e1, _⟩ | ⟨y, e1, y0, y1, _⟩
    · rw [e1] at hx; cases hx
    · rw [e1] at hx; have hx' : y = x := Option.some.inj hx; subst hx'; exact ⟨y0, y1⟩
  refine bodyPost_ret (v := .agg #[.slice a' c.r.xs.length ca', .slice b' c.r.ys.length cb', .int .i64 c.r.o, .int .i64 c.r.p, .int .i64 c.r.f, .int .i64 c.r.m, .bool c.r.s, .bool c.r.t, .slice (some ⟨gb, 0, none⟩) 512 512, .slice (some ⟨g, 0, none⟩) c.bm cu, .bool c.st, .bool h]) ?_ rfl ⟨a', b', some ⟨gb, 0, none⟩, some ⟨g, 0, none⟩, ca', cb', 512, cu, ?_, ⟨?_, ?_, ?_, ?_, RI3.out.2.2, ?_, ?_, ?_, ?_, ?_⟩, ?_⟩
  · rw [results_one rfl]; go_simp
  · unfold cpuV Pl.Mc.cpu; dsimp only; rw [LB.out]
  · exact (SlotIn.kept RI4.out.1 K5 (.inr (.inl (show w.heap.size + 1 ≤ X.heap.size by omega)))).wide (show lo ≤ X.heap.size by omega) s5
  · exact (SlotIn.kept RI4.out.2.1 K5 (.inr (.inl (show w.heap.size + 1 ≤ X.heap.size by omega)))).wide (show lo ≤ X.heap.size by omega) s5
  · exact .inr ⟨gb, rfl, by omega, by omega, own_of_blk (B4.out.kept K5 (by omega))⟩
  · exact .inr ⟨g, rfl, l2, by omega, own_of_row5 (ownsRow_keptS O4.out.l K5 (by omega))⟩
  · intro x h1 h2; have h3 : gb = x := Option.some.inj h2; have := ra x h1; omega
  · intro x h1 h2; have h3 : g = x := Option.some.inj h2; have := ra x h1; omega
  · intro x h1 h2; have h3 : gb = x := Option.some.inj h2; have := rb x h1; omega
  · intro x h1 h2; have h3 : g = x := Option.some.inj h2; have := rb x h1; omega
  · intro x h1 h2; have h3 : gb = x := Option.some.inj h1; have h4 : g = x := Option.some.inj h2; omega
  · exact kept_over (K0.out.trans K4.out) K5 (by omega)
end Go.Proofs.Ytblddehlkaolbaa

namespace Go.Proofs.Ytblddehlkaolbaa
open Go.RowKit
set_option linter.unusedVariables false
set_option maxHeartbeats 1000000 in
theorem implGoodCpu (w : World) (c : Pl.Cp) (a b e q : Option Addr) (ca cb ce cq : Nat) (ha : Came w a c.r.xs) (hb : Came w b c.r.ys) (he : Came w e c.bx) (hq : Came w q c.bl) (lx : c.r.xs.length ≤ 2000000) (ly : c.r.ys.length ≤ 2000000) (lb : c.bx.length ≤ 2000000) (ll : c.bl.length = 5 * c.bm) (lm : c.bm ≤ 2000000) (wf : Pl.WfR c.r) :
    Calls Try.prog 19 #[.agg #[.slice a c.r.xs.length ca, .slice b c.r.ys.length cb, .int .i64 c.r.o, .int .i64 c.r.p, .int .i64 c.r.f, .int .i64 c.r.m, .bool c.r.s, .bool c.r.t, .slice e c.bx.length ce, .slice q c.bm cq, .bool c.st, .bool c.ha]] w fun r w' => r = .returned (.bool (Pl.cpOk c)) ∧ Kept 0 0 w w' := by
  have K0 := hide (kept_alloc w (.cells #[.slice a c.r.xs.length ca, .slice b c.r.ys.length cb, .int .i64 c.r.o, .int .i64 c.r.p, .int .i64 c.r.f, .int .i64 c.r.m, .bool c.r.s, .bool c.r.t, .slice e c.bx.length ce, .slice q c.bm cq, .bool c.st, .bool c.ha] 29))
  have HBA := hide (Blk.new w #[.slice a c.r.xs.length ca, .slice b c.r.ys.length cb, .int .i64 c.r.o, .int .i64 c.r.p, .int .i64 c.r.f, .int .i64 c.r.m, .bool c.r.s, .bool c.r.t, .slice e c.bx.length ce, .slice q c.bm cq, .bool c.st, .bool c.ha] 29)
  obtain ⟨X, hX⟩ : ∃ X : World, w.alloc (.cells #[.slice a c.r.xs.length ca, .slice b c.r.ys.length cb, .int .i64 c.r.o, .int .i64 c.r.p, .int .i64 c.r.f, .int .i64 c.r.m, .bool c.r.s, .bool c.r.t, .slice e c.bx.length ce, .slice q c.bm cq, .bool c.st, .bool c.ha] 29) = X := ⟨_, rfl⟩
  rw [hX] at K0 HBA
  have HA := hide (ha.keptS K0.out)
  have HB := hide (hb.keptS K0.out)
  have HE := hide (he.keptS K0.out)
  have HQ := hide (hq.keptS K0.out)
  clear ha hb he hq
  have p := HBA.out.all
  cases h1 : Pl.rgOk c.r
  · go_enter Try.func19, Try.ntmps19
    go_wp2_with (go_at_call 44; refine (implGoodRegs _ c.r a b ca cb HA.out HB.out lx ly wf).mono ?_; rintro e9 W ⟨rfl, k9⟩; rw [h1]; have HK1 := hide k9; have HB1 := hide (HBA.out.kept0 k9); have HE1 := hide (HE.out.keptS k9); have HQ1 := hide (HQ.out.keptS k9); clear k9 p; have p := HB1.out.all)
    go_ret
    exact ⟨rB (by unfold Pl.cpOk; simp [h1]), K0.out.trans HK1.out⟩
  · cases h2 : Pl.goodBus c.bx c.bl c.bm
    · go_enter Try.func19, Try.ntmps19
      go_wp2_with (first | (go_at_call 45; have z9 := HB1; refine (goodBus _ e q ce cq c.bm c.bx c.bl HE1.out HQ1.out lb ll lm).mono ?_; rintro e9 W2 ⟨rfl, k9⟩; rw [h2]; have HK2 := hide k9; have HB2 := hide (HB1.out.kept0 k9); clear k9 p; have p := HB2.out.all) | (go_at_call 44; refine (implGoodRegs _ c.r a b ca cb HA.out HB.out lx ly wf).mono ?_; rintro e9 W ⟨rfl, k9⟩; rw [h1]; have HK1 := hide k9; have HB1 := hide (HBA.out.kept0 k9); have HE1 := hide (HE.out.keptS k9); have HQ1 := hide (HQ.out.keptS k9); clear k9 p; have p := HB1.out.all))
      go_ret
      exact ⟨rB (by unfold Pl.cpOk; simp [h1, h2]), (K0.out.trans HK1.out).trans HK2.out⟩
    · rcases Bool.eq_false_or_eq_true c.st with h3 | h3
      all_goals
        have H3 := hide h3
        clear h3
        go_enter Try.func19, Try.ntmps19
        go_wp2_with (first | (go_at_call 45; have z9 := HB1; refine (goodBus _ e q ce cq c.bm c.bx c.bl HE1.out HQ1.out lb ll lm).mono ?_; rintro e9 W2 ⟨rfl, k9⟩; rw [h2]; have HK2 := hide k9; have HB2 := hide (HB1.out.kept0 k9); clear k9 p; have p := HB2.out.all; rw [H3.out] at p) | (go_at_call 44; refine (implGoodRegs _ c.r a b ca cb HA.out HB.out lx ly wf).mono ?_; rintro e9 W ⟨rfl, k9⟩; rw [h1]; have HK1 := hide k9; have HB1 := hide (HBA.out.kept0 k9); have HE1 := hide (HE.out.keptS k9); have HQ1 := hide (HQ.out.keptS k9); clear k9 p; have p := HB1.out.all))
        go_ret
        exact ⟨rB (by unfold Pl.cpOk; simp [h1, h2, H3.out]), (K0.out.trans HK1.out).trans HK2.out⟩
end Go.Proofs.Ytblddehlkaolbaa

