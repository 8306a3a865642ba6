/- What the program's flow does, of a processor that is worked on. What the program's functions of chapter 2 on bytes and the numbers that they tell answer for every argument: one contract a function; none changes the world. What the program's test of a kept bit answers. What chapter 2's functions that read a constant table answer, where the tables hold what the program's text lays: one contract a function. What the program's addDecimal does, of a processor that is worked on, where the tables hold what the program's text lays. -/
import Derived.Test.YtblddehlkaolbaaGreatDoorJA33
import Derived.Test.YtblddehlkaolbaaGreatDoorJA15
import Derived.Test.YtblddehlkaolbaaGreatDoorJA7
import Derived.Test.YtblddehlkaolbaaGreatDoorJA1
import Derived.Test.YtblddehlkaolbaaGreatDoorJA2
import Derived.Deep.QuietTactic
import Derived.BigQuiet
import Derived.Test.YtblddehlkaolbaaGreatDoorJA29
namespace Go.Proofs.YtblddehlkaolbaaGreatDoor
open Go.RowKit
set_option linter.unusedVariables false
namespace Pl
/-- what flow leaves -/
def Mc.fw (c : Mc) (x : In) : Mc :=
  bif x.s == 0 then c.cb0 else bif x.s == 1 then c.cb1 else bif x.s == 3 then { c.setR (withR c.r x.e) with st := true } else bif x.s == 4 then { c with f := ⟨18 + x.r, 0, 0, 0, false⟩ }
  else bif x.s == 5 then (c.put 2 x.r (swpV (el c.r.xs x.r.toNat))).setF (logF 2 c.r.f (swpV (el c.r.xs x.r.toNat))) else bif x.s == 6 then (c.put 2 x.r (extV (c.low 1 x.r))).setF (logF 2 c.r.f (extV (c.low 1 x.r))) else c
end Pl
set_option maxRecDepth 100000 in
set_option maxHeartbeats 8000000 in
theorem cFlow0 (w : World) (lo b g : Nat) (c : Pl.Mc) (h : Bool) (op z r m k e : Int) (hC : CAt w lo b g c h) (G : Pl.GM c) (hf : c.f = Pl.ftNo) (B : Pl.InB ⟨op, z, r, m, k, e, 0⟩) :
    Calls Tryz.prog 148 #[.pointer (some ⟨b, 0, none⟩), .agg #[.int .i64 op, .int .i64 z, .int .i64 r, .int .i64 m, .int .i64 k, .int .i64 e, .int .i64 0]] w fun e' w' => ∃ g', e' = .returned (.agg (ftC (c.fw ⟨op, z, r, m, k, e, 0⟩).f)) ∧ CAt w' lo b g' (c.fw ⟨op, z, r, m, k, e, 0⟩) h ∧ Since w b (b + 1) g w' g' := by
  have HB := hide B
  clear B
  obtain ⟨l0, l1, l2, l3, l4⟩ := hC.lt
  have HG := hide G
  have K0 := hide (kept_new (kept_alloc w (.cells #[.int .i64 op, .int .i64 z, .int .i64 r, .int .i64 m, .int .i64 k, .int .i64 e, .int .i64 0] 79)) (.cells #[.int .i64 0, .int .i64 0, .int .i64 0, .int .i64 0, .bool false] 38))
  have C0 := hide ((hC.alloc (.cells #[.int .i64 op, .int .i64 z, .int .i64 r, .int .i64 m, .int .i64 k, .int .i64 e, .int .i64 0] 79)).alloc (.cells #[.int .i64 0, .int .i64 0, .int .i64 0, .int .i64 0, .bool false] 38))
  have A0 := hide ((Blk.new w #[.int .i64 op, .int .i64 z, .int .i64 r, .int .i64 m, .int .i64 k, .int .i64 e, .int .i64 0] 79).alloc (.cells #[.int .i64 0, .int .i64 0, .int .i64 0, .int .i64 0, .bool false] 38))
  have R0 := Blk.new (w.alloc (.cells #[.int .i64 op, .int .i64 z, .int .i64 r, .int .i64 m, .int .i64 k, .int .i64 e, .int .i64 0] 79)) #[.int .i64 0, .int .i64 0, .int .i64 0, .int .i64 0, .bool false] 38
  simp only [World.size_alloc] at R0
  replace R0 := hide R0
  obtain ⟨X, hX⟩ : ∃ X : World, (w.alloc (.cells #[.int .i64 op, .int .i64 z, .int .i64 r, .int .i64 m, .int .i64 k, .int .i64 e, .int .i64 0] 79)).alloc (.cells #[.int .i64 0, .int .i64 0, .int .i64 0, .int .i64 0, .bool false] 38) = X := ⟨_, rfl⟩
  rw [hX] at K0 C0 A0 R0
  have sX : w.heap.size + 1 < X.heap.size := R0.out.lt
  have p := A0.out.all
  clear hC G
  have r0 := R0.out.all
  have rf0 := R0.out.fz
  obtain ⟨E, hE⟩ : ∃ E, E = c.cb0 := ⟨_, rfl⟩
  obtain ⟨F, hF⟩ : ∃ F, F = E.f := ⟨_, rfl⟩
  have ET : Hid (c.fw ⟨op, z, r, m, k, e, 0⟩ = E) := hide (by rw [hE]; rfl)
  have HE := hide hE
  have HF := hide hF
  clear hE hF
  go_enter Tryz.func148, Tryz.ntmps148
  go_wp2_with (go_at_call 183; refine (cBack0 _ lo b g c h op z r m k e C0.out HG.out hf).mono ?_; rintro e9 W1 ⟨g', rfl, hc, hs⟩; rw [← HE.out] at hc ⊢; rw [← HF.out]; unfold ftC; have C1 := hide hc; have R1 := hide (hs.blk R0.out (by omega) (by omega)); have n1 := hs.ne (b := w.heap.size + 1) R0.out.lt (by omega); have S1 := hide (((Since.refl w b (b + 1) g).any K0.out).trans hs); have r1 := R1.out.all; have rf1 := R1.out.fz; clear hc hs)
  have KR := (((((kept_one W1 (w.heap.size + 1) 0 (.int .i64 F.v)).one 1 (.int .i64 F.pc)).one 2 (.int .i64 F.ad)).one 3 (.int .i64 F.wo)).one 4 (.bool F.wr))
  refine bodyPost_ret (v := .agg #[.int .i64 F.v, .int .i64 F.pc, .int .i64 F.ad, .int .i64 F.wo, .bool F.wr]) ?_ rfl ⟨g', ?_, ?_, (S1.out).mine KR (by omega)⟩
  · rw [results_one rfl]; go_simp
  · rw [ET.out, ← HF.out]; rfl
  · rw [ET.out]; exact ((C1.out).kept KR (by omega) (by omega))
set_option maxRecDepth 100000 in
set_option maxHeartbeats 8000000 in
theorem cFlow1 (w : World) (lo b g : Nat) (c : Pl.Mc) (h : Bool) (op z r m k e : Int) (hC : CAt w lo b g c h) (G : Pl.GM c) (hf : c.f = Pl.ftNo) (B : Pl.InB ⟨op, z, r, m, k, e, 1⟩) :
    Calls Tryz.prog 148 #[.pointer (some ⟨b, 0, none⟩), .agg #[.int .i64 op, .int .i64 z, .int .i64 r, .int .i64 m, .int .i64 k, .int .i64 e, .int .i64 1]] w fun e' w' => ∃ g', e' = .returned (.agg (ftC (c.fw ⟨op, z, r, m, k, e, 1⟩).f)) ∧ CAt w' lo b g' (c.fw ⟨op, z, r, m, k, e, 1⟩) h ∧ Since w b (b + 1) g w' g' := by
  have HB := hide B
  clear B
  obtain ⟨l0, l1, l2, l3, l4⟩ := hC.lt
  have HG := hide G
  have K0 := hide (kept_new (kept_alloc w (.cells #[.int .i64 op, .int .i64 z, .int .i64 r, .int .i64 m, .int .i64 k, .int .i64 e, .int .i64 1] 79)) (.cells #[.int .i64 0, .int .i64 0, .int .i64 0, .int .i64 0, .bool false] 38))
  have C0 := hide ((hC.alloc (.cells #[.int .i64 op, .int .i64 z, .int .i64 r, .int .i64 m, .int .i64 k, .int .i64 e, .int .i64 1] 79)).alloc (.cells #[.int .i64 0, .int .i64 0, .int .i64 0, .int .i64 0, .bool false] 38))
  have A0 := hide ((Blk.new w #[.int .i64 op, .int .i64 z, .int .i64 r, .int .i64 m, .int .i64 k, .int .i64 e, .int .i64 1] 79).alloc (.cells #[.int .i64 0, .int .i64 0, .int .i64 0, .int .i64 0, .bool false] 38))
  have R0 := Blk.new (w.alloc (.cells #[.int .i64 op, .int .i64 z, .int .i64 r, .int .i64 m, .int .i64 k, .int .i64 e, .int .i64 1] 79)) #[.int .i64 0, .int .i64 0, .int .i64 0, .int .i64 0, .bool false] 38
  simp only [World.size_alloc] at R0
  replace R0 := hide R0
  obtain ⟨X, hX⟩ : ∃ X : World, (w.alloc (.cells #[.int .i64 op, .int .i64 z, .int .i64 r, .int .i64 m, .int .i64 k, .int .i64 e, .int .i64 1] 79)).alloc (.cells #[.int .i64 0, .int .i64 0, .int .i64 0, .int .i64 0, .bool false] 38) = X := ⟨_, rfl⟩
  rw [hX] at K0 C0 A0 R0
  have sX : w.heap.size + 1 < X.heap.size := R0.out.lt
  have p := A0.out.all
  clear hC G
  have r0 := R0.out.all
  have rf0 := R0.out.fz
  obtain ⟨E, hE⟩ : ∃ E, E = c.cb1 := ⟨_, rfl⟩
  obtain ⟨F, hF⟩ : ∃ F, F = E.f := ⟨_, rfl⟩
  have ET : Hid (c.fw ⟨op, z, r, m, k, e, 1⟩ = E) := hide (by rw [hE]; rfl)
  have HE := hide hE
  have HF := hide hF
  clear hE hF
  go_enter Tryz.func148, Tryz.ntmps148
  go_wp2_with (go_at_call 183; refine (cBack1 _ lo b g c h op z r m k e C0.out HG.out hf).mono ?_; rintro e9 W1 ⟨g', rfl, hc, hs⟩; rw [← HE.out] at hc ⊢; rw [← HF.out]; unfold ftC; have C1 := hide hc; have R1 := hide (hs.blk R0.out (by omega) (by omega)); have n1 := hs.ne (b := w.heap.size + 1) R0.out.lt (by omega); have S1 := hide (((Since.refl w b (b + 1) g).any K0.out).trans hs); have r1 := R1.out.all; have rf1 := R1.out.fz; clear hc hs)
  have KR := (((((kept_one W1 (w.heap.size + 1) 0 (.int .i64 F.v)).one 1 (.int .i64 F.pc)).one 2 (.int .i64 F.ad)).one 3 (.int .i64 F.wo)).one 4 (.bool F.wr))
  refine bodyPost_ret (v := .agg #[.int .i64 F.v, .int .i64 F.pc, .int .i64 F.ad, .int .i64 F.wo, .bool F.wr]) ?_ rfl ⟨g', ?_, ?_, (S1.out).mine KR (by omega)⟩
  · rw [results_one rfl]; go_simp
  · rw [ET.out, ← HF.out]; rfl
  · rw [ET.out]; exact ((C1.out).kept KR (by omega) (by omega))
set_option maxRecDepth 100000 in
set_option maxHeartbeats 8000000 in
theorem cFlow2 (w : World) (lo b g : Nat) (c : Pl.Mc) (h : Bool) (op z r m k e : Int) (hC : CAt w lo b g c h) (G : Pl.GM c) (hf : c.f = Pl.ftNo) (B : Pl.InB ⟨op, z, r, m, k, e, 2⟩) :
    Calls Tryz.prog 148 #[.pointer (some ⟨b, 0, none⟩), .agg #[.int .i64 op, .int .i64 z, .int .i64 r, .int .i64 m, .int .i64 k, .int .i64 e, .int .i64 2]] w fun e' w' => ∃ g', e' = .returned (.agg (ftC (c.fw ⟨op, z, r, m, k, e, 2⟩).f)) ∧ CAt w' lo b g' (c.fw ⟨op, z, r, m, k, e, 2⟩) h ∧ Since w b (b + 1) g w' g' := by
  have HB := hide B
  clear B
  obtain ⟨l0, l1, l2, l3, l4⟩ := hC.lt
  have HG := hide G
  have K0 := hide (kept_new (kept_alloc w (.cells #[.int .i64 op, .int .i64 z, .int .i64 r, .int .i64 m, .int .i64 k, .int .i64 e, .int .i64 2] 79)) (.cells #[.int .i64 0, .int .i64 0, .int .i64 0, .int .i64 0, .bool false] 38))
  have C0 := hide ((hC.alloc (.cells #[.int .i64 op, .int .i64 z, .int .i64 r, .int .i64 m, .int .i64 k, .int .i64 e, .int .i64 2] 79)).alloc (.cells #[.int .i64 0, .int .i64 0, .int .i64 0, .int .i64 0, .bool false] 38))
  have A0 := hide ((Blk.new w #[.int .i64 op, .int .i64 z, .int .i64 r, .int .i64 m, .int .i64 k, .int .i64 e, .int .i64 2] 79).alloc (.cells #[.int .i64 0, .int .i64 0, .int .i64 0, .int .i64 0, .bool false] 38))
  have R0 := Blk.new (w.alloc (.cells #[.int .i64 op, .int .i64 z, .int .i64 r, .int .i64 m, .int .i64 k, .int .i64 e, .int .i64 2] 79)) #[.int .i64 0, .int .i64 0, .int .i64 0, .int .i64 0, .bool false] 38
  simp only [World.size_alloc] at R0
  replace R0 := hide R0
  obtain ⟨X, hX⟩ : ∃ X : World, (w.alloc (.cells #[.int .i64 op, .int .i64 z, .int .i64 r, .int .i64 m, .int .i64 k, .int .i64 e, .int .i64 2] 79)).alloc (.cells #[.int .i64 0, .int .i64 0, .int .i64 0, .int .i64 0, .bool false] 38) = X := ⟨_, rfl⟩
  rw [hX] at K0 C0 A0 R0
  have sX : w.heap.size + 1 < X.heap.size := R0.out.lt
  have p := A0.out.all
  clear hC G
  have r0 := R0.out.all
  have rf0 := R0.out.fz
  have ET : Hid (c.fw ⟨op, z, r, m, k, e, 2⟩ = c) := hide rfl
  go_enter Tryz.func148, Tryz.ntmps148
  go_wp2_with fail
  have KR := (((((kept_one X (w.heap.size + 1) 0 (.int .i64 0)).one 1 (.int .i64 0)).one 2 (.int .i64 0)).one 3 (.int .i64 0)).one 4 (.bool false))
  refine bodyPost_ret (v := .agg #[.int .i64 0, .int .i64 0, .int .i64 0, .int .i64 0, .bool false]) ?_ rfl ⟨g, ?_, ?_, ((Since.refl w b (b + 1) g).any K0.out).mine KR (by omega)⟩
  · rw [results_one rfl]; go_simp
  · rw [ET.out, hf]; rfl
  · rw [ET.out]; exact ((C0.out).kept KR (by omega) (by omega))
set_option maxRecDepth 100000 in
set_option maxHeartbeats 8000000 in
theorem cFlow4 (w : World) (lo b g : Nat) (c : Pl.Mc) (h : Bool) (op z r m k e : Int) (hC : CAt w lo b g c h) (G : Pl.GM c) (hf : c.f = Pl.ftNo) (B : Pl.InB ⟨op, z, r, m, k, e, 4⟩) :
    Calls Tryz.prog 148 #[.pointer (some ⟨b, 0, none⟩), .agg #[.int .i64 op, .int .i64 z, .int .i64 r, .int .i64 m, .int .i64 k, .int .i64 e, .int .i64 4]] w fun e' w' => ∃ g', e' = .returned (.agg (ftC (c.fw ⟨op, z, r, m, k, e, 4⟩).f)) ∧ CAt w' lo b g' (c.fw ⟨op, z, r, m, k, e, 4⟩) h ∧ Since w b (b + 1) g w' g' := by
  have HB := hide B
  clear B
  obtain ⟨l0, l1, l2, l3, l4⟩ := hC.lt
  have HG := hide G
  have K0 := hide (kept_new (kept_alloc w (.cells #[.int .i64 op, .int .i64 z, .int .i64 r, .int .i64 m, .int .i64 k, .int .i64 e, .int .i64 4] 79)) (.cells #[.int .i64 0, .int .i64 0, .int .i64 0, .int .i64 0, .bool false] 38))
  have C0 := hide ((hC.alloc (.cells #[.int .i64 op, .int .i64 z, .int .i64 r, .int .i64 m, .int .i64 k, .int .i64 e, .int .i64 4] 79)).alloc (.cells #[.int .i64 0, .int .i64 0, .int .i64 0, .int .i64 0, .bool false] 38))
  have A0 := hide ((Blk.new w #[.int .i64 op, .int .i64 z, .int .i64 r, .int .i64 m, .int .i64 k, .int .i64 e, .int .i64 4] 79).alloc (.cells #[.int .i64 0, .int .i64 0, .int .i64 0, .int .i64 0, .bool false] 38))
  have R0 := Blk.new (w.alloc (.cells #[.int .i64 op, .int .i64 z, .int .i64 r, .int .i64 m, .int .i64 k, .int .i64 e, .int .i64 4] 79)) #[.int .i64 0, .int .i64 0, .int .i64 0, .int .i64 0, .bool false] 38
  simp only [World.size_alloc] at R0
  replace R0 := hide R0
  obtain ⟨X, hX⟩ : ∃ X : World, (w.alloc (.cells #[.int .i64 op, .int .i64 z, .int .i64 r, .int .i64 m, .int .i64 k, .int .i64 e, .int .i64 4] 79)).alloc (.cells #[.int .i64 0, .int .i64 0, .int .i64 0, .int .i64 0, .bool false] 38) = X := ⟨_, rfl⟩
  rw [hX] at K0 C0 A0 R0
  have sX : w.heap.size + 1 < X.heap.size := R0.out.lt
  have p := A0.out.all
  clear hC G
  have r0 := R0.out.all
  have rf0 := R0.out.fz
  have rb0 : 0 ≤ r := HB.out.r0
  have rb1 : r ≤ 3 := HB.out.r1
  have ET : Hid (c.fw ⟨op, z, r, m, k, e, 4⟩ = { c with f := ⟨18 + r, 0, 0, 0, false⟩ }) := hide rfl
  go_enter Tryz.func148, Tryz.ntmps148
  go_wp2_with fail
  have KR := (((((kept_one X (w.heap.size + 1) 0 (.int .i64 (18 + r))).one 1 (.int .i64 0)).one 2 (.int .i64 0)).one 3 (.int .i64 0)).one 4 (.bool false))
  refine bodyPost_ret (v := .agg #[.int .i64 (18 + r), .int .i64 0, .int .i64 0, .int .i64 0, .bool false]) ?_ rfl ⟨g, ?_, ?_, ((Since.refl w b (b + 1) g).any K0.out).mine KR (by omega)⟩
  · rw [results_one rfl]; go_simp
  · rw [ET.out]; rfl
  · rw [ET.out]; exact ((C0.out).kept KR (by omega) (by omega)).fx rfl rfl rfl rfl rfl
set_option maxRecDepth 100000 in
set_option maxHeartbeats 8000000 in
theorem cFlow3 (w : World) (lo b g : Nat) (c : Pl.Mc) (h : Bool) (op z r m k e : Int) (hC : CAt w lo b g c h) (G : Pl.GM c) (hf : c.f = Pl.ftNo) (B : Pl.InB ⟨op, z, r, m, k, e, 3⟩) (he : e ≤ 1023) :
    Calls Tryz.prog 148 #[.pointer (some ⟨b, 0, none⟩), .agg #[.int .i64 op, .int .i64 z, .int .i64 r, .int .i64 m, .int .i64 k, .int .i64 e, .int .i64 3]] w fun e' w' => ∃ g', e' = .returned (.agg (ftC (c.fw ⟨op, z, r, m, k, e, 3⟩).f)) ∧ CAt w' lo b g' (c.fw ⟨op, z, r, m, k, e, 3⟩) h ∧ Since w b (b + 1) g w' g' := by
  have HB := hide B
  clear B
  obtain ⟨l0, l1, l2, l3, l4⟩ := hC.lt
  have HG := hide G
  have K0 := hide (kept_new (kept_alloc w (.cells #[.int .i64 op, .int .i64 z, .int .i64 r, .int .i64 m, .int .i64 k, .int .i64 e, .int .i64 3] 79)) (.cells #[.int .i64 0, .int .i64 0, .int .i64 0, .int .i64 0, .bool false] 38))
  have C0 := hide ((hC.alloc (.cells #[.int .i64 op, .int .i64 z, .int .i64 r, .int .i64 m, .int .i64 k, .int .i64 e, .int .i64 3] 79)).alloc (.cells #[.int .i64 0, .int .i64 0, .int .i64 0, .int .i64 0, .bool false] 38))
  have A0 := hide ((Blk.new w #[.int .i64 op, .int .i64 z, .int .i64 r, .int .i64 m, .int .i64 k, .int .i64 e, .int .i64 3] 79).alloc (.cells #[.int .i64 0, .int .i64 0, .int .i64 0, .int .i64 0, .bool false] 38))
  have R0 := Blk.new (w.alloc (.cells #[.int .i64 op, .int .i64 z, .int .i64 r, .int .i64 m, .int .i64 k, .int .i64 e, .int .i64 3] 79)) #[.int .i64 0, .int .i64 0, .int .i64 0, .int .i64 0, .bool false] 38
  simp only [World.size_alloc] at R0
  replace R0 := hide R0
  obtain ⟨X, hX⟩ : ∃ X : World, (w.alloc (.cells #[.int .i64 op, .int .i64 z, .int .i64 r, .int .i64 m, .int .i64 k, .int .i64 e, .int .i64 3] 79)).alloc (.cells #[.int .i64 0, .int .i64 0, .int .i64 0, .int .i64 0, .bool false] 38) = X := ⟨_, rfl⟩
  rw [hX] at K0 C0 A0 R0
  have sX : w.heap.size + 1 < X.heap.size := R0.out.lt
  have p := A0.out.all
  clear hC G
  have r0 := R0.out.all
  have rf0 := R0.out.fz
  have e0 : 0 ≤ e := HB.out.e0
  have ET : Hid (c.fw ⟨op, z, r, m, k, e, 3⟩ = { c.setR (Pl.withR c.r e) with st := true }) := hide rfl
  go_enter Tryz.func148, Tryz.ntmps148
  go_wp2_with fail
  clear hX p r0 rf0
  have u5 := A0.out.cell (i := 5) rfl
  go_region_held3 (fun w' => w'.cell? ⟨w.heap.size, 5, none⟩ = some (.int .i64 e)) (first | with_reducible exact A1.out.cell (i := 5) rfl | exact (show Blk _ _ _ _ from A0.out).cell (i := 5) rfl)
    (first | (go_at_call 184; refine (cStat _ lo b g c h e C0.out.drew HG.out.g e0 he).mono ?_; rintro e9 W1 ⟨rfl, hc, kd⟩; have k1 := undrewK kd; have C1 := hide hc; have A1 := hide (A0.out.kept k1 (by omega)); have R1 := hide (R0.out.kept k1 (by omega)); have S1 := hide (((Since.refl w b (b + 1) g).any K0.out).keptS k1 (Nat.le_refl _) (Nat.le_refl _)); clear hc kd k1))
  have c7 := C1.out.cSt HG.out.bx
  have cz := C1.out.fz
  have r2 := (R1.out.other b 527 (.bool true) (by omega)).all
  have rf2 := (R1.out.other b 527 (.bool true) (by omega)).fz
  go_wp2_with fail
  have KR := (((((kept_one (W1.setCell ⟨b, 527, none⟩ (.bool true)) (w.heap.size + 1) 0 (.int .i64 0)).one 1 (.int .i64 0)).one 2 (.int .i64 0)).one 3 (.int .i64 0)).one 4 (.bool false))
  refine bodyPost_ret (v := .agg #[.int .i64 0, .int .i64 0, .int .i64 0, .int .i64 0, .bool false]) ?_ rfl ⟨g, ?_, ?_, (S1.out.set b 527 (.bool true) (.inl (by omega))).mine KR (by omega)⟩
  · rw [results_one rfl]; go_simp
  · rw [ET.out, show ({ c.setR (Pl.withR c.r e) with st := true } : Pl.Mc).f = Pl.ftNo from hf]; rfl
  · rw [ET.out]; exact ((C1.out.setS HG.out.bx true).kept KR (by omega) (by omega))
theorem Bd' {w : World} {b : Nat} {cs : Array Value} {t : TypeId} (h : Blk w b cs t) : Blk w.drew b cs t := h
theorem Pl.put_el {c : Pl.Mc} (h : Pl.GM c) {n : Nat} (hn : n < 4) {v : Int} : el (c.put 2 (n : Int) v).r.xs n = v := by
  show el (c.r.xs.set n _) n = v
  rw [Pl.el_set (by have := h.g.d4; omega), if_pos rfl]
  rfl
set_option maxRecDepth 100000 in
set_option maxHeartbeats 8000000 in
theorem cFlow5 (w : World) (lo b g : Nat) (c : Pl.Mc) (h : Bool) (op z r m k e : Int) (hC : CAt w lo b g c h) (G : Pl.GM c) (hf : c.f = Pl.ftNo) (B : Pl.InB ⟨op, z, r, m, k, e, 5⟩) :
    Calls Tryz.prog 148 #[.pointer (some ⟨b, 0, none⟩), .agg #[.int .i64 op, .int .i64 z, .int .i64 r, .int .i64 m, .int .i64 k, .int .i64 e, .int .i64 5]] w fun e' w' => ∃ g', e' = .returned (.agg (ftC (c.fw ⟨op, z, r, m, k, e, 5⟩).f)) ∧ CAt w' lo b g' (c.fw ⟨op, z, r, m, k, e, 5⟩) h ∧ Since w b (b + 1) g w' g' := by
  have HB := hide B
  clear B
  obtain ⟨l0, l1, l2, l3, l4⟩ := hC.lt
  have HG := hide G
  have K0 := hide (kept_new (kept_alloc w (.cells #[.int .i64 op, .int .i64 z, .int .i64 r, .int .i64 m, .int .i64 k, .int .i64 e, .int .i64 5] 79)) (.cells #[.int .i64 0, .int .i64 0, .int .i64 0, .int .i64 0, .bool false] 38))
  have C0 := hide ((hC.alloc (.cells #[.int .i64 op, .int .i64 z, .int .i64 r, .int .i64 m, .int .i64 k, .int .i64 e, .int .i64 5] 79)).alloc (.cells #[.int .i64 0, .int .i64 0, .int .i64 0, .int .i64 0, .bool false] 38))
  have A0 := hide ((Blk.new w #[.int .i64 op, .int .i64 z, .int .i64 r, .int .i64 m, .int .i64 k, .int .i64 e, .int .i64 5] 79).alloc (.cells #[.int .i64 0, .int .i64 0, .int .i64 0, .int .i64 0, .bool false] 38))
  have R0 := Blk.new (w.alloc (.cells #[.int .i64 op, .int .i64 z, .int .i64 r, .int .i64 m, .int .i64 k, .int .i64 e, .int .i64 5] 79)) #[.int .i64 0, .int .i64 0, .int .i64 0, .int .i64 0, .bool false] 38
  simp only [World.size_alloc] at R0
  replace R0 := hide R0
  obtain ⟨X, hX⟩ : ∃ X : World, (w.alloc (.cells #[.int .i64 op, .int .i64 z, .int .i64 r, .int .i64 m, .int .i64 k, .int .i64 e, .int .i64 5] 79)).alloc (.cells #[.int .i64 0, .int .i64 0, .int .i64 0, .int .i64 0, .bool false] 38) = X := ⟨_, rfl⟩
  rw [hX] at K0 C0 A0 R0
  have sX : w.heap.size + 1 < X.heap.size := R0.out.lt
  have p := A0.out.all
  clear hC G
  have r0 := R0.out.all
  have rf0 := R0.out.fz
  obtain ⟨n, rfl⟩ : ∃ n : Nat, r = (n : Int) := ⟨r.toNat, by have : 0 ≤ r := HB.out.r0; omega⟩
  have hn : n < 4 := by have : (n : Int) ≤ 3 := HB.out.r1; omega
  have i0 : (0 : Int) ≤ (n : Int) := by omega
  have i1 : (n : Int) < 4 := by omega
  have xb := HG.out.g.dw n hn
  obtain ⟨xb0, xb1⟩ := xb
  obtain ⟨V, hV⟩ : ∃ V, V = Pl.swpV (el c.r.xs n) := ⟨_, rfl⟩
  have vb : Pl.okv 2 V = true := by rw [hV]; exact Pl.okv_swp _
  have vb2 := Pl.top_ok vb
  obtain ⟨vb0, vb1⟩ : 0 ≤ V ∧ V ≤ 65535 := by omega
  have ET : Hid (c.fw ⟨op, z, (n : Int), m, k, e, 5⟩ = (c.put 2 (n : Int) V).setF (Pl.logF 2 c.r.f V)) := hide (by rw [hV]; rfl)
  have eV : Pl.swpV (el c.r.xs n) = V := hV.symm
  clear hV vb vb2
  go_enter Tryz.func148, Tryz.ntmps148
  go_wp2_with fail
  clear hX p r0 rf0
  have q1 := C0.out.cX hn
  have qf := C0.out.fz n
  have u1 := A0.out.cell (i := 2) rfl
  go_region_with (first | (go_at_call 185; refine (swapBytes _ _ (by omega) (by omega)).mono ?_; rintro e9 W9 ⟨rfl, hw⟩; have hw2 := hw.symm; clear hw; subst hw2; rw [eV]))
  all_goals
    go_wp2_with fail
    have C3 : Hid (CAt (X.setCell ⟨b, n, none⟩ (.int .i64 V)).drew lo b g (c.put 2 (n : Int) V) h) := hide (C0.out.setX HG.out.g.d4 hn V).drew
    have A3 := hide (Bd' (A0.out.other b n (.int .i64 V) (by omega)))
    have R3 := hide (Bd' (R0.out.other b n (.int .i64 V) (by omega)))
    have S3 := hide ((((Since.refl w b (b + 1) g).any K0.out).set b n (.int .i64 V) (.inl (by omega))).drew)
    obtain ⟨W3, hW⟩ : ∃ W : World, (X.setCell ⟨b, n, none⟩ (.int .i64 V)).drew = W := ⟨_, rfl⟩
    rw [hW] at C3 A3 R3 S3 ⊢
    clear hW q1 qf u1
    have u2 := A3.out.cell (i := 2) rfl
    have q3 := C3.out.cX hn
    rw [show el (c.put 2 (n : Int) V).r.xs n = V from Pl.put_el HG.out hn] at q3
    go_region_held3 (fun w' => w'.cell? ⟨w.heap.size, 2, none⟩ = some (.int .i64 (n : Int)) ∧ w'.cell? ⟨b, n, none⟩ = some (.int .i64 V)) (first | with_reducible exact ⟨A4.out.cell (i := 2) rfl, q4⟩ | exact ⟨(show Blk _ _ _ _ from A3.out).cell (i := 2) rfl, q3⟩)
      (first | (go_at_call 174; refine (cLogic _ lo b g (c.put 2 (n : Int) V) h 2 V C3.out.drew vb0 vb1).mono ?_; rintro e9 W4 ⟨rfl, hc, kd⟩; have k4 := undrewK kd; have C4 := hide hc; have A4 := hide (A3.out.kept k4 (by omega)); have R4 := hide (R3.out.kept k4 (by omega)); have S4 := hide (S3.out.keptS k4 (Nat.le_refl _) (Nat.le_refl _)); have q4 := hc.cX hn; rw [show el ((c.put 2 (n : Int) V).setF (Pl.logF 2 (c.put 2 (n : Int) V).r.f V)).r.xs n = V from Pl.put_el HG.out hn] at q4; clear hc kd k4))
    have r4 := R4.out.all
    have rf4 := R4.out.fz
    go_wp2_with fail
    have KR := (((((kept_one W4 (w.heap.size + 1) 0 (.int .i64 0)).one 1 (.int .i64 0)).one 2 (.int .i64 0)).one 3 (.int .i64 0)).one 4 (.bool false))
    refine bodyPost_ret (v := .agg #[.int .i64 0, .int .i64 0, .int .i64 0, .int .i64 0, .bool false]) ?_ rfl ⟨g, ?_, ?_, (S4.out).mine KR (by omega)⟩
    · rw [results_one rfl]; go_simp
    · rw [ET.out, show ((c.put 2 (n : Int) V).setF (Pl.logF 2 c.r.f V)).f = Pl.ftNo from hf]; rfl
    · rw [ET.out]; exact ((C4.out).kept KR (by omega) (by omega))
set_option maxRecDepth 100000 in
set_option maxHeartbeats 8000000 in
theorem cFlow6 (w : World) (lo b g : Nat) (c : Pl.Mc) (h : Bool) (op z r m k e : Int) (hC : CAt w lo b g c h) (G : Pl.GM c) (hf : c.f = Pl.ftNo) (B : Pl.InB ⟨op, z, r, m, k, e, 6⟩) :
    Calls Tryz.prog 148 #[.pointer (some ⟨b, 0, none⟩), .agg #[.int .i64 op, .int .i64 z, .int .i64 r, .int .i64 m, .int .i64 k, .int .i64 e, .int .i64 6]] w fun e' w' => ∃ g', e' = .returned (.agg (ftC (c.fw ⟨op, z, r, m, k, e, 6⟩).f)) ∧ CAt w' lo b g' (c.fw ⟨op, z, r, m, k, e, 6⟩) h ∧ Since w b (b + 1) g w' g' := by
  have HB := hide B
  clear B
  obtain ⟨l0, l1, l2, l3, l4⟩ := hC.lt
  have HG := hide G
  have K0 := hide (kept_new (kept_alloc w (.cells #[.int .i64 op, .int .i64 z, .int .i64 r, .int .i64 m, .int .i64 k, .int .i64 e, .int .i64 6] 79)) (.cells #[.int .i64 0, .int .i64 0, .int .i64 0, .int .i64 0, .bool false] 38))
  have C0 := hide ((hC.alloc (.cells #[.int .i64 op, .int .i64 z, .int .i64 r, .int .i64 m, .int .i64 k, .int .i64 e, .int .i64 6] 79)).alloc (.cells #[.int .i64 0, .int .i64 0, .int .i64 0, .int .i64 0, .bool false] 38))
  have A0 := hide ((Blk.new w #[.int .i64 op, .int .i64 z, .int .i64 r, .int .i64 m, .int .i64 k, .int .i64 e, .int .i64 6] 79).alloc (.cells #[.int .i64 0, .int .i64 0, .int .i64 0, .int .i64 0, .bool false] 38))
  have R0 := Blk.new (w.alloc (.cells #[.int .i64 op, .int .i64 z, .int .i64 r, .int .i64 m, .int .i64 k, .int .i64 e, .int .i64 6] 79)) #[.int .i64 0, .int .i64 0, .int .i64 0, .int .i64 0, .bool false] 38
  simp only [World.size_alloc] at R0
  replace R0 := hide R0
  obtain ⟨X, hX⟩ : ∃ X : World, (w.alloc (.cells #[.int .i64 op, .int .i64 z, .int .i64 r, .int .i64 m, .int .i64 k, .int .i64 e, .int .i64 6] 79)).alloc (.cells #[.int .i64 0, .int .i64 0, .int .i64 0, .int .i64 0, .bool false] 38) = X := ⟨_, rfl⟩
  rw [hX] at K0 C0 A0 R0
  have sX : w.heap.size + 1 < X.heap.size := R0.out.lt
  have p := A0.out.all
  clear hC G
  have r0 := R0.out.all
  have rf0 := R0.out.fz
  obtain ⟨n, rfl⟩ : ∃ n : Nat, r = (n : Int) := ⟨r.toNat, by have : 0 ≤ r := HB.out.r0; omega⟩
  have hn : n < 4 := by have : (n : Int) ≤ 3 := HB.out.r1; omega
  have i0 : (0 : Int) ≤ (n : Int) := by omega
  have i1 : (n : Int) < 4 := by omega
  have OQ : Hid (Pl.okv 1 (c.low 1 (n : Int)) = true) := hide (Pl.low_in HG.out (.inl rfl) i0 (by omega))
  obtain ⟨Q, hQ⟩ : ∃ Q, Q = c.low 1 (n : Int) := ⟨_, rfl⟩
  rw [← hQ] at OQ
  have tq := Pl.top_ok OQ.out
  obtain ⟨qb0, qb1⟩ : 0 ≤ Q ∧ Q ≤ 255 := by omega
  obtain ⟨V, hV⟩ : ∃ V, V = Pl.extV Q := ⟨_, rfl⟩
  have vb : Pl.okv 2 V = true := by rw [hV]; exact Pl.okv_ext _
  have vb2 := Pl.top_ok vb
  obtain ⟨vb0, vb1⟩ : 0 ≤ V ∧ V ≤ 65535 := by omega
  have ET : Hid (c.fw ⟨op, z, (n : Int), m, k, e, 6⟩ = (c.put 2 (n : Int) V).setF (Pl.logF 2 c.r.f V)) := hide (by rw [hV, hQ]; rfl)
  have HV := hide hV
  have HQ := hide hQ
  clear hV vb vb2 hQ tq
  go_enter Tryz.func148, Tryz.ntmps148
  go_wp2_with fail
  clear hX p r0 rf0
  have u1 := A0.out.cell (i := 2) rfl
  go_region_held3 (fun w' => w'.cell? ⟨w.heap.size, 2, none⟩ = some (.int .i64 (n : Int))) (first | with_reducible exact A1.out.cell (i := 2) rfl | exact (show Blk _ _ _ _ from A0.out).cell (i := 2) rfl | exact (A1.out.other b n (.int .i64 V) (by omega)).cell (i := 2) rfl)
    (first | (go_at_call 186; have z9 := C1; refine (extendWord Q _ (by omega) (by omega)).mono ?_; rintro e9 W9 ⟨rfl, hw⟩; have hw2 := hw.symm; clear hw; subst hw2; rw [← HV.out]) | (go_at_call 172; refine (cDataK _ lo b g c h 1 (n : Int) C0.out.drew (.inl rfl) i0 (by omega)).mono ?_; rintro e9 W1 ⟨rfl, kd⟩; rw [← HQ.out]; have k1 := undrewK kd; have C1 := hide (C0.out.any k1); have A1 := hide (A0.out.kept0 k1); have R1 := hide (R0.out.kept0 k1); have K1 := hide (K0.out.trans k1); have q1 := C1.out.cX hn; have qz := C1.out.fz; clear kd k1))
  go_wp2_with fail
  have C3 : Hid (CAt (W1.setCell ⟨b, n, none⟩ (.int .i64 V)) lo b g (c.put 2 (n : Int) V) h) := hide (C1.out.setX HG.out.g.d4 hn V)
  have A3 := hide (A1.out.other b n (.int .i64 V) (by omega))
  have R3 := hide (R1.out.other b n (.int .i64 V) (by omega))
  have S3 := hide (((Since.refl w b (b + 1) g).any K1.out).set b n (.int .i64 V) (.inl (by omega)))
  obtain ⟨W3, hW⟩ : ∃ W : World, W1.setCell ⟨b, n, none⟩ (.int .i64 V) = W := ⟨_, rfl⟩
  rw [hW] at C3 A3 R3 S3 ⊢
  clear hW q1 qz
  have u2 := A3.out.cell (i := 2) rfl
  have q3 := C3.out.cX hn
  rw [show el (c.put 2 (n : Int) V).r.xs n = V from Pl.put_el HG.out hn] at q3
  go_region_held3 (fun w' => w'.cell? ⟨w.heap.size, 2, none⟩ = some (.int .i64 (n : Int)) ∧ w'.cell? ⟨b, n, none⟩ = some (.int .i64 V)) (first | with_reducible exact ⟨A4.out.cell (i := 2) rfl, q4⟩ | exact ⟨(show Blk _ _ _ _ from A3.out).cell (i := 2) rfl, q3⟩)
    (first | (go_at_call 174; refine (cLogic _ lo b g (c.put 2 (n : Int) V) h 2 V C3.out.drew vb0 vb1).mono ?_; rintro e9 W4 ⟨rfl, hc, kd⟩; have k4 := undrewK kd; have C4 := hide hc; have A4 := hide (A3.out.kept k4 (by omega)); have R4 := hide (R3.out.kept k4 (by omega)); have S4 := hide (S3.out.keptS k4 (Nat.le_refl _) (Nat.le_refl _)); have q4 := hc.cX hn; rw [show el ((c.put 2 (n : Int) V).setF (Pl.logF 2 (c.put 2 (n : Int) V).r.f V)).r.xs n = V from Pl.put_el HG.out hn] at q4; clear hc kd k4))
  have r4 := R4.out.all
  have rf4 := R4.out.fz
  go_wp2_with fail
  have KR := (((((kept_one W4 (w.heap.size + 1) 0 (.int .i64 0)).one 1 (.int .i64 0)).one 2 (.int .i64 0)).one 3 (.int .i64 0)).one 4 (.bool false))
  refine bodyPost_ret (v := .agg #[.int .i64 0, .int .i64 0, .int .i64 0, .int .i64 0, .bool false]) ?_ rfl ⟨g, ?_, ?_, (S4.out).mine KR (by omega)⟩
  · rw [results_one rfl]; go_simp
  · rw [ET.out, show ((c.put 2 (n : Int) V).setF (Pl.logF 2 c.r.f V)).f = Pl.ftNo from hf]; rfl
  · rw [ET.out]; exact ((C4.out).kept KR (by omega) (by omega))
end Go.Proofs.YtblddehlkaolbaaGreatDoor

namespace Go.Proofs.YtblddehlkaolbaaGreatDoor
open Go.RowKit
set_option linter.unusedVariables false

theorem Pl.halves_join (u l : Int) (u0 : 0 ≤ u) (u1 : u ≤ 15) (l0 : 0 ≤ l) (l1 : l ≤ 15) : bits .or .i64 (u * 16) l = u * 16 + l :=
  bits_join .i64 62 (by decide) wraps_i64 4 (u * 16) l (by omega) (by omega) (by omega) (by omega) (by omega) (by omega)

theorem halvesOf (v : Int) (w : World) (lv : -9223372036854775808 ≤ v) (hv : v ≤ 9223372036854775807) :
    Calls Tryz.prog 240 #[.int .i64 v] w fun e w' => e = .returned (.tuple #[.int .i64 (v / 16), .int .i64 (v % 16)]) ∧ w' = w := by
  have k := Pl.and15 v
  go_enter Tryz.func240, Tryz.ntmps240
  go_wp2
  go_ret2
  exact ⟨rII (by omega) (by omega), rfl⟩

theorem byteOf (u l : Int) (w : World) (u0 : 0 ≤ u) (u1 : u ≤ 15) (l0 : 0 ≤ l) (l1 : l ≤ 15) :
    Calls Tryz.prog 241 #[.int .i64 u, .int .i64 l] w fun e w' => e = .returned (.int .i64 (u * 16 + l)) ∧ w' = w := by
  have k := Pl.halves_join u l u0 u1 l0 l1
  go_enter Tryz.func241, Tryz.ntmps241
  go_wp2
  go_ret
  exact ⟨rI (by omega), rfl⟩

theorem isBcd (v : Int) (w : World) (lv : -9223372036854775808 ≤ v) (hv : v ≤ 9223372036854775807) :
    Calls Tryz.prog 217 #[.int .i64 v] w fun e w' => e = .returned (.bool (Pl.bcd v)) ∧ w' = w := by
  cases ko : Pl.okv 1 v
  · have kn : Pl.bcd v = false := by
      cases c : Pl.bcd v
      · rfl
      · have := Pl.bcd_ok c
        rw [Pl.okv_mk1 (by omega) (by omega)] at ko
        cases ko
    go_enter Tryz.func217, Tryz.ntmps217
    go_wp2_with fail
    refine (signedOf 1 v _ lv hv).mono ?_
    rintro e w' ⟨rfl, rfl⟩
    go_wp2_with fail
    go_ret
    exact ⟨rB kn.symm, rfl⟩
  · have kr := Pl.top_ok ko
    have k0 : 0 ≤ v ∧ v < 256 := by omega
    obtain ⟨k0, k1⟩ := k0
    clear kr
    by_cases h9 : v / 16 ≤ 9
    all_goals
      by_cases h8 : v % 16 ≤ 9
      all_goals
        go_enter Tryz.func217, Tryz.ntmps217
        go_wp2_with fail
        refine (signedOf 1 v _ lv hv).mono ?_
        rintro e w' ⟨rfl, rfl⟩
        go_wp2_with fail
        refine (halvesOf v _ lv hv).mono ?_
        rintro e w' ⟨rfl, rfl⟩
        go_wp2_with fail
        go_ret
        exact ⟨rB (by simp [Pl.bcd, h9, h8] <;> omega), rfl⟩

end Go.Proofs.YtblddehlkaolbaaGreatDoor

namespace Go.Proofs.YtblddehlkaolbaaGreatDoor
open Go.RowKit
set_option linter.unusedVariables false

theorem isBit2 (x : Int) (w : World) :
    Calls Tryz.prog 216 #[.int .i64 x] w fun e w' => e = .returned (.bool (Pl.bit x)) ∧ w' = w := by
  by_cases h0 : x = 0
  · subst h0
    go_enter Tryz.func216, Tryz.ntmps216
    go_wp2
    go_ret
    exact ⟨rfl, rfl⟩
  · by_cases h1 : x = 1
    · subst h1
      go_enter Tryz.func216, Tryz.ntmps216
      go_wp2
      go_ret
      exact ⟨rfl, rfl⟩
    · have k0 : (x == 0) = false := by simpa using h0
      have k1 : (x == 1) = false := by simpa using h1
      go_enter Tryz.func216, Tryz.ntmps216
      go_wp2
      go_ret
      exact ⟨rB (by simp [Pl.bit]; omega), rfl⟩

end Go.Proofs.YtblddehlkaolbaaGreatDoor

namespace Go.Proofs.YtblddehlkaolbaaGreatDoor
open Go.RowKit
set_option linter.unusedVariables false

/-- the table of sums: at each sum of two digits and a carry what is written down and, in the upper half, what is carried on -/
def TabS (w : World) : Prop := ∀ i : Nat, i < 20 → w.cell? ⟨0, i, none⟩ = some (.int .i64 ((i : Int) / 10 * 16 + (i : Int) % 10))
/-- the table of 9 less each digit -/
def TabN (w : World) : Prop := ∀ i : Nat, i < 10 → w.cell? ⟨1, i, none⟩ = some (.int .i64 (9 - (i : Int)))

theorem TabS.below {w w' : World} (h : TabS w) (hb : Below w.heap.size w w') : TabS w' := by
  intro i hi
  have hc := h i hi
  rw [hb.cell (World.block_lt_of_cell? _ _ hc)]; exact hc
theorem TabN.below {w w' : World} (h : TabN w) (hb : Below w.heap.size w w') : TabN w' := by
  intro i hi
  have hc := h i hi
  rw [hb.cell (World.block_lt_of_cell? _ _ hc)]; exact hc
theorem TabS.drewN {w : World} (h : TabS w) (n : Nat) : TabS (w.drewN n) := h
theorem TabS.at {w : World} (h : TabS w) (s : Int) (s0 : 0 ≤ s) (s1 : s < 20) : ∃ d : Int, w.cell? ⟨0, s.toNat, none⟩ = some (.int .i64 d) ∧ 0 ≤ d ∧ d ≤ 25 ∧ d / 16 = s / 10 ∧ d % 16 = s % 10 :=
  ⟨_, h s.toNat (by omega), by omega, by omega, by omega, by omega⟩
theorem TabN.at {w : World} (h : TabN w) (s : Int) (s0 : 0 ≤ s) (s1 : s < 10) : w.cell? ⟨1, s.toNat, none⟩ = some (.int .i64 (9 - s)) := by
  rw [h s.toNat (by omega), Int.toNat_of_nonneg s0]

theorem sumOnPaper (c a b : Int) (w : World) (ht : TabS w) (c0 : 0 ≤ c) (c1 : c ≤ 1) (ka : Pl.bcd a = true) (kb : Pl.bcd b = true) :
    Calls Tryz.prog 218 #[.int .i64 c, .int .i64 a, .int .i64 b] w fun e w' => e = .returned (.tuple #[.int .i64 (Pl.aV c a b), .int .i64 (Pl.aC c a b)]) ∧ w' = w := by
  have K := Pl.two2_mk c0 c1 ka kb
  obtain ⟨a0, a1, a2, a3⟩ := Pl.bcd_ok ka
  obtain ⟨b0, b1, b2, b3⟩ := Pl.bcd_ok kb
  obtain ⟨d, hd, d0, d1, d2, d3⟩ := ht.at (a % 16 + b % 16 + c) (by omega) (by omega)
  have d4 : d / 16 ≤ 1 := by omega
  have d5 : 0 ≤ d / 16 := by omega
  obtain ⟨f, hf, f0, f1, f2, f3⟩ := ht.at (a / 16 + b / 16 + d / 16) (by omega) (by omega)
  have f4 : f / 16 ≤ 1 := by omega
  have E : Hid (Pl.aV c a b = f % 16 * 16 + d % 16 ∧ Pl.aC c a b = f / 16) := by
    refine hide ?_
    rw [Pl.aV_is K, Pl.aC_is K]
    unfold Pl.ofN Pl.num
    omega
  clear ka kb K ht d2 d3 f2 f3
  go_enter Tryz.func218, Tryz.ntmps218
  go_wp2_with fail
  refine (halvesOf a _ (by omega) (by omega)).mono ?_
  rintro e w' ⟨rfl, rfl⟩
  go_wp2_with fail
  refine (halvesOf b _ (by omega) (by omega)).mono ?_
  rintro e w' ⟨rfl, rfl⟩
  go_wp2_with fail
  refine (halvesOf d _ (by omega) (by omega)).mono ?_
  rintro e w' ⟨rfl, rfl⟩
  go_wp2_with fail
  refine (halvesOf f _ (by omega) (by omega)).mono ?_
  rintro e w' ⟨rfl, rfl⟩
  go_wp2_with fail
  refine (byteOf (f % 16) (d % 16) _ (by omega) (by omega) (by omega) (by omega)).mono ?_
  rintro e w' ⟨rfl, rfl⟩
  go_wp2_with fail
  go_ret2
  exact ⟨rII E.out.1.symm E.out.2.symm, rfl⟩

theorem complementOnPaper (v : Int) (w : World) (ht : TabN w) (kv : Pl.bcd v = true) :
    Calls Tryz.prog 219 #[.int .i64 v] w fun e w' => e = .returned (.int .i64 (Pl.cplV v)) ∧ ∃ n, w' = w.drewN n := by
  obtain ⟨v0, v1, v2, v3⟩ := Pl.bcd_ok kv
  have h1 := ht.at (v / 16) (by omega) (by omega)
  have h2 := ht.at (v % 16) (by omega) (by omega)
  have E : Hid (Pl.cplV v = (9 - v / 16) * 16 + (9 - v % 16)) := by
    refine hide ?_
    simp only [Pl.cplV, kv, if_true]
    unfold Pl.ofN Pl.num
    omega
  clear kv ht
  go_enter Tryz.func219, Tryz.ntmps219
  go_wp2_with fail
  refine (halvesOf v _ (by omega) (by omega)).mono ?_
  rintro e w' ⟨rfl, rfl⟩
  go_wp2_with fail
  go_quiet ((go_at_call 241; exact Calls.quiet_of_same (byteOf (9 - v / 16) (9 - v % 16) _ (by omega) (by omega) (by omega) (by omega))))
  go_wp2_with fail
  go_ret
  exact ⟨rI E.out.symm, _, rfl⟩

theorem addBcd (x a b : Int) (w : World) (ht : TabS w) (lx : -9223372036854775808 ≤ x) (hx : x ≤ 9223372036854775807) (la : -9223372036854775808 ≤ a) (ha : a ≤ 9223372036854775807) (lb : -9223372036854775808 ≤ b) (hb : b ≤ 9223372036854775807) :
    Calls Tryz.prog 187 #[.int .i64 x, .int .i64 a, .int .i64 b] w fun e w' => e = .returned (.tuple #[.int .i64 (Pl.aV x a b), .int .i64 (Pl.aC x a b), .bool (Pl.two2 x a b)]) ∧ w' = w := by
  cases kx : Pl.bit x
  · have K : Hid (Pl.two2 x a b = false) := hide (by simp [Pl.two2, kx])
    go_enter Tryz.func187, Tryz.ntmps187
    go_wp2_with fail
    refine (isBit2 x _).mono ?_
    rintro e w' ⟨rfl, rfl⟩
    go_wp2_with fail
    go_ret3
    exact ⟨rIIB (by simp [Pl.aV, K.out]) (by simp [Pl.aC, K.out]) K.out.symm, rfl⟩
  · cases ka : Pl.bcd a
    · have K : Hid (Pl.two2 x a b = false) := hide (by simp [Pl.two2, ka])
      go_enter Tryz.func187, Tryz.ntmps187
      go_wp2_with fail
      refine (isBit2 x _).mono ?_
      rintro e w' ⟨rfl, rfl⟩
      go_wp2_with fail
      refine (isBcd a _ la ha).mono ?_
      rintro e w' ⟨rfl, rfl⟩
      go_wp2_with fail
      go_ret3
      exact ⟨rIIB (by simp [Pl.aV, K.out]) (by simp [Pl.aC, K.out]) K.out.symm, rfl⟩
    · cases kb : Pl.bcd b
      · have K : Hid (Pl.two2 x a b = false) := hide (by simp [Pl.two2, kb])
        go_enter Tryz.func187, Tryz.ntmps187
        go_wp2_with fail
        refine (isBit2 x _).mono ?_
        rintro e w' ⟨rfl, rfl⟩
        go_wp2_with fail
        refine (isBcd a _ la ha).mono ?_
        rintro e w' ⟨rfl, rfl⟩
        go_wp2_with fail
        refine (isBcd b _ lb hb).mono ?_
        rintro e w' ⟨rfl, rfl⟩
        go_wp2_with fail
        go_ret3
        exact ⟨rIIB (by simp [Pl.aV, K.out]) (by simp [Pl.aC, K.out]) K.out.symm, rfl⟩
      · obtain ⟨x0, x1⟩ := Pl.bit_ok kx
        have K : Hid (Pl.two2 x a b = true) := hide (by simp [Pl.two2, kx, ka, kb])
        go_enter Tryz.func187, Tryz.ntmps187
        go_wp2_with fail
        refine (isBit2 x _).mono ?_
        rintro e w' ⟨rfl, rfl⟩
        go_wp2_with fail
        refine (isBcd a _ la ha).mono ?_
        rintro e w' ⟨rfl, rfl⟩
        go_wp2_with fail
        refine (isBcd b _ lb hb).mono ?_
        rintro e w' ⟨rfl, rfl⟩
        go_wp2_with fail
        refine (sumOnPaper x a b _ ht x0 x1 ka kb).mono ?_
        rintro e w' ⟨rfl, rfl⟩
        go_wp2_with fail
        go_ret3
        exact ⟨rIIB rfl rfl K.out.symm, rfl⟩

theorem Pl.sub_as_add {x a b : Int} (x0 : 0 ≤ x) (x1 : x ≤ 1) (ka : Pl.bcd a = true) (kb : Pl.bcd b = true) :
    Pl.bcd (Pl.cplV b) = true ∧ Pl.aV (1 - x) a (Pl.cplV b) = Pl.sV x a b ∧ 1 - Pl.aC (1 - x) a (Pl.cplV b) = Pl.sC x a b := by
  have nb := Pl.num_bd kb
  have na := Pl.num_bd ka
  have ec : Pl.cplV b = Pl.ofN (99 - Pl.num b) := by simp [Pl.cplV, kb]
  have kc : Pl.bcd (Pl.cplV b) = true := by rw [ec]; exact Pl.ofN_bcd (by omega) (by omega)
  have nc : Pl.num (Pl.cplV b) = 99 - Pl.num b := by rw [ec]; exact Pl.num_ofN (by omega) (by omega)
  have k1 : Pl.two2 (1 - x) a (Pl.cplV b) = true := Pl.two2_mk (by omega) (by omega) ka kc
  have k2 : Pl.two2 x a b = true := Pl.two2_mk x0 x1 ka kb
  refine ⟨kc, ?_, ?_⟩
  · rw [Pl.aV_is k1, Pl.sV_is k2, nc, Pl.difN]
    congr 1
    split <;> omega
  · rw [Pl.aC_is k1, Pl.sC_is k2, nc, Pl.difB]
    split <;> omega

theorem subBcd (x a b : Int) (w : World) (ht : TabS w) (hn : TabN w) (lx : -9223372036854775808 ≤ x) (hx : x ≤ 9223372036854775807) (la : -9223372036854775808 ≤ a) (ha : a ≤ 9223372036854775807) (lb : -9223372036854775808 ≤ b) (hb : b ≤ 9223372036854775807) :
    Calls Tryz.prog 188 #[.int .i64 x, .int .i64 a, .int .i64 b] w fun e w' => e = .returned (.tuple #[.int .i64 (Pl.sV x a b), .int .i64 (Pl.sC x a b), .bool (Pl.two2 x a b)]) ∧ ∃ n, w' = w.drewN n := by
  cases kx : Pl.bit x
  · have K : Hid (Pl.two2 x a b = false) := hide (by simp [Pl.two2, kx])
    go_enter Tryz.func188, Tryz.ntmps188
    go_wp2_with fail
    refine (isBit2 x _).mono ?_
    rintro e w' ⟨rfl, rfl⟩
    go_wp2_with fail
    go_ret3
    exact ⟨rIIB (by simp [Pl.sV, K.out]) (by simp [Pl.sC, K.out]) K.out.symm, 0, rfl⟩
  · cases ka : Pl.bcd a
    · have K : Hid (Pl.two2 x a b = false) := hide (by simp [Pl.two2, ka])
      go_enter Tryz.func188, Tryz.ntmps188
      go_wp2_with fail
      refine (isBit2 x _).mono ?_
      rintro e w' ⟨rfl, rfl⟩
      go_wp2_with fail
      refine (isBcd a _ la ha).mono ?_
      rintro e w' ⟨rfl, rfl⟩
      go_wp2_with fail
      go_ret3
      exact ⟨rIIB (by simp [Pl.sV, K.out]) (by simp [Pl.sC, K.out]) K.out.symm, 0, rfl⟩
    · cases kb : Pl.bcd b
      · have K : Hid (Pl.two2 x a b = false) := hide (by simp [Pl.two2, kb])
        go_enter Tryz.func188, Tryz.ntmps188
        go_wp2_with fail
        refine (isBit2 x _).mono ?_
        rintro e w' ⟨rfl, rfl⟩
        go_wp2_with fail
        refine (isBcd a _ la ha).mono ?_
        rintro e w' ⟨rfl, rfl⟩
        go_wp2_with fail
        refine (isBcd b _ lb hb).mono ?_
        rintro e w' ⟨rfl, rfl⟩
        go_wp2_with fail
        go_ret3
        exact ⟨rIIB (by simp [Pl.sV, K.out]) (by simp [Pl.sC, K.out]) K.out.symm, 0, rfl⟩
      · obtain ⟨x0, x1⟩ := Pl.bit_ok kx
        have K : Hid (Pl.two2 x a b = true) := hide (by simp [Pl.two2, kx, ka, kb])
        obtain ⟨kc, e1, e2⟩ := Pl.sub_as_add x0 x1 ka kb
        obtain ⟨c0, c1⟩ := Pl.aC_bd (1 - x) a (Pl.cplV b)
        have E1 := hide e1
        have E2 := hide e2
        clear e1 e2
        go_enter Tryz.func188, Tryz.ntmps188
        go_wp2_with fail
        refine (isBit2 x _).mono ?_
        rintro e w' ⟨rfl, rfl⟩
        go_wp2_with fail
        refine (isBcd a _ la ha).mono ?_
        rintro e w' ⟨rfl, rfl⟩
        go_wp2_with fail
        refine (isBcd b _ lb hb).mono ?_
        rintro e w' ⟨rfl, rfl⟩
        go_wp2_with fail
        refine (complementOnPaper b _ hn kb).mono ?_
        rintro e w' ⟨rfl, n, rfl⟩
        go_wp2_with fail
        refine (sumOnPaper (1 - x) a (Pl.cplV b) _ (ht.drewN n) (by omega) (by omega) ka kc).mono ?_
        rintro e w' ⟨rfl, rfl⟩
        go_wp2_with fail
        go_ret3
        exact ⟨rIIB E1.out E2.out K.out.symm, n, rfl⟩

end Go.Proofs.YtblddehlkaolbaaGreatDoor

namespace Go.Proofs.YtblddehlkaolbaaGreatDoor
open Go.RowKit
set_option linter.unusedVariables false
/-- the tables are as laid, and lie below -/
structure TabsAt (w : World) (lo : Nat) : Prop where
  s : TabS w
  n : TabN w
  s0 : 0 < lo
  n0 : 1 < lo
theorem TabsAt.since {w w' : World} {lo b g g' : Nat} (h : TabsAt w lo) (k : Since w b (b + 1) g w' g') (hb : lo ≤ b) (hg : lo ≤ g) : TabsAt w' lo := by
  have e : ∀ i, i < lo → i < w.heap.size → w'.heap[i]? = w.heap[i]? := fun i h1 h2 => k.2.block i h2 (by unfold own; omega)
  have hs := h.s0
  have hn := h.n0
  refine ⟨fun i hi => ?_, fun i hi => ?_, hs, hn⟩
  · have q := h.s i hi
    rw [World.cell?_of_block (w := w) (e _ hs (World.block_lt_of_cell? _ _ q))]; exact q
  · have q := h.n i hi
    rw [World.cell?_of_block (w := w) (e _ hn (World.block_lt_of_cell? _ _ q))]; exact q
theorem TabsAt.any {w w' : World} {lo : Nat} (h : TabsAt w lo) (k : Kept 0 0 w w') : TabsAt w' lo := by
  have b := k.below
  exact ⟨h.s.below b, h.n.below b, h.s0, h.n0⟩
namespace Pl
def dcV (s x a q : Int) : Int := bif s == 1 then sV x a q else aV x a q
def dcC (s x a q : Int) : Int := bif s == 1 then sC x a q else aC x a q
def dcF (s f x a q : Int) : Int := bits .or .i64 (fl (dcV s x a q == 0) (bits .and .i64 f 4)) (fl (dcC s x a q == 1) 17)
/-- what addDecimal leaves -/
def Mc.bd (c : Mc) (x : In) : Mc := bif two2 (c.r.f / 16) (c.low 1 x.r) (c.low 1 x.k) then (c.put 1 x.r (dcV x.s (c.r.f / 16) (c.low 1 x.r) (c.low 1 x.k))).setF (dcF x.s c.r.f (c.r.f / 16) (c.low 1 x.r) (c.low 1 x.k)) else { c with f := ⟨4, 0, 0, 0, false⟩ }
theorem dc_ok {s x a q : Int} : okv 1 (dcV s x a q) = true := by
  have q' : ∀ v, bcd v = true → okv 1 v = true := by
    intro v h
    have := bcd_ok h
    simp [okv, top]; omega
  unfold dcV
  cases s == 1
  · cases h : two2 x a q
    · unfold aV; rw [h]; rfl
    · exact q' _ (aV_bcd h)
  · cases h : two2 x a q
    · unfold sV; rw [h]; rfl
    · exact q' _ (sV_bcd h)
end Pl
set_option maxRecDepth 100000 in
set_option maxHeartbeats 8000000 in
theorem cBcd0 (w : World) (lo b g : Nat) (c : Pl.Mc) (h : Bool) (op z r m k e : Int) (hC : CAt w lo b g c h) (G : Pl.GM c) (hf : c.f = Pl.ftNo) (B : Pl.InB ⟨op, z, r, m, k, e, 0⟩) (ht : TabsAt w lo) :
    Calls Tryz.prog 149 #[.pointer (some ⟨b, 0, none⟩), .agg #[.int .i64 op, .int .i64 z, .int .i64 r, .int .i64 m, .int .i64 k, .int .i64 e, .int .i64 0]] w fun e' w' => ∃ g', e' = .returned (.agg (ftC (c.bd ⟨op, z, r, m, k, e, 0⟩).f)) ∧ CAt w' lo b g' (c.bd ⟨op, z, r, m, k, e, 0⟩) h ∧ Since w b (b + 1) g w' g' := by
  have HB := hide B
  clear B
  obtain ⟨l0, l1, l2, l3, l4⟩ := hC.lt
  have HG := hide G
  have K0 := hide (kept_new (kept_alloc w (.cells #[.int .i64 op, .int .i64 z, .int .i64 r, .int .i64 m, .int .i64 k, .int .i64 e, .int .i64 0] 79)) (.cells #[.int .i64 0, .int .i64 0, .int .i64 0, .int .i64 0, .bool false] 38))
  have C0 := hide ((hC.alloc (.cells #[.int .i64 op, .int .i64 z, .int .i64 r, .int .i64 m, .int .i64 k, .int .i64 e, .int .i64 0] 79)).alloc (.cells #[.int .i64 0, .int .i64 0, .int .i64 0, .int .i64 0, .bool false] 38))
  have A0 := hide ((Blk.new w #[.int .i64 op, .int .i64 z, .int .i64 r, .int .i64 m, .int .i64 k, .int .i64 e, .int .i64 0] 79).alloc (.cells #[.int .i64 0, .int .i64 0, .int .i64 0, .int .i64 0, .bool false] 38))
  have R0 := Blk.new (w.alloc (.cells #[.int .i64 op, .int .i64 z, .int .i64 r, .int .i64 m, .int .i64 k, .int .i64 e, .int .i64 0] 79)) #[.int .i64 0, .int .i64 0, .int .i64 0, .int .i64 0, .bool false] 38
  simp only [World.size_alloc] at R0
  replace R0 := hide R0
  obtain ⟨X, hX⟩ : ∃ X : World, (w.alloc (.cells #[.int .i64 op, .int .i64 z, .int .i64 r, .int .i64 m, .int .i64 k, .int .i64 e, .int .i64 0] 79)).alloc (.cells #[.int .i64 0, .int .i64 0, .int .i64 0, .int .i64 0, .bool false] 38) = X := ⟨_, rfl⟩
  rw [hX] at K0 C0 A0 R0
  have sX : w.heap.size + 1 < X.heap.size := R0.out.lt
  have p := A0.out.all
  clear hC G
  have T0 := hide (ht.any K0.out)
  have f0 := HG.out.g.f0
  have f1 := HG.out.g.f1
  have OA : Pl.okv 1 (c.low 1 r) = true := Pl.low_in HG.out (.inl rfl) HB.out.r0 HB.out.r1
  have OQ : Pl.okv 1 (c.low 1 k) = true := Pl.low_in HG.out (.inl rfl) HB.out.k0 HB.out.k1
  obtain ⟨A, hA⟩ : ∃ A, A = c.low 1 r := ⟨_, rfl⟩
  obtain ⟨Q, hQ⟩ : ∃ Q, Q = c.low 1 k := ⟨_, rfl⟩
  rw [← hA] at OA
  rw [← hQ] at OQ
  have ta := Pl.top_ok OA
  have tq := Pl.top_ok OQ
  obtain ⟨a0, a1⟩ : 0 ≤ A ∧ A ≤ 255 := by omega
  obtain ⟨q0, q1⟩ : 0 ≤ Q ∧ Q ≤ 255 := by omega
  obtain ⟨V, hV⟩ : ∃ V, V = Pl.dcV 0 (c.r.f / 16) A Q := ⟨_, rfl⟩
  obtain ⟨Y, hY⟩ : ∃ Y, Y = Pl.dcC 0 (c.r.f / 16) A Q := ⟨_, rfl⟩
  obtain ⟨P, hP⟩ : ∃ P, P = Pl.two2 (c.r.f / 16) A Q := ⟨_, rfl⟩
  have OV : Hid (Pl.okv 1 V = true) := hide (by rw [hV]; exact Pl.dc_ok)
  have ET : Hid (c.bd ⟨op, z, r, m, k, e, 0⟩ = bif P then (c.put 1 r V).setF (bits .or .i64 (Pl.fl (V == 0) (bits .and .i64 c.r.f 4)) (Pl.fl (Y == 1) 17)) else { c with f := ⟨4, 0, 0, 0, false⟩ }) := hide (by rw [hP, hV, hY, hA, hQ]; rfl)
  have HA := hide hA
  have HQ := hide hQ
  have HV : Hid (V = Pl.aV (c.r.f / 16) A Q) := hide hV
  have HY : Hid (Y = Pl.aC (c.r.f / 16) A Q) := hide hY
  have HP := hide hP
  have ed : c.r.f.tdiv 16 = c.r.f / 16 := Int.tdiv_eq_ediv_of_nonneg f0
  have ew1 : IntKind.i64.wrap (c.r.f / 16) = c.r.f / 16 := by rw [IntKind.wrap_i64]; omega
  have ew2 : IntKind.i64.wrap (c.r.f.tdiv 16) = c.r.f / 16 := by rw [ed, ew1]
  clear hA hQ hV hY hP OA OQ ta tq ht
  go_enter Tryz.func149, Tryz.ntmps149
  go_wp2_with fail
  clear hX p
  have u2 := A0.out.cell (i := 2) rfl
  have u4 := A0.out.cell (i := 4) rfl
  have u10 := C0.out.cF
  go_region_held3 (fun w' => w'.cell? ⟨w.heap.size, 2, none⟩ = some (.int .i64 r) ∧ w'.cell? ⟨w.heap.size, 4, none⟩ = some (.int .i64 k) ∧ w'.cell? ⟨b, 10, none⟩ = some (.int .i64 c.r.f)) (first | with_reducible exact ⟨A7.out.cell (i := 2) rfl, A7.out.cell (i := 4) rfl, C7.out.cF⟩ | with_reducible exact ⟨A6.out.cell (i := 2) rfl, A6.out.cell (i := 4) rfl, C6.out.cF⟩ | with_reducible exact ⟨A5.out.cell (i := 2) rfl, A5.out.cell (i := 4) rfl, C5.out.cF⟩ | exact ⟨(show Blk _ _ _ _ from A0.out).cell (i := 2) rfl, (show Blk _ _ _ _ from A0.out).cell (i := 4) rfl, C0.out.drew.cF⟩)
    (first | (go_at_call 187; have z9 := C6; refine (addBcd (c.r.f / 16) A Q _ T6.out.s (by omega) (by omega) (by omega) (by omega) (by omega) (by omega)).mono ?_; rintro e9 W7 ⟨rfl, hw⟩; have hw2 := hw.symm; clear hw; subst hw2; rw [← HV.out, ← HY.out, ← HP.out]; skip) | (go_at_call 172; have z9 := C5; refine (cDataK _ lo b g c h 1 k C5.out (.inl rfl) HB.out.k0 HB.out.k1).mono ?_; rintro e9 W6 ⟨rfl, k6⟩; rw [← HQ.out]; have C6 := hide (C5.out.any k6); have A6 := hide (A5.out.kept0 k6); have R6 := hide (R5.out.kept0 k6); have K6 := hide (K5.out.trans k6); have T6 := hide (T5.out.any k6); clear k6) | (go_at_call 172; refine (cDataK _ lo b g c h 1 r C0.out.drew (.inl rfl) HB.out.r0 HB.out.r1).mono ?_; rintro e9 W5 ⟨rfl, kd⟩; rw [← HA.out]; have k5 := undrewK kd; have C5 := hide (C0.out.any k5); have A5 := hide (A0.out.kept0 k5); have R5 := hide (R0.out.kept0 k5); have K5 := hide (K0.out.trans k5); have T5 := hide (T0.out.any k5); clear kd k5))
  clear u2 u4 u10
  have r6 := R6.out.all
  have rf6 := R6.out.fz
  cases hp : P
  · have E1 : Hid (c.bd ⟨op, z, r, m, k, e, 0⟩ = { c with f := ⟨4, 0, 0, 0, false⟩ }) := hide (by rw [ET.out, hp]; rfl)
    go_wp2_with fail
    have KR := (((((kept_one W6 (w.heap.size + 1) 0 (.int .i64 4)).one 1 (.int .i64 0)).one 2 (.int .i64 0)).one 3 (.int .i64 0)).one 4 (.bool false))
    refine bodyPost_ret (v := .agg #[.int .i64 4, .int .i64 0, .int .i64 0, .int .i64 0, .bool false]) ?_ rfl ⟨g, ?_, ?_, ((Since.refl w b (b + 1) g).any K6.out).mine KR (by omega)⟩
    · rw [results_one rfl]; go_simp
    · rw [E1.out]; rfl
    · rw [E1.out]; exact ((C6.out).kept KR (by omega) (by omega)).fx rfl rfl rfl rfl rfl
  · obtain ⟨FL, hFL⟩ : ∃ x, x = bits .or .i64 (Pl.fl (V == 0) (bits .and .i64 c.r.f 4)) (Pl.fl (Y == 1) 17) := ⟨_, rfl⟩
    have E1 : Hid (c.bd ⟨op, z, r, m, k, e, 0⟩ = (c.put 1 r V).setF FL) := hide (by rw [ET.out, hp, hFL]; rfl)
    have eFL := hFL.symm
    clear hFL
    go_wp2_with fail
    have u2 := A6.out.cell (i := 2) rfl
    go_region_held3 (fun w' => w'.cell? ⟨w.heap.size, 2, none⟩ = some (.int .i64 r)) (first | with_reducible exact A8.out.cell (i := 2) rfl | exact (show Blk _ _ _ _ from A6.out).cell (i := 2) rfl)
      (first | (go_at_call 173; refine (cPut _ lo b g c h 1 r V C6.out.drew HG.out.g HB.out.r0 HB.out.r1 (.inl rfl) OV.out).mono ?_; rintro e9 W8 ⟨rfl, hc, kd⟩; have k8 := undrewK kd; have C8 := hide hc; have A8 := hide (A6.out.kept k8 (by omega)); have R8 := hide (R6.out.kept k8 (by omega)); have S8 := hide (((Since.refl w b (b + 1) g).any K6.out).keptS k8 (Nat.le_refl _) (Nat.le_refl _)); clear hc kd k8))
    have c8 : W8.cell? ⟨b, 10, none⟩ = some (.int .i64 c.r.f) := C8.out.cF
    have cz := C8.out.fz
    have r9 := (R8.out.other b 10 (.int .i64 FL) (by omega)).all
    have rf9 := (R8.out.other b 10 (.int .i64 FL) (by omega)).fz
    go_wp2_with (first | (go_at_call 189; refine (flagsIf _ _ _).mono ?_; rintro e9 W9 ⟨rfl, hw⟩; have hw2 := hw.symm; clear hw; subst hw2))
    have KR := (((((kept_one (W8.setCell ⟨b, 10, none⟩ (.int .i64 FL)) (w.heap.size + 1) 0 (.int .i64 0)).one 1 (.int .i64 0)).one 2 (.int .i64 0)).one 3 (.int .i64 0)).one 4 (.bool false))
    refine bodyPost_ret (v := .agg #[.int .i64 0, .int .i64 0, .int .i64 0, .int .i64 0, .bool false]) ?_ rfl ⟨g, ?_, ?_, (S8.out.set b 10 (.int .i64 FL) (.inl (by omega))).mine KR (by omega)⟩
    · rw [results_one rfl]; go_simp
    · rw [E1.out, show ((c.put 1 r V).setF FL).f = Pl.ftNo from hf]; rfl
    · rw [E1.out]; exact ((C8.out.setF FL).kept KR (by omega) (by omega))
set_option maxRecDepth 100000 in
set_option maxHeartbeats 8000000 in
theorem cBcd1 (w : World) (lo b g : Nat) (c : Pl.Mc) (h : Bool) (op z r m k e : Int) (hC : CAt w lo b g c h) (G : Pl.GM c) (hf : c.f = Pl.ftNo) (B : Pl.InB ⟨op, z, r, m, k, e, 1⟩) (ht : TabsAt w lo) :
    Calls Tryz.prog 149 #[.pointer (some ⟨b, 0, none⟩), .agg #[.int .i64 op, .int .i64 z, .int .i64 r, .int .i64 m, .int .i64 k, .int .i64 e, .int .i64 1]] w fun e' w' => ∃ g', e' = .returned (.agg (ftC (c.bd ⟨op, z, r, m, k, e, 1⟩).f)) ∧ CAt w' lo b g' (c.bd ⟨op, z, r, m, k, e, 1⟩) h ∧ Since w b (b + 1) g w' g' := by
  have HB := hide B
  clear B
  obtain ⟨l0, l1, l2, l3, l4⟩ := hC.lt
  have HG := hide G
  have K0 := hide (kept_new (kept_alloc w (.cells #[.int .i64 op, .int .i64 z, .int .i64 r, .int .i64 m, .int .i64 k, .int .i64 e, .int .i64 1] 79)) (.cells #[.int .i64 0, .int .i64 0, .int .i64 0, .int .i64 0, .bool false] 38))
  have C0 := hide ((hC.alloc (.cells #[.int .i64 op, .int .i64 z, .int .i64 r, .int .i64 m, .int .i64 k, .int .i64 e, .int .i64 1] 79)).alloc (.cells #[.int .i64 0, .int .i64 0, .int .i64 0, .int .i64 0, .bool false] 38))
  have A0 := hide ((Blk.new w #[.int .i64 op, .int .i64 z, .int .i64 r, .int .i64 m, .int .i64 k, .int .i64 e, .int .i64 1] 79).alloc (.cells #[.int .i64 0, .int .i64 0, .int .i64 0, .int .i64 0, .bool false] 38))
  have R0 := Blk.new (w.alloc (.cells #[.int .i64 op, .int .i64 z, .int .i64 r, .int .i64 m, .int .i64 k, .int .i64 e, .int .i64 1] 79)) #[.int .i64 0, .int .i64 0, .int .i64 0, .int .i64 0, .bool false] 38
  simp only [World.size_alloc] at R0
  replace R0 := hide R0
  obtain ⟨X, hX⟩ : ∃ X : World, (w.alloc (.cells #[.int .i64 op, .int .i64 z, .int .i64 r, .int .i64 m, .int .i64 k, .int .i64 e, .int .i64 1] 79)).alloc (.cells #[.int .i64 0, .int .i64 0, .int .i64 0, .int .i64 0, .bool false] 38) = X := ⟨_, rfl⟩
  rw [hX] at K0 C0 A0 R0
  have sX : w.heap.size + 1 < X.heap.size := R0.out.lt
  have p := A0.out.all
  clear hC G
  have T0 := hide (ht.any K0.out)
  have f0 := HG.out.g.f0
  have f1 := HG.out.g.f1
  have OA : Pl.okv 1 (c.low 1 r) = true := Pl.low_in HG.out (.inl rfl) HB.out.r0 HB.out.r1
  have OQ : Pl.okv 1 (c.low 1 k) = true := Pl.low_in HG.out (.inl rfl) HB.out.k0 HB.out.k1
  obtain ⟨A, hA⟩ : ∃ A, A = c.low 1 r := ⟨_, rfl⟩
  obtain ⟨Q, hQ⟩ : ∃ Q, Q = c.low 1 k := ⟨_, rfl⟩
  rw [← hA] at OA
  rw [← hQ] at OQ
  have ta := Pl.top_ok OA
  have tq := Pl.top_ok OQ
  obtain ⟨a0, a1⟩ : 0 ≤ A ∧ A ≤ 255 := by omega
  obtain ⟨q0, q1⟩ : 0 ≤ Q ∧ Q ≤ 255 := by omega
  obtain ⟨V, hV⟩ : ∃ V, V = Pl.dcV 1 (c.r.f / 16) A Q := ⟨_, rfl⟩
  obtain ⟨Y, hY⟩ : ∃ Y, Y = Pl.dcC 1 (c.r.f / 16) A Q := ⟨_, rfl⟩
  obtain ⟨P, hP⟩ : ∃ P, P = Pl.two2 (c.r.f / 16) A Q := ⟨_, rfl⟩
  have OV : Hid (Pl.okv 1 V = true) := hide (by rw [hV]; exact Pl.dc_ok)
  have ET : Hid (c.bd ⟨op, z, r, m, k, e, 1⟩ = bif P then (c.put 1 r V).setF (bits .or .i64 (Pl.fl (V == 0) (bits .and .i64 c.r.f 4)) (Pl.fl (Y == 1) 17)) else { c with f := ⟨4, 0, 0, 0, false⟩ }) := hide (by rw [hP, hV, hY, hA, hQ]; rfl)
  have HA := hide hA
  have HQ := hide hQ
  have HV : Hid (V = Pl.sV (c.r.f / 16) A Q) := hide hV
  have HY : Hid (Y = Pl.sC (c.r.f / 16) A Q) := hide hY
  have HP := hide hP
  have ed : c.r.f.tdiv 16 = c.r.f / 16 := Int.tdiv_eq_ediv_of_nonneg f0
  have ew1 : IntKind.i64.wrap (c.r.f / 16) = c.r.f / 16 := by rw [IntKind.wrap_i64]; omega
  have ew2 : IntKind.i64.wrap (c.r.f.tdiv 16) = c.r.f / 16 := by rw [ed, ew1]
  clear hA hQ hV hY hP OA OQ ta tq ht
  go_enter Tryz.func149, Tryz.ntmps149
  go_wp2_with fail
  clear hX p
  have u2 := A0.out.cell (i := 2) rfl
  have u4 := A0.out.cell (i := 4) rfl
  have u10 := C0.out.cF
  go_region_held3 (fun w' => w'.cell? ⟨w.heap.size, 2, none⟩ = some (.int .i64 r) ∧ w'.cell? ⟨w.heap.size, 4, none⟩ = some (.int .i64 k) ∧ w'.cell? ⟨b, 10, none⟩ = some (.int .i64 c.r.f)) (first | with_reducible exact ⟨A7.out.cell (i := 2) rfl, A7.out.cell (i := 4) rfl, C7.out.cF⟩ | with_reducible exact ⟨A6.out.cell (i := 2) rfl, A6.out.cell (i := 4) rfl, C6.out.cF⟩ | with_reducible exact ⟨A5.out.cell (i := 2) rfl, A5.out.cell (i := 4) rfl, C5.out.cF⟩ | exact ⟨(show Blk _ _ _ _ from A0.out).cell (i := 2) rfl, (show Blk _ _ _ _ from A0.out).cell (i := 4) rfl, C0.out.drew.cF⟩)
    (first | (go_at_call 188; have z9 := C6; refine (subBcd (c.r.f / 16) A Q _ T6.out.s T6.out.n (by omega) (by omega) (by omega) (by omega) (by omega) (by omega)).mono ?_; rintro e9 W7 ⟨rfl, nn, hw⟩; have k7 : Kept 0 0 W6 W7 := (by rw [hw]; exact kept_drewN (Kept.refl _ _ _) _); rw [← HV.out, ← HY.out, ← HP.out]; have C7 := hide (C6.out.any k7); have A7 := hide (A6.out.kept0 k7); have R7 := hide (R6.out.kept0 k7); have K7 := hide (K6.out.trans k7); clear k7 hw) | (go_at_call 172; have z9 := C5; refine (cDataK _ lo b g c h 1 k C5.out (.inl rfl) HB.out.k0 HB.out.k1).mono ?_; rintro e9 W6 ⟨rfl, k6⟩; rw [← HQ.out]; have C6 := hide (C5.out.any k6); have A6 := hide (A5.out.kept0 k6); have R6 := hide (R5.out.kept0 k6); have K6 := hide (K5.out.trans k6); have T6 := hide (T5.out.any k6); clear k6) | (go_at_call 172; refine (cDataK _ lo b g c h 1 r C0.out.drew (.inl rfl) HB.out.r0 HB.out.r1).mono ?_; rintro e9 W5 ⟨rfl, kd⟩; rw [← HA.out]; have k5 := undrewK kd; have C5 := hide (C0.out.any k5); have A5 := hide (A0.out.kept0 k5); have R5 := hide (R0.out.kept0 k5); have K5 := hide (K0.out.trans k5); have T5 := hide (T0.out.any k5); clear kd k5))
  clear u2 u4 u10
  have r7 := R7.out.all
  have rf7 := R7.out.fz
  cases hp : P
  · have E1 : Hid (c.bd ⟨op, z, r, m, k, e, 1⟩ = { c with f := ⟨4, 0, 0, 0, false⟩ }) := hide (by rw [ET.out, hp]; rfl)
    go_wp2_with fail
    have KR := (((((kept_one W7 (w.heap.size + 1) 0 (.int .i64 4)).one 1 (.int .i64 0)).one 2 (.int .i64 0)).one 3 (.int .i64 0)).one 4 (.bool false))
    refine bodyPost_ret (v := .agg #[.int .i64 4, .int .i64 0, .int .i64 0, .int .i64 0, .bool false]) ?_ rfl ⟨g, ?_, ?_, ((Since.refl w b (b + 1) g).any K7.out).mine KR (by omega)⟩
    · rw [results_one rfl]; go_simp
    · rw [E1.out]; rfl
    · rw [E1.out]; exact ((C7.out).kept KR (by omega) (by omega)).fx rfl rfl rfl rfl rfl
  · obtain ⟨FL, hFL⟩ : ∃ x, x = bits .or .i64 (Pl.fl (V == 0) (bits .and .i64 c.r.f 4)) (Pl.fl (Y == 1) 17) := ⟨_, rfl⟩
    have E1 : Hid (c.bd ⟨op, z, r, m, k, e, 1⟩ = (c.put 1 r V).setF FL) := hide (by rw [ET.out, hp, hFL]; rfl)
    have eFL := hFL.symm
    clear hFL
    go_wp2_with fail
    have u2 := A7.out.cell (i := 2) rfl
    go_region_held3 (fun w' => w'.cell? ⟨w.heap.size, 2, none⟩ = some (.int .i64 r)) (first | with_reducible exact A8.out.cell (i := 2) rfl | exact (show Blk _ _ _ _ from A7.out).cell (i := 2) rfl)
      (first | (go_at_call 173; refine (cPut _ lo b g c h 1 r V C7.out.drew HG.out.g HB.out.r0 HB.out.r1 (.inl rfl) OV.out).mono ?_; rintro e9 W8 ⟨rfl, hc, kd⟩; have k8 := undrewK kd; have C8 := hide hc; have A8 := hide (A7.out.kept k8 (by omega)); have R8 := hide (R7.out.kept k8 (by omega)); have S8 := hide (((Since.refl w b (b + 1) g).any K7.out).keptS k8 (Nat.le_refl _) (Nat.le_refl _)); clear hc kd k8))
    have c8 : W8.cell? ⟨b, 10, none⟩ = some (.int .i64 c.r.f) := C8.out.cF
    have cz := C8.out.fz
    have r9 := (R8.out.other b 10 (.int .i64 FL) (by omega)).all
    have rf9 := (R8.out.other b 10 (.int .i64 FL) (by omega)).fz
    go_wp2_with (first | (go_at_call 189; refine (flagsIf _ _ _).mono ?_; rintro e9 W9 ⟨rfl, hw⟩; have hw2 := hw.symm; clear hw; subst hw2))
    have KR := (((((kept_one (W8.setCell ⟨b, 10, none⟩ (.int .i64 FL)) (w.heap.size + 1) 0 (.int .i64 0)).one 1 (.int .i64 0)).one 2 (.int .i64 0)).one 3 (.int .i64 0)).one 4 (.bool false))
    refine bodyPost_ret (v := .agg #[.int .i64 0, .int .i64 0, .int .i64 0, .int .i64 0, .bool false]) ?_ rfl ⟨g, ?_, ?_, (S8.out.set b 10 (.int .i64 FL) (.inl (by omega))).mine KR (by omega)⟩
    · rw [results_one rfl]; go_simp
    · rw [E1.out, show ((c.put 1 r V).setF FL).f = Pl.ftNo from hf]; rfl
    · rw [E1.out]; exact ((C8.out.setF FL).kept KR (by omega) (by omega))
end Go.Proofs.YtblddehlkaolbaaGreatDoor

