/- What the program's carryOut does, of a processor that is worked on. One step, as the program goes about it and as the model does: in numbers they come to the same; plain arithmetic. -/
import Derived.Test.YtblddehlkaolbaaGreatDoorJA29
import Derived.Test.YtblddehlkaolbaaGreatDoorJA33
import Derived.Test.YtblddehlkaolbaaGreatDoorJA34
import Derived.Test.YtblddehlkaolbaaGreatDoorJA27
import Derived.Test.YtblddehlkaolbaaGreatDoorJA28
namespace Go.Proofs.YtblddehlkaolbaaGreatDoor
open Go.RowKit
set_option linter.unusedVariables false
namespace Pl
def Mc.lea (c : Mc) (x : In) : Mc := (c.slot x.z x.m x.k x.e).setA x.r.toNat (c.readA x.z x.m x.k x.e)
def Mc.shf (c : Mc) (x : In) : Mc := (c.put x.z x.r (byVal x.s x.z c.r.f (c.low x.z x.r) (x.k + 1))).setF (byFl x.s x.z c.r.f (c.low x.z x.r) (x.k + 1))
def Mc.brn (c : Mc) (x : In) : Mc := bif tst (x.s + 8 * x.r) c.r.f then c.setP ((c.r.p - 2 + x.e) % 65536) else c
def Mc.mvs (c : Mc) (x : In) : Mc := bif x.s == 0 then c.setR (withR c.r x.e) else c.setR { c.r with xs := c.r.xs.set x.r.toNat (status c.r) }
/-- what carryOut leaves of an instruction that may be done -/
def Mc.cr' (c : Mc) (x : In) : Mc := bif x.op == 2 then c.gv x else bif x.op == 10 then c.lea x else bif x.op == 11 then c.ch x else bif x.op == 12 then c.shf x else bif x.op == 13 then c.brn x else bif x.op == 14 then c.jp x else bif x.op == 15 then c.fw x else bif x.op == 18 then c.bd x else bif x.op == 19 then c.mvs x else c.tk x
def Mc.cr (c : Mc) (x : In) : Mc := bif priv x && !c.r.s then { c with f := ⟨8, 0, 0, 0, false⟩ } else c.cr' x
end Pl
theorem cChangeV (w : World) (lo b g : Nat) (c : Pl.Mc) (h : Bool) (op z r m k e s : Int) (hC : CAt w lo b g c h) (G : Pl.GM c) (hf : c.f = Pl.ftNo) (B : Pl.InB ⟨op, z, r, m, k, e, s⟩) (hs : s ≤ 3) (hm : m = 0 ∨ (2 ≤ m ∧ m ≤ 6)) :
    Calls Tryz.prog 143 #[.pointer (some ⟨b, 0, none⟩), .agg #[.int .i64 op, .int .i64 z, .int .i64 r, .int .i64 m, .int .i64 k, .int .i64 e, .int .i64 s]] w fun e' w' => ∃ g', e' = .returned (.agg (ftC (c.ch ⟨op, z, r, m, k, e, s⟩).f)) ∧ CAt w' lo b g' (c.ch ⟨op, z, r, m, k, e, s⟩) h ∧ Since w b (b + 1) g w' g' := by
  have hs0 : 0 ≤ s := B.s0
  have hq : s = 0 ∨ s = 1 ∨ s = 2 ∨ s = 3 := by omega
  rcases hq with rfl | rfl | rfl | rfl
  · exact cChange0 w lo b g c h op z r m k e hC G hf B hm
  · exact cChange1 w lo b g c h op z r m k e hC G hf B hm
  · exact cChange2 w lo b g c h op z r m k e hC G hf B hm
  · exact cChange3 w lo b g c h op z r m k e hC G hf B hm
theorem cJumpV (w : World) (lo b g : Nat) (c : Pl.Mc) (h : Bool) (op z r m k e s : Int) (hC : CAt w lo b g c h) (G : Pl.GM c) (hf : c.f = Pl.ftNo) (B : Pl.InB ⟨op, z, r, m, k, e, s⟩) (hs : s ≤ 1) :
    Calls Tryz.prog 147 #[.pointer (some ⟨b, 0, none⟩), .agg #[.int .i64 op, .int .i64 z, .int .i64 r, .int .i64 m, .int .i64 k, .int .i64 e, .int .i64 s]] w fun e' w' => ∃ g', e' = .returned (.agg (ftC (c.jp ⟨op, z, r, m, k, e, s⟩).f)) ∧ CAt w' lo b g' (c.jp ⟨op, z, r, m, k, e, s⟩) h ∧ Since w b (b + 1) g w' g' := by
  have hs0 : 0 ≤ s := B.s0
  have hq : s = 0 ∨ s = 1 := by omega
  rcases hq with rfl | rfl
  · exact cJump0 w lo b g c h op z r m k e hC G hf B
  · exact cJump1 w lo b g c h op z r m k e hC G hf B
theorem cFlowV (w : World) (lo b g : Nat) (c : Pl.Mc) (h : Bool) (op z r m k e s : Int) (hC : CAt w lo b g c h) (G : Pl.GM c) (hf : c.f = Pl.ftNo) (B : Pl.InB ⟨op, z, r, m, k, e, s⟩) (hs : s ≤ 6) (he : s = 3 → e ≤ 1023) :
    Calls Tryz.prog 148 #[.pointer (some ⟨b, 0, none⟩), .agg #[.int .i64 op, .int .i64 z, .int .i64 r, .int .i64 m, .int .i64 k, .int .i64 e, .int .i64 s]] w fun e' w' => ∃ g', e' = .returned (.agg (ftC (c.fw ⟨op, z, r, m, k, e, s⟩).f)) ∧ CAt w' lo b g' (c.fw ⟨op, z, r, m, k, e, s⟩) h ∧ Since w b (b + 1) g w' g' := by
  have hs0 : 0 ≤ s := B.s0
  have hq : s = 0 ∨ s = 1 ∨ s = 2 ∨ s = 3 ∨ s = 4 ∨ s = 5 ∨ s = 6 := by omega
  rcases hq with rfl | rfl | rfl | rfl | rfl | rfl | rfl
  · exact cFlow0 w lo b g c h op z r m k e hC G hf B
  · exact cFlow1 w lo b g c h op z r m k e hC G hf B
  · exact cFlow2 w lo b g c h op z r m k e hC G hf B
  · exact cFlow3 w lo b g c h op z r m k e hC G hf B (he rfl)
  · exact cFlow4 w lo b g c h op z r m k e hC G hf B
  · exact cFlow5 w lo b g c h op z r m k e hC G hf B
  · exact cFlow6 w lo b g c h op z r m k e hC G hf B
theorem cBcdV (w : World) (lo b g : Nat) (c : Pl.Mc) (h : Bool) (op z r m k e s : Int) (hC : CAt w lo b g c h) (G : Pl.GM c) (hf : c.f = Pl.ftNo) (B : Pl.InB ⟨op, z, r, m, k, e, s⟩) (hs : s ≤ 1) (ht : TabsAt w lo) :
    Calls Tryz.prog 149 #[.pointer (some ⟨b, 0, none⟩), .agg #[.int .i64 op, .int .i64 z, .int .i64 r, .int .i64 m, .int .i64 k, .int .i64 e, .int .i64 s]] w fun e' w' => ∃ g', e' = .returned (.agg (ftC (c.bd ⟨op, z, r, m, k, e, s⟩).f)) ∧ CAt w' lo b g' (c.bd ⟨op, z, r, m, k, e, s⟩) h ∧ Since w b (b + 1) g w' g' := by
  have hs0 : 0 ≤ s := B.s0
  have hq : s = 0 ∨ s = 1 := by omega
  rcases hq with rfl | rfl
  · exact cBcd0 w lo b g c h op z r m k e hC G hf B ht
  · exact cBcd1 w lo b g c h op z r m k e hC G hf B ht
theorem cMoveV (w : World) (lo b g : Nat) (c : Pl.Mc) (h : Bool) (op z r m k e s : Int) (hC : CAt w lo b g c h) (G : Pl.GM c) (hf : c.f = Pl.ftNo) (B : Pl.InB ⟨op, z, r, m, k, e, s⟩) (hs : s ≤ 1) (he : s = 0 → e ≤ 1023) :
    Calls Tryz.prog 150 #[.pointer (some ⟨b, 0, none⟩), .agg #[.int .i64 op, .int .i64 z, .int .i64 r, .int .i64 m, .int .i64 k, .int .i64 e, .int .i64 s]] w fun e' w' => e' = .returned (.tuple #[]) ∧ CAt w' lo b g (c.mvs ⟨op, z, r, m, k, e, s⟩) h ∧ Kept b (b + 1) w w' := by
  have hs0 : 0 ≤ s := B.s0
  have hq : s = 0 ∨ s = 1 := by omega
  rcases hq with rfl | rfl
  · exact cMove0 w lo b g c h op z r m k e hC G B (he rfl)
  · exact cMove1 w lo b g c h op z r m k e hC G B
set_option maxRecDepth 100000 in
set_option maxHeartbeats 8000000 in
theorem cCarryT9 (w : World) (lo b g : Nat) (c : Pl.Mc) (h : Bool) (op z r m k e s : Int) (hC : CAt w lo b g c h) (G : Pl.GM c) (hf : c.f = Pl.ftNo) (B : Pl.InB ⟨op, z, r, m, k, e, s⟩) (hop : op = 9) (h1 : m = 1 → z = 2) (h2 : op = 16 ∨ op = 17 → z = 2) :
    Calls Tryz.prog 99 #[.pointer (some ⟨b, 0, none⟩), .agg #[.int .i64 op, .int .i64 z, .int .i64 r, .int .i64 m, .int .i64 k, .int .i64 e, .int .i64 s]] w fun e' w' => ∃ g', e' = .returned (.agg (ftC (c.cr ⟨op, z, r, m, k, e, s⟩).f)) ∧ CAt w' lo b g' (c.cr ⟨op, z, r, m, k, e, s⟩) h ∧ Since w b (b + 1) g w' g' := by
  have HB := hide B
  clear B
  obtain ⟨l0, l1, l2, l3, l4⟩ := hC.lt
  have HG := hide G
  have K0 := hide (kept_new (kept_alloc w (.cells #[.int .i64 op, .int .i64 z, .int .i64 r, .int .i64 m, .int .i64 k, .int .i64 e, .int .i64 s] 79)) (.cells #[.int .i64 0, .int .i64 0, .int .i64 0, .int .i64 0, .bool false] 38))
  have C0 := hide ((hC.alloc (.cells #[.int .i64 op, .int .i64 z, .int .i64 r, .int .i64 m, .int .i64 k, .int .i64 e, .int .i64 s] 79)).alloc (.cells #[.int .i64 0, .int .i64 0, .int .i64 0, .int .i64 0, .bool false] 38))
  have A0 := hide ((Blk.new w #[.int .i64 op, .int .i64 z, .int .i64 r, .int .i64 m, .int .i64 k, .int .i64 e, .int .i64 s] 79).alloc (.cells #[.int .i64 0, .int .i64 0, .int .i64 0, .int .i64 0, .bool false] 38))
  have R0 := Blk.new (w.alloc (.cells #[.int .i64 op, .int .i64 z, .int .i64 r, .int .i64 m, .int .i64 k, .int .i64 e, .int .i64 s] 79)) #[.int .i64 0, .int .i64 0, .int .i64 0, .int .i64 0, .bool false] 38
  simp only [World.size_alloc] at R0
  replace R0 := hide R0
  obtain ⟨X, hX⟩ : ∃ X : World, (w.alloc (.cells #[.int .i64 op, .int .i64 z, .int .i64 r, .int .i64 m, .int .i64 k, .int .i64 e, .int .i64 s] 79)).alloc (.cells #[.int .i64 0, .int .i64 0, .int .i64 0, .int .i64 0, .bool false] 38) = X := ⟨_, rfl⟩
  rw [hX] at K0 C0 A0 R0
  have sX : w.heap.size + 1 < X.heap.size := R0.out.lt
  have p := A0.out.all
  clear hC G
  obtain ⟨E, hE⟩ : ∃ E, E = c.tk ⟨op, z, r, m, k, e, s⟩ := ⟨_, rfl⟩
  obtain ⟨F, hF⟩ : ∃ F, F = E.f := ⟨_, rfl⟩
  have hp : Pl.priv ⟨op, z, r, m, k, e, s⟩ = false := by rw [hop]; rfl
  have E1 : Hid (c.cr ⟨op, z, r, m, k, e, s⟩ = E) := hide (by unfold Pl.Mc.cr; rw [hp, hE]; rw [hop]; rfl)
  have H1 := hide h1
  clear h1 h2
  have HE := hide hE
  have HF := hide hF
  have hsup := needsSuper
  clear hE hF
  obtain rfl := hop
  all_goals
    go_enter Tryz.func99, Tryz.ntmps99
    go_wp2_with (first | (go_at_call 141; refine (cTake _ lo b g c h _ z r m k e s C1.out HG.out hf HB.out (by decide) H1.out (fun h9 => absurd h9 (by decide))).mono ?_; rintro e9 W2 ⟨g', rfl, hc, hs⟩; rw [← HE.out] at hc ⊢; rw [← HF.out]; unfold ftC; have C2 := hide hc; have R2 := hide (hs.blk R1.out (by omega) (by omega)); have n2 := hs.ne (b := w.heap.size + 1) R1.out.lt (by omega); have S2 := hide (((Since.refl w b (b + 1) g).any K1.out).trans hs); have r2 := R2.out.all; have rf2 := R2.out.fz; clear hc hs) | (go_at_call 140; refine (hsup _ _ z r m k e s).mono ?_; rintro e9 W1 ⟨rfl, k1⟩; rw [hp]; have C1 := hide (C0.out.any k1); have A1 := hide (A0.out.kept0 k1); have R1 := hide (R0.out.kept0 k1); have K1 := hide (K0.out.trans k1); have p1 := A1.out.all; have r1 := R1.out.all; have rf1 := R1.out.fz; have q12 := C1.out.cS; clear k1))
    have KR := (((((kept_one W2 (w.heap.size + 1) 0 (.int .i64 F.v)).one 1 (.int .i64 F.pc)).one 2 (.int .i64 F.ad)).one 3 (.int .i64 F.wo)).one 4 (.bool F.wr))
    refine bodyPost_ret (v := .agg #[.int .i64 F.v, .int .i64 F.pc, .int .i64 F.ad, .int .i64 F.wo, .bool F.wr]) ?_ rfl ⟨g', ?_, ?_, (S2.out).mine KR (by omega)⟩
    · rw [results_one rfl]; go_simp
    · rw [E1.out, ← HF.out]; rfl
    · rw [E1.out]; exact ((C2.out).kept KR (by omega) (by omega))
set_option maxRecDepth 100000 in
set_option maxHeartbeats 8000000 in
theorem cCarryT1 (w : World) (lo b g : Nat) (c : Pl.Mc) (h : Bool) (op z r m k e s : Int) (hC : CAt w lo b g c h) (G : Pl.GM c) (hf : c.f = Pl.ftNo) (B : Pl.InB ⟨op, z, r, m, k, e, s⟩) (hop : op = 1) (h1 : m = 1 → z = 2) (h2 : op = 16 ∨ op = 17 → z = 2) :
    Calls Tryz.prog 99 #[.pointer (some ⟨b, 0, none⟩), .agg #[.int .i64 op, .int .i64 z, .int .i64 r, .int .i64 m, .int .i64 k, .int .i64 e, .int .i64 s]] w fun e' w' => ∃ g', e' = .returned (.agg (ftC (c.cr ⟨op, z, r, m, k, e, s⟩).f)) ∧ CAt w' lo b g' (c.cr ⟨op, z, r, m, k, e, s⟩) h ∧ Since w b (b + 1) g w' g' := by
  have HB := hide B
  clear B
  obtain ⟨l0, l1, l2, l3, l4⟩ := hC.lt
  have HG := hide G
  have K0 := hide (kept_new (kept_alloc w (.cells #[.int .i64 op, .int .i64 z, .int .i64 r, .int .i64 m, .int .i64 k, .int .i64 e, .int .i64 s] 79)) (.cells #[.int .i64 0, .int .i64 0, .int .i64 0, .int .i64 0, .bool false] 38))
  have C0 := hide ((hC.alloc (.cells #[.int .i64 op, .int .i64 z, .int .i64 r, .int .i64 m, .int .i64 k, .int .i64 e, .int .i64 s] 79)).alloc (.cells #[.int .i64 0, .int .i64 0, .int .i64 0, .int .i64 0, .bool false] 38))
  have A0 := hide ((Blk.new w #[.int .i64 op, .int .i64 z, .int .i64 r, .int .i64 m, .int .i64 k, .int .i64 e, .int .i64 s] 79).alloc (.cells #[.int .i64 0, .int .i64 0, .int .i64 0, .int .i64 0, .bool false] 38))
  have R0 := Blk.new (w.alloc (.cells #[.int .i64 op, .int .i64 z, .int .i64 r, .int .i64 m, .int .i64 k, .int .i64 e, .int .i64 s] 79)) #[.int .i64 0, .int .i64 0, .int .i64 0, .int .i64 0, .bool false] 38
  simp only [World.size_alloc] at R0
  replace R0 := hide R0
  obtain ⟨X, hX⟩ : ∃ X : World, (w.alloc (.cells #[.int .i64 op, .int .i64 z, .int .i64 r, .int .i64 m, .int .i64 k, .int .i64 e, .int .i64 s] 79)).alloc (.cells #[.int .i64 0, .int .i64 0, .int .i64 0, .int .i64 0, .bool false] 38) = X := ⟨_, rfl⟩
  rw [hX] at K0 C0 A0 R0
  have sX : w.heap.size + 1 < X.heap.size := R0.out.lt
  have p := A0.out.all
  clear hC G
  obtain ⟨E, hE⟩ : ∃ E, E = c.tk ⟨op, z, r, m, k, e, s⟩ := ⟨_, rfl⟩
  obtain ⟨F, hF⟩ : ∃ F, F = E.f := ⟨_, rfl⟩
  have hp : Pl.priv ⟨op, z, r, m, k, e, s⟩ = false := by rw [hop]; rfl
  have E1 : Hid (c.cr ⟨op, z, r, m, k, e, s⟩ = E) := hide (by unfold Pl.Mc.cr; rw [hp, hE]; rw [hop]; rfl)
  have H1 := hide h1
  clear h1 h2
  have HE := hide hE
  have HF := hide hF
  have hsup := needsSuper
  clear hE hF
  obtain rfl := hop
  all_goals
    go_enter Tryz.func99, Tryz.ntmps99
    go_wp2_with (first | (go_at_call 141; refine (cTake _ lo b g c h _ z r m k e s C1.out HG.out hf HB.out (by decide) H1.out (fun h9 => absurd h9 (by decide))).mono ?_; rintro e9 W2 ⟨g', rfl, hc, hs⟩; rw [← HE.out] at hc ⊢; rw [← HF.out]; unfold ftC; have C2 := hide hc; have R2 := hide (hs.blk R1.out (by omega) (by omega)); have n2 := hs.ne (b := w.heap.size + 1) R1.out.lt (by omega); have S2 := hide (((Since.refl w b (b + 1) g).any K1.out).trans hs); have r2 := R2.out.all; have rf2 := R2.out.fz; clear hc hs) | (go_at_call 140; refine (hsup _ _ z r m k e s).mono ?_; rintro e9 W1 ⟨rfl, k1⟩; rw [hp]; have C1 := hide (C0.out.any k1); have A1 := hide (A0.out.kept0 k1); have R1 := hide (R0.out.kept0 k1); have K1 := hide (K0.out.trans k1); have p1 := A1.out.all; have r1 := R1.out.all; have rf1 := R1.out.fz; have q12 := C1.out.cS; clear k1))
    have KR := (((((kept_one W2 (w.heap.size + 1) 0 (.int .i64 F.v)).one 1 (.int .i64 F.pc)).one 2 (.int .i64 F.ad)).one 3 (.int .i64 F.wo)).one 4 (.bool F.wr))
    refine bodyPost_ret (v := .agg #[.int .i64 F.v, .int .i64 F.pc, .int .i64 F.ad, .int .i64 F.wo, .bool F.wr]) ?_ rfl ⟨g', ?_, ?_, (S2.out).mine KR (by omega)⟩
    · rw [results_one rfl]; go_simp
    · rw [E1.out, ← HF.out]; rfl
    · rw [E1.out]; exact ((C2.out).kept KR (by omega) (by omega))
set_option maxRecDepth 100000 in
set_option maxHeartbeats 8000000 in
theorem cCarryT3 (w : World) (lo b g : Nat) (c : Pl.Mc) (h : Bool) (op z r m k e s : Int) (hC : CAt w lo b g c h) (G : Pl.GM c) (hf : c.f = Pl.ftNo) (B : Pl.InB ⟨op, z, r, m, k, e, s⟩) (hop : op = 3) (h1 : m = 1 → z = 2) (h2 : op = 16 ∨ op = 17 → z = 2) :
    Calls Tryz.prog 99 #[.pointer (some ⟨b, 0, none⟩), .agg #[.int .i64 op, .int .i64 z, .int .i64 r, .int .i64 m, .int .i64 k, .int .i64 e, .int .i64 s]] w fun e' w' => ∃ g', e' = .returned (.agg (ftC (c.cr ⟨op, z, r, m, k, e, s⟩).f)) ∧ CAt w' lo b g' (c.cr ⟨op, z, r, m, k, e, s⟩) h ∧ Since w b (b + 1) g w' g' := by
  have HB := hide B
  clear B
  obtain ⟨l0, l1, l2, l3, l4⟩ := hC.lt
  have HG := hide G
  have K0 := hide (kept_new (kept_alloc w (.cells #[.int .i64 op, .int .i64 z, .int .i64 r, .int .i64 m, .int .i64 k, .int .i64 e, .int .i64 s] 79)) (.cells #[.int .i64 0, .int .i64 0, .int .i64 0, .int .i64 0, .bool false] 38))
  have C0 := hide ((hC.alloc (.cells #[.int .i64 op, .int .i64 z, .int .i64 r, .int .i64 m, .int .i64 k, .int .i64 e, .int .i64 s] 79)).alloc (.cells #[.int .i64 0, .int .i64 0, .int .i64 0, .int .i64 0, .bool false] 38))
  have A0 := hide ((Blk.new w #[.int .i64 op, .int .i64 z, .int .i64 r, .int .i64 m, .int .i64 k, .int .i64 e, .int .i64 s] 79).alloc (.cells #[.int .i64 0, .int .i64 0, .int .i64 0, .int .i64 0, .bool false] 38))
  have R0 := Blk.new (w.alloc (.cells #[.int .i64 op, .int .i64 z, .int .i64 r, .int .i64 m, .int .i64 k, .int .i64 e, .int .i64 s] 79)) #[.int .i64 0, .int .i64 0, .int .i64 0, .int .i64 0, .bool false] 38
  simp only [World.size_alloc] at R0
  replace R0 := hide R0
  obtain ⟨X, hX⟩ : ∃ X : World, (w.alloc (.cells #[.int .i64 op, .int .i64 z, .int .i64 r, .int .i64 m, .int .i64 k, .int .i64 e, .int .i64 s] 79)).alloc (.cells #[.int .i64 0, .int .i64 0, .int .i64 0, .int .i64 0, .bool false] 38) = X := ⟨_, rfl⟩
  rw [hX] at K0 C0 A0 R0
  have sX : w.heap.size + 1 < X.heap.size := R0.out.lt
  have p := A0.out.all
  clear hC G
  obtain ⟨E, hE⟩ : ∃ E, E = c.tk ⟨op, z, r, m, k, e, s⟩ := ⟨_, rfl⟩
  obtain ⟨F, hF⟩ : ∃ F, F = E.f := ⟨_, rfl⟩
  have hp : Pl.priv ⟨op, z, r, m, k, e, s⟩ = false := by rw [hop]; rfl
  have E1 : Hid (c.cr ⟨op, z, r, m, k, e, s⟩ = E) := hide (by unfold Pl.Mc.cr; rw [hp, hE]; rw [hop]; rfl)
  have H1 := hide h1
  clear h1 h2
  have HE := hide hE
  have HF := hide hF
  have hsup := needsSuper
  clear hE hF
  obtain rfl := hop
  all_goals
    go_enter Tryz.func99, Tryz.ntmps99
    go_wp2_with (first | (go_at_call 141; refine (cTake _ lo b g c h _ z r m k e s C1.out HG.out hf HB.out (by decide) H1.out (fun h9 => absurd h9 (by decide))).mono ?_; rintro e9 W2 ⟨g', rfl, hc, hs⟩; rw [← HE.out] at hc ⊢; rw [← HF.out]; unfold ftC; have C2 := hide hc; have R2 := hide (hs.blk R1.out (by omega) (by omega)); have n2 := hs.ne (b := w.heap.size + 1) R1.out.lt (by omega); have S2 := hide (((Since.refl w b (b + 1) g).any K1.out).trans hs); have r2 := R2.out.all; have rf2 := R2.out.fz; clear hc hs) | (go_at_call 140; refine (hsup _ _ z r m k e s).mono ?_; rintro e9 W1 ⟨rfl, k1⟩; rw [hp]; have C1 := hide (C0.out.any k1); have A1 := hide (A0.out.kept0 k1); have R1 := hide (R0.out.kept0 k1); have K1 := hide (K0.out.trans k1); have p1 := A1.out.all; have r1 := R1.out.all; have rf1 := R1.out.fz; have q12 := C1.out.cS; clear k1))
    have KR := (((((kept_one W2 (w.heap.size + 1) 0 (.int .i64 F.v)).one 1 (.int .i64 F.pc)).one 2 (.int .i64 F.ad)).one 3 (.int .i64 F.wo)).one 4 (.bool F.wr))
    refine bodyPost_ret (v := .agg #[.int .i64 F.v, .int .i64 F.pc, .int .i64 F.ad, .int .i64 F.wo, .bool F.wr]) ?_ rfl ⟨g', ?_, ?_, (S2.out).mine KR (by omega)⟩
    · rw [results_one rfl]; go_simp
    · rw [E1.out, ← HF.out]; rfl
    · rw [E1.out]; exact ((C2.out).kept KR (by omega) (by omega))
set_option maxRecDepth 100000 in
set_option maxHeartbeats 8000000 in
theorem cCarryT4 (w : World) (lo b g : Nat) (c : Pl.Mc) (h : Bool) (op z r m k e s : Int) (hC : CAt w lo b g c h) (G : Pl.GM c) (hf : c.f = Pl.ftNo) (B : Pl.InB ⟨op, z, r, m, k, e, s⟩) (hop : op = 4) (h1 : m = 1 → z = 2) (h2 : op = 16 ∨ op = 17 → z = 2) :
    Calls Tryz.prog 99 #[.pointer (some ⟨b, 0, none⟩), .agg #[.int .i64 op, .int .i64 z, .int .i64 r, .int .i64 m, .int .i64 k, .int .i64 e, .int .i64 s]] w fun e' w' => ∃ g', e' = .returned (.agg (ftC (c.cr ⟨op, z, r, m, k, e, s⟩).f)) ∧ CAt w' lo b g' (c.cr ⟨op, z, r, m, k, e, s⟩) h ∧ Since w b (b + 1) g w' g' := by
  have HB := hide B
  clear B
  obtain ⟨l0, l1, l2, l3, l4⟩ := hC.lt
  have HG := hide G
  have K0 := hide (kept_new (kept_alloc w (.cells #[.int .i64 op, .int .i64 z, .int .i64 r, .int .i64 m, .int .i64 k, .int .i64 e, .int .i64 s] 79)) (.cells #[.int .i64 0, .int .i64 0, .int .i64 0, .int .i64 0, .bool false] 38))
  have C0 := hide ((hC.alloc (.cells #[.int .i64 op, .int .i64 z, .int .i64 r, .int .i64 m, .int .i64 k, .int .i64 e, .int .i64 s] 79)).alloc (.cells #[.int .i64 0, .int .i64 0, .int .i64 0, .int .i64 0, .bool false] 38))
  have A0 := hide ((Blk.new w #[.int .i64 op, .int .i64 z, .int .i64 r, .int .i64 m, .int .i64 k, .int .i64 e, .int .i64 s] 79).alloc (.cells #[.int .i64 0, .int .i64 0, .int .i64 0, .int .i64 0, .bool false] 38))
  have R0 := Blk.new (w.alloc (.cells #[.int .i64 op, .int .i64 z, .int .i64 r, .int .i64 m, .int .i64 k, .int .i64 e, .int .i64 s] 79)) #[.int .i64 0, .int .i64 0, .int .i64 0, .int .i64 0, .bool false] 38
  simp only [World.size_alloc] at R0
  replace R0 := hide R0
  obtain ⟨X, hX⟩ : ∃ X : World, (w.alloc (.cells #[.int .i64 op, .int .i64 z, .int .i64 r, .int .i64 m, .int .i64 k, .int .i64 e, .int .i64 s] 79)).alloc (.cells #[.int .i64 0, .int .i64 0, .int .i64 0, .int .i64 0, .bool false] 38) = X := ⟨_, rfl⟩
  rw [hX] at K0 C0 A0 R0
  have sX : w.heap.size + 1 < X.heap.size := R0.out.lt
  have p := A0.out.all
  clear hC G
  obtain ⟨E, hE⟩ : ∃ E, E = c.tk ⟨op, z, r, m, k, e, s⟩ := ⟨_, rfl⟩
  obtain ⟨F, hF⟩ : ∃ F, F = E.f := ⟨_, rfl⟩
  have hp : Pl.priv ⟨op, z, r, m, k, e, s⟩ = false := by rw [hop]; rfl
  have E1 : Hid (c.cr ⟨op, z, r, m, k, e, s⟩ = E) := hide (by unfold Pl.Mc.cr; rw [hp, hE]; rw [hop]; rfl)
  have H1 := hide h1
  clear h1 h2
  have HE := hide hE
  have HF := hide hF
  have hsup := needsSuper
  clear hE hF
  obtain rfl := hop
  all_goals
    go_enter Tryz.func99, Tryz.ntmps99
    go_wp2_with (first | (go_at_call 141; refine (cTake _ lo b g c h _ z r m k e s C1.out HG.out hf HB.out (by decide) H1.out (fun h9 => absurd h9 (by decide))).mono ?_; rintro e9 W2 ⟨g', rfl, hc, hs⟩; rw [← HE.out] at hc ⊢; rw [← HF.out]; unfold ftC; have C2 := hide hc; have R2 := hide (hs.blk R1.out (by omega) (by omega)); have n2 := hs.ne (b := w.heap.size + 1) R1.out.lt (by omega); have S2 := hide (((Since.refl w b (b + 1) g).any K1.out).trans hs); have r2 := R2.out.all; have rf2 := R2.out.fz; clear hc hs) | (go_at_call 140; refine (hsup _ _ z r m k e s).mono ?_; rintro e9 W1 ⟨rfl, k1⟩; rw [hp]; have C1 := hide (C0.out.any k1); have A1 := hide (A0.out.kept0 k1); have R1 := hide (R0.out.kept0 k1); have K1 := hide (K0.out.trans k1); have p1 := A1.out.all; have r1 := R1.out.all; have rf1 := R1.out.fz; have q12 := C1.out.cS; clear k1))
    have KR := (((((kept_one W2 (w.heap.size + 1) 0 (.int .i64 F.v)).one 1 (.int .i64 F.pc)).one 2 (.int .i64 F.ad)).one 3 (.int .i64 F.wo)).one 4 (.bool F.wr))
    refine bodyPost_ret (v := .agg #[.int .i64 F.v, .int .i64 F.pc, .int .i64 F.ad, .int .i64 F.wo, .bool F.wr]) ?_ rfl ⟨g', ?_, ?_, (S2.out).mine KR (by omega)⟩
    · rw [results_one rfl]; go_simp
    · rw [E1.out, ← HF.out]; rfl
    · rw [E1.out]; exact ((C2.out).kept KR (by omega) (by omega))
set_option maxRecDepth 100000 in
set_option maxHeartbeats 8000000 in
theorem cCarryT5 (w : World) (lo b g : Nat) (c : Pl.Mc) (h : Bool) (op z r m k e s : Int) (hC : CAt w lo b g c h) (G : Pl.GM c) (hf : c.f = Pl.ftNo) (B : Pl.InB ⟨op, z, r, m, k, e, s⟩) (hop : op = 5) (h1 : m = 1 → z = 2) (h2 : op = 16 ∨ op = 17 → z = 2) :
    Calls Tryz.prog 99 #[.pointer (some ⟨b, 0, none⟩), .agg #[.int .i64 op, .int .i64 z, .int .i64 r, .int .i64 m, .int .i64 k, .int .i64 e, .int .i64 s]] w fun e' w' => ∃ g', e' = .returned (.agg (ftC (c.cr ⟨op, z, r, m, k, e, s⟩).f)) ∧ CAt w' lo b g' (c.cr ⟨op, z, r, m, k, e, s⟩) h ∧ Since w b (b + 1) g w' g' := by
  have HB := hide B
  clear B
  obtain ⟨l0, l1, l2, l3, l4⟩ := hC.lt
  have HG := hide G
  have K0 := hide (kept_new (kept_alloc w (.cells #[.int .i64 op, .int .i64 z, .int .i64 r, .int .i64 m, .int .i64 k, .int .i64 e, .int .i64 s] 79)) (.cells #[.int .i64 0, .int .i64 0, .int .i64 0, .int .i64 0, .bool false] 38))
  have C0 := hide ((hC.alloc (.cells #[.int .i64 op, .int .i64 z, .int .i64 r, .int .i64 m, .int .i64 k, .int .i64 e, .int .i64 s] 79)).alloc (.cells #[.int .i64 0, .int .i64 0, .int .i64 0, .int .i64 0, .bool false] 38))
  have A0 := hide ((Blk.new w #[.int .i64 op, .int .i64 z, .int .i64 r, .int .i64 m, .int .i64 k, .int .i64 e, .int .i64 s] 79).alloc (.cells #[.int .i64 0, .int .i64 0, .int .i64 0, .int .i64 0, .bool false] 38))
  have R0 := Blk.new (w.alloc (.cells #[.int .i64 op, .int .i64 z, .int .i64 r, .int .i64 m, .int .i64 k, .int .i64 e, .int .i64 s] 79)) #[.int .i64 0, .int .i64 0, .int .i64 0, .int .i64 0, .bool false] 38
  simp only [World.size_alloc] at R0
  replace R0 := hide R0
  obtain ⟨X, hX⟩ : ∃ X : World, (w.alloc (.cells #[.int .i64 op, .int .i64 z, .int .i64 r, .int .i64 m, .int .i64 k, .int .i64 e, .int .i64 s] 79)).alloc (.cells #[.int .i64 0, .int .i64 0, .int .i64 0, .int .i64 0, .bool false] 38) = X := ⟨_, rfl⟩
  rw [hX] at K0 C0 A0 R0
  have sX : w.heap.size + 1 < X.heap.size := R0.out.lt
  have p := A0.out.all
  clear hC G
  obtain ⟨E, hE⟩ : ∃ E, E = c.tk ⟨op, z, r, m, k, e, s⟩ := ⟨_, rfl⟩
  obtain ⟨F, hF⟩ : ∃ F, F = E.f := ⟨_, rfl⟩
  have hp : Pl.priv ⟨op, z, r, m, k, e, s⟩ = false := by rw [hop]; rfl
  have E1 : Hid (c.cr ⟨op, z, r, m, k, e, s⟩ = E) := hide (by unfold Pl.Mc.cr; rw [hp, hE]; rw [hop]; rfl)
  have H1 := hide h1
  clear h1 h2
  have HE := hide hE
  have HF := hide hF
  have hsup := needsSuper
  clear hE hF
  obtain rfl := hop
  all_goals
    go_enter Tryz.func99, Tryz.ntmps99
    go_wp2_with (first | (go_at_call 141; refine (cTake _ lo b g c h _ z r m k e s C1.out HG.out hf HB.out (by decide) H1.out (fun h9 => absurd h9 (by decide))).mono ?_; rintro e9 W2 ⟨g', rfl, hc, hs⟩; rw [← HE.out] at hc ⊢; rw [← HF.out]; unfold ftC; have C2 := hide hc; have R2 := hide (hs.blk R1.out (by omega) (by omega)); have n2 := hs.ne (b := w.heap.size + 1) R1.out.lt (by omega); have S2 := hide (((Since.refl w b (b + 1) g).any K1.out).trans hs); have r2 := R2.out.all; have rf2 := R2.out.fz; clear hc hs) | (go_at_call 140; refine (hsup _ _ z r m k e s).mono ?_; rintro e9 W1 ⟨rfl, k1⟩; rw [hp]; have C1 := hide (C0.out.any k1); have A1 := hide (A0.out.kept0 k1); have R1 := hide (R0.out.kept0 k1); have K1 := hide (K0.out.trans k1); have p1 := A1.out.all; have r1 := R1.out.all; have rf1 := R1.out.fz; have q12 := C1.out.cS; clear k1))
    have KR := (((((kept_one W2 (w.heap.size + 1) 0 (.int .i64 F.v)).one 1 (.int .i64 F.pc)).one 2 (.int .i64 F.ad)).one 3 (.int .i64 F.wo)).one 4 (.bool F.wr))
    refine bodyPost_ret (v := .agg #[.int .i64 F.v, .int .i64 F.pc, .int .i64 F.ad, .int .i64 F.wo, .bool F.wr]) ?_ rfl ⟨g', ?_, ?_, (S2.out).mine KR (by omega)⟩
    · rw [results_one rfl]; go_simp
    · rw [E1.out, ← HF.out]; rfl
    · rw [E1.out]; exact ((C2.out).kept KR (by omega) (by omega))
set_option maxRecDepth 100000 in
set_option maxHeartbeats 8000000 in
theorem cCarryT6 (w : World) (lo b g : Nat) (c : Pl.Mc) (h : Bool) (op z r m k e s : Int) (hC : CAt w lo b g c h) (G : Pl.GM c) (hf : c.f = Pl.ftNo) (B : Pl.InB ⟨op, z, r, m, k, e, s⟩) (hop : op = 6) (h1 : m = 1 → z = 2) (h2 : op = 16 ∨ op = 17 → z = 2) :
    Calls Tryz.prog 99 #[.pointer (some ⟨b, 0, none⟩), .agg #[.int .i64 op, .int .i64 z, .int .i64 r, .int .i64 m, .int .i64 k, .int .i64 e, .int .i64 s]] w fun e' w' => ∃ g', e' = .returned (.agg (ftC (c.cr ⟨op, z, r, m, k, e, s⟩).f)) ∧ CAt w' lo b g' (c.cr ⟨op, z, r, m, k, e, s⟩) h ∧ Since w b (b + 1) g w' g' := by
  have HB := hide B
  clear B
  obtain ⟨l0, l1, l2, l3, l4⟩ := hC.lt
  have HG := hide G
  have K0 := hide (kept_new (kept_alloc w (.cells #[.int .i64 op, .int .i64 z, .int .i64 r, .int .i64 m, .int .i64 k, .int .i64 e, .int .i64 s] 79)) (.cells #[.int .i64 0, .int .i64 0, .int .i64 0, .int .i64 0, .bool false] 38))
  have C0 := hide ((hC.alloc (.cells #[.int .i64 op, .int .i64 z, .int .i64 r, .int .i64 m, .int .i64 k, .int .i64 e, .int .i64 s] 79)).alloc (.cells #[.int .i64 0, .int .i64 0, .int .i64 0, .int .i64 0, .bool false] 38))
  have A0 := hide ((Blk.new w #[.int .i64 op, .int .i64 z, .int .i64 r, .int .i64 m, .int .i64 k, .int .i64 e, .int .i64 s] 79).alloc (.cells #[.int .i64 0, .int .i64 0, .int .i64 0, .int .i64 0, .bool false] 38))
  have R0 := Blk.new (w.alloc (.cells #[.int .i64 op, .int .i64 z, .int .i64 r, .int .i64 m, .int .i64 k, .int .i64 e, .int .i64 s] 79)) #[.int .i64 0, .int .i64 0, .int .i64 0, .int .i64 0, .bool false] 38
  simp only [World.size_alloc] at R0
  replace R0 := hide R0
  obtain ⟨X, hX⟩ : ∃ X : World, (w.alloc (.cells #[.int .i64 op, .int .i64 z, .int .i64 r, .int .i64 m, .int .i64 k, .int .i64 e, .int .i64 s] 79)).alloc (.cells #[.int .i64 0, .int .i64 0, .int .i64 0, .int .i64 0, .bool false] 38) = X := ⟨_, rfl⟩
  rw [hX] at K0 C0 A0 R0
  have sX : w.heap.size + 1 < X.heap.size := R0.out.lt
  have p := A0.out.all
  clear hC G
  obtain ⟨E, hE⟩ : ∃ E, E = c.tk ⟨op, z, r, m, k, e, s⟩ := ⟨_, rfl⟩
  obtain ⟨F, hF⟩ : ∃ F, F = E.f := ⟨_, rfl⟩
  have hp : Pl.priv ⟨op, z, r, m, k, e, s⟩ = false := by rw [hop]; rfl
  have E1 : Hid (c.cr ⟨op, z, r, m, k, e, s⟩ = E) := hide (by unfold Pl.Mc.cr; rw [hp, hE]; rw [hop]; rfl)
  have H1 := hide h1
  clear h1 h2
  have HE := hide hE
  have HF := hide hF
  have hsup := needsSuper
  clear hE hF
  obtain rfl := hop
  all_goals
    go_enter Tryz.func99, Tryz.ntmps99
    go_wp2_with (first | (go_at_call 141; refine (cTake _ lo b g c h _ z r m k e s C1.out HG.out hf HB.out (by decide) H1.out (fun h9 => absurd h9 (by decide))).mono ?_; rintro e9 W2 ⟨g', rfl, hc, hs⟩; rw [← HE.out] at hc ⊢; rw [← HF.out]; unfold ftC; have C2 := hide hc; have R2 := hide (hs.blk R1.out (by omega) (by omega)); have n2 := hs.ne (b := w.heap.size + 1) R1.out.lt (by omega); have S2 := hide (((Since.refl w b (b + 1) g).any K1.out).trans hs); have r2 := R2.out.all; have rf2 := R2.out.fz; clear hc hs) | (go_at_call 140; refine (hsup _ _ z r m k e s).mono ?_; rintro e9 W1 ⟨rfl, k1⟩; rw [hp]; have C1 := hide (C0.out.any k1); have A1 := hide (A0.out.kept0 k1); have R1 := hide (R0.out.kept0 k1); have K1 := hide (K0.out.trans k1); have p1 := A1.out.all; have r1 := R1.out.all; have rf1 := R1.out.fz; have q12 := C1.out.cS; clear k1))
    have KR := (((((kept_one W2 (w.heap.size + 1) 0 (.int .i64 F.v)).one 1 (.int .i64 F.pc)).one 2 (.int .i64 F.ad)).one 3 (.int .i64 F.wo)).one 4 (.bool F.wr))
    refine bodyPost_ret (v := .agg #[.int .i64 F.v, .int .i64 F.pc, .int .i64 F.ad, .int .i64 F.wo, .bool F.wr]) ?_ rfl ⟨g', ?_, ?_, (S2.out).mine KR (by omega)⟩
    · rw [results_one rfl]; go_simp
    · rw [E1.out, ← HF.out]; rfl
    · rw [E1.out]; exact ((C2.out).kept KR (by omega) (by omega))
set_option maxRecDepth 100000 in
set_option maxHeartbeats 8000000 in
theorem cCarryT7 (w : World) (lo b g : Nat) (c : Pl.Mc) (h : Bool) (op z r m k e s : Int) (hC : CAt w lo b g c h) (G : Pl.GM c) (hf : c.f = Pl.ftNo) (B : Pl.InB ⟨op, z, r, m, k, e, s⟩) (hop : op = 7) (h1 : m = 1 → z = 2) (h2 : op = 16 ∨ op = 17 → z = 2) :
    Calls Tryz.prog 99 #[.pointer (some ⟨b, 0, none⟩), .agg #[.int .i64 op, .int .i64 z, .int .i64 r, .int .i64 m, .int .i64 k, .int .i64 e, .int .i64 s]] w fun e' w' => ∃ g', e' = .returned (.agg (ftC (c.cr ⟨op, z, r, m, k, e, s⟩).f)) ∧ CAt w' lo b g' (c.cr ⟨op, z, r, m, k, e, s⟩) h ∧ Since w b (b + 1) g w' g' := by
  have HB := hide B
  clear B
  obtain ⟨l0, l1, l2, l3, l4⟩ := hC.lt
  have HG := hide G
  have K0 := hide (kept_new (kept_alloc w (.cells #[.int .i64 op, .int .i64 z, .int .i64 r, .int .i64 m, .int .i64 k, .int .i64 e, .int .i64 s] 79)) (.cells #[.int .i64 0, .int .i64 0, .int .i64 0, .int .i64 0, .bool false] 38))
  have C0 := hide ((hC.alloc (.cells #[.int .i64 op, .int .i64 z, .int .i64 r, .int .i64 m, .int .i64 k, .int .i64 e, .int .i64 s] 79)).alloc (.cells #[.int .i64 0, .int .i64 0, .int .i64 0, .int .i64 0, .bool false] 38))
  have A0 := hide ((Blk.new w #[.int .i64 op, .int .i64 z, .int .i64 r, .int .i64 m, .int .i64 k, .int .i64 e, .int .i64 s] 79).alloc (.cells #[.int .i64 0, .int .i64 0, .int .i64 0, .int .i64 0, .bool false] 38))
  have R0 := Blk.new (w.alloc (.cells #[.int .i64 op, .int .i64 z, .int .i64 r, .int .i64 m, .int .i64 k, .int .i64 e, .int .i64 s] 79)) #[.int .i64 0, .int .i64 0, .int .i64 0, .int .i64 0, .bool false] 38
  simp only [World.size_alloc] at R0
  replace R0 := hide R0
  obtain ⟨X, hX⟩ : ∃ X : World, (w.alloc (.cells #[.int .i64 op, .int .i64 z, .int .i64 r, .int .i64 m, .int .i64 k, .int .i64 e, .int .i64 s] 79)).alloc (.cells #[.int .i64 0, .int .i64 0, .int .i64 0, .int .i64 0, .bool false] 38) = X := ⟨_, rfl⟩
  rw [hX] at K0 C0 A0 R0
  have sX : w.heap.size + 1 < X.heap.size := R0.out.lt
  have p := A0.out.all
  clear hC G
  obtain ⟨E, hE⟩ : ∃ E, E = c.tk ⟨op, z, r, m, k, e, s⟩ := ⟨_, rfl⟩
  obtain ⟨F, hF⟩ : ∃ F, F = E.f := ⟨_, rfl⟩
  have hp : Pl.priv ⟨op, z, r, m, k, e, s⟩ = false := by rw [hop]; rfl
  have E1 : Hid (c.cr ⟨op, z, r, m, k, e, s⟩ = E) := hide (by unfold Pl.Mc.cr; rw [hp, hE]; rw [hop]; rfl)
  have H1 := hide h1
  clear h1 h2
  have HE := hide hE
  have HF := hide hF
  have hsup := needsSuper
  clear hE hF
  obtain rfl := hop
  all_goals
    go_enter Tryz.func99, Tryz.ntmps99
    go_wp2_with (first | (go_at_call 141; refine (cTake _ lo b g c h _ z r m k e s C1.out HG.out hf HB.out (by decide) H1.out (fun h9 => absurd h9 (by decide))).mono ?_; rintro e9 W2 ⟨g', rfl, hc, hs⟩; rw [← HE.out] at hc ⊢; rw [← HF.out]; unfold ftC; have C2 := hide hc; have R2 := hide (hs.blk R1.out (by omega) (by omega)); have n2 := hs.ne (b := w.heap.size + 1) R1.out.lt (by omega); have S2 := hide (((Since.refl w b (b + 1) g).any K1.out).trans hs); have r2 := R2.out.all; have rf2 := R2.out.fz; clear hc hs) | (go_at_call 140; refine (hsup _ _ z r m k e s).mono ?_; rintro e9 W1 ⟨rfl, k1⟩; rw [hp]; have C1 := hide (C0.out.any k1); have A1 := hide (A0.out.kept0 k1); have R1 := hide (R0.out.kept0 k1); have K1 := hide (K0.out.trans k1); have p1 := A1.out.all; have r1 := R1.out.all; have rf1 := R1.out.fz; have q12 := C1.out.cS; clear k1))
    have KR := (((((kept_one W2 (w.heap.size + 1) 0 (.int .i64 F.v)).one 1 (.int .i64 F.pc)).one 2 (.int .i64 F.ad)).one 3 (.int .i64 F.wo)).one 4 (.bool F.wr))
    refine bodyPost_ret (v := .agg #[.int .i64 F.v, .int .i64 F.pc, .int .i64 F.ad, .int .i64 F.wo, .bool F.wr]) ?_ rfl ⟨g', ?_, ?_, (S2.out).mine KR (by omega)⟩
    · rw [results_one rfl]; go_simp
    · rw [E1.out, ← HF.out]; rfl
    · rw [E1.out]; exact ((C2.out).kept KR (by omega) (by omega))
set_option maxRecDepth 100000 in
set_option maxHeartbeats 8000000 in
theorem cCarryT8 (w : World) (lo b g : Nat) (c : Pl.Mc) (h : Bool) (op z r m k e s : Int) (hC : CAt w lo b g c h) (G : Pl.GM c) (hf : c.f = Pl.ftNo) (B : Pl.InB ⟨op, z, r, m, k, e, s⟩) (hop : op = 8) (h1 : m = 1 → z = 2) (h2 : op = 16 ∨ op = 17 → z = 2) :
    Calls Tryz.prog 99 #[.pointer (some ⟨b, 0, none⟩), .agg #[.int .i64 op, .int .i64 z, .int .i64 r, .int .i64 m, .int .i64 k, .int .i64 e, .int .i64 s]] w fun e' w' => ∃ g', e' = .returned (.agg (ftC (c.cr ⟨op, z, r, m, k, e, s⟩).f)) ∧ CAt w' lo b g' (c.cr ⟨op, z, r, m, k, e, s⟩) h ∧ Since w b (b + 1) g w' g' := by
  have HB := hide B
  clear B
  obtain ⟨l0, l1, l2, l3, l4⟩ := hC.lt
  have HG := hide G
  have K0 := hide (kept_new (kept_alloc w (.cells #[.int .i64 op, .int .i64 z, .int .i64 r, .int .i64 m, .int .i64 k, .int .i64 e, .int .i64 s] 79)) (.cells #[.int .i64 0, .int .i64 0, .int .i64 0, .int .i64 0, .bool false] 38))
  have C0 := hide ((hC.alloc (.cells #[.int .i64 op, .int .i64 z, .int .i64 r, .int .i64 m, .int .i64 k, .int .i64 e, .int .i64 s] 79)).alloc (.cells #[.int .i64 0, .int .i64 0, .int .i64 0, .int .i64 0, .bool false] 38))
  have A0 := hide ((Blk.new w #[.int .i64 op, .int .i64 z, .int .i64 r, .int .i64 m, .int .i64 k, .int .i64 e, .int .i64 s] 79).alloc (.cells #[.int .i64 0, .int .i64 0, .int .i64 0, .int .i64 0, .bool false] 38))
  have R0 := Blk.new (w.alloc (.cells #[.int .i64 op, .int .i64 z, .int .i64 r, .int .i64 m, .int .i64 k, .int .i64 e, .int .i64 s] 79)) #[.int .i64 0, .int .i64 0, .int .i64 0, .int .i64 0, .bool false] 38
  simp only [World.size_alloc] at R0
  replace R0 := hide R0
  obtain ⟨X, hX⟩ : ∃ X : World, (w.alloc (.cells #[.int .i64 op, .int .i64 z, .int .i64 r, .int .i64 m, .int .i64 k, .int .i64 e, .int .i64 s] 79)).alloc (.cells #[.int .i64 0, .int .i64 0, .int .i64 0, .int .i64 0, .bool false] 38) = X := ⟨_, rfl⟩
  rw [hX] at K0 C0 A0 R0
  have sX : w.heap.size + 1 < X.heap.size := R0.out.lt
  have p := A0.out.all
  clear hC G
  obtain ⟨E, hE⟩ : ∃ E, E = c.tk ⟨op, z, r, m, k, e, s⟩ := ⟨_, rfl⟩
  obtain ⟨F, hF⟩ : ∃ F, F = E.f := ⟨_, rfl⟩
  have hp : Pl.priv ⟨op, z, r, m, k, e, s⟩ = false := by rw [hop]; rfl
  have E1 : Hid (c.cr ⟨op, z, r, m, k, e, s⟩ = E) := hide (by unfold Pl.Mc.cr; rw [hp, hE]; rw [hop]; rfl)
  have H1 := hide h1
  clear h1 h2
  have HE := hide hE
  have HF := hide hF
  have hsup := needsSuper
  clear hE hF
  obtain rfl := hop
  all_goals
    go_enter Tryz.func99, Tryz.ntmps99
    go_wp2_with (first | (go_at_call 141; refine (cTake _ lo b g c h _ z r m k e s C1.out HG.out hf HB.out (by decide) H1.out (fun h9 => absurd h9 (by decide))).mono ?_; rintro e9 W2 ⟨g', rfl, hc, hs⟩; rw [← HE.out] at hc ⊢; rw [← HF.out]; unfold ftC; have C2 := hide hc; have R2 := hide (hs.blk R1.out (by omega) (by omega)); have n2 := hs.ne (b := w.heap.size + 1) R1.out.lt (by omega); have S2 := hide (((Since.refl w b (b + 1) g).any K1.out).trans hs); have r2 := R2.out.all; have rf2 := R2.out.fz; clear hc hs) | (go_at_call 140; refine (hsup _ _ z r m k e s).mono ?_; rintro e9 W1 ⟨rfl, k1⟩; rw [hp]; have C1 := hide (C0.out.any k1); have A1 := hide (A0.out.kept0 k1); have R1 := hide (R0.out.kept0 k1); have K1 := hide (K0.out.trans k1); have p1 := A1.out.all; have r1 := R1.out.all; have rf1 := R1.out.fz; have q12 := C1.out.cS; clear k1))
    have KR := (((((kept_one W2 (w.heap.size + 1) 0 (.int .i64 F.v)).one 1 (.int .i64 F.pc)).one 2 (.int .i64 F.ad)).one 3 (.int .i64 F.wo)).one 4 (.bool F.wr))
    refine bodyPost_ret (v := .agg #[.int .i64 F.v, .int .i64 F.pc, .int .i64 F.ad, .int .i64 F.wo, .bool F.wr]) ?_ rfl ⟨g', ?_, ?_, (S2.out).mine KR (by omega)⟩
    · rw [results_one rfl]; go_simp
    · rw [E1.out, ← HF.out]; rfl
    · rw [E1.out]; exact ((C2.out).kept KR (by omega) (by omega))
set_option maxRecDepth 100000 in
set_option maxHeartbeats 8000000 in
theorem cCarryT16 (w : World) (lo b g : Nat) (c : Pl.Mc) (h : Bool) (op z r m k e s : Int) (hC : CAt w lo b g c h) (G : Pl.GM c) (hf : c.f = Pl.ftNo) (B : Pl.InB ⟨op, z, r, m, k, e, s⟩) (hop : op = 16) (h1 : m = 1 → z = 2) (h2 : op = 16 ∨ op = 17 → z = 2) :
    Calls Tryz.prog 99 #[.pointer (some ⟨b, 0, none⟩), .agg #[.int .i64 op, .int .i64 z, .int .i64 r, .int .i64 m, .int .i64 k, .int .i64 e, .int .i64 s]] w fun e' w' => ∃ g', e' = .returned (.agg (ftC (c.cr ⟨op, z, r, m, k, e, s⟩).f)) ∧ CAt w' lo b g' (c.cr ⟨op, z, r, m, k, e, s⟩) h ∧ Since w b (b + 1) g w' g' := by
  have HB := hide B
  clear B
  obtain ⟨l0, l1, l2, l3, l4⟩ := hC.lt
  have HG := hide G
  have K0 := hide (kept_new (kept_alloc w (.cells #[.int .i64 op, .int .i64 z, .int .i64 r, .int .i64 m, .int .i64 k, .int .i64 e, .int .i64 s] 79)) (.cells #[.int .i64 0, .int .i64 0, .int .i64 0, .int .i64 0, .bool false] 38))
  have C0 := hide ((hC.alloc (.cells #[.int .i64 op, .int .i64 z, .int .i64 r, .int .i64 m, .int .i64 k, .int .i64 e, .int .i64 s] 79)).alloc (.cells #[.int .i64 0, .int .i64 0, .int .i64 0, .int .i64 0, .bool false] 38))
  have A0 := hide ((Blk.new w #[.int .i64 op, .int .i64 z, .int .i64 r, .int .i64 m, .int .i64 k, .int .i64 e, .int .i64 s] 79).alloc (.cells #[.int .i64 0, .int .i64 0, .int .i64 0, .int .i64 0, .bool false] 38))
  have R0 := Blk.new (w.alloc (.cells #[.int .i64 op, .int .i64 z, .int .i64 r, .int .i64 m, .int .i64 k, .int .i64 e, .int .i64 s] 79)) #[.int .i64 0, .int .i64 0, .int .i64 0, .int .i64 0, .bool false] 38
  simp only [World.size_alloc] at R0
  replace R0 := hide R0
  obtain ⟨X, hX⟩ : ∃ X : World, (w.alloc (.cells #[.int .i64 op, .int .i64 z, .int .i64 r, .int .i64 m, .int .i64 k, .int .i64 e, .int .i64 s] 79)).alloc (.cells #[.int .i64 0, .int .i64 0, .int .i64 0, .int .i64 0, .bool false] 38) = X := ⟨_, rfl⟩
  rw [hX] at K0 C0 A0 R0
  have sX : w.heap.size + 1 < X.heap.size := R0.out.lt
  have p := A0.out.all
  clear hC G
  obtain ⟨E, hE⟩ : ∃ E, E = c.tk ⟨op, z, r, m, k, e, s⟩ := ⟨_, rfl⟩
  obtain ⟨F, hF⟩ : ∃ F, F = E.f := ⟨_, rfl⟩
  have hp : Pl.priv ⟨op, z, r, m, k, e, s⟩ = false := by rw [hop]; rfl
  have E1 : Hid (c.cr ⟨op, z, r, m, k, e, s⟩ = E) := hide (by unfold Pl.Mc.cr; rw [hp, hE]; rw [hop]; rfl)
  have H1 := hide h1
  have HZ := hide (h2 (by omega))
  clear h1 h2
  have HE := hide hE
  have HF := hide hF
  have hsup := needsSuper
  clear hE hF
  obtain rfl := hop
  all_goals
    go_enter Tryz.func99, Tryz.ntmps99
    go_wp2_with (first | (go_at_call 141; refine (cTake _ lo b g c h _ z r m k e s C1.out HG.out hf HB.out (by decide) H1.out (fun _ => HZ.out)).mono ?_; rintro e9 W2 ⟨g', rfl, hc, hs⟩; rw [← HE.out] at hc ⊢; rw [← HF.out]; unfold ftC; have C2 := hide hc; have R2 := hide (hs.blk R1.out (by omega) (by omega)); have n2 := hs.ne (b := w.heap.size + 1) R1.out.lt (by omega); have S2 := hide (((Since.refl w b (b + 1) g).any K1.out).trans hs); have r2 := R2.out.all; have rf2 := R2.out.fz; clear hc hs) | (go_at_call 140; refine (hsup _ _ z r m k e s).mono ?_; rintro e9 W1 ⟨rfl, k1⟩; rw [hp]; have C1 := hide (C0.out.any k1); have A1 := hide (A0.out.kept0 k1); have R1 := hide (R0.out.kept0 k1); have K1 := hide (K0.out.trans k1); have p1 := A1.out.all; have r1 := R1.out.all; have rf1 := R1.out.fz; have q12 := C1.out.cS; clear k1))
    have KR := (((((kept_one W2 (w.heap.size + 1) 0 (.int .i64 F.v)).one 1 (.int .i64 F.pc)).one 2 (.int .i64 F.ad)).one 3 (.int .i64 F.wo)).one 4 (.bool F.wr))
    refine bodyPost_ret (v := .agg #[.int .i64 F.v, .int .i64 F.pc, .int .i64 F.ad, .int .i64 F.wo, .bool F.wr]) ?_ rfl ⟨g', ?_, ?_, (S2.out).mine KR (by omega)⟩
    · rw [results_one rfl]; go_simp
    · rw [E1.out, ← HF.out]; rfl
    · rw [E1.out]; exact ((C2.out).kept KR (by omega) (by omega))
set_option maxRecDepth 100000 in
set_option maxHeartbeats 8000000 in
theorem cCarryT17 (w : World) (lo b g : Nat) (c : Pl.Mc) (h : Bool) (op z r m k e s : Int) (hC : CAt w lo b g c h) (G : Pl.GM c) (hf : c.f = Pl.ftNo) (B : Pl.InB ⟨op, z, r, m, k, e, s⟩) (hop : op = 17) (h1 : m = 1 → z = 2) (h2 : op = 16 ∨ op = 17 → z = 2) :
    Calls Tryz.prog 99 #[.pointer (some ⟨b, 0, none⟩), .agg #[.int .i64 op, .int .i64 z, .int .i64 r, .int .i64 m, .int .i64 k, .int .i64 e, .int .i64 s]] w fun e' w' => ∃ g', e' = .returned (.agg (ftC (c.cr ⟨op, z, r, m, k, e, s⟩).f)) ∧ CAt w' lo b g' (c.cr ⟨op, z, r, m, k, e, s⟩) h ∧ Since w b (b + 1) g w' g' := by
  have HB := hide B
  clear B
  obtain ⟨l0, l1, l2, l3, l4⟩ := hC.lt
  have HG := hide G
  have K0 := hide (kept_new (kept_alloc w (.cells #[.int .i64 op, .int .i64 z, .int .i64 r, .int .i64 m, .int .i64 k, .int .i64 e, .int .i64 s] 79)) (.cells #[.int .i64 0, .int .i64 0, .int .i64 0, .int .i64 0, .bool false] 38))
  have C0 := hide ((hC.alloc (.cells #[.int .i64 op, .int .i64 z, .int .i64 r, .int .i64 m, .int .i64 k, .int .i64 e, .int .i64 s] 79)).alloc (.cells #[.int .i64 0, .int .i64 0, .int .i64 0, .int .i64 0, .bool false] 38))
  have A0 := hide ((Blk.new w #[.int .i64 op, .int .i64 z, .int .i64 r, .int .i64 m, .int .i64 k, .int .i64 e, .int .i64 s] 79).alloc (.cells #[.int .i64 0, .int .i64 0, .int .i64 0, .int .i64 0, .bool false] 38))
  have R0 := Blk.new (w.alloc (.cells #[.int .i64 op, .int .i64 z, .int .i64 r, .int .i64 m, .int .i64 k, .int .i64 e, .int .i64 s] 79)) #[.int .i64 0, .int .i64 0, .int .i64 0, .int .i64 0, .bool false] 38
  simp only [World.size_alloc] at R0
  replace R0 := hide R0
  obtain ⟨X, hX⟩ : ∃ X : World, (w.alloc (.cells #[.int .i64 op, .int .i64 z, .int .i64 r, .int .i64 m, .int .i64 k, .int .i64 e, .int .i64 s] 79)).alloc (.cells #[.int .i64 0, .int .i64 0, .int .i64 0, .int .i64 0, .bool false] 38) = X := ⟨_, rfl⟩
  rw [hX] at K0 C0 A0 R0
  have sX : w.heap.size + 1 < X.heap.size := R0.out.lt
  have p := A0.out.all
  clear hC G
  obtain ⟨E, hE⟩ : ∃ E, E = c.tk ⟨op, z, r, m, k, e, s⟩ := ⟨_, rfl⟩
  obtain ⟨F, hF⟩ : ∃ F, F = E.f := ⟨_, rfl⟩
  have hp : Pl.priv ⟨op, z, r, m, k, e, s⟩ = false := by rw [hop]; rfl
  have E1 : Hid (c.cr ⟨op, z, r, m, k, e, s⟩ = E) := hide (by unfold Pl.Mc.cr; rw [hp, hE]; rw [hop]; rfl)
  have H1 := hide h1
  have HZ := hide (h2 (by omega))
  clear h1 h2
  have HE := hide hE
  have HF := hide hF
  have hsup := needsSuper
  clear hE hF
  obtain rfl := hop
  all_goals
    go_enter Tryz.func99, Tryz.ntmps99
    go_wp2_with (first | (go_at_call 141; refine (cTake _ lo b g c h _ z r m k e s C1.out HG.out hf HB.out (by decide) H1.out (fun _ => HZ.out)).mono ?_; rintro e9 W2 ⟨g', rfl, hc, hs⟩; rw [← HE.out] at hc ⊢; rw [← HF.out]; unfold ftC; have C2 := hide hc; have R2 := hide (hs.blk R1.out (by omega) (by omega)); have n2 := hs.ne (b := w.heap.size + 1) R1.out.lt (by omega); have S2 := hide (((Since.refl w b (b + 1) g).any K1.out).trans hs); have r2 := R2.out.all; have rf2 := R2.out.fz; clear hc hs) | (go_at_call 140; refine (hsup _ _ z r m k e s).mono ?_; rintro e9 W1 ⟨rfl, k1⟩; rw [hp]; have C1 := hide (C0.out.any k1); have A1 := hide (A0.out.kept0 k1); have R1 := hide (R0.out.kept0 k1); have K1 := hide (K0.out.trans k1); have p1 := A1.out.all; have r1 := R1.out.all; have rf1 := R1.out.fz; have q12 := C1.out.cS; clear k1))
    have KR := (((((kept_one W2 (w.heap.size + 1) 0 (.int .i64 F.v)).one 1 (.int .i64 F.pc)).one 2 (.int .i64 F.ad)).one 3 (.int .i64 F.wo)).one 4 (.bool F.wr))
    refine bodyPost_ret (v := .agg #[.int .i64 F.v, .int .i64 F.pc, .int .i64 F.ad, .int .i64 F.wo, .bool F.wr]) ?_ rfl ⟨g', ?_, ?_, (S2.out).mine KR (by omega)⟩
    · rw [results_one rfl]; go_simp
    · rw [E1.out, ← HF.out]; rfl
    · rw [E1.out]; exact ((C2.out).kept KR (by omega) (by omega))
set_option maxRecDepth 100000 in
set_option maxHeartbeats 8000000 in
theorem cCarryG (w : World) (lo b g : Nat) (c : Pl.Mc) (h : Bool) (op z r m k e s : Int) (hC : CAt w lo b g c h) (G : Pl.GM c) (hf : c.f = Pl.ftNo) (B : Pl.InB ⟨op, z, r, m, k, e, s⟩) (hop : op = 2) (hm : m = 0 ∨ (2 ≤ m ∧ m ≤ 6)) :
    Calls Tryz.prog 99 #[.pointer (some ⟨b, 0, none⟩), .agg #[.int .i64 op, .int .i64 z, .int .i64 r, .int .i64 m, .int .i64 k, .int .i64 e, .int .i64 s]] w fun e' w' => ∃ g', e' = .returned (.agg (ftC (c.cr ⟨op, z, r, m, k, e, s⟩).f)) ∧ CAt w' lo b g' (c.cr ⟨op, z, r, m, k, e, s⟩) h ∧ Since w b (b + 1) g w' g' := by
  have HB := hide B
  clear B
  obtain ⟨l0, l1, l2, l3, l4⟩ := hC.lt
  have HG := hide G
  have K0 := hide (kept_new (kept_alloc w (.cells #[.int .i64 op, .int .i64 z, .int .i64 r, .int .i64 m, .int .i64 k, .int .i64 e, .int .i64 s] 79)) (.cells #[.int .i64 0, .int .i64 0, .int .i64 0, .int .i64 0, .bool false] 38))
  have C0 := hide ((hC.alloc (.cells #[.int .i64 op, .int .i64 z, .int .i64 r, .int .i64 m, .int .i64 k, .int .i64 e, .int .i64 s] 79)).alloc (.cells #[.int .i64 0, .int .i64 0, .int .i64 0, .int .i64 0, .bool false] 38))
  have A0 := hide ((Blk.new w #[.int .i64 op, .int .i64 z, .int .i64 r, .int .i64 m, .int .i64 k, .int .i64 e, .int .i64 s] 79).alloc (.cells #[.int .i64 0, .int .i64 0, .int .i64 0, .int .i64 0, .bool false] 38))
  have R0 := Blk.new (w.alloc (.cells #[.int .i64 op, .int .i64 z, .int .i64 r, .int .i64 m, .int .i64 k, .int .i64 e, .int .i64 s] 79)) #[.int .i64 0, .int .i64 0, .int .i64 0, .int .i64 0, .bool false] 38
  simp only [World.size_alloc] at R0
  replace R0 := hide R0
  obtain ⟨X, hX⟩ : ∃ X : World, (w.alloc (.cells #[.int .i64 op, .int .i64 z, .int .i64 r, .int .i64 m, .int .i64 k, .int .i64 e, .int .i64 s] 79)).alloc (.cells #[.int .i64 0, .int .i64 0, .int .i64 0, .int .i64 0, .bool false] 38) = X := ⟨_, rfl⟩
  rw [hX] at K0 C0 A0 R0
  have sX : w.heap.size + 1 < X.heap.size := R0.out.lt
  have p := A0.out.all
  clear hC G
  obtain ⟨E, hE⟩ : ∃ E, E = c.gv ⟨op, z, r, m, k, e, s⟩ := ⟨_, rfl⟩
  obtain ⟨F, hF⟩ : ∃ F, F = E.f := ⟨_, rfl⟩
  have hp : Pl.priv ⟨op, z, r, m, k, e, s⟩ = false := by rw [hop]; rfl
  have E1 : Hid (c.cr ⟨op, z, r, m, k, e, s⟩ = E) := hide (by unfold Pl.Mc.cr; rw [hp, hE]; rw [hop]; rfl)
  have HE := hide hE
  have HF := hide hF
  have hsup := needsSuper
  clear hE hF
  obtain rfl := hop
  all_goals
    go_enter Tryz.func99, Tryz.ntmps99
    go_wp2_with (first | (go_at_call 142; refine (cGive _ lo b g c h _ z r m k e s C1.out HG.out hf HB.out hm).mono ?_; rintro e9 W2 ⟨g', rfl, hc, hs⟩; rw [← HE.out] at hc ⊢; rw [← HF.out]; unfold ftC; have C2 := hide hc; have R2 := hide (hs.blk R1.out (by omega) (by omega)); have n2 := hs.ne (b := w.heap.size + 1) R1.out.lt (by omega); have S2 := hide (((Since.refl w b (b + 1) g).any K1.out).trans hs); have r2 := R2.out.all; have rf2 := R2.out.fz; clear hc hs) | (go_at_call 140; refine (hsup _ _ z r m k e s).mono ?_; rintro e9 W1 ⟨rfl, k1⟩; rw [hp]; have C1 := hide (C0.out.any k1); have A1 := hide (A0.out.kept0 k1); have R1 := hide (R0.out.kept0 k1); have K1 := hide (K0.out.trans k1); have p1 := A1.out.all; have r1 := R1.out.all; have rf1 := R1.out.fz; have q12 := C1.out.cS; clear k1))
    have KR := (((((kept_one W2 (w.heap.size + 1) 0 (.int .i64 F.v)).one 1 (.int .i64 F.pc)).one 2 (.int .i64 F.ad)).one 3 (.int .i64 F.wo)).one 4 (.bool F.wr))
    refine bodyPost_ret (v := .agg #[.int .i64 F.v, .int .i64 F.pc, .int .i64 F.ad, .int .i64 F.wo, .bool F.wr]) ?_ rfl ⟨g', ?_, ?_, (S2.out).mine KR (by omega)⟩
    · rw [results_one rfl]; go_simp
    · rw [E1.out, ← HF.out]; rfl
    · rw [E1.out]; exact ((C2.out).kept KR (by omega) (by omega))
set_option maxRecDepth 100000 in
set_option maxHeartbeats 8000000 in
theorem cCarryC (w : World) (lo b g : Nat) (c : Pl.Mc) (h : Bool) (op z r m k e s : Int) (hC : CAt w lo b g c h) (G : Pl.GM c) (hf : c.f = Pl.ftNo) (B : Pl.InB ⟨op, z, r, m, k, e, s⟩) (hop : op = 11) (hm : m = 0 ∨ (2 ≤ m ∧ m ≤ 6)) (hs : s ≤ 3) :
    Calls Tryz.prog 99 #[.pointer (some ⟨b, 0, none⟩), .agg #[.int .i64 op, .int .i64 z, .int .i64 r, .int .i64 m, .int .i64 k, .int .i64 e, .int .i64 s]] w fun e' w' => ∃ g', e' = .returned (.agg (ftC (c.cr ⟨op, z, r, m, k, e, s⟩).f)) ∧ CAt w' lo b g' (c.cr ⟨op, z, r, m, k, e, s⟩) h ∧ Since w b (b + 1) g w' g' := by
  have HB := hide B
  clear B
  obtain ⟨l0, l1, l2, l3, l4⟩ := hC.lt
  have HG := hide G
  have K0 := hide (kept_new (kept_alloc w (.cells #[.int .i64 op, .int .i64 z, .int .i64 r, .int .i64 m, .int .i64 k, .int .i64 e, .int .i64 s] 79)) (.cells #[.int .i64 0, .int .i64 0, .int .i64 0, .int .i64 0, .bool false] 38))
  have C0 := hide ((hC.alloc (.cells #[.int .i64 op, .int .i64 z, .int .i64 r, .int .i64 m, .int .i64 k, .int .i64 e, .int .i64 s] 79)).alloc (.cells #[.int .i64 0, .int .i64 0, .int .i64 0, .int .i64 0, .bool false] 38))
  have A0 := hide ((Blk.new w #[.int .i64 op, .int .i64 z, .int .i64 r, .int .i64 m, .int .i64 k, .int .i64 e, .int .i64 s] 79).alloc (.cells #[.int .i64 0, .int .i64 0, .int .i64 0, .int .i64 0, .bool false] 38))
  have R0 := Blk.new (w.alloc (.cells #[.int .i64 op, .int .i64 z, .int .i64 r, .int .i64 m, .int .i64 k, .int .i64 e, .int .i64 s] 79)) #[.int .i64 0, .int .i64 0, .int .i64 0, .int .i64 0, .bool false] 38
  simp only [World.size_alloc] at R0
  replace R0 := hide R0
  obtain ⟨X, hX⟩ : ∃ X : World, (w.alloc (.cells #[.int .i64 op, .int .i64 z, .int .i64 r, .int .i64 m, .int .i64 k, .int .i64 e, .int .i64 s] 79)).alloc (.cells #[.int .i64 0, .int .i64 0, .int .i64 0, .int .i64 0, .bool false] 38) = X := ⟨_, rfl⟩
  rw [hX] at K0 C0 A0 R0
  have sX : w.heap.size + 1 < X.heap.size := R0.out.lt
  have p := A0.out.all
  clear hC G
  obtain ⟨E, hE⟩ : ∃ E, E = c.ch ⟨op, z, r, m, k, e, s⟩ := ⟨_, rfl⟩
  obtain ⟨F, hF⟩ : ∃ F, F = E.f := ⟨_, rfl⟩
  have hp : Pl.priv ⟨op, z, r, m, k, e, s⟩ = false := by rw [hop]; rfl
  have E1 : Hid (c.cr ⟨op, z, r, m, k, e, s⟩ = E) := hide (by unfold Pl.Mc.cr; rw [hp, hE]; rw [hop]; rfl)
  have HE := hide hE
  have HF := hide hF
  have hsup := needsSuper
  clear hE hF
  obtain rfl := hop
  all_goals
    go_enter Tryz.func99, Tryz.ntmps99
    go_wp2_with (first | (go_at_call 143; refine (cChangeV _ lo b g c h _ z r m k e s C1.out HG.out hf HB.out hs hm).mono ?_; rintro e9 W2 ⟨g', rfl, hc, hs⟩; rw [← HE.out] at hc ⊢; rw [← HF.out]; unfold ftC; have C2 := hide hc; have R2 := hide (hs.blk R1.out (by omega) (by omega)); have n2 := hs.ne (b := w.heap.size + 1) R1.out.lt (by omega); have S2 := hide (((Since.refl w b (b + 1) g).any K1.out).trans hs); have r2 := R2.out.all; have rf2 := R2.out.fz; clear hc hs) | (go_at_call 140; refine (hsup _ _ z r m k e s).mono ?_; rintro e9 W1 ⟨rfl, k1⟩; rw [hp]; have C1 := hide (C0.out.any k1); have A1 := hide (A0.out.kept0 k1); have R1 := hide (R0.out.kept0 k1); have K1 := hide (K0.out.trans k1); have p1 := A1.out.all; have r1 := R1.out.all; have rf1 := R1.out.fz; have q12 := C1.out.cS; clear k1))
    have KR := (((((kept_one W2 (w.heap.size + 1) 0 (.int .i64 F.v)).one 1 (.int .i64 F.pc)).one 2 (.int .i64 F.ad)).one 3 (.int .i64 F.wo)).one 4 (.bool F.wr))
    refine bodyPost_ret (v := .agg #[.int .i64 F.v, .int .i64 F.pc, .int .i64 F.ad, .int .i64 F.wo, .bool F.wr]) ?_ rfl ⟨g', ?_, ?_, (S2.out).mine KR (by omega)⟩
    · rw [results_one rfl]; go_simp
    · rw [E1.out, ← HF.out]; rfl
    · rw [E1.out]; exact ((C2.out).kept KR (by omega) (by omega))
set_option maxRecDepth 100000 in
set_option maxHeartbeats 8000000 in
theorem cCarryS (w : World) (lo b g : Nat) (c : Pl.Mc) (h : Bool) (op z r m k e s : Int) (hC : CAt w lo b g c h) (G : Pl.GM c) (hf : c.f = Pl.ftNo) (B : Pl.InB ⟨op, z, r, m, k, e, s⟩) (hop : op = 12) :
    Calls Tryz.prog 99 #[.pointer (some ⟨b, 0, none⟩), .agg #[.int .i64 op, .int .i64 z, .int .i64 r, .int .i64 m, .int .i64 k, .int .i64 e, .int .i64 s]] w fun e' w' => ∃ g', e' = .returned (.agg (ftC (c.cr ⟨op, z, r, m, k, e, s⟩).f)) ∧ CAt w' lo b g' (c.cr ⟨op, z, r, m, k, e, s⟩) h ∧ Since w b (b + 1) g w' g' := by
  have HB := hide B
  clear B
  obtain ⟨l0, l1, l2, l3, l4⟩ := hC.lt
  have HG := hide G
  have K0 := hide (kept_new (kept_alloc w (.cells #[.int .i64 op, .int .i64 z, .int .i64 r, .int .i64 m, .int .i64 k, .int .i64 e, .int .i64 s] 79)) (.cells #[.int .i64 0, .int .i64 0, .int .i64 0, .int .i64 0, .bool false] 38))
  have C0 := hide ((hC.alloc (.cells #[.int .i64 op, .int .i64 z, .int .i64 r, .int .i64 m, .int .i64 k, .int .i64 e, .int .i64 s] 79)).alloc (.cells #[.int .i64 0, .int .i64 0, .int .i64 0, .int .i64 0, .bool false] 38))
  have A0 := hide ((Blk.new w #[.int .i64 op, .int .i64 z, .int .i64 r, .int .i64 m, .int .i64 k, .int .i64 e, .int .i64 s] 79).alloc (.cells #[.int .i64 0, .int .i64 0, .int .i64 0, .int .i64 0, .bool false] 38))
  have R0 := Blk.new (w.alloc (.cells #[.int .i64 op, .int .i64 z, .int .i64 r, .int .i64 m, .int .i64 k, .int .i64 e, .int .i64 s] 79)) #[.int .i64 0, .int .i64 0, .int .i64 0, .int .i64 0, .bool false] 38
  simp only [World.size_alloc] at R0
  replace R0 := hide R0
  obtain ⟨X, hX⟩ : ∃ X : World, (w.alloc (.cells #[.int .i64 op, .int .i64 z, .int .i64 r, .int .i64 m, .int .i64 k, .int .i64 e, .int .i64 s] 79)).alloc (.cells #[.int .i64 0, .int .i64 0, .int .i64 0, .int .i64 0, .bool false] 38) = X := ⟨_, rfl⟩
  rw [hX] at K0 C0 A0 R0
  have sX : w.heap.size + 1 < X.heap.size := R0.out.lt
  have p := A0.out.all
  clear hC G
  obtain ⟨E, hE⟩ : ∃ E, E = (c.put z r (Pl.byVal s z c.r.f (c.low z r) (k + 1))).setF (Pl.byFl s z c.r.f (c.low z r) (k + 1)) := ⟨_, rfl⟩
  obtain ⟨F, hF⟩ : ∃ F, F = E.f := ⟨_, rfl⟩
  have hp : Pl.priv ⟨op, z, r, m, k, e, s⟩ = false := by rw [hop]; rfl
  have E1 : Hid (c.cr ⟨op, z, r, m, k, e, s⟩ = E) := hide (by unfold Pl.Mc.cr; rw [hp, hE]; rw [hop]; rfl)
  have EF : Hid (E.f = Pl.ftNo) := hide (by rw [hE]; exact hf)
  have HE := hide hE
  have HF := hide hF
  have hsup := needsSuper
  clear hE hF
  obtain rfl := hop
  all_goals
    go_enter Tryz.func99, Tryz.ntmps99
    go_wp2_with (first | (go_at_call 145; refine (cShift _ lo b g c h _ z r m k e s C1.out HG.out HB.out).mono ?_; rintro e9 W2 ⟨rfl, hc, hk⟩; rw [← HE.out] at hc; have C2 := hide hc; have R2 := hide (R1.out.kept hk (by omega)); have S2 := hide (((Since.refl w b (b + 1) g).any K1.out).keptS hk (Nat.le_refl _) (Nat.le_refl _)); have r2 := R2.out.all; have rf2 := R2.out.fz; clear hc hk) | (go_at_call 140; refine (hsup _ _ z r m k e s).mono ?_; rintro e9 W1 ⟨rfl, k1⟩; rw [hp]; have C1 := hide (C0.out.any k1); have A1 := hide (A0.out.kept0 k1); have R1 := hide (R0.out.kept0 k1); have K1 := hide (K0.out.trans k1); have p1 := A1.out.all; have r1 := R1.out.all; have rf1 := R1.out.fz; have q12 := C1.out.cS; clear k1))
    have KR := (((((kept_one W2 (w.heap.size + 1) 0 (.int .i64 0)).one 1 (.int .i64 0)).one 2 (.int .i64 0)).one 3 (.int .i64 0)).one 4 (.bool false))
    refine bodyPost_ret (v := .agg #[.int .i64 0, .int .i64 0, .int .i64 0, .int .i64 0, .bool false]) ?_ rfl ⟨g, ?_, ?_, (S2.out).mine KR (by omega)⟩
    · rw [results_one rfl]; go_simp
    · rw [E1.out, EF.out]; rfl
    · rw [E1.out]; exact ((C2.out).kept KR (by omega) (by omega))
set_option maxRecDepth 100000 in
set_option maxHeartbeats 8000000 in
theorem cCarryB (w : World) (lo b g : Nat) (c : Pl.Mc) (h : Bool) (op z r m k e s : Int) (hC : CAt w lo b g c h) (G : Pl.GM c) (hf : c.f = Pl.ftNo) (B : Pl.InB ⟨op, z, r, m, k, e, s⟩) (hop : op = 13) (hr : r ≤ 1) :
    Calls Tryz.prog 99 #[.pointer (some ⟨b, 0, none⟩), .agg #[.int .i64 op, .int .i64 z, .int .i64 r, .int .i64 m, .int .i64 k, .int .i64 e, .int .i64 s]] w fun e' w' => ∃ g', e' = .returned (.agg (ftC (c.cr ⟨op, z, r, m, k, e, s⟩).f)) ∧ CAt w' lo b g' (c.cr ⟨op, z, r, m, k, e, s⟩) h ∧ Since w b (b + 1) g w' g' := by
  have HB := hide B
  clear B
  obtain ⟨l0, l1, l2, l3, l4⟩ := hC.lt
  have HG := hide G
  have K0 := hide (kept_new (kept_alloc w (.cells #[.int .i64 op, .int .i64 z, .int .i64 r, .int .i64 m, .int .i64 k, .int .i64 e, .int .i64 s] 79)) (.cells #[.int .i64 0, .int .i64 0, .int .i64 0, .int .i64 0, .bool false] 38))
  have C0 := hide ((hC.alloc (.cells #[.int .i64 op, .int .i64 z, .int .i64 r, .int .i64 m, .int .i64 k, .int .i64 e, .int .i64 s] 79)).alloc (.cells #[.int .i64 0, .int .i64 0, .int .i64 0, .int .i64 0, .bool false] 38))
  have A0 := hide ((Blk.new w #[.int .i64 op, .int .i64 z, .int .i64 r, .int .i64 m, .int .i64 k, .int .i64 e, .int .i64 s] 79).alloc (.cells #[.int .i64 0, .int .i64 0, .int .i64 0, .int .i64 0, .bool false] 38))
  have R0 := Blk.new (w.alloc (.cells #[.int .i64 op, .int .i64 z, .int .i64 r, .int .i64 m, .int .i64 k, .int .i64 e, .int .i64 s] 79)) #[.int .i64 0, .int .i64 0, .int .i64 0, .int .i64 0, .bool false] 38
  simp only [World.size_alloc] at R0
  replace R0 := hide R0
  obtain ⟨X, hX⟩ : ∃ X : World, (w.alloc (.cells #[.int .i64 op, .int .i64 z, .int .i64 r, .int .i64 m, .int .i64 k, .int .i64 e, .int .i64 s] 79)).alloc (.cells #[.int .i64 0, .int .i64 0, .int .i64 0, .int .i64 0, .bool false] 38) = X := ⟨_, rfl⟩
  rw [hX] at K0 C0 A0 R0
  have sX : w.heap.size + 1 < X.heap.size := R0.out.lt
  have p := A0.out.all
  clear hC G
  obtain ⟨E, hE⟩ : ∃ E, E = bif Pl.tst (s + 8 * r) c.r.f then c.setP ((c.r.p - 2 + e) % 65536) else c := ⟨_, rfl⟩
  obtain ⟨F, hF⟩ : ∃ F, F = E.f := ⟨_, rfl⟩
  have hp : Pl.priv ⟨op, z, r, m, k, e, s⟩ = false := by rw [hop]; rfl
  have E1 : Hid (c.cr ⟨op, z, r, m, k, e, s⟩ = E) := hide (by unfold Pl.Mc.cr; rw [hp, hE]; rw [hop]; rfl)
  have EF : Hid (E.f = Pl.ftNo) := hide (by rw [hE]; cases Pl.tst (s + 8 * r) c.r.f <;> exact hf)
  have HE := hide hE
  have HF := hide hF
  have hsup := needsSuper
  clear hE hF
  obtain rfl := hop
  all_goals
    go_enter Tryz.func99, Tryz.ntmps99
    go_wp2_with (first | (go_at_call 146; refine (cBranch _ lo b g c h _ z r m k e s C1.out HG.out HB.out hr).mono ?_; rintro e9 W2 ⟨rfl, hc, hk⟩; rw [← HE.out] at hc; have C2 := hide hc; have R2 := hide (R1.out.kept hk (by omega)); have S2 := hide (((Since.refl w b (b + 1) g).any K1.out).keptS hk (Nat.le_refl _) (Nat.le_refl _)); have r2 := R2.out.all; have rf2 := R2.out.fz; clear hc hk) | (go_at_call 140; refine (hsup _ _ z r m k e s).mono ?_; rintro e9 W1 ⟨rfl, k1⟩; rw [hp]; have C1 := hide (C0.out.any k1); have A1 := hide (A0.out.kept0 k1); have R1 := hide (R0.out.kept0 k1); have K1 := hide (K0.out.trans k1); have p1 := A1.out.all; have r1 := R1.out.all; have rf1 := R1.out.fz; have q12 := C1.out.cS; clear k1))
    have KR := (((((kept_one W2 (w.heap.size + 1) 0 (.int .i64 0)).one 1 (.int .i64 0)).one 2 (.int .i64 0)).one 3 (.int .i64 0)).one 4 (.bool false))
    refine bodyPost_ret (v := .agg #[.int .i64 0, .int .i64 0, .int .i64 0, .int .i64 0, .bool false]) ?_ rfl ⟨g, ?_, ?_, (S2.out).mine KR (by omega)⟩
    · rw [results_one rfl]; go_simp
    · rw [E1.out, EF.out]; rfl
    · rw [E1.out]; exact ((C2.out).kept KR (by omega) (by omega))
set_option maxRecDepth 100000 in
set_option maxHeartbeats 8000000 in
theorem cCarryJ (w : World) (lo b g : Nat) (c : Pl.Mc) (h : Bool) (op z r m k e s : Int) (hC : CAt w lo b g c h) (G : Pl.GM c) (hf : c.f = Pl.ftNo) (B : Pl.InB ⟨op, z, r, m, k, e, s⟩) (hop : op = 14) (hs : s ≤ 1) :
    Calls Tryz.prog 99 #[.pointer (some ⟨b, 0, none⟩), .agg #[.int .i64 op, .int .i64 z, .int .i64 r, .int .i64 m, .int .i64 k, .int .i64 e, .int .i64 s]] w fun e' w' => ∃ g', e' = .returned (.agg (ftC (c.cr ⟨op, z, r, m, k, e, s⟩).f)) ∧ CAt w' lo b g' (c.cr ⟨op, z, r, m, k, e, s⟩) h ∧ Since w b (b + 1) g w' g' := by
  have HB := hide B
  clear B
  obtain ⟨l0, l1, l2, l3, l4⟩ := hC.lt
  have HG := hide G
  have K0 := hide (kept_new (kept_alloc w (.cells #[.int .i64 op, .int .i64 z, .int .i64 r, .int .i64 m, .int .i64 k, .int .i64 e, .int .i64 s] 79)) (.cells #[.int .i64 0, .int .i64 0, .int .i64 0, .int .i64 0, .bool false] 38))
  have C0 := hide ((hC.alloc (.cells #[.int .i64 op, .int .i64 z, .int .i64 r, .int .i64 m, .int .i64 k, .int .i64 e, .int .i64 s] 79)).alloc (.cells #[.int .i64 0, .int .i64 0, .int .i64 0, .int .i64 0, .bool false] 38))
  have A0 := hide ((Blk.new w #[.int .i64 op, .int .i64 z, .int .i64 r, .int .i64 m, .int .i64 k, .int .i64 e, .int .i64 s] 79).alloc (.cells #[.int .i64 0, .int .i64 0, .int .i64 0, .int .i64 0, .bool false] 38))
  have R0 := Blk.new (w.alloc (.cells #[.int .i64 op, .int .i64 z, .int .i64 r, .int .i64 m, .int .i64 k, .int .i64 e, .int .i64 s] 79)) #[.int .i64 0, .int .i64 0, .int .i64 0, .int .i64 0, .bool false] 38
  simp only [World.size_alloc] at R0
  replace R0 := hide R0
  obtain ⟨X, hX⟩ : ∃ X : World, (w.alloc (.cells #[.int .i64 op, .int .i64 z, .int .i64 r, .int .i64 m, .int .i64 k, .int .i64 e, .int .i64 s] 79)).alloc (.cells #[.int .i64 0, .int .i64 0, .int .i64 0, .int .i64 0, .bool false] 38) = X := ⟨_, rfl⟩
  rw [hX] at K0 C0 A0 R0
  have sX : w.heap.size + 1 < X.heap.size := R0.out.lt
  have p := A0.out.all
  clear hC G
  obtain ⟨E, hE⟩ : ∃ E, E = c.jp ⟨op, z, r, m, k, e, s⟩ := ⟨_, rfl⟩
  obtain ⟨F, hF⟩ : ∃ F, F = E.f := ⟨_, rfl⟩
  have hp : Pl.priv ⟨op, z, r, m, k, e, s⟩ = false := by rw [hop]; rfl
  have E1 : Hid (c.cr ⟨op, z, r, m, k, e, s⟩ = E) := hide (by unfold Pl.Mc.cr; rw [hp, hE]; rw [hop]; rfl)
  have HE := hide hE
  have HF := hide hF
  have hsup := needsSuper
  clear hE hF
  obtain rfl := hop
  all_goals
    go_enter Tryz.func99, Tryz.ntmps99
    go_wp2_with (first | (go_at_call 147; refine (cJumpV _ lo b g c h _ z r m k e s C1.out HG.out hf HB.out hs).mono ?_; rintro e9 W2 ⟨g', rfl, hc, hs⟩; rw [← HE.out] at hc ⊢; rw [← HF.out]; unfold ftC; have C2 := hide hc; have R2 := hide (hs.blk R1.out (by omega) (by omega)); have n2 := hs.ne (b := w.heap.size + 1) R1.out.lt (by omega); have S2 := hide (((Since.refl w b (b + 1) g).any K1.out).trans hs); have r2 := R2.out.all; have rf2 := R2.out.fz; clear hc hs) | (go_at_call 140; refine (hsup _ _ z r m k e s).mono ?_; rintro e9 W1 ⟨rfl, k1⟩; rw [hp]; have C1 := hide (C0.out.any k1); have A1 := hide (A0.out.kept0 k1); have R1 := hide (R0.out.kept0 k1); have K1 := hide (K0.out.trans k1); have p1 := A1.out.all; have r1 := R1.out.all; have rf1 := R1.out.fz; have q12 := C1.out.cS; clear k1))
    have KR := (((((kept_one W2 (w.heap.size + 1) 0 (.int .i64 F.v)).one 1 (.int .i64 F.pc)).one 2 (.int .i64 F.ad)).one 3 (.int .i64 F.wo)).one 4 (.bool F.wr))
    refine bodyPost_ret (v := .agg #[.int .i64 F.v, .int .i64 F.pc, .int .i64 F.ad, .int .i64 F.wo, .bool F.wr]) ?_ rfl ⟨g', ?_, ?_, (S2.out).mine KR (by omega)⟩
    · rw [results_one rfl]; go_simp
    · rw [E1.out, ← HF.out]; rfl
    · rw [E1.out]; exact ((C2.out).kept KR (by omega) (by omega))
set_option maxRecDepth 100000 in
set_option maxHeartbeats 8000000 in
theorem cCarryD (w : World) (lo b g : Nat) (c : Pl.Mc) (h : Bool) (op z r m k e s : Int) (hC : CAt w lo b g c h) (G : Pl.GM c) (hf : c.f = Pl.ftNo) (B : Pl.InB ⟨op, z, r, m, k, e, s⟩) (hop : op = 18) (hs : s ≤ 1) (ht : TabsAt w lo) :
    Calls Tryz.prog 99 #[.pointer (some ⟨b, 0, none⟩), .agg #[.int .i64 op, .int .i64 z, .int .i64 r, .int .i64 m, .int .i64 k, .int .i64 e, .int .i64 s]] w fun e' w' => ∃ g', e' = .returned (.agg (ftC (c.cr ⟨op, z, r, m, k, e, s⟩).f)) ∧ CAt w' lo b g' (c.cr ⟨op, z, r, m, k, e, s⟩) h ∧ Since w b (b + 1) g w' g' := by
  have HB := hide B
  clear B
  obtain ⟨l0, l1, l2, l3, l4⟩ := hC.lt
  have HG := hide G
  have K0 := hide (kept_new (kept_alloc w (.cells #[.int .i64 op, .int .i64 z, .int .i64 r, .int .i64 m, .int .i64 k, .int .i64 e, .int .i64 s] 79)) (.cells #[.int .i64 0, .int .i64 0, .int .i64 0, .int .i64 0, .bool false] 38))
  have C0 := hide ((hC.alloc (.cells #[.int .i64 op, .int .i64 z, .int .i64 r, .int .i64 m, .int .i64 k, .int .i64 e, .int .i64 s] 79)).alloc (.cells #[.int .i64 0, .int .i64 0, .int .i64 0, .int .i64 0, .bool false] 38))
  have A0 := hide ((Blk.new w #[.int .i64 op, .int .i64 z, .int .i64 r, .int .i64 m, .int .i64 k, .int .i64 e, .int .i64 s] 79).alloc (.cells #[.int .i64 0, .int .i64 0, .int .i64 0, .int .i64 0, .bool false] 38))
  have R0 := Blk.new (w.alloc (.cells #[.int .i64 op, .int .i64 z, .int .i64 r, .int .i64 m, .int .i64 k, .int .i64 e, .int .i64 s] 79)) #[.int .i64 0, .int .i64 0, .int .i64 0, .int .i64 0, .bool false] 38
  simp only [World.size_alloc] at R0
  replace R0 := hide R0
  obtain ⟨X, hX⟩ : ∃ X : World, (w.alloc (.cells #[.int .i64 op, .int .i64 z, .int .i64 r, .int .i64 m, .int .i64 k, .int .i64 e, .int .i64 s] 79)).alloc (.cells #[.int .i64 0, .int .i64 0, .int .i64 0, .int .i64 0, .bool false] 38) = X := ⟨_, rfl⟩
  rw [hX] at K0 C0 A0 R0
  have sX : w.heap.size + 1 < X.heap.size := R0.out.lt
  have p := A0.out.all
  clear hC G
  obtain ⟨E, hE⟩ : ∃ E, E = c.bd ⟨op, z, r, m, k, e, s⟩ := ⟨_, rfl⟩
  obtain ⟨F, hF⟩ : ∃ F, F = E.f := ⟨_, rfl⟩
  have hp : Pl.priv ⟨op, z, r, m, k, e, s⟩ = false := by rw [hop]; rfl
  have E1 : Hid (c.cr ⟨op, z, r, m, k, e, s⟩ = E) := hide (by unfold Pl.Mc.cr; rw [hp, hE]; rw [hop]; rfl)
  have TB := hide ht
  have HE := hide hE
  have HF := hide hF
  have hsup := needsSuper
  clear hE hF
  obtain rfl := hop
  all_goals
    go_enter Tryz.func99, Tryz.ntmps99
    go_wp2_with (first | (go_at_call 149; refine (cBcdV _ lo b g c h _ z r m k e s C1.out HG.out hf HB.out hs (TB.out.any K1.out)).mono ?_; rintro e9 W2 ⟨g', rfl, hc, hs⟩; rw [← HE.out] at hc ⊢; rw [← HF.out]; unfold ftC; have C2 := hide hc; have R2 := hide (hs.blk R1.out (by omega) (by omega)); have n2 := hs.ne (b := w.heap.size + 1) R1.out.lt (by omega); have S2 := hide (((Since.refl w b (b + 1) g).any K1.out).trans hs); have r2 := R2.out.all; have rf2 := R2.out.fz; clear hc hs) | (go_at_call 140; refine (hsup _ _ z r m k e s).mono ?_; rintro e9 W1 ⟨rfl, k1⟩; rw [hp]; have C1 := hide (C0.out.any k1); have A1 := hide (A0.out.kept0 k1); have R1 := hide (R0.out.kept0 k1); have K1 := hide (K0.out.trans k1); have p1 := A1.out.all; have r1 := R1.out.all; have rf1 := R1.out.fz; have q12 := C1.out.cS; clear k1))
    have KR := (((((kept_one W2 (w.heap.size + 1) 0 (.int .i64 F.v)).one 1 (.int .i64 F.pc)).one 2 (.int .i64 F.ad)).one 3 (.int .i64 F.wo)).one 4 (.bool F.wr))
    refine bodyPost_ret (v := .agg #[.int .i64 F.v, .int .i64 F.pc, .int .i64 F.ad, .int .i64 F.wo, .bool F.wr]) ?_ rfl ⟨g', ?_, ?_, (S2.out).mine KR (by omega)⟩
    · rw [results_one rfl]; go_simp
    · rw [E1.out, ← HF.out]; rfl
    · rw [E1.out]; exact ((C2.out).kept KR (by omega) (by omega))
set_option maxRecDepth 100000 in
set_option maxHeartbeats 8000000 in
theorem cCarryF (w : World) (lo b g : Nat) (c : Pl.Mc) (h : Bool) (op z r m k e s : Int) (hC : CAt w lo b g c h) (G : Pl.GM c) (hf : c.f = Pl.ftNo) (B : Pl.InB ⟨op, z, r, m, k, e, s⟩) (hop : op = 15) (hs : s ≤ 6) (he : s = 3 → e ≤ 1023) :
    Calls Tryz.prog 99 #[.pointer (some ⟨b, 0, none⟩), .agg #[.int .i64 op, .int .i64 z, .int .i64 r, .int .i64 m, .int .i64 k, .int .i64 e, .int .i64 s]] w fun e' w' => ∃ g', e' = .returned (.agg (ftC (c.cr ⟨op, z, r, m, k, e, s⟩).f)) ∧ CAt w' lo b g' (c.cr ⟨op, z, r, m, k, e, s⟩) h ∧ Since w b (b + 1) g w' g' := by
  have HB := hide B
  clear B
  obtain ⟨l0, l1, l2, l3, l4⟩ := hC.lt
  have HG := hide G
  have K0 := hide (kept_new (kept_alloc w (.cells #[.int .i64 op, .int .i64 z, .int .i64 r, .int .i64 m, .int .i64 k, .int .i64 e, .int .i64 s] 79)) (.cells #[.int .i64 0, .int .i64 0, .int .i64 0, .int .i64 0, .bool false] 38))
  have C0 := hide ((hC.alloc (.cells #[.int .i64 op, .int .i64 z, .int .i64 r, .int .i64 m, .int .i64 k, .int .i64 e, .int .i64 s] 79)).alloc (.cells #[.int .i64 0, .int .i64 0, .int .i64 0, .int .i64 0, .bool false] 38))
  have A0 := hide ((Blk.new w #[.int .i64 op, .int .i64 z, .int .i64 r, .int .i64 m, .int .i64 k, .int .i64 e, .int .i64 s] 79).alloc (.cells #[.int .i64 0, .int .i64 0, .int .i64 0, .int .i64 0, .bool false] 38))
  have R0 := Blk.new (w.alloc (.cells #[.int .i64 op, .int .i64 z, .int .i64 r, .int .i64 m, .int .i64 k, .int .i64 e, .int .i64 s] 79)) #[.int .i64 0, .int .i64 0, .int .i64 0, .int .i64 0, .bool false] 38
  simp only [World.size_alloc] at R0
  replace R0 := hide R0
  obtain ⟨X, hX⟩ : ∃ X : World, (w.alloc (.cells #[.int .i64 op, .int .i64 z, .int .i64 r, .int .i64 m, .int .i64 k, .int .i64 e, .int .i64 s] 79)).alloc (.cells #[.int .i64 0, .int .i64 0, .int .i64 0, .int .i64 0, .bool false] 38) = X := ⟨_, rfl⟩
  rw [hX] at K0 C0 A0 R0
  have sX : w.heap.size + 1 < X.heap.size := R0.out.lt
  have p := A0.out.all
  clear hC G
  obtain rfl := hop
  obtain ⟨E, hE⟩ : ∃ E, E = c.fw ⟨15, z, r, m, k, e, s⟩ := ⟨_, rfl⟩
  obtain ⟨F, hF⟩ : ∃ F, F = E.f := ⟨_, rfl⟩
  have ET : Hid (c.cr' ⟨15, z, r, m, k, e, s⟩ = E) := hide (by rw [hE]; rfl)
  have HE := hide hE
  have HF := hide hF
  clear hE hF
  rcases Bool.eq_false_or_eq_true c.r.s with hss | hss <;> cases hp : Pl.priv ⟨15, z, r, m, k, e, s⟩
  case inr.true =>
    have E1 : Hid (c.cr ⟨15, z, r, m, k, e, s⟩ = { c with f := ⟨8, 0, 0, 0, false⟩ }) := hide (by unfold Pl.Mc.cr; rw [hp, hss]; rfl)
    have HSS := hide hss
    clear hss
    go_enter Tryz.func99, Tryz.ntmps99
    go_wp2_with (first | (go_at_call 140; refine (needsSuper _ _ z _ m k e s).mono ?_; rintro e9 W1 ⟨rfl, k1⟩; rw [hp]; have C1 := hide (C0.out.any k1); have A1 := hide (A0.out.kept0 k1); have R1 := hide (R0.out.kept0 k1); have K1 := hide (K0.out.trans k1); have p1 := A1.out.all; have r1 := R1.out.all; have rf1 := R1.out.fz; have q12 := C1.out.cS; rw [HSS.out] at q12; clear k1))
    have KR := (((((kept_one W1 (w.heap.size + 1) 0 (.int .i64 8)).one 1 (.int .i64 0)).one 2 (.int .i64 0)).one 3 (.int .i64 0)).one 4 (.bool false))
    refine bodyPost_ret (v := .agg #[.int .i64 8, .int .i64 0, .int .i64 0, .int .i64 0, .bool false]) ?_ rfl ⟨g, ?_, ?_, ((Since.refl w b (b + 1) g).any K1.out).mine KR (by omega)⟩
    · rw [results_one rfl]; go_simp
    · rw [E1.out]; rfl
    · rw [E1.out]; exact ((C1.out).kept KR (by omega) (by omega)).fx rfl rfl rfl rfl rfl
  all_goals
    have E1 : Hid (c.cr ⟨15, z, r, m, k, e, s⟩ = E) := hide (by unfold Pl.Mc.cr; rw [hp, hss]; exact ET.out)
    have HSS := hide hss
    clear hss
    go_enter Tryz.func99, Tryz.ntmps99
    go_wp2_with (first | (go_at_call 148; refine (cFlowV _ lo b g c h _ z r m k e s C1.out HG.out hf HB.out hs he).mono ?_; rintro e9 W2 ⟨g', rfl, hc, hs⟩; rw [← HE.out] at hc ⊢; rw [← HF.out]; unfold ftC; have C2 := hide hc; have R2 := hide (hs.blk R1.out (by omega) (by omega)); have n2 := hs.ne (b := w.heap.size + 1) R1.out.lt (by omega); have S2 := hide (((Since.refl w b (b + 1) g).any K1.out).trans hs); have r2 := R2.out.all; have rf2 := R2.out.fz; clear hc hs) | (go_at_call 140; refine (needsSuper _ _ z _ m k e s).mono ?_; rintro e9 W1 ⟨rfl, k1⟩; rw [hp]; have C1 := hide (C0.out.any k1); have A1 := hide (A0.out.kept0 k1); have R1 := hide (R0.out.kept0 k1); have K1 := hide (K0.out.trans k1); have p1 := A1.out.all; have r1 := R1.out.all; have rf1 := R1.out.fz; have q12 := C1.out.cS; rw [HSS.out] at q12; clear k1))
    have KR := (((((kept_one W2 (w.heap.size + 1) 0 (.int .i64 F.v)).one 1 (.int .i64 F.pc)).one 2 (.int .i64 F.ad)).one 3 (.int .i64 F.wo)).one 4 (.bool F.wr))
    refine bodyPost_ret (v := .agg #[.int .i64 F.v, .int .i64 F.pc, .int .i64 F.ad, .int .i64 F.wo, .bool F.wr]) ?_ rfl ⟨g', ?_, ?_, (S2.out).mine KR (by omega)⟩
    · rw [results_one rfl]; go_simp
    · rw [E1.out, ← HF.out]; rfl
    · rw [E1.out]; exact ((C2.out).kept KR (by omega) (by omega))
set_option maxRecDepth 100000 in
set_option maxHeartbeats 8000000 in
theorem cCarryM (w : World) (lo b g : Nat) (c : Pl.Mc) (h : Bool) (op z r m k e s : Int) (hC : CAt w lo b g c h) (G : Pl.GM c) (hf : c.f = Pl.ftNo) (B : Pl.InB ⟨op, z, r, m, k, e, s⟩) (hop : op = 19) (hs : s ≤ 1) (he : s = 0 → e ≤ 1023) :
    Calls Tryz.prog 99 #[.pointer (some ⟨b, 0, none⟩), .agg #[.int .i64 op, .int .i64 z, .int .i64 r, .int .i64 m, .int .i64 k, .int .i64 e, .int .i64 s]] w fun e' w' => ∃ g', e' = .returned (.agg (ftC (c.cr ⟨op, z, r, m, k, e, s⟩).f)) ∧ CAt w' lo b g' (c.cr ⟨op, z, r, m, k, e, s⟩) h ∧ Since w b (b + 1) g w' g' := by
  have HB := hide B
  clear B
  obtain ⟨l0, l1, l2, l3, l4⟩ := hC.lt
  have HG := hide G
  have K0 := hide (kept_new (kept_alloc w (.cells #[.int .i64 op, .int .i64 z, .int .i64 r, .int .i64 m, .int .i64 k, .int .i64 e, .int .i64 s] 79)) (.cells #[.int .i64 0, .int .i64 0, .int .i64 0, .int .i64 0, .bool false] 38))
  have C0 := hide ((hC.alloc (.cells #[.int .i64 op, .int .i64 z, .int .i64 r, .int .i64 m, .int .i64 k, .int .i64 e, .int .i64 s] 79)).alloc (.cells #[.int .i64 0, .int .i64 0, .int .i64 0, .int .i64 0, .bool false] 38))
  have A0 := hide ((Blk.new w #[.int .i64 op, .int .i64 z, .int .i64 r, .int .i64 m, .int .i64 k, .int .i64 e, .int .i64 s] 79).alloc (.cells #[.int .i64 0, .int .i64 0, .int .i64 0, .int .i64 0, .bool false] 38))
  have R0 := Blk.new (w.alloc (.cells #[.int .i64 op, .int .i64 z, .int .i64 r, .int .i64 m, .int .i64 k, .int .i64 e, .int .i64 s] 79)) #[.int .i64 0, .int .i64 0, .int .i64 0, .int .i64 0, .bool false] 38
  simp only [World.size_alloc] at R0
  replace R0 := hide R0
  obtain ⟨X, hX⟩ : ∃ X : World, (w.alloc (.cells #[.int .i64 op, .int .i64 z, .int .i64 r, .int .i64 m, .int .i64 k, .int .i64 e, .int .i64 s] 79)).alloc (.cells #[.int .i64 0, .int .i64 0, .int .i64 0, .int .i64 0, .bool false] 38) = X := ⟨_, rfl⟩
  rw [hX] at K0 C0 A0 R0
  have sX : w.heap.size + 1 < X.heap.size := R0.out.lt
  have p := A0.out.all
  clear hC G
  obtain rfl := hop
  obtain ⟨E, hE⟩ : ∃ E, E = c.mvs ⟨19, z, r, m, k, e, s⟩ := ⟨_, rfl⟩
  obtain ⟨F, hF⟩ : ∃ F, F = E.f := ⟨_, rfl⟩
  have ET : Hid (c.cr' ⟨19, z, r, m, k, e, s⟩ = E) := hide (by rw [hE]; rfl)
  have EF : Hid (E.f = Pl.ftNo) := hide (by rw [hE]; unfold Pl.Mc.mvs; cases s == 0 <;> exact hf)
  have HE := hide hE
  have HF := hide hF
  clear hE hF
  rcases Bool.eq_false_or_eq_true c.r.s with hss | hss <;> cases hp : Pl.priv ⟨19, z, r, m, k, e, s⟩
  case inr.true =>
    have E1 : Hid (c.cr ⟨19, z, r, m, k, e, s⟩ = { c with f := ⟨8, 0, 0, 0, false⟩ }) := hide (by unfold Pl.Mc.cr; rw [hp, hss]; rfl)
    have HSS := hide hss
    clear hss
    go_enter Tryz.func99, Tryz.ntmps99
    go_wp2_with (first | (go_at_call 140; refine (needsSuper _ _ z _ m k e s).mono ?_; rintro e9 W1 ⟨rfl, k1⟩; rw [hp]; have C1 := hide (C0.out.any k1); have A1 := hide (A0.out.kept0 k1); have R1 := hide (R0.out.kept0 k1); have K1 := hide (K0.out.trans k1); have p1 := A1.out.all; have r1 := R1.out.all; have rf1 := R1.out.fz; have q12 := C1.out.cS; rw [HSS.out] at q12; clear k1))
    have KR := (((((kept_one W1 (w.heap.size + 1) 0 (.int .i64 8)).one 1 (.int .i64 0)).one 2 (.int .i64 0)).one 3 (.int .i64 0)).one 4 (.bool false))
    refine bodyPost_ret (v := .agg #[.int .i64 8, .int .i64 0, .int .i64 0, .int .i64 0, .bool false]) ?_ rfl ⟨g, ?_, ?_, ((Since.refl w b (b + 1) g).any K1.out).mine KR (by omega)⟩
    · rw [results_one rfl]; go_simp
    · rw [E1.out]; rfl
    · rw [E1.out]; exact ((C1.out).kept KR (by omega) (by omega)).fx rfl rfl rfl rfl rfl
  all_goals
    have E1 : Hid (c.cr ⟨19, z, r, m, k, e, s⟩ = E) := hide (by unfold Pl.Mc.cr; rw [hp, hss]; exact ET.out)
    have HSS := hide hss
    clear hss
    go_enter Tryz.func99, Tryz.ntmps99
    go_wp2_with (first | (go_at_call 150; refine (cMoveV _ lo b g c h _ z r m k e s C1.out HG.out hf HB.out hs he).mono ?_; rintro e9 W2 ⟨rfl, hc, hk⟩; rw [← HE.out] at hc; have C2 := hide hc; have R2 := hide (R1.out.kept hk (by omega)); have S2 := hide (((Since.refl w b (b + 1) g).any K1.out).keptS hk (Nat.le_refl _) (Nat.le_refl _)); have r2 := R2.out.all; have rf2 := R2.out.fz; clear hc hk) | (go_at_call 140; refine (needsSuper _ _ z _ m k e s).mono ?_; rintro e9 W1 ⟨rfl, k1⟩; rw [hp]; have C1 := hide (C0.out.any k1); have A1 := hide (A0.out.kept0 k1); have R1 := hide (R0.out.kept0 k1); have K1 := hide (K0.out.trans k1); have p1 := A1.out.all; have r1 := R1.out.all; have rf1 := R1.out.fz; have q12 := C1.out.cS; rw [HSS.out] at q12; clear k1))
    have KR := (((((kept_one W2 (w.heap.size + 1) 0 (.int .i64 0)).one 1 (.int .i64 0)).one 2 (.int .i64 0)).one 3 (.int .i64 0)).one 4 (.bool false))
    refine bodyPost_ret (v := .agg #[.int .i64 0, .int .i64 0, .int .i64 0, .int .i64 0, .bool false]) ?_ rfl ⟨g, ?_, ?_, (S2.out).mine KR (by omega)⟩
    · rw [results_one rfl]; go_simp
    · rw [E1.out, EF.out]; rfl
    · rw [E1.out]; exact ((C2.out).kept KR (by omega) (by omega))
set_option maxRecDepth 100000 in
set_option maxHeartbeats 8000000 in
theorem cCarryL (w : World) (lo b g : Nat) (c : Pl.Mc) (h : Bool) (op z r m k e s : Int) (hC : CAt w lo b g c h) (G : Pl.GM c) (hf : c.f = Pl.ftNo) (B : Pl.InB ⟨op, z, r, m, k, e, s⟩) (hop : op = 10) :
    Calls Tryz.prog 99 #[.pointer (some ⟨b, 0, none⟩), .agg #[.int .i64 op, .int .i64 z, .int .i64 r, .int .i64 m, .int .i64 k, .int .i64 e, .int .i64 s]] w fun e' w' => ∃ g', e' = .returned (.agg (ftC (c.cr ⟨op, z, r, m, k, e, s⟩).f)) ∧ CAt w' lo b g' (c.cr ⟨op, z, r, m, k, e, s⟩) h ∧ Since w b (b + 1) g w' g' := by
  have HB := hide B
  clear B
  obtain ⟨l0, l1, l2, l3, l4⟩ := hC.lt
  have HG := hide G
  have K0 := hide (kept_new (kept_alloc w (.cells #[.int .i64 op, .int .i64 z, .int .i64 r, .int .i64 m, .int .i64 k, .int .i64 e, .int .i64 s] 79)) (.cells #[.int .i64 0, .int .i64 0, .int .i64 0, .int .i64 0, .bool false] 38))
  have C0 := hide ((hC.alloc (.cells #[.int .i64 op, .int .i64 z, .int .i64 r, .int .i64 m, .int .i64 k, .int .i64 e, .int .i64 s] 79)).alloc (.cells #[.int .i64 0, .int .i64 0, .int .i64 0, .int .i64 0, .bool false] 38))
  have A0 := hide ((Blk.new w #[.int .i64 op, .int .i64 z, .int .i64 r, .int .i64 m, .int .i64 k, .int .i64 e, .int .i64 s] 79).alloc (.cells #[.int .i64 0, .int .i64 0, .int .i64 0, .int .i64 0, .bool false] 38))
  have R0 := Blk.new (w.alloc (.cells #[.int .i64 op, .int .i64 z, .int .i64 r, .int .i64 m, .int .i64 k, .int .i64 e, .int .i64 s] 79)) #[.int .i64 0, .int .i64 0, .int .i64 0, .int .i64 0, .bool false] 38
  simp only [World.size_alloc] at R0
  replace R0 := hide R0
  obtain ⟨X, hX⟩ : ∃ X : World, (w.alloc (.cells #[.int .i64 op, .int .i64 z, .int .i64 r, .int .i64 m, .int .i64 k, .int .i64 e, .int .i64 s] 79)).alloc (.cells #[.int .i64 0, .int .i64 0, .int .i64 0, .int .i64 0, .bool false] 38) = X := ⟨_, rfl⟩
  rw [hX] at K0 C0 A0 R0
  have sX : w.heap.size + 1 < X.heap.size := R0.out.lt
  have p := A0.out.all
  clear hC G
  obtain rfl := hop
  have hp : Pl.priv ⟨10, z, r, m, k, e, s⟩ = false := rfl
  obtain ⟨n, rfl⟩ : ∃ n : Nat, r = (n : Int) := ⟨r.toNat, by have : 0 ≤ r := HB.out.r0; omega⟩
  have hn : n < 4 := by have : (n : Int) ≤ 3 := HB.out.r1; omega
  have i0 : (0 : Int) ≤ (n : Int) := by omega
  have i1 : (n : Int) < 4 := by omega
  obtain ⟨D, hD⟩ : ∃ D, D = c.slot z m k e := ⟨_, rfl⟩
  obtain ⟨a, ha⟩ : ∃ a, a = c.readA z m k e := ⟨_, rfl⟩
  have GD : Hid (Pl.GM D) := hide (by rw [hD]; exact HG.out.slot HB.out.k0 HB.out.k1)
  have DF : Hid (D.f = Pl.ftNo) := hide (by rw [hD]; unfold Pl.Mc.slot; cases Pl.Mc.inReg m <;> exact hf)
  have E1 : Hid (c.cr ⟨10, z, (n : Int), m, k, e, s⟩ = D.setA n a) := hide (by unfold Pl.Mc.cr; rw [hp, hD, ha]; rfl)
  have HA := hide ha
  obtain ⟨T, U, hW⟩ := wayV_if m k e
  have HW := hide hW
  have HD := hide hD
  have sa := slotAddr T U z a
  clear ha hW hD
  go_enter Tryz.func99, Tryz.ntmps99
  go_wp2_with (first | (go_at_call 140; refine (needsSuper _ _ z _ m k e s).mono ?_; rintro e9 W1 ⟨rfl, k1⟩; rw [hp]; have C1 := hide (C0.out.any k1); have A1 := hide (A0.out.kept0 k1); have R1 := hide (R0.out.kept0 k1); have K1 := hide (K0.out.trans k1); have p1 := A1.out.all; have r1 := R1.out.all; have rf1 := R1.out.fz; have q12 := C1.out.cS; clear k1))
  obtain ⟨u0, u1, u2, u3, u4, u5, u6⟩ := A1.out.c7
  go_region_held3 (fun w' => w'.cell? ⟨w.heap.size, 0, none⟩ = some (.int .i64 10) ∧ w'.cell? ⟨w.heap.size, 1, none⟩ = some (.int .i64 z) ∧ w'.cell? ⟨w.heap.size, 2, none⟩ = some (.int .i64 (n : Int)) ∧ w'.cell? ⟨w.heap.size, 3, none⟩ = some (.int .i64 m) ∧ w'.cell? ⟨w.heap.size, 4, none⟩ = some (.int .i64 k) ∧ w'.cell? ⟨w.heap.size, 5, none⟩ = some (.int .i64 e) ∧ w'.cell? ⟨w.heap.size, 6, none⟩ = some (.int .i64 s)) (first | with_reducible exact A2.out.c7 | with_reducible exact (A2.out.other b (4 + n) (.int .i64 a) (by omega)).c7 | exact (show Blk _ _ _ _ from A1.out).c7)
    (first | (go_at_call 144; refine (cSlot _ lo b g c h ⟨10, z, (n : Int), m, k, e, s⟩ C1.out.drew HG.out HB.out).mono ?_; rintro e9 W2 ⟨rfl, hc, hkd⟩; have hk := undrewK hkd; rw [← HA.out, HW.out]; rw [← HD.out] at hc; have C2 := hide hc; have A2 := hide (A1.out.kept hk (by omega)); have R2 := hide (R1.out.kept hk (by omega)); have S2 := hide (((Since.refl w b (b + 1) g).any K1.out).keptS hk (Nat.le_refl _) (Nat.le_refl _)); have cy := hc.cY hn; have cz := hc.fz; clear hc hk hkd))
  have rr := (R2.out.other b (4 + n) (.int .i64 a) (by omega)).all
  have rz := (R2.out.other b (4 + n) (.int .i64 a) (by omega)).fz
  go_wp2_with fail
  have KR := (((((kept_one (W2.setCell ⟨b, 4 + n, none⟩ (.int .i64 a)) (w.heap.size + 1) 0 (.int .i64 0)).one 1 (.int .i64 0)).one 2 (.int .i64 0)).one 3 (.int .i64 0)).one 4 (.bool false))
  refine bodyPost_ret (v := .agg #[.int .i64 0, .int .i64 0, .int .i64 0, .int .i64 0, .bool false]) ?_ rfl ⟨g, ?_, ?_, (S2.out.set b (4 + n) (.int .i64 a) (.inl (by omega))).mine KR (by omega)⟩
  · rw [results_one rfl]; go_simp
  · rw [E1.out, show (D.setA n a).f = Pl.ftNo from DF.out]; rfl
  · rw [E1.out]; exact ((C2.out.setY GD.out.g.a4 hn a).kept KR (by omega) (by omega))
end Go.Proofs.YtblddehlkaolbaaGreatDoor

namespace Go.Proofs.YtblddehlkaolbaaGreatDoor.Pl
open Go.RowKit
set_option linter.unusedVariables false
/-- the fault told of another instruction -/
def Mc.wf (c : Mc) (p q : Int) : Mc := { c with f := { c.f with pc := p, wo := q } }
def isOver (v : Int) : Bool := (v == 5) || decide (18 ≤ v)
/-- what the model's step and the program's have in common: all but, where there is a fault, the registers -/
structure Same (a b q : Int) (m d : Mc) : Prop where
  bx : m.bx = d.bx
  bl : m.bl = d.bl
  bm : m.bm = d.bm
  st : m.st = d.st
  ok : d.f.v = 0 → m.f.v = 0 ∧ m.r = d.r ∧ d.f = ftNo
  no : d.f.v ≠ 0 → m.f = ⟨d.f.v, bif isOver d.f.v then b else a, d.f.ad, q, d.f.wr⟩
theorem accF_wf (f : Ft) (p q k s a : Int) : Mc.accF { f with pc := p, wo := q } k s a = { Mc.accF f k s a with pc := p, wo := q } := by
  unfold Mc.accF
  cases h : (code k s a != 0) && (f.v == 0) <;> rfl
section
variable (c : Mc) (p q : Int)
theorem acc_wf (k s a v : Int) : (c.wf p q).acc k s a v = (c.acc k s a v).wf p q := by
  show Mc.mk _ _ _ _ _ (Mc.accF { c.f with pc := p, wo := q } k s a) = _
  rw [accF_wf]; rfl
theorem read_wf (z m k e : Int) : (c.wf p q).read z m k e = (c.read z m k e).wf p q := by
  unfold Mc.read
  cases Mc.inReg m
  · exact acc_wf (c.plc z m k e) p q 1 z (placeV c.r z m k e) 0
  · rfl
theorem write_wf (z m k a v : Int) : (c.wf p q).write z m k a v = (c.write z m k a v).wf p q := by
  unfold Mc.write
  cases m == 0
  · exact acc_wf c p q 2 z a v
  · rfl
theorem place_wf (z m k e : Int) : (c.wf p q).place z m k e = (c.place z m k e).wf p q := by
  unfold Mc.place
  cases m == 0 <;> rfl
theorem push_wf (v : Int) : (c.wf p q).push v = (c.push v).wf p q := by
  unfold Mc.push
  rw [show (c.wf p q).spA = c.spA from rfl, acc_wf]
  show (bif (c.acc 2 2 c.spA v).fine then _ else _) = _
  cases (c.acc 2 2 c.spA v).fine <;> rfl
theorem pop_wf : (c.wf p q).pop = c.pop.wf p q := by
  unfold Mc.pop
  rw [show (c.wf p q).r = c.r from rfl, acc_wf]
  show (bif (c.acc 1 2 (el c.r.ys 3) 0).fine then _ else _) = _
  cases (c.acc 1 2 (el c.r.ys 3) 0).fine <;> rfl
end
/-- a fault of the bus, or none -/
def Mc.bus (c : Mc) : Prop := c.f = ftNo ∨ c.f.v = 2 ∨ c.f.v = 3
theorem accF_bus {f : Ft} (h : f = ftNo ∨ f.v = 2 ∨ f.v = 3) (k s a : Int) : Mc.accF f k s a = ftNo ∨ (Mc.accF f k s a).v = 2 ∨ (Mc.accF f k s a).v = 3 := by
  unfold Mc.accF
  cases (code k s a != 0) && (f.v == 0)
  · exact h
  · cases code k s a == 2
    · exact .inr (.inl rfl)
    · exact .inr (.inr rfl)
theorem Mc.bus.read {c : Mc} (h : c.bus) (z m k e : Int) : (c.read z m k e).bus := by
  unfold Mc.read
  cases Mc.inReg m
  · exact accF_bus h _ _ _
  · exact h
theorem Mc.bus.write {c : Mc} (h : c.bus) (z m k a v : Int) : (c.write z m k a v).bus := by
  unfold Mc.write
  cases m == 0
  · exact accF_bus h _ _ _
  · exact h
theorem Mc.bus.push {c : Mc} (h : c.bus) (v : Int) : (c.push v).bus := by
  unfold Mc.push
  cases (c.acc 2 2 c.spA v).fine
  · exact accF_bus h _ _ _
  · exact accF_bus h _ _ _
theorem Mc.bus.pop {c : Mc} (h : c.bus) : c.pop.bus := by
  unfold Mc.pop
  cases (c.acc 1 2 (el c.r.ys 3) 0).fine
  · exact accF_bus h _ _ _
  · exact accF_bus h _ _ _
/-- where the two agree -/
theorem Same.wf {a b q : Int} {d : Mc} (h : d.bus) : Same a b q (d.wf a q) d :=
  ⟨rfl, rfl, rfl, rfl, fun e => ⟨e, rfl, by rcases h with h | h | h <;> first | exact h | (rw [h] at e; cases e)⟩, fun e => by
    have : isOver d.f.v = false := by rcases h with h | h | h <;> rw [h] <;> rfl
    rw [this]; rfl⟩
/-- and where there is a fault, and they differ in the registers -/
theorem Same.wr {a b q : Int} {d e : Mc} (h : d.bus) (hv : d.fine = false) (bx : e.bx = d.bx) (bl : e.bl = d.bl) (bm : e.bm = d.bm) (st : e.st = d.st) (f : e.f = d.f) : Same a b q (d.wf a q) e := by
  have hv0 : d.f.v ≠ 0 := by intro k; unfold Mc.fine at hv; rw [k] at hv; cases hv
  refine ⟨bx.symm, bl.symm, bm.symm, st.symm, fun k => ?_, fun k => ?_⟩
  · rw [f] at k; exact absurd k hv0
  · have : isOver d.f.v = false := by rcases h with h | h | h <;> rw [h] <;> rfl
    rw [f, this]; rfl
section
variable {c : Mc}
theorem slot_place (z m k e : Int) (hm : m = 0 ∨ (2 ≤ m ∧ m ≤ 6)) : c.slot z m k e = c.place z m k e ∧ c.readA z m k e = c.plcA z m k e := by
  have : m = 0 ∨ m = 2 ∨ m = 3 ∨ m = 4 ∨ m = 5 ∨ m = 6 := by omega
  rcases this with rfl | rfl | rfl | rfl | rfl | rfl <;> exact ⟨rfl, rfl⟩
theorem write_setF (z m k a v f : Int) : (c.setF f).write z m k a v = (c.write z m k a v).setF f := by
  unfold Mc.write
  cases m == 0 <;> rfl
theorem place_setF (z m k e f : Int) : (c.setF f).place z m k e = (c.place z m k e).setF f := by
  unfold Mc.place
  cases m == 0
  · show ({ c.setF f with r := placeR (c.setF f).r z m k e } : Mc) = _
    unfold placeR
    by_cases h3 : m = 3
    · simp only [h3, if_true]; rfl
    · by_cases h4 : m = 4
      · simp only [h4, if_true]; rfl
      · simp only [h3, h4, if_false]
        show _ = (c.setR (placeR c.r z m k e)).setF f
        unfold placeR
        simp only [h3, h4, if_false]; rfl
  · rfl
theorem set_same {xs : List Int} {k : Nat} {v : Int} (hk : k < xs.length) (h : v = el xs k) : xs.set k v = xs := by
  apply List.ext_getElem?
  intro j
  by_cases e : k = j
  · subst e
    rw [List.getElem?_set_self hk, h]
    simp [el, hk]
  · rw [List.getElem?_set_ne e]
theorem put_low (G : GM c) {z r : Int} (hz : z = 1 ∨ z = 2) (r0 : 0 ≤ r) (r1 : r ≤ 3) : c.put z r (c.low z r) = c := by
  have hl : r.toNat < c.r.xs.length := by rw [G.g.d4]; omega
  have hb := G.g.dw r.toNat (by omega)
  have e : (if z = 1 then el c.r.xs r.toNat / 256 * 256 + c.low z r else c.low z r) = el c.r.xs r.toNat := by
    unfold Mc.low
    rcases hz with rfl | rfl
    · simp [top]; omega
    · simp [top]; omega
  show ({ c with r := { c.r with xs := c.r.xs.set r.toNat (if z = 1 then el c.r.xs r.toNat / 256 * 256 + c.low z r else c.low z r) } } : Mc) = c
  rw [set_same hl e]
end
theorem or_0 {a : Int} (h0 : 0 ≤ a) (h1 : a ≤ 31) : bits .or .i64 a 0 = a := by
  obtain ⟨n, rfl⟩ : ∃ n : Nat, a = (n : Int) := ⟨a.toNat, by omega⟩
  have := (bits_nat n 0 (by omega) (by omega)).2.1
  rw [show ((0 : Nat) : Int) = 0 from rfl] at this
  rw [this, Nat.or_zero]
end Go.Proofs.YtblddehlkaolbaaGreatDoor.Pl

