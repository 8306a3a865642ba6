/- One step, as the program goes about it and as the model does, operation by operation; plain arithmetic. One step, as the program goes about it and as the model does: the whole of it; plain arithmetic. One step, as the program goes about it, is the model's; plain arithmetic. What the program's carryOut does of every good instruction; a processor's registers stored whole. What the program's do does, of a processor that is worked on. What the program's step does, of a processor that is worked on. What the program's functions of an access answer: its code; a value laid into the bytes. -/
import Derived.Test.YtblddehlkaolbaaGreatDoorJA35
import Derived.Test.YtblddehlkaolbaaGreatDoorJA21
import Derived.Test.YtblddehlkaolbaaGreatDoorJA24
import Derived.Test.YtblddehlkaolbaaGreatDoorJA26
namespace Go.Proofs.YtblddehlkaolbaaGreatDoor.Pl
open Go.RowKit
set_option linter.unusedVariables false
variable {c : Mc} {a b q : Int}
theorem bus_of (hf : c.f = ftNo) : c.bus := .inl hf
/-- op 2 -/
theorem same_gv (hf : c.f = ftNo) (x : In) (hm : x.m = 0 ∨ (2 ≤ x.m ∧ x.m ≤ 6)) : Same a b q ((c.wf a q).from' x) (c.gv x) := by
  obtain ⟨e1, e2⟩ := slot_place (c := c.setF (logF x.z c.r.f (c.low x.z x.r))) x.z x.m x.k x.e hm
  have e3 := (slot_place (c := c) x.z x.m x.k x.e hm).2
  have e : (c.wf a q).from' x = (c.gv x).wf a q := by
    unfold Mc.from' Mc.gv
    rw [e1, e3, place_setF, write_setF, place_wf]
    show (((c.place x.z x.m x.k x.e).wf a q).write x.z x.m x.k (c.plcA x.z x.m x.k x.e) (c.low x.z x.r)).setF (logF x.z c.r.f (c.low x.z x.r)) = _
    rw [write_wf]; rfl
  rw [e]
  refine Same.wf ?_
  unfold Mc.gv
  refine Mc.bus.write ?_ _ _ _ _ _
  unfold Mc.slot
  cases Mc.inReg x.m <;> exact bus_of hf
/-- op 9 -/
theorem same_t9 (hf : c.f = ftNo) (x : In) (ho : x.op = 9) (hz : x.z = 2) : Same a b q (bif ((c.wf a q).read 2 x.m x.k x.e).fine then ((c.wf a q).read 2 x.m x.k x.e).setA x.r.toNat ((c.wf a q).readV 2 x.m x.k x.e) else (c.wf a q).read 2 x.m x.k x.e) (c.tk x) := by
  have hb := (bus_of hf).read 2 x.m x.k x.e
  unfold Mc.tk Mc.tk'
  rw [ho, hz, read_wf]
  show Same a b q (bif (c.read 2 x.m x.k x.e).fine then ((c.read 2 x.m x.k x.e).wf a q).setA x.r.toNat (c.readV 2 x.m x.k x.e) else (c.read 2 x.m x.k x.e).wf a q) _
  cases (c.read 2 x.m x.k x.e).fine
  · exact Same.wf hb
  · exact Same.wf (d := (c.read 2 x.m x.k x.e).setA x.r.toNat (c.readV 2 x.m x.k x.e)) hb
/-- op 10 -/
theorem same_lea (hf : c.f = ftNo) (x : In) (hz : x.z = 2) (hm : x.m = 0 ∨ (2 ≤ x.m ∧ x.m ≤ 6)) : Same a b q (((c.wf a q).place 2 x.m x.k x.e).setA x.r.toNat ((c.wf a q).plcA 2 x.m x.k x.e)) (c.lea x) := by
  obtain ⟨e1, e2⟩ := slot_place (c := c) 2 x.m x.k x.e hm
  unfold Mc.lea
  rw [hz, e1, e2, place_wf]
  refine Same.wf (d := (c.place 2 x.m x.k x.e).setA x.r.toNat (c.plcA 2 x.m x.k x.e)) ?_
  show (c.place 2 x.m x.k x.e).bus
  unfold Mc.place
  cases x.m == 0 <;> exact bus_of hf
/-- ops 1, 3 to 8 -/
theorem two_tk (G : GM c) (x : In) (B : InB x) (ho : x.op = 1 ∨ x.op = 3 ∨ x.op = 4 ∨ x.op = 5 ∨ x.op = 6 ∨ x.op = 7 ∨ x.op = 8) (v : Int) (hv : okv x.z v = true) :
    c.two' x (c.low x.z x.r) v = c.tk' x.op x.z x.r v := by
  have hq := low_in G B.z B.r0 B.r1
  obtain ⟨b1, b2, b3⟩ := okv_bits hq hv
  have dat : ∀ u, okv x.z u = true → c.data x.z x.r u = (c.put x.z x.r u).setF (bits .or .i64 (logF x.z c.r.f u) (fl (0 != (0 : Int)) 2)) := by
    intro u hu
    have h := logF_in x.z c.r.f u hu (flags_of G)
    rw [show fl (0 != (0 : Int)) 2 = 0 from rfl, or_0 h.1 h.2]
    rfl
  unfold Mc.two' Mc.tk' cbV cbF cbM cbU
  rcases ho with h | h | h | h | h | h | h <;> rw [h]
  · exact dat v hv
  · rfl
  · rfl
  · exact dat _ b1
  · exact dat _ b2
  · exact dat _ b3
  · show c.setF (cmpF x.z c.r.f (c.low x.z x.r) v) = (c.put x.z x.r (c.low x.z x.r)).setF (cmpF x.z c.r.f (c.low x.z x.r) v)
    rw [put_low G B.z B.r0 B.r1]
theorem two_wf (x : In) (p v : Int) : (c.wf a q).two' x p v = (c.two' x p v).wf a q := by
  unfold Mc.two'
  cases x.op == 8 <;> cases x.op == 3 <;> cases x.op == 4 <;> cases x.op == 5 <;> cases x.op == 6 <;> cases x.op == 7 <;> rfl
theorem two_bus (h : c.bus) (x : In) (p v : Int) : (c.two' x p v).bus := by
  unfold Mc.two'
  cases x.op == 8 <;> cases x.op == 3 <;> cases x.op == 4 <;> cases x.op == 5 <;> cases x.op == 6 <;> cases x.op == 7 <;> exact h
theorem same_two (G : GM c) (hf : c.f = ftNo) (x : In) (B : InB x) (h1 : x.m = 1 → x.z = 2) (ho : x.op = 1 ∨ x.op = 3 ∨ x.op = 4 ∨ x.op = 5 ∨ x.op = 6 ∨ x.op = 7 ∨ x.op = 8) : Same a b q ((c.wf a q).two x) (c.tk x) := by
  have hb := (bus_of hf).read x.z x.m x.k x.e
  have hv := readV_in G B.z B.k0 B.k1 B.e0 B.e1 h1 B.n7
  have GR := G.read (m := x.m) B.z B.k0 B.k1 B.e0 B.e1
  unfold Mc.two Mc.tk
  rw [read_wf]
  show Same a b q (bif (c.read x.z x.m x.k x.e).fine then ((c.read x.z x.m x.k x.e).wf a q).two' x ((c.read x.z x.m x.k x.e).low x.z x.r) (c.readV x.z x.m x.k x.e) else (c.read x.z x.m x.k x.e).wf a q) _
  cases (c.read x.z x.m x.k x.e).fine
  · exact Same.wf hb
  · show Same a b q (((c.read x.z x.m x.k x.e).wf a q).two' x ((c.read x.z x.m x.k x.e).low x.z x.r) (c.readV x.z x.m x.k x.e)) ((c.read x.z x.m x.k x.e).tk' x.op x.z x.r (c.readV x.z x.m x.k x.e))
    rw [two_wf, ← two_tk GR x B ho _ hv]
    exact Same.wf (two_bus hb _ _ _)
/-- op 11 -/
theorem one_ch (x : In) (ho : x.s = 1 ∨ x.s = 2 ∨ x.s = 3) (d : Mc) (hd : d.r.f = c.r.f) (u v : Int) : c.one' d x u v = d.ch' x.z x.m x.k u x.s v := by
  unfold Mc.one' Mc.ch' chF chV
  rw [hd]
  rcases ho with h | h | h <;> rw [h]
  · exact (write_setF x.z x.m x.k u _ _).symm
  · exact (write_setF x.z x.m x.k u _ _).symm
  · rfl
theorem same_one (G : GM c) (hf : c.f = ftNo) (x : In) (B : InB x) (hm : x.m = 0 ∨ (2 ≤ x.m ∧ x.m ≤ 6)) (hs : x.s ≤ 3) : Same a b q ((c.wf a q).one x) (c.ch x) := by
  have hs0 := B.s0
  have hb := (bus_of hf).read x.z x.m x.k x.e
  obtain ⟨e1, e2⟩ := slot_place (c := c) x.z x.m x.k x.e hm
  by_cases h0 : x.s = 0
  · have e : (c.wf a q).one x = (c.ch x).wf a q := by
      unfold Mc.one Mc.ch
      rw [h0]
      show (c.wf a q).one0 x = ((c.slot x.z x.m x.k x.e).ch' x.z x.m x.k (c.readA x.z x.m x.k x.e) 0 0).wf a q
      unfold Mc.one0
      rw [e1, e2, place_wf]
      show (((c.place x.z x.m x.k x.e).wf a q).write x.z x.m x.k (c.plcA x.z x.m x.k x.e) 0).setF (logF x.z c.r.f 0) = _
      rw [write_wf]
      show _ = (((c.place x.z x.m x.k x.e).setF (logF x.z (c.place x.z x.m x.k x.e).r.f 0)).write x.z x.m x.k (c.plcA x.z x.m x.k x.e) 0).wf a q
      rw [write_setF, place_f]; rfl
    rw [e]
    refine Same.wf ?_
    unfold Mc.ch Mc.ch'
    rw [h0]
    refine Mc.bus.write ?_ _ _ _ _ _
    show (c.slot x.z x.m x.k x.e).bus
    unfold Mc.slot
    cases Mc.inReg x.m <;> exact bus_of hf
  · have h1 : x.s = 1 ∨ x.s = 2 ∨ x.s = 3 := by omega
    have hz : (x.s == 0) = false := by simpa using h0
    unfold Mc.one Mc.ch
    rw [hz, read_wf]
    show Same a b q (bif (c.read x.z x.m x.k x.e).fine then (c.wf a q).one' ((c.read x.z x.m x.k x.e).wf a q) x (c.readA x.z x.m x.k x.e) (c.readV x.z x.m x.k x.e) else (c.read x.z x.m x.k x.e).wf a q) (bif (c.read x.z x.m x.k x.e).fine then (c.read x.z x.m x.k x.e).ch' x.z x.m x.k (c.readA x.z x.m x.k x.e) x.s (c.readV x.z x.m x.k x.e) else c.read x.z x.m x.k x.e)
    cases (c.read x.z x.m x.k x.e).fine
    · exact Same.wf hb
    · have e : (c.wf a q).one' ((c.read x.z x.m x.k x.e).wf a q) x (c.readA x.z x.m x.k x.e) (c.readV x.z x.m x.k x.e) = ((c.read x.z x.m x.k x.e).ch' x.z x.m x.k (c.readA x.z x.m x.k x.e) x.s (c.readV x.z x.m x.k x.e)).wf a q := by
        rw [← one_ch x h1 _ (read_f c _ _ _ _)]
        unfold Mc.one'
        rw [write_wf, write_wf]
        cases x.s == 1 <;> cases x.s == 2 <;> rfl
      show Same a b q ((c.wf a q).one' _ _ _ _) _
      rw [e]
      refine Same.wf ?_
      unfold Mc.ch'
      cases x.s == 3
      · have hb' : ((c.read x.z x.m x.k x.e).setF (chF x.s x.z (c.read x.z x.m x.k x.e).r.f (c.readV x.z x.m x.k x.e))).bus := hb
        exact hb'.write _ _ _ _ _
      · exact hb
/-- op 12 -/
theorem same_shf (hf : c.f = ftNo) (x : In) : Same a b q (((c.wf a q).setF (byFl x.s x.z c.r.f (c.low x.z x.r) (x.k + 1))).put x.z x.r (byVal x.s x.z c.r.f (c.low x.z x.r) (x.k + 1))) (c.shf x) :=
  Same.wf (d := c.shf x) (bus_of (c := c) hf)
/-- op 13 -/
theorem same_brn (hf : c.f = ftNo) (x : In) (ho : x.op = 13) (hp : c.r.p = (a + 2 * 2) % 65536) : Same a b q ((c.wf a q).jump x a) (c.brn x) := by
  unfold Mc.jump Mc.brn
  rw [ho]
  have e : (c.r.p - 2 + x.e) % 65536 = (a + 2 + x.e) % 65536 := by omega
  rw [e]
  show Same a b q (bif tst (x.s + 8 * x.r) c.r.f then (c.wf a q).setP ((a + 2 + x.e) % 65536) else c.wf a q) _
  cases tst (x.s + 8 * x.r) c.r.f
  · exact Same.wf (bus_of hf)
  · exact Same.wf (d := c.setP ((a + 2 + x.e) % 65536)) (bus_of (c := c) hf)
/-- op 14 -/
theorem same_jp (hf : c.f = ftNo) (x : In) (ho : x.op = 14) (hz : x.z = 2) (hm : x.m = 0 ∨ (2 ≤ x.m ∧ x.m ≤ 6)) : Same a b q ((c.wf a q).jump x a) (c.jp x) := by
  obtain ⟨e1, e2⟩ := slot_place (c := c) 2 x.m x.k x.e hm
  have hb : (c.place 2 x.m x.k x.e).bus := by
    unfold Mc.place
    cases x.m == 0 <;> exact bus_of hf
  have hbp := hb.push c.r.p
  unfold Mc.jump Mc.jp
  rw [ho, hz, e1, e2, place_wf, show (c.wf a q).r = c.r from rfl, push_wf]
  show Same a b q (bif x.s == 1 then (bif ((c.place 2 x.m x.k x.e).push c.r.p).fine then (((c.place 2 x.m x.k x.e).push c.r.p).setP (c.plcA 2 x.m x.k x.e)).wf a q else ((c.place 2 x.m x.k x.e).push c.r.p).wf a q) else ((c.place 2 x.m x.k x.e).setP (c.plcA 2 x.m x.k x.e)).wf a q) _
  cases x.s == 1
  · exact Same.wf (d := (c.place 2 x.m x.k x.e).setP (c.plcA 2 x.m x.k x.e)) hb
  · cases ((c.place 2 x.m x.k x.e).push c.r.p).fine
    · exact Same.wf hbp
    · exact Same.wf (d := ((c.place 2 x.m x.k x.e).push c.r.p).setP (c.plcA 2 x.m x.k x.e)) hbp
/-- ops 16, 17 -/
theorem same_mul (G : GM c) (hf : c.f = ftNo) (x : In) (B : InB x) (hz : x.z = 2) (h1 : x.m ≠ 1) (ho : x.op = 16 ∨ x.op = 17) (hp : c.r.p = b) : Same a b q ((c.wf a q).product x) (c.tk x) := by
  have h7 : x.m = 7 → okv 2 x.e = true := by rw [← hz]; exact B.n7
  have hb := (bus_of hf).read 2 x.m x.k x.e
  have hv := readV_in (c := c) G (z := 2) (m := x.m) (.inr rfl) B.k0 B.k1 B.e0 B.e1 (fun _ => rfl) h7
  have GR := G.read (z := 2) (m := x.m) (.inr rfl) B.k0 B.k1 B.e0 B.e1
  have hp2 : (c.read 2 x.m x.k x.e).r.p = b := by
    rw [← hp]; unfold Mc.read; cases Mc.inReg x.m
    · exact placeR_p c.r 2 x.m x.k x.e
    · rfl
  unfold Mc.product Mc.tk
  rw [read_wf, hz]
  show Same a b q (bif (c.read 2 x.m x.k x.e).fine then ((c.read 2 x.m x.k x.e).wf a q).prod' x (c.readV 2 x.m x.k x.e) else (c.read 2 x.m x.k x.e).wf a q) _
  cases hfi : (c.read 2 x.m x.k x.e).fine
  · exact Same.wf hb
  · show Same a b q (((c.read 2 x.m x.k x.e).wf a q).prod' x (c.readV 2 x.m x.k x.e)) ((c.read 2 x.m x.k x.e).tk' x.op 2 x.r (c.readV 2 x.m x.k x.e))
    generalize hd : c.read 2 x.m x.k x.e = d at hb GR hp2 hfi ⊢
    generalize hu : c.readV 2 x.m x.k x.e = u at hv ⊢
    have hu2 := top_ok hv
    have hr := GR.g.dw x.r.toNat (by have := B.r1; omega)
    have el2 : d.low 2 x.r = el d.r.xs x.r.toNat := by unfold Mc.low; simp [top]; omega
    have hu0 : 0 ≤ u ∧ u ≤ 65535 := by simp [top] at hu2; omega
    have hN : d.f = ftNo := by rw [← hd]; refine read_no hf rfl ?_; rw [hd]; unfold Mc.fine at hfi; simpa using hfi
    obtain ⟨p, hE⟩ : ∃ p, el d.r.xs x.r.toNat = p := ⟨_, rfl⟩
    rw [hE] at hr el2
    rcases ho with ho | ho
    · have k2 : ok2 p u = true := by simp [ok2, wOk]; omega
      have hpu : 0 ≤ p * u := Int.mul_nonneg hr.1 hu0.1
      have eM : mulL p u = p * u % 65536 := by unfold mulL; rw [if_pos k2]
      have eH : (mulH p u != 0) = decide (65535 < p * u) := by
        unfold mulH; rw [if_pos k2]
        generalize p * u = w at hpu
        by_cases h : 65535 < w
        · rw [decide_eq_true h]; simp; omega
        · rw [decide_eq_false h]; simp; omega
      have e : (d.wf a q).prod' x u = (d.tk' x.op 2 x.r u).wf a q := by
        unfold Mc.prod' Mc.tk' cbV cbF cbM cbU
        rw [ho, el2]
        show (d.wf a q).mulF x (el d.r.xs x.r.toNat * u) = ((d.put 2 x.r (mulL p u)).setF (bits .or .i64 (logF 2 d.r.f (mulL p u)) (fl (mulH p u != 0) 2))).wf a q
        rw [eM, eH, hE]
        rfl
      rw [e]
      refine Same.wf ?_
      unfold Mc.tk'; rw [ho]; exact hb
    · cases h0 : u == 0
      · have hn : u ≠ 0 := by simpa using h0
        have eQ : dvQ 0 p u = p / u := by
          have hk : dOk 0 p u = true := by simp [dOk, wOk]; omega
          unfold dvQ
          rw [if_pos hk]
          exact (steps_16 (by omega) (by omega) (by omega)).1
        have hq2 : okv 2 (p / u) = true := by
          have h1 : 0 ≤ p / u := Int.ediv_nonneg (by omega) (by omega)
          have h3 : p / u ≤ p := Int.ediv_le_self _ (by omega)
          simp [okv, top]; omega
        have hL := logF_in 2 d.r.f (p / u) hq2 (flags_of GR)
        have e : (d.wf a q).prod' x u = (d.tk' x.op 2 x.r u).wf a q := by
          unfold Mc.prod' Mc.tk' cbV cbF cbM cbU
          rw [ho, el2, h0]
          show (d.wf a q).data 2 x.r (el d.r.xs x.r.toNat / u) = ((d.put 2 x.r (dvQ 0 p u)).setF (bits .or .i64 (logF 2 d.r.f (dvQ 0 p u)) (fl ((0 : Int) != 0) 2))).wf a q
          rw [eQ, hE, show fl ((0 : Int) != 0) 2 = 0 from rfl, or_0 hL.1 hL.2]
          rfl
        rw [e]
        refine Same.wf ?_
        unfold Mc.tk'; rw [ho, h0]; exact hb
      · have e1 : (d.wf a q).prod' x u = (d.wf a q).raise 5 := by unfold Mc.prod'; rw [ho, h0]; rfl
        have e2 : d.tk' x.op 2 x.r u = { d with f := ⟨5, 0, 0, 0, false⟩ } := by unfold Mc.tk'; rw [ho, h0]; rfl
        rw [e1, e2]
        refine ⟨rfl, rfl, rfl, rfl, fun h => absurd (show (5 : Int) = 0 from h) (by decide), fun _ => ?_⟩
        show ({ d.f with pc := d.r.p, wo := q, v := 5 } : Ft) = ⟨5, b, 0, q, false⟩
        rw [hN, hp2]; rfl
/-- op 15 -/
theorem same_fw (G : GM c) (hf : c.f = ftNo) (x : In) (hp : c.r.p = b) (h4 : 0 ≤ x.r) : Same a b q ((c.wf a q).flow x) (c.fw x) := by
  have hb := bus_of hf
  unfold Mc.flow Mc.fw
  cases h0 : x.s == 0
  · cases h1 : x.s == 1
    · cases h3 : x.s == 3
      · cases h4 : x.s == 4
        · cases h5 : x.s == 5
          · cases h6 : x.s == 6
            · exact Same.wf hb
            · exact Same.wf (d := (c.put 2 x.r (extV (c.low 1 x.r))).setF (logF 2 c.r.f (extV (c.low 1 x.r)))) hb
          · exact Same.wf (d := (c.put 2 x.r (swpV (el c.r.xs x.r.toNat))).setF (logF 2 c.r.f (swpV (el c.r.xs x.r.toNat)))) hb
        · refine ⟨rfl, rfl, rfl, rfl, fun h => ?_, fun _ => ?_⟩
          · exfalso
            have : 18 + x.r = 0 := h
            omega
          · show ({ c.f with pc := c.r.p, wo := q, v := 18 + x.r } : Ft) = ⟨18 + x.r, bif isOver (18 + x.r) then b else a, 0, q, false⟩
            have : isOver (18 + x.r) = true := by unfold isOver; simp; omega
            rw [this, hf, hp]; rfl
      · exact Same.wf (d := { c.setR (withR c.r x.e) with st := true }) hb
    · show Same a b q (bif !(c.wf a q).pop.fine then (c.wf a q).pop else bif !(c.wf a q).pop.pop.fine then (c.wf a q).pop.pop else ((c.wf a q).pop.pop.setP (c.wf a q).pop.popV).setR (withR ((c.wf a q).pop.pop.setP (c.wf a q).pop.popV).r ((c.wf a q).popV % 1024))) c.cb1
      rw [pop_wf, pop_wf]
      show Same a b q (bif !c.pop.fine then c.pop.wf a q else bif !c.pop.pop.fine then c.pop.pop.wf a q else ((c.pop.pop.setP c.pop.popV).setR (withR (c.pop.pop.setP c.pop.popV).r (c.popV % 1024))).wf a q) c.cb1
      unfold Mc.cb1
      cases k1 : c.pop.fine
      · exact Same.wf hb.pop
      · cases k2 : c.pop.pop.fine
        · exact Same.wr hb.pop.pop k2 rfl rfl rfl rfl rfl
        · exact Same.wf (d := (c.pop.pop.setP c.pop.popV).setR (withR (c.pop.pop.setP c.pop.popV).r (c.popV % 1024))) hb.pop.pop
  · show Same a b q ((c.wf a q).pop.setP c.popV) c.cb0
    rw [pop_wf]
    have e : c.cb0 = c.pop.setP c.popV := by
      unfold Mc.cb0
      cases c.pop.fine
      · rfl
      · have hs : (c.pop.setP c.popV).r.s = c.r.s ∧ (c.pop.setP c.popV).r.t = c.r.t ∧ (c.pop.setP c.popV).r.m = c.r.m ∧ (c.pop.setP c.popV).r.f = c.r.f := by
          unfold Mc.pop
          cases (c.acc 1 2 (el c.r.ys 3) 0).fine <;> exact ⟨rfl, rfl, rfl, rfl⟩
        show (c.pop.setP c.popV).setR _ = _
        rw [with_status G.g hs.1 hs.2.1 hs.2.2.1 hs.2.2.2]
        rfl
    rw [e]
    exact Same.wf (d := c.pop.setP c.popV) hb.pop
/-- op 18 -/
theorem dc_flags : ∀ n : Nat, n < 32 → ∀ v c : Bool, bits .or .i64 (fl v (bits .and .i64 (n : Int) 4)) (fl c 17) = fl (v && ((n : Int) / 4 % 2 == 1)) 4 + (if c then 1 else 0) * 17 := by decide +kernel
theorem same_bd (G : GM c) (hf : c.f = ftNo) (x : In) : Same a b q ((c.wf a q).bcdI x) (c.bd x) := by
  have hb := bus_of hf
  have f0 := G.g.f0
  have f1 := G.g.f1
  have hx : c.xOf = c.r.f / 16 := by unfold Mc.xOf; omega
  have hbit : bit (c.r.f / 16) = true := by simp [bit]; omega
  have l1 : c.low 1 x.r = el c.r.xs x.r.toNat % 256 := rfl
  have l2 : c.low 1 x.k = el c.r.xs x.k.toNat % 256 := rfl
  unfold Mc.bcdI Mc.bcd' Mc.bd two2
  rw [l1, l2, hbit, Bool.true_and]
  show Same a b q (bif bcd (el c.r.xs x.r.toNat % 256) && bcd (el c.r.xs x.k.toNat % 256) then ((c.wf a q).setF (c.bcdF x.s (el c.r.xs x.r.toNat % 256) (el c.r.xs x.k.toNat % 256))).put 1 x.r (c.bcdV' x.s (el c.r.xs x.r.toNat % 256) (el c.r.xs x.k.toNat % 256)) else (c.wf a q).vec 4) _
  generalize el c.r.xs x.r.toNat % 256 = u
  generalize el c.r.xs x.k.toNat % 256 = v
  cases bcd u && bcd v
  · refine ⟨rfl, rfl, rfl, rfl, fun h => absurd (show (4 : Int) = 0 from h) (by decide), fun _ => ?_⟩
    show ({ c.f with pc := a, wo := q, v := 4 } : Ft) = ⟨4, a, 0, q, false⟩
    rw [hf]; rfl
  · have eV : c.bcdV' x.s u v = dcV x.s (c.r.f / 16) u v := by unfold Mc.bcdV' dcV; rw [hx]
    have eC : c.bcdC' x.s u v = dcC x.s (c.r.f / 16) u v := by unfold Mc.bcdC' dcC; rw [hx]
    have hc : dcC x.s (c.r.f / 16) u v = 0 ∨ dcC x.s (c.r.f / 16) u v = 1 := by
      unfold dcC
      have h1 := aC_bd (c.r.f / 16) u v
      have h2 := sC_bd (c.r.f / 16) u v
      cases x.s == 1
      · show aC (c.r.f / 16) u v = 0 ∨ aC (c.r.f / 16) u v = 1
        omega
      · show sC (c.r.f / 16) u v = 0 ∨ sC (c.r.f / 16) u v = 1
        omega
    have eF : c.bcdF x.s u v = dcF x.s c.r.f (c.r.f / 16) u v := by
      unfold Mc.bcdF dcF
      rw [eV, eC]
      obtain ⟨n, hn⟩ : ∃ n : Nat, c.r.f = (n : Int) := ⟨c.r.f.toNat, by omega⟩
      have := dc_flags n (by omega) (dcV x.s (c.r.f / 16) u v == 0) (dcC x.s (c.r.f / 16) u v == 1)
      rw [← hn] at this
      rw [this]
      rcases hc with h | h <;> rw [h] <;> rfl
    show Same a b q (((c.wf a q).setF (c.bcdF x.s u v)).put 1 x.r (c.bcdV' x.s u v)) _
    rw [eV, eF]
    exact Same.wf (d := (c.put 1 x.r (dcV x.s (c.r.f / 16) u v)).setF (dcF x.s c.r.f (c.r.f / 16) u v)) hb
/-- op 19 -/
theorem same_mvs (hf : c.f = ftNo) (x : In) : Same a b q ((c.wf a q).stat x) (c.mvs x) := by
  have hb := bus_of hf
  unfold Mc.stat Mc.mvs
  cases x.s == 0
  · exact Same.wf (d := c.setR { c.r with xs := c.r.xs.set x.r.toNat (status c.r) }) hb
  · exact Same.wf (d := c.setR (withR c.r x.e)) hb
end Go.Proofs.YtblddehlkaolbaaGreatDoor.Pl

namespace Go.Proofs.YtblddehlkaolbaaGreatDoor.Pl
open Go.RowKit
set_option linter.unusedVariables false
variable {c : Mc}
theorem plain_m {m : Int} (h : plainM m = true) : m = 0 ∨ (2 ≤ m ∧ m ≤ 6) := by
  simp only [plainM, Bool.or_eq_true, beq_iff_eq] at h; omega
theorem take_m {m : Int} (h : ((m == 0) || memM m) = true) : m = 0 ∨ (2 ≤ m ∧ m ≤ 6) := by
  simp only [memM, within, Bool.or_eq_true, Bool.and_eq_true, beq_iff_eq, decide_eq_true_eq] at h; omega
def lenI (x : In) : Int := if extM x.m = true then 2 else 1
/-- what an instruction's kind says of its parts -/
theorem kind_of {x : In} (hx : inOk x = true) :
    ((x.op = 1 ∨ x.op = 3 ∨ x.op = 4 ∨ x.op = 5 ∨ x.op = 6 ∨ x.op = 7 ∨ x.op = 8) ∧ (x.m = 1 → x.z = 2)) ∨
    (x.op = 2 ∧ (x.m = 0 ∨ (2 ≤ x.m ∧ x.m ≤ 6))) ∨ (x.op = 9 ∧ x.z = 2) ∨
    (x.op = 10 ∧ x.z = 2 ∧ (x.m = 0 ∨ (2 ≤ x.m ∧ x.m ≤ 6))) ∨
    (x.op = 11 ∧ (x.m = 0 ∨ (2 ≤ x.m ∧ x.m ≤ 6)) ∧ x.s ≤ 3) ∨ (x.op = 12) ∨
    (x.op = 13 ∧ x.r ≤ 1 ∧ x.m = 7) ∨ (x.op = 14 ∧ x.z = 2 ∧ (x.m = 0 ∨ (2 ≤ x.m ∧ x.m ≤ 6)) ∧ x.s ≤ 1) ∨
    ((x.op = 16 ∨ x.op = 17) ∧ x.z = 2 ∧ x.m ≠ 1) ∨ (x.op = 18 ∧ x.s ≤ 1) ∨
    (x.op = 19 ∧ x.s ≤ 1 ∧ (x.s = 0 → x.e ≤ 1023)) ∨ (x.op = 15 ∧ x.s ≤ 6 ∧ (x.s = 3 → x.e ≤ 1023)) := by
  obtain ⟨o1, o2, _⟩ := modeR hx
  have hk : inKind x = true := by unfold inOk at hx; rw [Bool.and_eq_true] at hx; exact hx.2
  have : x.op = 1 ∨ x.op = 2 ∨ x.op = 3 ∨ x.op = 4 ∨ x.op = 5 ∨ x.op = 6 ∨ x.op = 7 ∨ x.op = 8 ∨ x.op = 9 ∨ x.op = 10 ∨ x.op = 11 ∨ x.op = 12 ∨ x.op = 13 ∨ x.op = 14 ∨ x.op = 15 ∨ x.op = 16 ∨ x.op = 17 ∨ x.op = 18 ∨ x.op = 19 := by omega
  have two : ((x.s == 0) && ((x.z == 2) || !(x.m == 1))) = true → (x.m = 1 → x.z = 2) := by
    intro h k
    rw [k] at h
    simp at h
    exact h.2
  unfold inKind at hk
  rcases this with h | h | h | h | h | h | h | h | h | h | h | h | h | h | h | h | h | h | h <;> rw [h] at hk ⊢
  · exact .inl ⟨.inl rfl, two hk⟩
  · refine .inr (.inl ⟨rfl, take_m ?_⟩)
    have q : ((x.s == 0) && ((x.m == 0) || memM x.m)) = true := hk
    exact (Bool.and_eq_true_iff.1 q).2
  · exact .inl ⟨.inr (.inl rfl), two hk⟩
  · exact .inl ⟨.inr (.inr (.inl rfl)), two hk⟩
  · exact .inl ⟨.inr (.inr (.inr (.inl rfl))), two hk⟩
  · exact .inl ⟨.inr (.inr (.inr (.inr (.inl rfl)))), two hk⟩
  · exact .inl ⟨.inr (.inr (.inr (.inr (.inr (.inl rfl))))), two hk⟩
  · exact .inl ⟨.inr (.inr (.inr (.inr (.inr (.inr rfl))))), two hk⟩
  · have q : ((x.z == 2) && (x.s == 0)) = true := hk
    simp only [Bool.and_eq_true, beq_iff_eq] at q
    exact .inr (.inr (.inl ⟨rfl, q.1⟩))
  · have q : (((x.z == 2) && (x.s == 0)) && plainM x.m) = true := hk
    simp only [Bool.and_eq_true, beq_iff_eq] at q
    exact .inr (.inr (.inr (.inl ⟨rfl, q.1.1, plain_m q.2⟩)))
  · have q : (((x.r == 0) && decide (x.s ≤ 3)) && ((x.m == 0) || memM x.m)) = true := hk
    rw [Bool.and_eq_true, Bool.and_eq_true, decide_eq_true_eq] at q
    exact .inr (.inr (.inr (.inr (.inl ⟨rfl, take_m q.2, q.1.2⟩))))
  · exact .inr (.inr (.inr (.inr (.inr (.inl rfl)))))
  · have q : (((x.z == 2) && decide (x.r ≤ 1)) && (x.m == 7)) = true := hk
    simp only [Bool.and_eq_true, beq_iff_eq, decide_eq_true_eq] at q
    exact .inr (.inr (.inr (.inr (.inr (.inr (.inl ⟨rfl, q.1.2, q.2⟩))))))
  · have q : ((((x.z == 2) && (x.r == 0)) && decide (x.s ≤ 1)) && plainM x.m) = true := hk
    simp only [Bool.and_eq_true, beq_iff_eq, decide_eq_true_eq] at q
    exact .inr (.inr (.inr (.inr (.inr (.inr (.inr (.inl ⟨rfl, q.1.1.1, plain_m q.2, q.1.2⟩)))))))
  · refine .inr (.inr (.inr (.inr (.inr (.inr (.inr (.inr (.inr (.inr (.inr ⟨rfl, ?_⟩))))))))))
    have q : (bif x.s == 3 then ((x.z == 2) && (x.r == 0)) && nowO x.m x.e else (((x.z == 2) && decide (x.s ≤ 6)) && zeroO x.m x.k x.e) && (decide (3 < x.s) || (x.r == 0))) = true := hk
    cases h3 : x.s == 3
    · rw [h3] at q
      have n3 : x.s ≠ 3 := by simpa using h3
      have q2 : ((((x.z == 2) && decide (x.s ≤ 6)) && zeroO x.m x.k x.e) && (decide (3 < x.s) || (x.r == 0))) = true := q
      simp only [Bool.and_eq_true, decide_eq_true_eq] at q2
      exact ⟨q2.1.1.2, fun k => absurd k n3⟩
    · rw [h3] at q
      have n3 : x.s = 3 := by simpa using h3
      have q2 : (((x.z == 2) && (x.r == 0)) && nowO x.m x.e) = true := q
      simp only [nowO, Bool.and_eq_true, decide_eq_true_eq] at q2
      exact ⟨by omega, fun _ => q2.2.2⟩
  · have q : (((x.z == 2) && (x.s == 0)) && !(x.m == 1)) = true := hk
    simp only [Bool.and_eq_true, beq_iff_eq, Bool.not_eq_true', beq_eq_false_iff_ne] at q
    exact .inr (.inr (.inr (.inr (.inr (.inr (.inr (.inr (.inl ⟨.inl rfl, q.1.1, q.2⟩))))))))
  · have q : (((x.z == 2) && (x.s == 0)) && !(x.m == 1)) = true := hk
    simp only [Bool.and_eq_true, beq_iff_eq, Bool.not_eq_true', beq_eq_false_iff_ne] at q
    exact .inr (.inr (.inr (.inr (.inr (.inr (.inr (.inr (.inl ⟨.inr rfl, q.1.1, q.2⟩))))))))
  · have q : (((!(x.z == 2)) && decide (x.s ≤ 1)) && (x.m == 0)) = true := hk
    simp only [Bool.and_eq_true, decide_eq_true_eq] at q
    exact .inr (.inr (.inr (.inr (.inr (.inr (.inr (.inr (.inr (.inl ⟨rfl, q.1.2⟩)))))))))
  · have q : ((x.z == 2) && ((((x.s == 0) && (x.r == 0)) && nowO x.m x.e) || ((x.s == 1) && zeroO x.m x.k x.e))) = true := hk
    simp only [nowO, Bool.and_eq_true, Bool.or_eq_true, beq_iff_eq, decide_eq_true_eq] at q
    refine .inr (.inr (.inr (.inr (.inr (.inr (.inr (.inr (.inr (.inr (.inl ⟨rfl, ?_, ?_⟩))))))))))
    · rcases q.2 with k | k
      · have := k.1.1; omega
      · have := k.1; omega
    · intro k0
      rcases q.2 with k | k
      · exact k.2.2
      · have := k.1; omega
theorem same_do {a b q : Int} (G : GM c) (hf : c.f = ftNo) (x : In) (hx : inOk x = true) (hp : c.r.p = b) (hb : b = (a + lenI x * 2) % 65536) : Same a b q ((c.wf a q).doI x a) (c.cr' x) := by
  have B := inB_of hx
  have K := kind_of hx
  unfold Mc.doI Mc.cr'
  rcases K with ⟨h, h1⟩ | ⟨h, hm⟩ | ⟨h, hz⟩ | ⟨h, hz, hm⟩ | ⟨h, hm, hs⟩ | h | ⟨h, hr, hm⟩ | ⟨h, hz, hm, hs⟩ | ⟨h, hz, hm⟩ | ⟨h, hs⟩ | ⟨h, hs, he⟩ | ⟨h, hs, he⟩
  · have s := same_two (a := a) (b := b) (q := q) G hf x B h1 h
    rcases h with h | h | h | h | h | h | h <;> rw [h] <;> exact s
  · rw [h]; exact same_gv hf x hm
  · rw [h]; exact same_t9 hf x h hz
  · rw [h]; exact same_lea hf x hz hm
  · rw [h]; exact same_one G hf x B hm hs
  · rw [h]; exact same_shf hf x
  · rw [h]
    refine same_brn hf x h ?_
    rw [hp, hb]
    unfold lenI
    rw [hm]; rfl
  · rw [h]; exact same_jp hf x h hz hm
  · have s := same_mul (a := a) (b := b) (q := q) G hf x B hz hm h hp
    rcases h with h | h <;> rw [h] <;> exact s
  · rw [h]; exact same_bd G hf x
  · rw [h]; exact same_mvs hf x
  · rw [h]; exact same_fw G hf x hp B.r0
/- whether it is stopped -/
theorem read_st (z m k e : Int) : (c.read z m k e).st = c.st := by unfold Mc.read; cases Mc.inReg m <;> rfl
theorem slot_st (z m k e : Int) : (c.slot z m k e).st = c.st := by unfold Mc.slot; cases Mc.inReg m <;> rfl
theorem write_st (z m k a v : Int) : (c.write z m k a v).st = c.st := by unfold Mc.write; cases m == 0 <;> rfl
theorem push_st (v : Int) : (c.push v).st = c.st := by unfold Mc.push; cases (c.acc 2 2 c.spA v).fine <;> rfl
theorem pop_st : c.pop.st = c.st := by unfold Mc.pop; cases (c.acc 1 2 (el c.r.ys 3) 0).fine <;> rfl
theorem bif_st (b : Bool) (x y : Mc) (s : Bool) (hx : x.st = s) (hy : y.st = s) : (bif b then x else y).st = s := by cases b <;> assumption
theorem tk_st (x : In) : (c.tk x).st = c.st := by
  unfold Mc.tk Mc.tk'
  have h := read_st (c := c) x.z x.m x.k x.e
  exact bif_st _ _ _ _ (bif_st _ _ _ _ h (bif_st _ _ _ _ h h)) h
theorem ch_st (x : In) : (c.ch x).st = c.st := by
  unfold Mc.ch Mc.ch'
  have h := read_st (c := c) x.z x.m x.k x.e
  have h2 := slot_st (c := c) x.z x.m x.k x.e
  refine bif_st _ _ _ _ (bif_st _ _ _ _ h2 ?_) (bif_st _ _ _ _ (bif_st _ _ _ _ h ?_) h)
  · rw [write_st]; exact h2
  · rw [write_st]; exact h
theorem jp_st (x : In) : (c.jp x).st = c.st := by
  unfold Mc.jp
  have h2 := slot_st (c := c) x.z x.m x.k x.e
  have h3 := (push_st (c := c.slot x.z x.m x.k x.e) c.r.p).trans h2
  exact bif_st _ _ _ _ (bif_st _ _ _ _ h3 h3) h2
theorem fw_st (hf : c.f = ftNo) (x : In) : (c.fw x).f.v ≠ 0 → (c.fw x).st = c.st := by
  unfold Mc.fw
  intro h
  have p1 := pop_st (c := c)
  have p2 := (pop_st (c := c.pop)).trans p1
  cases h0 : x.s == 0 <;> rw [h0] at h
  · cases h1 : x.s == 1 <;> rw [h1] at h
    · cases h3 : x.s == 3 <;> rw [h3] at h
      · show (bif x.s == 4 then _ else bif x.s == 5 then _ else bif x.s == 6 then _ else c : Mc).st = c.st
        exact bif_st _ _ _ _ rfl (bif_st _ _ _ _ rfl (bif_st _ _ _ _ rfl rfl))
      · exact absurd (show c.f.v = 0 by rw [hf]; rfl) h
    · show c.cb1.st = c.st
      unfold Mc.cb1
      exact bif_st _ _ _ _ (bif_st _ _ _ _ p2 p2) p1
  · show c.cb0.st = c.st
    unfold Mc.cb0
    exact bif_st _ _ _ _ p1 p1
theorem cr_st (hf : c.f = ftNo) (x : In) : (c.cr' x).f.v ≠ 0 → (c.cr' x).st = c.st := by
  unfold Mc.cr'
  intro h
  cases h2 : x.op == 2 <;> rw [h2] at h
  · cases h10 : x.op == 10 <;> rw [h10] at h
    · cases h11 : x.op == 11 <;> rw [h11] at h
      · cases h12 : x.op == 12 <;> rw [h12] at h
        · cases h13 : x.op == 13 <;> rw [h13] at h
          · cases h14 : x.op == 14 <;> rw [h14] at h
            · cases h15 : x.op == 15 <;> rw [h15] at h
              · show (bif x.op == 18 then c.bd x else bif x.op == 19 then c.mvs x else c.tk x).st = c.st
                refine bif_st _ _ _ _ ?_ (bif_st _ _ _ _ ?_ (tk_st x))
                · unfold Mc.bd; exact bif_st _ _ _ _ rfl rfl
                · unfold Mc.mvs; exact bif_st _ _ _ _ rfl rfl
              · exact fw_st hf x h
            · exact jp_st x
          · show (c.brn x).st = c.st
            unfold Mc.brn; exact bif_st _ _ _ _ rfl rfl
        · rfl
      · exact ch_st x
    · show (c.slot x.z x.m x.k x.e).st = c.st
      exact slot_st _ _ _ _
  · show (c.gv x).st = c.st
    unfold Mc.gv
    rw [write_st]; exact slot_st (c := c.setF _) _ _ _ _
/-- what do leaves: the place behind, what carryOut left, and at a fault the registers that were -/
def beh (a : Int) (x : In) : Int := (a + lenI x * 2) % 65536
def Mc.dn' (c d : Mc) (b a q : Int) : Mc := bif d.f.v == 0 then d else { d with r := c.r, f := ⟨d.f.v, bif isOver d.f.v then b else a, d.f.ad, q, d.f.wr⟩ }
def Mc.dn (c : Mc) (x : In) (a : Int) : Mc := c.dn' ((c.setP (beh a x)).cr x) (beh a x) a (word1 x % 65536)
def Mc.nf (c : Mc) : Mc := { c with f := ftNo }
/-- what the program's step leaves -/
def Mc.sp (c : Mc) : Mc := bif c.fetF.v == 0 then c.fetch.nf.dn c.fetI c.r.p else { c.fetch with f := c.fetF }
theorem fetch_r : c.fetch.r = c.r ∧ c.fetch.st = c.st := by
  unfold Mc.fetch
  have h3 : c.fe3.r = c.r ∧ c.fe3.st = c.st := by
    unfold Mc.fe3
    cases longW c.feW == 2 <;> exact ⟨rfl, rfl⟩
  cases c.fe1.fine
  · exact ⟨rfl, rfl⟩
  · cases c.fe3.fine
    · exact h3
    · cases inOk c.feX
      · exact h3
      · exact h3
theorem fetch_fine3 (h : c.fetch.fine = true) : c.fe1.fine = true ∧ c.fe3.fine = true ∧ inOk c.feX = true := by
  cases h1 : c.fe1.fine
  · rw [(fetch_A h1).1, h1] at h; cases h
  · cases h3 : c.fe3.fine
    · rw [(fetch_B h1 h3).1, h3] at h; cases h
    · cases hx : inOk c.feX
      · rw [(fetch_C h1 h3 hx).1] at h; cases h
      · exact ⟨rfl, rfl, rfl⟩
theorem fe3_f (hf : c.f = ftNo) (h3 : c.fe3.fine = true) (h1 : c.fe1.fine = true) : c.fe3.f = ⟨0, c.r.p, 0, c.feW, false⟩ := by
  have e1 : c.fe1.f = ⟨0, c.r.p, 0, 0, false⟩ := by
    have e : c.fe1.f = { Mc.accF ftNo 3 2 c.r.p with pc := c.r.p, wo := 0 } := by
      show Mc.accF { c.f with pc := c.r.p } 3 2 c.r.p = _
      rw [hf]
      exact accF_with c.r.p 0 3 2 c.r.p
    have : ((Mc.accF ftNo 3 2 c.r.p).v != 0) = false := by
      unfold Mc.fine at h1; rw [e] at h1; simpa using h1
    rw [e, (accF_no this).2]; rfl
  have e2 : c.fe2.f = { ftNo with pc := c.r.p, wo := c.feW } := by
    show ({ c.fe1.f with wo := c.feW } : Ft) = _
    rw [e1]; rfl
  unfold Mc.fe3 at h3 ⊢
  cases hl : longW c.feW == 2
  · exact e2
  · rw [hl] at h3
    have e : (c.fe2.acc 3 2 c.feA 0).f = { Mc.accF ftNo 3 2 c.feA with pc := c.r.p, wo := c.feW } := by
      show Mc.accF c.fe2.f 3 2 c.feA = _
      rw [e2]; exact accF_with _ _ _ _ _
    have : ((Mc.accF ftNo 3 2 c.feA).v != 0) = false := by
      have h3' : (c.fe2.acc 3 2 c.feA 0).fine = true := h3
      unfold Mc.fine at h3'; rw [e] at h3'; simpa using h3'
    show (c.fe2.acc 3 2 c.feA 0).f = _
    rw [e, (accF_no this).2]; rfl
end Go.Proofs.YtblddehlkaolbaaGreatDoor.Pl

namespace Go.Proofs.YtblddehlkaolbaaGreatDoor.Pl
open Go.RowKit
set_option linter.unusedVariables false
theorem feW_in {c : Mc} (G : GM c) : 0 ≤ c.feW ∧ c.feW ≤ 65535 := by
  have h := (G.ft { c.f with pc := c.r.p }).accV (k := 3) (s := 2) (a := c.r.p) (v := 0) (ask_read (.inr rfl) G.p0 G.p1)
  have t := top_ok h
  have e : c.feW = lv c.bx 3 2 c.r.p 0 := rfl
  have e2 : ({ c with f := { c.f with pc := c.r.p } } : Mc).accV 3 2 c.r.p 0 = lv c.bx 3 2 c.r.p 0 := rfl
  rw [e2] at t
  rw [e]
  simp [top] at t
  omega
theorem word_dec {w v : Int} (h0 : 0 ≤ w) (h1 : w ≤ 65535) : word1 (decode w v) % 65536 = w := by
  unfold word1 decode
  simp only
  omega
theorem GM.like {m d : Mc} (h : GM m) (bx : m.bx = d.bx) (bl : m.bl = d.bl) (bm : m.bm = d.bm) (g : Good d.r) (p0 : 0 ≤ d.r.p) (p1 : d.r.p ≤ 65535) : GM d :=
  ⟨g, p0, p1, by rw [← bx]; exact h.bx, by rw [← bx]; exact h.ok, by rw [← bl, ← bm]; exact h.bl, by rw [← bm]; exact h.bm, by rw [← bl, ← bm]; exact h.ac⟩
theorem sp_step (k : Cp) (G : GM (Mc.ofC k)) : (Mc.ofC k).sp.f = stepF k ∧ (Mc.ofC k).sp.cpu false = stepC k ∧ GM (Mc.ofC k).sp := by
  have er : stepM k = (Mc.ofC k).s2 := rfl
  have ek : (Mc.ofC k).r = k.r ∧ (Mc.ofC k).st = k.st := ⟨rfl, rfl⟩
  have hf : (Mc.ofC k).f = ftNo := rfl
  unfold stepF stepC
  rw [er, ← ek.1, ← ek.2]
  generalize Mc.ofC k = c at G hf
  have GF := G.fetch
  obtain ⟨fr, fs⟩ := fetch_r (c := c)
  cases hF : c.fetch.fine
  · have e1 : c.s1 = c.fetch := by unfold Mc.s1; rw [hF]; rfl
    have e2 : c.s2 = c.fetch := by unfold Mc.s2; rw [e1, hF]; rfl
    have eF : c.fetF = c.fetch.f := by unfold Mc.fetF; rw [hF]; rfl
    have hv : (c.fetF.v == 0) = false := by rw [eF]; exact hF
    have es : c.sp = c.fetch := by
      unfold Mc.sp
      rw [hv, eF]; rfl
    rw [es, e2, hF]
    refine ⟨rfl, ?_, GF⟩
    show Cp.mk c.fetch.r c.fetch.bx c.fetch.bl c.fetch.bm c.fetch.st false = Cp.mk c.r c.fetch.bx c.fetch.bl c.fetch.bm c.st false
    rw [fr, fs]
  · obtain ⟨h1, h3, hx⟩ := fetch_fine3 hF
    obtain ⟨eD, eI, eN, eF⟩ := fetch_D h1 h3 hx
    have ff : c.fetch.f = ⟨0, c.r.p, 0, c.feW, false⟩ := by rw [eD]; exact fe3_f hf h3 h1
    have hw := feW_in G
    have ew : word1 c.fetI % 65536 = c.feW := by rw [eI]; exact word_dec hw.1 hw.2
    have eb : (c.r.p + 2 * c.fetN) % 65536 = beh c.r.p c.fetI := by
      unfold beh
      rw [eI, eN, Int.mul_comm 2]; rfl
    have hx2 : inOk c.fetI = true := by rw [eI]; exact hx
    have hv : (c.fetF.v == 0) = true := by rw [eF]; rfl
    have es : c.sp = c.fetch.nf.dn c.fetI c.r.p := by unfold Mc.sp; rw [hv]; rfl
    rw [es]
    obtain ⟨x, hX⟩ : ∃ x, c.fetI = x := ⟨_, rfl⟩
    rw [hX] at ew eb hx2 ⊢
    have hb : 0 ≤ beh c.r.p x ∧ beh c.r.p x ≤ 65535 := by unfold beh; omega
    obtain ⟨d, hd⟩ : ∃ d, c.fetch.nf = d := ⟨_, rfl⟩
    have gd : GM d := by rw [← hd]; exact GF.ft ftNo
    have df : d.f = ftNo := by rw [← hd]; rfl
    have dr : d.r = c.r := by rw [← hd]; exact fr
    have ds : d.st = c.st := by rw [← hd]; exact fs
    have dw : c.fetch = d.wf c.r.p c.feW := by
      rw [← hd]
      show c.fetch = Mc.mk c.fetch.r c.fetch.bx c.fetch.bl c.fetch.bm c.fetch.st ⟨0, c.r.p, 0, c.feW, false⟩
      rw [← ff]
    unfold Mc.dn
    rw [hd, ew]
    have gE : GM (d.setP (beh c.r.p x)) := gd.setP hb.1 hb.2
    cases hp : priv x && !c.r.s
    · have e1 : c.s1 = c.fetch := by unfold Mc.s1; rw [hF, fr, hX, hp]; rfl
      have e2 : c.s2 = ((d.setP (beh c.r.p x)).wf c.r.p c.feW).doI x c.r.p := by unfold Mc.s2; rw [e1, hF, eb, hX, dw]; rfl
      have ec : (d.setP (beh c.r.p x)).cr x = (d.setP (beh c.r.p x)).cr' x := by
        unfold Mc.cr
        show (bif priv x && !d.r.s then _ else _) = _
        rw [dr, hp]; rfl
      have S := same_do (q := c.feW) gE df x hx2 (a := c.r.p) rfl rfl
      have GD := GM.doI (gE.ft { (d.setP (beh c.r.p x)).f with pc := c.r.p, wo := c.feW }) hx2 c.r.p
      have GS := cr_st (c := d.setP (beh c.r.p x)) df x
      rw [e2, ec]
      change Same c.r.p (beh c.r.p x) c.feW (((d.setP (beh c.r.p x)).wf c.r.p c.feW).doI x c.r.p) _ at S
      change GM (((d.setP (beh c.r.p x)).wf c.r.p c.feW).doI x c.r.p) at GD
      generalize ((d.setP (beh c.r.p x)).wf c.r.p c.feW).doI x c.r.p = m at S GD
      have GS2 : ((d.setP (beh c.r.p x)).cr' x).f.v ≠ 0 → ((d.setP (beh c.r.p x)).cr' x).st = d.st := GS
      generalize (d.setP (beh c.r.p x)).cr' x = u at S GS2
      clear GS
      unfold Mc.dn'
      cases hu : u.f.v == 0
      · have hn : u.f.v ≠ 0 := by simpa using hu
        have mf := S.no hn
        have mn : m.fine = false := by unfold Mc.fine; rw [mf]; exact hu
        rw [mn]
        refine ⟨mf.symm, ?_, ?_⟩
        · show Cp.mk d.r u.bx u.bl u.bm u.st false = Cp.mk c.r m.bx m.bl m.bm c.st false
          rw [dr, S.bx, S.bl, S.bm, GS2 hn, ds]
        · exact GM.like (d := { u with r := d.r, f := ⟨u.f.v, bif isOver u.f.v then beh c.r.p x else c.r.p, u.f.ad, c.feW, u.f.wr⟩ }) GD S.bx S.bl S.bm gd.g gd.p0 gd.p1
      · have hz : u.f.v = 0 := by simpa using hu
        obtain ⟨m0, mr, uf⟩ := S.ok hz
        have mn : m.fine = true := by unfold Mc.fine; rw [m0]; rfl
        rw [mn]
        refine ⟨uf, ?_, ?_⟩
        · show Cp.mk u.r u.bx u.bl u.bm u.st false = Cp.mk m.r m.bx m.bl m.bm m.st false
          rw [mr, S.bx, S.bl, S.bm, S.st]
        · exact GM.like (d := u) GD S.bx S.bl S.bm (by rw [← mr]; exact GD.g) (by rw [← mr]; exact GD.p0) (by rw [← mr]; exact GD.p1)
    · have e1 : c.s1 = c.fetch.vec 8 := by unfold Mc.s1; rw [hF, fr, hX, hp]; rfl
      have e2 : c.s2 = c.fetch.vec 8 := by unfold Mc.s2; rw [e1]; rfl
      have ec : (d.setP (beh c.r.p x)).cr x = { d.setP (beh c.r.p x) with f := ⟨8, 0, 0, 0, false⟩ } := by
        unfold Mc.cr
        show (bif priv x && !d.r.s then _ else _) = _
        rw [dr, hp]; rfl
      rw [e2, ec, dw]
      refine ⟨?_, ?_, ?_⟩
      · show Ft.mk 8 c.r.p 0 c.feW false = { d.f with pc := c.r.p, wo := c.feW, v := 8 }
        rw [df]; rfl
      · show Cp.mk d.r d.bx d.bl d.bm d.st false = Cp.mk c.r d.bx d.bl d.bm c.st false
        rw [dr, ds]
      · exact gd.ft ⟨8, c.r.p, 0, c.feW, false⟩
end Go.Proofs.YtblddehlkaolbaaGreatDoor.Pl

namespace Go.Proofs.YtblddehlkaolbaaGreatDoor
open Go.RowKit
set_option linter.unusedVariables false
theorem cCarry (w : World) (lo b g : Nat) (c : Pl.Mc) (h : Bool) (op z r m k e s : Int) (hC : CAt w lo b g c h) (G : Pl.GM c) (hf : c.f = Pl.ftNo) (hx : Pl.inOk ⟨op, z, r, m, k, e, s⟩ = true) (ht : TabsAt w lo) :
    Calls Tryz.prog 99 #[.pointer (some ⟨b, 0, none⟩), .agg #[.int .i64 op, .int .i64 z, .int .i64 r, .int .i64 m, .int .i64 k, .int .i64 e, .int .i64 s]] w fun e' w' => ∃ g', e' = .returned (.agg (ftC (c.cr ⟨op, z, r, m, k, e, s⟩).f)) ∧ CAt w' lo b g' (c.cr ⟨op, z, r, m, k, e, s⟩) h ∧ Since w b (b + 1) g w' g' := by
  have B := Pl.inB_of hx
  rcases Pl.kind_of hx with ⟨ho, h1⟩ | ⟨ho, hm⟩ | ⟨ho, hz⟩ | ⟨ho, hz, hm⟩ | ⟨ho, hm, hs⟩ | ho | ⟨ho, hr, hm⟩ | ⟨ho, hz, hm, hs⟩ | ⟨ho, hz, hm⟩ | ⟨ho, hs⟩ | ⟨ho, hs, he⟩ | ⟨ho, hs, he⟩
  · simp only at ho
    rcases ho with q | q | q | q | q | q | q
    · exact cCarryT1 w lo b g c h op z r m k e s hC G hf B q h1 (by intro; omega)
    · exact cCarryT3 w lo b g c h op z r m k e s hC G hf B q h1 (by intro; omega)
    · exact cCarryT4 w lo b g c h op z r m k e s hC G hf B q h1 (by intro; omega)
    · exact cCarryT5 w lo b g c h op z r m k e s hC G hf B q h1 (by intro; omega)
    · exact cCarryT6 w lo b g c h op z r m k e s hC G hf B q h1 (by intro; omega)
    · exact cCarryT7 w lo b g c h op z r m k e s hC G hf B q h1 (by intro; omega)
    · exact cCarryT8 w lo b g c h op z r m k e s hC G hf B q h1 (by intro; omega)
  · exact cCarryG w lo b g c h op z r m k e s hC G hf B ho hm
  · exact cCarryT9 w lo b g c h op z r m k e s hC G hf B ho (fun _ => hz) (fun _ => hz)
  · exact cCarryL w lo b g c h op z r m k e s hC G hf B ho
  · exact cCarryC w lo b g c h op z r m k e s hC G hf B ho hm hs
  · exact cCarryS w lo b g c h op z r m k e s hC G hf B ho
  · exact cCarryB w lo b g c h op z r m k e s hC G hf B ho hr
  · exact cCarryJ w lo b g c h op z r m k e s hC G hf B ho hs
  · rcases ho with q | q
    · exact cCarryT16 w lo b g c h op z r m k e s hC G hf B q (fun q => absurd q hm) (fun _ => hz)
    · exact cCarryT17 w lo b g c h op z r m k e s hC G hf B q (fun q => absurd q hm) (fun _ => hz)
  · exact cCarryD w lo b g c h op z r m k e s hC G hf B ho hs ht
  · exact cCarryM w lo b g c h op z r m k e s hC G hf B ho hs he
  · exact cCarryF w lo b g c h op z r m k e s hC G hf B ho hs he
theorem isOver (v : Int) (w : World) : Calls Tryz.prog 101 #[.int .i64 v] w fun e w' => e = .returned (.bool (Pl.isOver v)) ∧ w' = w := by
  cases h0 : (v == 5)
  · go_enter Tryz.func101, Tryz.ntmps101
    go_wp2
    go_ret
    exact ⟨by unfold Pl.isOver; rw [h0]; rfl, rfl⟩
  · go_enter Tryz.func101, Tryz.ntmps101
    go_wp2
    go_ret
    exact ⟨by unfold Pl.isOver; rw [h0]; rfl, rfl⟩
/-- fourteen cells written, one behind the other -/
theorem Blk.app14 {w : World} {b : Nat} {u0 u1 u2 u3 u4 u5 u6 u7 u8 u9 u10 u11 u12 u13 v0 v1 v2 v3 v4 v5 v6 v7 v8 v9 v10 v11 v12 v13 : Value} {B : Array Value} {ty : TypeId} (h : Blk w b (#[u0, u1, u2, u3, u4, u5, u6, u7, u8, u9, u10, u11, u12, u13] ++ B) ty) : Blk ((((((((((((((w.setCell ⟨b, 0, none⟩ (v0)).setCell ⟨b, 1, none⟩ (v1)).setCell ⟨b, 2, none⟩ (v2)).setCell ⟨b, 3, none⟩ (v3)).setCell ⟨b, 4, none⟩ (v4)).setCell ⟨b, 5, none⟩ (v5)).setCell ⟨b, 6, none⟩ (v6)).setCell ⟨b, 7, none⟩ (v7)).setCell ⟨b, 8, none⟩ (v8)).setCell ⟨b, 9, none⟩ (v9)).setCell ⟨b, 10, none⟩ (v10)).setCell ⟨b, 11, none⟩ (v11)).setCell ⟨b, 12, none⟩ (v12)).setCell ⟨b, 13, none⟩ (v13)) b (#[v0, v1, v2, v3, v4, v5, v6, v7, v8, v9, v10, v11, v12, v13] ++ B) ty := by
  have h0 : Blk (w.setCell ⟨b, 0, none⟩ v0) b (#[v0, u1, u2, u3, u4, u5, u6, u7, u8, u9, u10, u11, u12, u13] ++ B) ty := by have q := Blk.set h 0 v0; rw [set_left (by simp)] at q; exact q
  have h1 : Blk ((w.setCell ⟨b, 0, none⟩ v0).setCell ⟨b, 1, none⟩ v1) b (#[v0, v1, u2, u3, u4, u5, u6, u7, u8, u9, u10, u11, u12, u13] ++ B) ty := by have q := Blk.set h0 1 v1; rw [set_left (by simp)] at q; exact q
  have h2 : Blk (((w.setCell ⟨b, 0, none⟩ v0).setCell ⟨b, 1, none⟩ v1).setCell ⟨b, 2, none⟩ v2) b (#[v0, v1, v2, u3, u4, u5, u6, u7, u8, u9, u10, u11, u12, u13] ++ B) ty := by have q := Blk.set h1 2 v2; rw [set_left (by simp)] at q; exact q
  have h3 : Blk ((((w.setCell ⟨b, 0, none⟩ v0).setCell ⟨b, 1, none⟩ v1).setCell ⟨b, 2, none⟩ v2).setCell ⟨b, 3, none⟩ v3) b (#[v0, v1, v2, v3, u4, u5, u6, u7, u8, u9, u10, u11, u12, u13] ++ B) ty := by have q := Blk.set h2 3 v3; rw [set_left (by simp)] at q; exact q
  have h4 : Blk (((((w.setCell ⟨b, 0, none⟩ v0).setCell ⟨b, 1, none⟩ v1).setCell ⟨b, 2, none⟩ v2).setCell ⟨b, 3, none⟩ v3).setCell ⟨b, 4, none⟩ v4) b (#[v0, v1, v2, v3, v4, u5, u6, u7, u8, u9, u10, u11, u12, u13] ++ B) ty := by have q := Blk.set h3 4 v4; rw [set_left (by simp)] at q; exact q
  have h5 : Blk ((((((w.setCell ⟨b, 0, none⟩ v0).setCell ⟨b, 1, none⟩ v1).setCell ⟨b, 2, none⟩ v2).setCell ⟨b, 3, none⟩ v3).setCell ⟨b, 4, none⟩ v4).setCell ⟨b, 5, none⟩ v5) b (#[v0, v1, v2, v3, v4, v5, u6, u7, u8, u9, u10, u11, u12, u13] ++ B) ty := by have q := Blk.set h4 5 v5; rw [set_left (by simp)] at q; exact q
  have h6 : Blk (((((((w.setCell ⟨b, 0, none⟩ v0).setCell ⟨b, 1, none⟩ v1).setCell ⟨b, 2, none⟩ v2).setCell ⟨b, 3, none⟩ v3).setCell ⟨b, 4, none⟩ v4).setCell ⟨b, 5, none⟩ v5).setCell ⟨b, 6, none⟩ v6) b (#[v0, v1, v2, v3, v4, v5, v6, u7, u8, u9, u10, u11, u12, u13] ++ B) ty := by have q := Blk.set h5 6 v6; rw [set_left (by simp)] at q; exact q
  have h7 : Blk ((((((((w.setCell ⟨b, 0, none⟩ v0).setCell ⟨b, 1, none⟩ v1).setCell ⟨b, 2, none⟩ v2).setCell ⟨b, 3, none⟩ v3).setCell ⟨b, 4, none⟩ v4).setCell ⟨b, 5, none⟩ v5).setCell ⟨b, 6, none⟩ v6).setCell ⟨b, 7, none⟩ v7) b (#[v0, v1, v2, v3, v4, v5, v6, v7, u8, u9, u10, u11, u12, u13] ++ B) ty := by have q := Blk.set h6 7 v7; rw [set_left (by simp)] at q; exact q
  have h8 : Blk (((((((((w.setCell ⟨b, 0, none⟩ v0).setCell ⟨b, 1, none⟩ v1).setCell ⟨b, 2, none⟩ v2).setCell ⟨b, 3, none⟩ v3).setCell ⟨b, 4, none⟩ v4).setCell ⟨b, 5, none⟩ v5).setCell ⟨b, 6, none⟩ v6).setCell ⟨b, 7, none⟩ v7).setCell ⟨b, 8, none⟩ v8) b (#[v0, v1, v2, v3, v4, v5, v6, v7, v8, u9, u10, u11, u12, u13] ++ B) ty := by have q := Blk.set h7 8 v8; rw [set_left (by simp)] at q; exact q
  have h9 : Blk ((((((((((w.setCell ⟨b, 0, none⟩ v0).setCell ⟨b, 1, none⟩ v1).setCell ⟨b, 2, none⟩ v2).setCell ⟨b, 3, none⟩ v3).setCell ⟨b, 4, none⟩ v4).setCell ⟨b, 5, none⟩ v5).setCell ⟨b, 6, none⟩ v6).setCell ⟨b, 7, none⟩ v7).setCell ⟨b, 8, none⟩ v8).setCell ⟨b, 9, none⟩ v9) b (#[v0, v1, v2, v3, v4, v5, v6, v7, v8, v9, u10, u11, u12, u13] ++ B) ty := by have q := Blk.set h8 9 v9; rw [set_left (by simp)] at q; exact q
  have h10 : Blk (((((((((((w.setCell ⟨b, 0, none⟩ v0).setCell ⟨b, 1, none⟩ v1).setCell ⟨b, 2, none⟩ v2).setCell ⟨b, 3, none⟩ v3).setCell ⟨b, 4, none⟩ v4).setCell ⟨b, 5, none⟩ v5).setCell ⟨b, 6, none⟩ v6).setCell ⟨b, 7, none⟩ v7).setCell ⟨b, 8, none⟩ v8).setCell ⟨b, 9, none⟩ v9).setCell ⟨b, 10, none⟩ v10) b (#[v0, v1, v2, v3, v4, v5, v6, v7, v8, v9, v10, u11, u12, u13] ++ B) ty := by have q := Blk.set h9 10 v10; rw [set_left (by simp)] at q; exact q
  have h11 : Blk ((((((((((((w.setCell ⟨b, 0, none⟩ v0).setCell ⟨b, 1, none⟩ v1).setCell ⟨b, 2, none⟩ v2).setCell ⟨b, 3, none⟩ v3).setCell ⟨b, 4, none⟩ v4).setCell ⟨b, 5, none⟩ v5).setCell ⟨b, 6, none⟩ v6).setCell ⟨b, 7, none⟩ v7).setCell ⟨b, 8, none⟩ v8).setCell ⟨b, 9, none⟩ v9).setCell ⟨b, 10, none⟩ v10).setCell ⟨b, 11, none⟩ v11) b (#[v0, v1, v2, v3, v4, v5, v6, v7, v8, v9, v10, v11, u12, u13] ++ B) ty := by have q := Blk.set h10 11 v11; rw [set_left (by simp)] at q; exact q
  have h12 : Blk (((((((((((((w.setCell ⟨b, 0, none⟩ v0).setCell ⟨b, 1, none⟩ v1).setCell ⟨b, 2, none⟩ v2).setCell ⟨b, 3, none⟩ v3).setCell ⟨b, 4, none⟩ v4).setCell ⟨b, 5, none⟩ v5).setCell ⟨b, 6, none⟩ v6).setCell ⟨b, 7, none⟩ v7).setCell ⟨b, 8, none⟩ v8).setCell ⟨b, 9, none⟩ v9).setCell ⟨b, 10, none⟩ v10).setCell ⟨b, 11, none⟩ v11).setCell ⟨b, 12, none⟩ v12) b (#[v0, v1, v2, v3, v4, v5, v6, v7, v8, v9, v10, v11, v12, u13] ++ B) ty := by have q := Blk.set h11 12 v12; rw [set_left (by simp)] at q; exact q
  have h13 : Blk ((((((((((((((w.setCell ⟨b, 0, none⟩ v0).setCell ⟨b, 1, none⟩ v1).setCell ⟨b, 2, none⟩ v2).setCell ⟨b, 3, none⟩ v3).setCell ⟨b, 4, none⟩ v4).setCell ⟨b, 5, none⟩ v5).setCell ⟨b, 6, none⟩ v6).setCell ⟨b, 7, none⟩ v7).setCell ⟨b, 8, none⟩ v8).setCell ⟨b, 9, none⟩ v9).setCell ⟨b, 10, none⟩ v10).setCell ⟨b, 11, none⟩ v11).setCell ⟨b, 12, none⟩ v12).setCell ⟨b, 13, none⟩ v13) b (#[v0, v1, v2, v3, v4, v5, v6, v7, v8, v9, v10, v11, v12, v13] ++ B) ty := by have q := Blk.set h12 13 v13; rw [set_left (by simp)] at q; exact q
  exact h13
theorem Blk.whole14 {w : World} {b : Nat} {u0 u1 u2 u3 u4 u5 u6 u7 u8 u9 u10 u11 u12 u13 v0 v1 v2 v3 v4 v5 v6 v7 v8 v9 v10 v11 v12 v13 : Value} {ty : TypeId} (h : Blk w b #[u0, u1, u2, u3, u4, u5, u6, u7, u8, u9, u10, u11, u12, u13] ty) : Blk ((((((((((((((w.setCell ⟨b, 0, none⟩ (v0)).setCell ⟨b, 1, none⟩ (v1)).setCell ⟨b, 2, none⟩ (v2)).setCell ⟨b, 3, none⟩ (v3)).setCell ⟨b, 4, none⟩ (v4)).setCell ⟨b, 5, none⟩ (v5)).setCell ⟨b, 6, none⟩ (v6)).setCell ⟨b, 7, none⟩ (v7)).setCell ⟨b, 8, none⟩ (v8)).setCell ⟨b, 9, none⟩ (v9)).setCell ⟨b, 10, none⟩ (v10)).setCell ⟨b, 11, none⟩ (v11)).setCell ⟨b, 12, none⟩ (v12)).setCell ⟨b, 13, none⟩ (v13)) b #[v0, v1, v2, v3, v4, v5, v6, v7, v8, v9, v10, v11, v12, v13] ty := by
  have q := Blk.app14 (u0 := u0) (u1 := u1) (u2 := u2) (u3 := u3) (u4 := u4) (u5 := u5) (u6 := u6) (u7 := u7) (u8 := u8) (u9 := u9) (u10 := u10) (u11 := u11) (u12 := u12) (u13 := u13) (v0 := v0) (v1 := v1) (v2 := v2) (v3 := v3) (v4 := v4) (v5 := v5) (v6 := v6) (v7 := v7) (v8 := v8) (v9 := v9) (v10 := v10) (v11 := v11) (v12 := v12) (v13 := v13) (B := #[]) (w := w) (b := b) (ty := ty) (by rw [Array.append_empty]; exact h)
  rw [Array.append_empty] at q
  exact q
theorem kept14 (w : World) (b : Nat) (v0 v1 v2 v3 v4 v5 v6 v7 v8 v9 v10 v11 v12 v13 : Value) : Kept b (b + 1) w ((((((((((((((w.setCell ⟨b, 0, none⟩ (v0)).setCell ⟨b, 1, none⟩ (v1)).setCell ⟨b, 2, none⟩ (v2)).setCell ⟨b, 3, none⟩ (v3)).setCell ⟨b, 4, none⟩ (v4)).setCell ⟨b, 5, none⟩ (v5)).setCell ⟨b, 6, none⟩ (v6)).setCell ⟨b, 7, none⟩ (v7)).setCell ⟨b, 8, none⟩ (v8)).setCell ⟨b, 9, none⟩ (v9)).setCell ⟨b, 10, none⟩ (v10)).setCell ⟨b, 11, none⟩ (v11)).setCell ⟨b, 12, none⟩ (v12)).setCell ⟨b, 13, none⟩ (v13)) := ((((((((((((((kept_one w b 0 (v0)).one 1 (v1)).one 2 (v2)).one 3 (v3)).one 4 (v4)).one 5 (v5)).one 6 (v6)).one 7 (v7)).one 8 (v8)).one 9 (v9)).one 10 (v10)).one 11 (v11)).one 12 (v12)).one 13 (v13))
theorem CAt.bank {w : World} {lo b g : Nat} {c : Pl.Mc} {h : Bool} (a : CAt w lo b g c h) (r : Pl.Rg) : CAt ((((((((((((((w.setCell ⟨b, 0, none⟩ ((.int .i64 (el r.xs 0)))).setCell ⟨b, 1, none⟩ ((.int .i64 (el r.xs 1)))).setCell ⟨b, 2, none⟩ ((.int .i64 (el r.xs 2)))).setCell ⟨b, 3, none⟩ ((.int .i64 (el r.xs 3)))).setCell ⟨b, 4, none⟩ ((.int .i64 (el r.ys 0)))).setCell ⟨b, 5, none⟩ ((.int .i64 (el r.ys 1)))).setCell ⟨b, 6, none⟩ ((.int .i64 (el r.ys 2)))).setCell ⟨b, 7, none⟩ ((.int .i64 (el r.ys 3)))).setCell ⟨b, 8, none⟩ ((.int .i64 r.o))).setCell ⟨b, 9, none⟩ ((.int .i64 r.p))).setCell ⟨b, 10, none⟩ ((.int .i64 r.f))).setCell ⟨b, 11, none⟩ ((.int .i64 r.m))).setCell ⟨b, 12, none⟩ ((.bool r.s))).setCell ⟨b, 13, none⟩ ((.bool r.t))) lo b g (c.setR r) h := by
  obtain ⟨cu, hB, hO⟩ := a
  exact ⟨cu, Blk.app14 (show Blk w b (bkR c.r ++ _) _ from hB), hO.own (kept14 _ _ _ _ _ _ _ _ _ _ _ _ _ _ _ _)⟩
end Go.Proofs.YtblddehlkaolbaaGreatDoor

namespace Go.Proofs.YtblddehlkaolbaaGreatDoor
open Go.RowKit
set_option linter.unusedVariables false
theorem Pl.len_lng {m : Int} (m0 : 0 ≤ m) (m1 : m ≤ 7) : (if Pl.lng m = true then (2 : Int) else 1) = if Pl.extM m = true then 2 else 1 := by
  unfold Pl.lng
  rw [show Pl.modeOk m = true from by simp [Pl.modeOk, Pl.within]; omega]
  rfl
set_option maxRecDepth 100000 in
set_option maxHeartbeats 8000000 in
theorem cDo (w : World) (lo b g : Nat) (c : Pl.Mc) (h : Bool) (op z r m k e s a : Int) (hC : CAt w lo b g c h) (G : Pl.GM c) (hf : c.f = Pl.ftNo) (hx : Pl.inOk ⟨op, z, r, m, k, e, s⟩ = true) (ht : TabsAt w lo) (a0 : 0 ≤ a) (a1 : a ≤ 65535) :
    Calls Tryz.prog 53 #[.pointer (some ⟨b, 0, none⟩), .agg #[.int .i64 op, .int .i64 z, .int .i64 r, .int .i64 m, .int .i64 k, .int .i64 e, .int .i64 s], .int .i64 a] w fun e' w' => ∃ g', e' = .returned (.agg (ftC (c.dn ⟨op, z, r, m, k, e, s⟩ a).f)) ∧ CAt w' lo b g' (c.dn ⟨op, z, r, m, k, e, s⟩ a) h ∧ Since w b (b + 1) g w' g' := by
  have B := Pl.inB_of hx
  have wfm : (Lit.int .i64 m).wf = true := wfSm (by have : 0 ≤ m := B.m0; omega) (by have : m ≤ 7 := B.m1; omega)
  obtain ⟨L, hL⟩ : ∃ L, (if Pl.lng m = true then (2 : Int) else 1) = L := ⟨_, rfl⟩
  have hl2 : L = 1 ∨ L = 2 := by rw [← hL]; split <;> simp
  obtain ⟨BH, hBH⟩ : ∃ BH, (a + L * 2) % 65536 = BH := ⟨_, rfl⟩
  have eb : Pl.beh a ⟨op, z, r, m, k, e, s⟩ = BH := by unfold Pl.beh Pl.lenI; rw [← hBH, ← hL, Pl.len_lng B.m0 B.m1]
  have b0 : 0 ≤ BH ∧ BH ≤ 65535 := by omega
  obtain ⟨N, hN⟩ : ∃ N, Pl.word1 ⟨op, z, r, m, k, e, s⟩ % 65536 = N := ⟨_, rfl⟩
  obtain ⟨D, hD⟩ : ∃ D, D = (c.setP BH).cr ⟨op, z, r, m, k, e, s⟩ := ⟨_, rfl⟩
  obtain ⟨F, hF⟩ : ∃ F, F = D.f := ⟨_, rfl⟩
  have ET : Hid (c.dn ⟨op, z, r, m, k, e, s⟩ a = bif F.v == 0 then D else { D with r := c.r, f := ⟨F.v, bif Pl.isOver F.v then BH else a, F.ad, N, F.wr⟩ }) := hide (by unfold Pl.Mc.dn Pl.Mc.dn'; rw [eb, hN, ← hD, hF])
  have GP : Hid (Pl.GM (c.setP BH)) := hide (G.setP b0.1 b0.2)
  have HL := hide hL
  have HBH := hide hBH
  have HN := hide hN
  have HD := hide hD
  have HF := hide hF
  have HX := hide hx
  have TB := hide ht
  have gl := G.bx
  have w2 : IntKind.i64.wrap (L * 2) = L * 2 := by rw [IntKind.wrap_i64]; omega
  have w3 : IntKind.i64.wrap (a + L * 2) = a + L * 2 := by rw [IntKind.wrap_i64]; omega
  clear hL hBH hN hD hF hx ht B eb
  obtain ⟨l0, l1, l2, l3, l4⟩ := hC.lt
  have HG := hide G
  have K0 := hide (kept_new (kept_alloc w (.cells #[.int .i64 op, .int .i64 z, .int .i64 r, .int .i64 m, .int .i64 k, .int .i64 e, .int .i64 s] 79)) (.cells #[.int .i64 0, .int .i64 0, .int .i64 0, .int .i64 0, .bool false] 38))
  have C0 := hide ((hC.alloc (.cells #[.int .i64 op, .int .i64 z, .int .i64 r, .int .i64 m, .int .i64 k, .int .i64 e, .int .i64 s] 79)).alloc (.cells #[.int .i64 0, .int .i64 0, .int .i64 0, .int .i64 0, .bool false] 38))
  have A0 := hide ((Blk.new w #[.int .i64 op, .int .i64 z, .int .i64 r, .int .i64 m, .int .i64 k, .int .i64 e, .int .i64 s] 79).alloc (.cells #[.int .i64 0, .int .i64 0, .int .i64 0, .int .i64 0, .bool false] 38))
  have R0 := Blk.new (w.alloc (.cells #[.int .i64 op, .int .i64 z, .int .i64 r, .int .i64 m, .int .i64 k, .int .i64 e, .int .i64 s] 79)) #[.int .i64 0, .int .i64 0, .int .i64 0, .int .i64 0, .bool false] 38
  simp only [World.size_alloc] at R0
  replace R0 := hide R0
  obtain ⟨X, hX⟩ : ∃ X : World, (w.alloc (.cells #[.int .i64 op, .int .i64 z, .int .i64 r, .int .i64 m, .int .i64 k, .int .i64 e, .int .i64 s] 79)).alloc (.cells #[.int .i64 0, .int .i64 0, .int .i64 0, .int .i64 0, .bool false] 38) = X := ⟨_, rfl⟩
  rw [hX] at K0 C0 A0 R0
  have sX : w.heap.size + 1 < X.heap.size := R0.out.lt
  have p := A0.out.all
  clear hC G
  go_enter Tryz.func53, Tryz.ntmps53
  go_wp2_with fail
  refine wp_region_inv2 (fun A0 l A W => ∃ q : Nat, FR [10, 11, 12, 13, 14, 15, 16, 17, 18, 19, 7, 8] A0 A ∧ Once l 0 (A.tmps[10]? = some (.pointer (some ⟨b, 0, none⟩))) ∧ Once l 1 (A.tmps[11]? = some (.pointer (some ⟨b, 0, none⟩))) ∧ Once l 2 (A.tmps[12]? = some (.pointer (some ⟨b, 0, none⟩))) ∧ Once l 3 (A.tmps[13]? = some (.agg (bkR c.r))) ∧ Once l 4 (A.tmps[14]? = some (.int .i64 a)) ∧ Once l 5 (A.tmps[15]? = some (.agg #[.int .i64 op, .int .i64 z, .int .i64 r, .int .i64 m, .int .i64 k, .int .i64 e, .int .i64 s])) ∧ Once l 6 (A.tmps[16]? = some (.int .i64 L)) ∧ Once l 7 (A.tmps[17]? = some (.int .i64 (L * 2))) ∧ Once l 8 (A.tmps[18]? = some (.int .i64 (a + L * 2))) ∧ Once l 9 (A.tmps[19]? = some (.int .i64 BH)) ∧ Once l 10 (A.tmps[7]? = some (.pointer (some ⟨q, 0, none⟩))) ∧ Once l 11 (True) ∧ Once l 12 (A.tmps[8]? = some (.int .i64 BH)) ∧ Once l 10 (X.heap.size ≤ q ∧ Blk W q (bif l.getD 11 true then bkR c.r else #[.int .i64 0, .int .i64 0, .int .i64 0, .int .i64 0, .int .i64 0, .int .i64 0, .int .i64 0, .int .i64 0, .int .i64 0, .int .i64 0, .int .i64 0, .int .i64 0, .bool false, .bool false]) 89) ∧ (l.getD 11 true = true → l.getD 10 true = true) ∧ Kept 0 0 X W) (by kernel_rfl) (by kernel_rfl) ?start ?fin ?step
  case start => exact ⟨0, FR.refl _ _, once_start (by decide), once_start (by decide), once_start (by decide), once_start (by decide), once_start (by decide), once_start (by decide), once_start (by decide), once_start (by decide), once_start (by decide), once_start (by decide), once_start (by decide), once_start (by decide), once_start (by decide), once_start (by decide), (fun e => by rw [start_at (by decide)] at e; cases e), kept_drew (Kept.refl _ _ _)⟩
  case fin =>
    intro l A W h hl
    obtain ⟨q, hFR, o0, o1, o2, o3, o4, o5, o6, o7, o8, o9, o10, o11, o12, ox, o11w, hK⟩ := h
    have g10 := o10 (hl 10 (by decide))
    have QX := hide (ox (hl 10 (by decide)))
    rw [hl 11 (by decide)] at QX
    replace QX : Hid (X.heap.size ≤ q ∧ Blk W q (bkR c.r) 89) := QX
    have g12 := o12 (hl 12 (by decide))
    have QQ := hide hK
    have hc9 := hFR.chain
    simp only [List.foldl] at hc9
    rw [getD_of g10, getD_of g12] at hc9
    clear ox o11w hl hK hFR g10 g12 o0 o1 o2 o3 o4 o5 o6 o7 o8 o9 o10 o11 o12
    generalize A.tmps.getD 10 undef = s10 at hc9
    generalize A.tmps.getD 11 undef = s11 at hc9
    generalize A.tmps.getD 12 undef = s12 at hc9
    generalize A.tmps.getD 13 undef = s13 at hc9
    generalize A.tmps.getD 14 undef = s14 at hc9
    generalize A.tmps.getD 15 undef = s15 at hc9
    generalize A.tmps.getD 16 undef = s16 at hc9
    generalize A.tmps.getD 17 undef = s17 at hc9
    generalize A.tmps.getD 18 undef = s18 at hc9
    generalize A.tmps.getD 19 undef = s19 at hc9
    subst hc9
    go_simp
    have C1 := hide (C0.out.any QQ.out)
    have A1 := hide (A0.out.kept0 QQ.out)
    have R1 := hide (R0.out.kept0 QQ.out)
    have K1 := hide (K0.out.trans QQ.out)
    have qX := QX.out.1
    have B1 := hide QX.out.2
    clear p hX K0 C0 A0 R0 QX
    have q9 := C1.out.cP
    have qz := C1.out.fz
    have p2 := (A1.out.other b 9 (.int .i64 BH) (by omega)).all
    go_wp2_with fail
    clear q9 qz p2
    have S2 := hide (((Since.refl w b (b + 1) g).any K1.out).set b 9 (.int .i64 BH) (.inl (by omega)))
    have A2 := hide (A1.out.other b 9 (.int .i64 BH) (by omega))
    have R2 := hide (R1.out.other b 9 (.int .i64 BH) (by omega))
    have B2 := hide (B1.out.other b 9 (.int .i64 BH) (by omega))
    refine (cCarry _ lo b g (c.setP BH) h op z r m k e s (C1.out.setP BH) GP.out hf HX.out (TB.out.since S2.out (by omega) (by omega))).mono ?_
    rintro e9 W3 ⟨g', rfl, hc, hs⟩
    rw [← HD.out] at hc ⊢
    rw [← HF.out]
    unfold ftC
    have n3 := hs.ne (b := w.heap.size + 1) R2.out.lt (by omega)
    have m3 := hs.ne (b := w.heap.size) A2.out.lt (by omega)
    have o3 := hs.ne (b := q) B2.out.lt (by omega)
    have z3 := hs.size
    obtain ⟨y0, y1, y2, y3, y4⟩ := hc.lt
    have C3 := hide (hc.alloc (.cells #[.int .i64 F.v, .int .i64 F.pc, .int .i64 F.ad, .int .i64 F.wo, .bool F.wr] 38))
    have A3 := hide ((hs.blk A2.out (by omega) (by omega)).alloc (.cells #[.int .i64 F.v, .int .i64 F.pc, .int .i64 F.ad, .int .i64 F.wo, .bool F.wr] 38))
    have R3 := hide ((hs.blk R2.out (by omega) (by omega)).alloc (.cells #[.int .i64 F.v, .int .i64 F.pc, .int .i64 F.ad, .int .i64 F.wo, .bool F.wr] 38))
    have B3 := hide ((hs.blk B2.out (by omega) (by omega)).alloc (.cells #[.int .i64 F.v, .int .i64 F.pc, .int .i64 F.ad, .int .i64 F.wo, .bool F.wr] 38))
    have S3 := hide ((S2.out.trans hs).alloc (.cells #[.int .i64 F.v, .int .i64 F.pc, .int .i64 F.ad, .int .i64 F.wo, .bool F.wr] 38))
    have L3 := hide (Blk.new W3 #[.int .i64 F.v, .int .i64 F.pc, .int .i64 F.ad, .int .i64 F.wo, .bool F.wr] 38)
    have u3 := B3.out.lt
    have v3 : w.heap.size + 1 < W3.heap.size := by have := (hs.blk R2.out (by omega) (by omega)).lt; exact this
    have x3 : q < W3.heap.size := (hs.blk B2.out (by omega) (by omega)).lt
    clear hc hs C1 A1 R1 K1 B1 S2 A2 R2 B2
    go_wp2_with fail
    refine (isFault F _).mono ?_
    rintro e9 W4 ⟨rfl, kf⟩
    have C4 := hide (C3.out.any kf)
    have A4 := hide (A3.out.kept0 kf)
    have R4 := hide (R3.out.kept0 kf)
    have B4 := hide (B3.out.kept0 kf)
    have L4 := hide (L3.out.kept0 kf)
    have S4 := hide (S3.out.any kf)
    have q4 := L4.out.all
    have r4 := R4.out.all
    have rf4 := R4.out.fz
    clear kf C3 A3 R3 B3 L3 S3
    cases hv : (F.v != 0)
    · have E1 : Hid (c.dn ⟨op, z, r, m, k, e, s⟩ a = D) := hide (by rw [ET.out, show (F.v == 0) = true from by simpa using hv]; rfl)
      go_wp2_with fail
      have KR := (((((kept_one W4 (w.heap.size + 1) 0 (.int .i64 F.v)).one 1 (.int .i64 F.pc)).one 2 (.int .i64 F.ad)).one 3 (.int .i64 F.wo)).one 4 (.bool F.wr))
      refine bodyPost_ret (v := .agg #[.int .i64 F.v, .int .i64 F.pc, .int .i64 F.ad, .int .i64 F.wo, .bool F.wr]) ?_ rfl ⟨g', ?_, ?_, (S4.out).mine KR (by omega)⟩
      · rw [results_one rfl]; go_simp
      · rw [E1.out, ← HF.out]; rfl
      · rw [E1.out]; exact ((C4.out).kept KR (by omega) (by omega))
    · clear r4 rf4
      have b4 := B4.out.all
      unfold bkR at b4
      obtain ⟨y_0, y_1, y_2, y_3, y_4, y_5, y_6, y_7, y_8, y_9, y_10, y_11, y_12, y_13⟩ := C4.out.all14
      have yz := C4.out.fz
      have KY := hide (kept14 W4 b (.int .i64 (el c.r.xs 0)) (.int .i64 (el c.r.xs 1)) (.int .i64 (el c.r.xs 2)) (.int .i64 (el c.r.xs 3)) (.int .i64 (el c.r.ys 0)) (.int .i64 (el c.r.ys 1)) (.int .i64 (el c.r.ys 2)) (.int .i64 (el c.r.ys 3)) (.int .i64 c.r.o) (.int .i64 c.r.p) (.int .i64 c.r.f) (.int .i64 c.r.m) (.bool c.r.s) (.bool c.r.t))
      have C5 := hide (C4.out.bank c.r)
      obtain ⟨Y, hY⟩ : ∃ Y : World, ((((((((((((((W4.setCell ⟨b, 0, none⟩ (.int .i64 (el c.r.xs 0))).setCell ⟨b, 1, none⟩ (.int .i64 (el c.r.xs 1))).setCell ⟨b, 2, none⟩ (.int .i64 (el c.r.xs 2))).setCell ⟨b, 3, none⟩ (.int .i64 (el c.r.xs 3))).setCell ⟨b, 4, none⟩ (.int .i64 (el c.r.ys 0))).setCell ⟨b, 5, none⟩ (.int .i64 (el c.r.ys 1))).setCell ⟨b, 6, none⟩ (.int .i64 (el c.r.ys 2))).setCell ⟨b, 7, none⟩ (.int .i64 (el c.r.ys 3))).setCell ⟨b, 8, none⟩ (.int .i64 c.r.o)).setCell ⟨b, 9, none⟩ (.int .i64 c.r.p)).setCell ⟨b, 10, none⟩ (.int .i64 c.r.f)).setCell ⟨b, 11, none⟩ (.int .i64 c.r.m)).setCell ⟨b, 12, none⟩ (.bool c.r.s)).setCell ⟨b, 13, none⟩ (.bool c.r.t)) = Y := ⟨_, rfl⟩
      rw [hY] at KY C5
      have A5 := hide (A4.out.kept KY.out (by omega))
      have R5 := hide (R4.out.kept KY.out (by omega))
      have L5 := hide (L4.out.kept KY.out (by omega))
      have S5 := hide (S4.out.keptS KY.out (Nat.le_refl _) (Nat.le_refl _))
      have p5 := A5.out.all
      go_wp2_with fail
      refine (firstWord _ op z r m k e s).mono ?_
      rw [HN.out]
      rintro e9 W6 ⟨rfl, kf⟩
      have C6 := hide (C5.out.any kf)
      have R6 := hide (R5.out.kept0 kf)
      have L6 := hide (L5.out.kept0 kf)
      have S6 := hide (S5.out.any kf)
      have l6 := L6.out.all
      have lf6 := L6.out.fz
      clear kf p5 C5 A5 R5 L5 S5 y_0 y_1 y_2 y_3 y_4 y_5 y_6 y_7 y_8 y_9 y_10 y_11 y_12 y_13 b4 yz q4 hY
      have KZ := hide ((kept_one W6 W3.heap.size 1 (.int .i64 a)).one 3 (.int .i64 N))
      have L7 : Hid (Blk ((W6.setCell ⟨W3.heap.size, 1, none⟩ (.int .i64 a)).setCell ⟨W3.heap.size, 3, none⟩ (.int .i64 N)) W3.heap.size #[.int .i64 F.v, .int .i64 a, .int .i64 F.ad, .int .i64 N, .bool F.wr] 38) := hide ((L6.out.set 1 (.int .i64 a)).set 3 (.int .i64 N))
      obtain ⟨Z, hZ⟩ : ∃ Z : World, (W6.setCell ⟨W3.heap.size, 1, none⟩ (.int .i64 a)).setCell ⟨W3.heap.size, 3, none⟩ (.int .i64 N) = Z := ⟨_, rfl⟩
      rw [hZ] at KZ L7
      have C7 := hide (C6.out.kept KZ.out (by omega) (by omega))
      have R7 := hide (R6.out.kept KZ.out (by omega))
      have S7 := hide (S6.out.mine KZ.out (by omega))
      have l7 := L7.out.all
      cases ho : Pl.isOver F.v
      · have E1 : Hid (c.dn ⟨op, z, r, m, k, e, s⟩ a = { D with r := c.r, f := ⟨F.v, a, F.ad, N, F.wr⟩ }) := hide (by rw [ET.out, show (F.v == 0) = false from by simpa using hv, ho]; rfl)
        have r7 := R7.out.all
        have rf7 := R7.out.fz
        go_wp2_with (go_at_call 101; refine (isOver F.v _).mono ?_; rintro e9 w9 ⟨rfl, hw⟩; have hw2 := hw.symm; clear hw; subst hw2; rw [ho])
        have KR := (((((kept_one Z (w.heap.size + 1) 0 (.int .i64 F.v)).one 1 (.int .i64 a)).one 2 (.int .i64 F.ad)).one 3 (.int .i64 N)).one 4 (.bool F.wr))
        refine bodyPost_ret (v := .agg #[.int .i64 F.v, .int .i64 a, .int .i64 F.ad, .int .i64 N, .bool F.wr]) ?_ rfl ⟨g', ?_, ?_, (S7.out).mine KR (by omega)⟩
        · rw [results_one rfl]; go_simp
        · rw [E1.out]; rfl
        · rw [E1.out]; exact ((C7.out).kept KR (by omega) (by omega)).fx rfl rfl rfl rfl rfl
      · have E1 : Hid (c.dn ⟨op, z, r, m, k, e, s⟩ a = { D with r := c.r, f := ⟨F.v, BH, F.ad, N, F.wr⟩ }) := hide (by rw [ET.out, show (F.v == 0) = false from by simpa using hv, ho]; rfl)
        have lf7 := L7.out.fz
        have KV := hide (kept_one Z W3.heap.size 1 (.int .i64 BH))
        have L8 : Hid (Blk (Z.setCell ⟨W3.heap.size, 1, none⟩ (.int .i64 BH)) W3.heap.size #[.int .i64 F.v, .int .i64 BH, .int .i64 F.ad, .int .i64 N, .bool F.wr] 38) := hide (L7.out.set 1 (.int .i64 BH))
        obtain ⟨V, hV⟩ : ∃ V : World, Z.setCell ⟨W3.heap.size, 1, none⟩ (.int .i64 BH) = V := ⟨_, rfl⟩
        rw [hV] at KV L8
        have C8 := hide (C7.out.kept KV.out (by omega) (by omega))
        have R8 := hide (R7.out.kept KV.out (by omega))
        have S8 := hide (S7.out.mine KV.out (by omega))
        have l8 := L8.out.all
        have r8 := R8.out.all
        have rf8 := R8.out.fz
        go_wp2_with (go_at_call 101; refine (isOver F.v _).mono ?_; rintro e9 w9 ⟨rfl, hw⟩; have hw2 := hw.symm; clear hw; subst hw2; rw [ho])
        have KR := (((((kept_one V (w.heap.size + 1) 0 (.int .i64 F.v)).one 1 (.int .i64 BH)).one 2 (.int .i64 F.ad)).one 3 (.int .i64 N)).one 4 (.bool F.wr))
        refine bodyPost_ret (v := .agg #[.int .i64 F.v, .int .i64 BH, .int .i64 F.ad, .int .i64 N, .bool F.wr]) ?_ rfl ⟨g', ?_, ?_, (S8.out).mine KR (by omega)⟩
        · rw [results_one rfl]; go_simp
        · rw [E1.out]; rfl
        · rw [E1.out]; exact ((C8.out).kept KR (by omega) (by omega)).fx rfl rfl rfl rfl rfl
    
  case step =>
    intro l A W i hI hm
    obtain ⟨q, hFR, o0, o1, o2, o3, o4, o5, o6, o7, o8, o9, o10, o11, o12, ox, o11w, hK⟩ := hI
    obtain ⟨hi1, hi2⟩ := ready_new hm
    have hsz : Hid (19 < A.tmps.size) := hide (by rw [hFR.size]; simp)
    have m0 : A.tmps[0]? = some (.pointer (some ⟨b, 0, none⟩)) := (hFR.out 0 (by decide)).trans rfl
    have m2 : A.tmps[2]? = some (.int .i64 a) := (hFR.out 2 (by decide)).trans rfl
    have m4 : A.tmps[4]? = some (.pointer (some ⟨w.heap.size, 0, none⟩)) := (hFR.out 4 (by decide)).trans rfl
    rcases i with _ | _ | _ | _ | _ | _ | _ | _ | _ | _ | _ | _ | _ | i
    · refine wpOp_step rfl (fun KK hK2 => ?_)
      go_simp
      exact hK2 (A.put (some 10) (.pointer (some ⟨b, 0, none⟩))) _ ⟨q, hFR.put (by decide) _, .now (put_eq (by have hz := hsz.out; omega)), o1.past (by decide) (fun h => (put_ne (by decide)).trans h), o2.past (by decide) (fun h => (put_ne (by decide)).trans h), o3.past (by decide) (fun h => (put_ne (by decide)).trans h), o4.past (by decide) (fun h => (put_ne (by decide)).trans h), o5.past (by decide) (fun h => (put_ne (by decide)).trans h), o6.past (by decide) (fun h => (put_ne (by decide)).trans h), o7.past (by decide) (fun h => (put_ne (by decide)).trans h), o8.past (by decide) (fun h => (put_ne (by decide)).trans h), o9.past (by decide) (fun h => (put_ne (by decide)).trans h), o10.past (by decide) (fun h => (put_ne (by decide)).trans h), o11.past (by decide) id, o12.past (by decide) (fun h => (put_ne (by decide)).trans h), ox.past (by decide) (fun h => by rw [getD_set_ne (by decide)]; exact h), (fun e => by rw [getD_set_ne (by decide)] at e ⊢; exact o11w e), hK⟩
    · have e0 := o0 (ready_dep hm 0 (by kernel_rfl))
      refine wpOp_step rfl (fun KK hK2 => ?_)
      go_simp
      exact hK2 (A.put (some 11) (.pointer (some ⟨b, 0, none⟩))) _ ⟨q, hFR.put (by decide) _, o0.past (by decide) (fun h => (put_ne (by decide)).trans h), .now (put_eq (by have hz := hsz.out; omega)), o2.past (by decide) (fun h => (put_ne (by decide)).trans h), o3.past (by decide) (fun h => (put_ne (by decide)).trans h), o4.past (by decide) (fun h => (put_ne (by decide)).trans h), o5.past (by decide) (fun h => (put_ne (by decide)).trans h), o6.past (by decide) (fun h => (put_ne (by decide)).trans h), o7.past (by decide) (fun h => (put_ne (by decide)).trans h), o8.past (by decide) (fun h => (put_ne (by decide)).trans h), o9.past (by decide) (fun h => (put_ne (by decide)).trans h), o10.past (by decide) (fun h => (put_ne (by decide)).trans h), o11.past (by decide) id, o12.past (by decide) (fun h => (put_ne (by decide)).trans h), ox.past (by decide) (fun h => by rw [getD_set_ne (by decide)]; exact h), (fun e => by rw [getD_set_ne (by decide)] at e ⊢; exact o11w e), hK⟩
    · have e1 := o1 (ready_dep hm 1 (by kernel_rfl))
      refine wpOp_step rfl (fun KK hK2 => ?_)
      go_simp
      exact hK2 (A.put (some 12) (.pointer (some ⟨b, 0, none⟩))) _ ⟨q, hFR.put (by decide) _, o0.past (by decide) (fun h => (put_ne (by decide)).trans h), o1.past (by decide) (fun h => (put_ne (by decide)).trans h), .now (put_eq (by have hz := hsz.out; omega)), o3.past (by decide) (fun h => (put_ne (by decide)).trans h), o4.past (by decide) (fun h => (put_ne (by decide)).trans h), o5.past (by decide) (fun h => (put_ne (by decide)).trans h), o6.past (by decide) (fun h => (put_ne (by decide)).trans h), o7.past (by decide) (fun h => (put_ne (by decide)).trans h), o8.past (by decide) (fun h => (put_ne (by decide)).trans h), o9.past (by decide) (fun h => (put_ne (by decide)).trans h), o10.past (by decide) (fun h => (put_ne (by decide)).trans h), o11.past (by decide) id, o12.past (by decide) (fun h => (put_ne (by decide)).trans h), ox.past (by decide) (fun h => by rw [getD_set_ne (by decide)]; exact h), (fun e => by rw [getD_set_ne (by decide)] at e ⊢; exact o11w e), hK⟩
    · have e2 := o2 (ready_dep hm 2 (by kernel_rfl))
      have y := (C0.out.any hK).all14
      obtain ⟨y0, y1, y2, y3, y4, y5, y6, y7, y8, y9, y10, y11, y12, y13⟩ := y
      refine wpOp_step rfl (fun KK hK2 => ?_)
      go_simp
      exact hK2 (A.put (some 13) (.agg (bkR c.r))) _ ⟨q, hFR.put (by decide) _, o0.past (by decide) (fun h => (put_ne (by decide)).trans h), o1.past (by decide) (fun h => (put_ne (by decide)).trans h), o2.past (by decide) (fun h => (put_ne (by decide)).trans h), .now (put_eq (by have hz := hsz.out; omega)), o4.past (by decide) (fun h => (put_ne (by decide)).trans h), o5.past (by decide) (fun h => (put_ne (by decide)).trans h), o6.past (by decide) (fun h => (put_ne (by decide)).trans h), o7.past (by decide) (fun h => (put_ne (by decide)).trans h), o8.past (by decide) (fun h => (put_ne (by decide)).trans h), o9.past (by decide) (fun h => (put_ne (by decide)).trans h), o10.past (by decide) (fun h => (put_ne (by decide)).trans h), o11.past (by decide) id, o12.past (by decide) (fun h => (put_ne (by decide)).trans h), ox.past (by decide) (fun h => by rw [getD_set_ne (by decide)]; exact h), (fun e => by rw [getD_set_ne (by decide)] at e ⊢; exact o11w e), hK⟩
    · refine wpOp_step rfl (fun KK hK2 => ?_)
      go_simp
      exact hK2 (A.put (some 14) (.int .i64 a)) _ ⟨q, hFR.put (by decide) _, o0.past (by decide) (fun h => (put_ne (by decide)).trans h), o1.past (by decide) (fun h => (put_ne (by decide)).trans h), o2.past (by decide) (fun h => (put_ne (by decide)).trans h), o3.past (by decide) (fun h => (put_ne (by decide)).trans h), .now (put_eq (by have hz := hsz.out; omega)), o5.past (by decide) (fun h => (put_ne (by decide)).trans h), o6.past (by decide) (fun h => (put_ne (by decide)).trans h), o7.past (by decide) (fun h => (put_ne (by decide)).trans h), o8.past (by decide) (fun h => (put_ne (by decide)).trans h), o9.past (by decide) (fun h => (put_ne (by decide)).trans h), o10.past (by decide) (fun h => (put_ne (by decide)).trans h), o11.past (by decide) id, o12.past (by decide) (fun h => (put_ne (by decide)).trans h), ox.past (by decide) (fun h => by rw [getD_set_ne (by decide)]; exact h), (fun e => by rw [getD_set_ne (by decide)] at e ⊢; exact o11w e), hK⟩
    · have BL := hide (A0.out.kept0 hK)
      obtain ⟨x0, x1, x2, x3, x4, x5, x6⟩ := BL.out.c7
      refine wpOp_step rfl (fun KK hK2 => ?_)
      go_simp
      exact hK2 (A.put (some 15) (.agg #[.int .i64 op, .int .i64 z, .int .i64 r, .int .i64 m, .int .i64 k, .int .i64 e, .int .i64 s])) _ ⟨q, hFR.put (by decide) _, o0.past (by decide) (fun h => (put_ne (by decide)).trans h), o1.past (by decide) (fun h => (put_ne (by decide)).trans h), o2.past (by decide) (fun h => (put_ne (by decide)).trans h), o3.past (by decide) (fun h => (put_ne (by decide)).trans h), o4.past (by decide) (fun h => (put_ne (by decide)).trans h), .now (put_eq (by have hz := hsz.out; omega)), o6.past (by decide) (fun h => (put_ne (by decide)).trans h), o7.past (by decide) (fun h => (put_ne (by decide)).trans h), o8.past (by decide) (fun h => (put_ne (by decide)).trans h), o9.past (by decide) (fun h => (put_ne (by decide)).trans h), o10.past (by decide) (fun h => (put_ne (by decide)).trans h), o11.past (by decide) id, o12.past (by decide) (fun h => (put_ne (by decide)).trans h), ox.past (by decide) (fun h => by rw [getD_set_ne (by decide)]; exact h), (fun e => by rw [getD_set_ne (by decide)] at e ⊢; exact o11w e), hK⟩
    · have e5 := o5 (ready_dep hm 5 (by kernel_rfl))
      refine wpOp_step rfl (fun KK hK2 => ?_)
      go_simp
      refine (lengthOf W op z r m k e s wfm).mono ?_
      rw [HL.out]
      rintro r9 y ⟨rfl, kd⟩
      go_simp
      exact hK2 (A.put (some 16) (.int .i64 L)) _ ⟨q, hFR.put (by decide) _, o0.past (by decide) (fun h => (put_ne (by decide)).trans h), o1.past (by decide) (fun h => (put_ne (by decide)).trans h), o2.past (by decide) (fun h => (put_ne (by decide)).trans h), o3.past (by decide) (fun h => (put_ne (by decide)).trans h), o4.past (by decide) (fun h => (put_ne (by decide)).trans h), o5.past (by decide) (fun h => (put_ne (by decide)).trans h), .now (put_eq (by have hz := hsz.out; omega)), o7.past (by decide) (fun h => (put_ne (by decide)).trans h), o8.past (by decide) (fun h => (put_ne (by decide)).trans h), o9.past (by decide) (fun h => (put_ne (by decide)).trans h), o10.past (by decide) (fun h => (put_ne (by decide)).trans h), o11.past (by decide) id, o12.past (by decide) (fun h => (put_ne (by decide)).trans h), ox.past (by decide) (fun h => by rw [getD_set_ne (by decide)]; exact ⟨h.1, h.2.kept0 kd⟩), (fun e => by rw [getD_set_ne (by decide)] at e ⊢; exact o11w e), (hK.trans kd)⟩
    · have e6 := o6 (ready_dep hm 6 (by kernel_rfl))
      refine wpOp_step rfl (fun KK hK2 => ?_)
      go_simp
      exact hK2 (A.put (some 17) (.int .i64 (L * 2))) _ ⟨q, hFR.put (by decide) _, o0.past (by decide) (fun h => (put_ne (by decide)).trans h), o1.past (by decide) (fun h => (put_ne (by decide)).trans h), o2.past (by decide) (fun h => (put_ne (by decide)).trans h), o3.past (by decide) (fun h => (put_ne (by decide)).trans h), o4.past (by decide) (fun h => (put_ne (by decide)).trans h), o5.past (by decide) (fun h => (put_ne (by decide)).trans h), o6.past (by decide) (fun h => (put_ne (by decide)).trans h), .now (put_eq (by have hz := hsz.out; omega)), o8.past (by decide) (fun h => (put_ne (by decide)).trans h), o9.past (by decide) (fun h => (put_ne (by decide)).trans h), o10.past (by decide) (fun h => (put_ne (by decide)).trans h), o11.past (by decide) id, o12.past (by decide) (fun h => (put_ne (by decide)).trans h), ox.past (by decide) (fun h => by rw [getD_set_ne (by decide)]; exact h), (fun e => by rw [getD_set_ne (by decide)] at e ⊢; exact o11w e), hK⟩
    · have e4 := o4 (ready_dep hm 4 (by kernel_rfl))
      have e7 := o7 (ready_dep hm 7 (by kernel_rfl))
      refine wpOp_step rfl (fun KK hK2 => ?_)
      go_simp
      exact hK2 (A.put (some 18) (.int .i64 (a + L * 2))) _ ⟨q, hFR.put (by decide) _, o0.past (by decide) (fun h => (put_ne (by decide)).trans h), o1.past (by decide) (fun h => (put_ne (by decide)).trans h), o2.past (by decide) (fun h => (put_ne (by decide)).trans h), o3.past (by decide) (fun h => (put_ne (by decide)).trans h), o4.past (by decide) (fun h => (put_ne (by decide)).trans h), o5.past (by decide) (fun h => (put_ne (by decide)).trans h), o6.past (by decide) (fun h => (put_ne (by decide)).trans h), o7.past (by decide) (fun h => (put_ne (by decide)).trans h), .now (put_eq (by have hz := hsz.out; omega)), o9.past (by decide) (fun h => (put_ne (by decide)).trans h), o10.past (by decide) (fun h => (put_ne (by decide)).trans h), o11.past (by decide) id, o12.past (by decide) (fun h => (put_ne (by decide)).trans h), ox.past (by decide) (fun h => by rw [getD_set_ne (by decide)]; exact h), (fun e => by rw [getD_set_ne (by decide)] at e ⊢; exact o11w e), hK⟩
    · have e8 := o8 (ready_dep hm 8 (by kernel_rfl))
      refine wpOp_step rfl (fun KK hK2 => ?_)
      go_simp
      refine (wrapWord (a + L * 2) W).mono ?_
      rw [HBH.out]
      rintro r9 y ⟨rfl, kd⟩
      rw [kd]
      go_simp
      exact hK2 (A.put (some 19) (.int .i64 BH)) _ ⟨q, hFR.put (by decide) _, o0.past (by decide) (fun h => (put_ne (by decide)).trans h), o1.past (by decide) (fun h => (put_ne (by decide)).trans h), o2.past (by decide) (fun h => (put_ne (by decide)).trans h), o3.past (by decide) (fun h => (put_ne (by decide)).trans h), o4.past (by decide) (fun h => (put_ne (by decide)).trans h), o5.past (by decide) (fun h => (put_ne (by decide)).trans h), o6.past (by decide) (fun h => (put_ne (by decide)).trans h), o7.past (by decide) (fun h => (put_ne (by decide)).trans h), o8.past (by decide) (fun h => (put_ne (by decide)).trans h), .now (put_eq (by have hz := hsz.out; omega)), o10.past (by decide) (fun h => (put_ne (by decide)).trans h), o11.past (by decide) id, o12.past (by decide) (fun h => (put_ne (by decide)).trans h), ox.past (by decide) (fun h => by rw [getD_set_ne (by decide)]; exact h), (fun e => by rw [getD_set_ne (by decide)] at e ⊢; exact o11w e), hK⟩
    · have n11 : l.getD 11 true = false := by cases q11 : l.getD 11 true; rfl; have := o11w q11; rw [hi2] at this; cases this
      refine wpOp_step rfl (fun KK hK2 => ?_)
      go_simp
      exact hK2 (A.put (some 7) (.pointer (some ⟨W.heap.size, 0, none⟩))) _ ⟨W.heap.size, hFR.put (by decide) _, o0.past (by decide) (fun h => (put_ne (by decide)).trans h), o1.past (by decide) (fun h => (put_ne (by decide)).trans h), o2.past (by decide) (fun h => (put_ne (by decide)).trans h), o3.past (by decide) (fun h => (put_ne (by decide)).trans h), o4.past (by decide) (fun h => (put_ne (by decide)).trans h), o5.past (by decide) (fun h => (put_ne (by decide)).trans h), o6.past (by decide) (fun h => (put_ne (by decide)).trans h), o7.past (by decide) (fun h => (put_ne (by decide)).trans h), o8.past (by decide) (fun h => (put_ne (by decide)).trans h), o9.past (by decide) (fun h => (put_ne (by decide)).trans h), .now (put_eq (by have hz := hsz.out; omega)), o11.past (by decide) id, o12.past (by decide) (fun h => (put_ne (by decide)).trans h), .now ⟨hK.size, by rw [getD_set_ne (by decide), n11]; exact Blk.new W _ _⟩, (fun e => getD_set_eq), (kept_new hK _)⟩
    · have e10 := o10 (ready_dep hm 10 (by kernel_rfl))
      have e3 := o3 (ready_dep hm 3 (by kernel_rfl))
      have oq := ox (ready_dep hm 10 (by kernel_rfl))
      unfold bkR at e3
      have oR2 : Blk W q #[.int .i64 0, .int .i64 0, .int .i64 0, .int .i64 0, .int .i64 0, .int .i64 0, .int .i64 0, .int .i64 0, .int .i64 0, .int .i64 0, .int .i64 0, .int .i64 0, .bool false, .bool false] 89 := by have := oq.2; rw [hi2] at this; exact this
      have OR := hide oR2
      have qa := OR.out.all
      have qf := OR.out.fz
      refine wpOp_step rfl (fun KK hK2 => ?_)
      go_simp
      exact hK2 A _ ⟨q, hFR, o0.past (by decide) id, o1.past (by decide) id, o2.past (by decide) id, o3.past (by decide) id, o4.past (by decide) id, o5.past (by decide) id, o6.past (by decide) id, o7.past (by decide) id, o8.past (by decide) id, o9.past (by decide) id, o10.past (by decide) id, .now trivial, o12.past (by decide) id, (fun _ => ⟨oq.1, by rw [getD_set_eq]; exact Blk.whole14 oR2⟩), (fun _ => by rw [getD_set_ne (by decide)]; exact ready_dep hm 10 (by kernel_rfl)), (kept_set (kept_set (kept_set (kept_set (kept_set (kept_set (kept_set (kept_set (kept_set (kept_set (kept_set (kept_set (kept_set (kept_set hK _ _ _ (.inr oq.1)) _ _ _ (.inr oq.1)) _ _ _ (.inr oq.1)) _ _ _ (.inr oq.1)) _ _ _ (.inr oq.1)) _ _ _ (.inr oq.1)) _ _ _ (.inr oq.1)) _ _ _ (.inr oq.1)) _ _ _ (.inr oq.1)) _ _ _ (.inr oq.1)) _ _ _ (.inr oq.1)) _ _ _ (.inr oq.1)) _ _ _ (.inr oq.1)) _ _ _ (.inr oq.1))⟩
    · have e9 := o9 (ready_dep hm 9 (by kernel_rfl))
      refine wpOp_step rfl (fun KK hK2 => ?_)
      go_simp
      exact hK2 (A.put (some 8) (.int .i64 BH)) _ ⟨q, hFR.put (by decide) _, o0.past (by decide) (fun h => (put_ne (by decide)).trans h), o1.past (by decide) (fun h => (put_ne (by decide)).trans h), o2.past (by decide) (fun h => (put_ne (by decide)).trans h), o3.past (by decide) (fun h => (put_ne (by decide)).trans h), o4.past (by decide) (fun h => (put_ne (by decide)).trans h), o5.past (by decide) (fun h => (put_ne (by decide)).trans h), o6.past (by decide) (fun h => (put_ne (by decide)).trans h), o7.past (by decide) (fun h => (put_ne (by decide)).trans h), o8.past (by decide) (fun h => (put_ne (by decide)).trans h), o9.past (by decide) (fun h => (put_ne (by decide)).trans h), o10.past (by decide) (fun h => (put_ne (by decide)).trans h), o11.past (by decide) id, .now (put_eq (by have hz := hsz.out; omega)), ox.past (by decide) (fun h => by rw [getD_set_ne (by decide)]; exact h), (fun e => by rw [getD_set_ne (by decide)] at e ⊢; exact o11w e), hK⟩
    · simp at hi1
      omega
end Go.Proofs.YtblddehlkaolbaaGreatDoor

namespace Go.Proofs.YtblddehlkaolbaaGreatDoor
open Go.RowKit
set_option linter.unusedVariables false
theorem Pl.fetF_ok {c : Pl.Mc} (h : (c.fetF.v == 0) = true) : Pl.inOk c.fetI = true := by
  cases hf : c.fetch.fine
  · have e : c.fetF = c.fetch.f := by unfold Pl.Mc.fetF; rw [hf]; rfl
    rw [e] at h
    unfold Pl.Mc.fine at hf
    rw [h] at hf; cases hf
  · exact (Pl.fetch_ok hf).1
set_option maxRecDepth 100000 in
set_option maxHeartbeats 8000000 in
theorem cStep (w : World) (lo b g : Nat) (c : Pl.Mc) (h : Bool) (hC : CAt w lo b g c h) (G : Pl.GM c) (hf : c.f = Pl.ftNo) (ht : TabsAt w lo) :
    Calls Tryz.prog 23 #[.pointer (some ⟨b, 0, none⟩)] w fun e' w' => ∃ g', e' = .returned (.agg (ftC c.sp.f)) ∧ CAt w' lo b g' (c.sp) h ∧ Since w b (b + 1) g w' g' := by
  obtain ⟨l0, l1, l2, l3, l4⟩ := hC.lt
  obtain ⟨F, hF⟩ : ∃ F, F = c.fetF := ⟨_, rfl⟩
  obtain ⟨x, hx⟩ : ∃ x, x = c.fetI := ⟨_, rfl⟩
  obtain ⟨N, hN⟩ : ∃ N, N = c.fetN := ⟨_, rfl⟩
  obtain ⟨E, hE⟩ : ∃ E, E = c.fetch := ⟨_, rfl⟩
  have ES : Hid (c.sp = bif F.v == 0 then E.nf.dn x c.r.p else { E with f := F }) := hide (by unfold Pl.Mc.sp; rw [hF, hx, hE])
  have XO : Hid ((F.v == 0) = true → Pl.inOk x = true) := hide (by rw [hF, hx]; exact Pl.fetF_ok)
  have GE : Hid (Pl.GM E) := hide (by rw [hE]; exact G.fetch)
  have ER : Hid (E.r = c.r) := hide (by rw [hE]; exact Pl.fetch_r.1)
  have HG := hide G
  have HF := hide hF
  have HX := hide hx
  have HN := hide hN
  have HE := hide hE
  have TB := hide ht
  have K0 := hide (kept_alloc w (.cells #[.int .i64 0, .int .i64 0, .int .i64 0, .int .i64 0, .bool false] 38))
  have C0 := hide (hC.alloc (.cells #[.int .i64 0, .int .i64 0, .int .i64 0, .int .i64 0, .bool false] 38))
  have R0 := hide (Blk.new w #[.int .i64 0, .int .i64 0, .int .i64 0, .int .i64 0, .bool false] 38)
  obtain ⟨X, hX⟩ : ∃ X : World, w.alloc (.cells #[.int .i64 0, .int .i64 0, .int .i64 0, .int .i64 0, .bool false] 38) = X := ⟨_, rfl⟩
  rw [hX] at K0 C0 R0
  have sX : w.heap.size < X.heap.size := R0.out.lt
  clear hC G hF hx hN hE ht
  go_enter Tryz.func23, Tryz.ntmps23
  go_wp2_with fail
  refine (cFetch _ lo b g c h C0.out HG.out hf).mono ?_
  rintro e9 W1 ⟨g1, rfl, hc, hs⟩
  rw [← HE.out] at hc
  rw [← HX.out, ← HN.out, ← HF.out]
  unfold ftC insC
  have n1 := hs.ne (b := w.heap.size) R0.out.lt (by omega)
  have z1 := hs.size
  obtain ⟨y0, y1, y2, y3, y4⟩ := hc.lt
  have C1 := hide ((hc.alloc (.cells #[.int .i64 x.op, .int .i64 x.z, .int .i64 x.r, .int .i64 x.m, .int .i64 x.k, .int .i64 x.e, .int .i64 x.s] 79)).alloc (.cells #[.int .i64 F.v, .int .i64 F.pc, .int .i64 F.ad, .int .i64 F.wo, .bool F.wr] 38))
  have R1 := hide (((hs.blk R0.out (by omega) (by omega)).alloc (.cells #[.int .i64 x.op, .int .i64 x.z, .int .i64 x.r, .int .i64 x.m, .int .i64 x.k, .int .i64 x.e, .int .i64 x.s] 79)).alloc (.cells #[.int .i64 F.v, .int .i64 F.pc, .int .i64 F.ad, .int .i64 F.wo, .bool F.wr] 38))
  have S1 := hide (((((Since.refl w b (b + 1) g).any K0.out).trans hs).alloc (.cells #[.int .i64 x.op, .int .i64 x.z, .int .i64 x.r, .int .i64 x.m, .int .i64 x.k, .int .i64 x.e, .int .i64 x.s] 79)).alloc (.cells #[.int .i64 F.v, .int .i64 F.pc, .int .i64 F.ad, .int .i64 F.wo, .bool F.wr] 38))
  have A1 := hide ((Blk.new W1 #[.int .i64 x.op, .int .i64 x.z, .int .i64 x.r, .int .i64 x.m, .int .i64 x.k, .int .i64 x.e, .int .i64 x.s] 79).alloc (.cells #[.int .i64 F.v, .int .i64 F.pc, .int .i64 F.ad, .int .i64 F.wo, .bool F.wr] 38))
  have L1 := Blk.new (W1.alloc (.cells #[.int .i64 x.op, .int .i64 x.z, .int .i64 x.r, .int .i64 x.m, .int .i64 x.k, .int .i64 x.e, .int .i64 x.s] 79)) #[.int .i64 F.v, .int .i64 F.pc, .int .i64 F.ad, .int .i64 F.wo, .bool F.wr] 38
  simp only [World.size_alloc] at L1
  replace L1 := hide L1
  clear hc hs hX
  go_wp2_with fail
  refine (isFault F _).mono ?_
  rintro e9 W2 ⟨rfl, kf⟩
  have C2 := hide (C1.out.any kf)
  have R2 := hide (R1.out.kept0 kf)
  have A2 := hide (A1.out.kept0 kf)
  have L2 := hide (L1.out.kept0 kf)
  have S2 := hide (S1.out.any kf)
  clear kf C1 R1 A1 L1 S1
  cases hv : (F.v != 0)
  · have h0 : (F.v == 0) = true := by simpa using hv
    have XK := hide (XO.out h0)
    have E1 : Hid (c.sp = E.nf.dn x c.r.p) := hide (by rw [ES.out, h0]; rfl)
    clear h0
    go_wp2_with fail
    refine wp_region_still_tail 7 (by kernel_rfl) (by kernel_rfl) ?_
    simp only [List.take_succ_cons, List.take_zero, List.drop_succ_cons, List.drop_zero]
    obtain ⟨Y, hY⟩ : ∃ Y : World, Y = { W2 with drawn := W2.drawn + 1 } := ⟨_, rfl⟩
    rw [← hY]
    have kY : Kept 0 0 W2 Y := by rw [hY]; exact kept_drew (Kept.refl _ _ _)
    have C3 := hide (C2.out.any kY)
    have R3 := hide (R2.out.kept0 kY)
    have A3 := hide (A2.out.kept0 kY)
    have S3 := hide (S2.out.any kY)
    clear hY kY C2 R2 A2 L2 S2
    have p9 := C3.out.cP
    rw [ER.out] at p9
    have q := A3.out.all
    iterate 7 still_step
    refine wpStill_nil ?_
    have C4 : Hid (CAt Y lo b g1 E.nf h) := hide (C3.out.fx rfl rfl rfl rfl rfl)
    clear p9 q
    go_wp2_with (go_at_call 53; refine (cDo _ lo b g1 E.nf h x.op x.z x.r x.m x.k x.e x.s c.r.p C4.out (GE.out.ft Pl.ftNo) rfl XK.out (TB.out.since S3.out (by omega) (by omega)) HG.out.p0 HG.out.p1).mono ?_; rintro e9 W5 ⟨g', rfl, hc, hs⟩; rw [← show _ = E.nf.dn x c.r.p from E1.out] at hc ⊢; obtain ⟨Q, hQ⟩ : ∃ Q, Q = c.sp.f := ⟨_, rfl⟩; rw [← hQ]; unfold ftC; have HQ := hide hQ; clear hQ; have C5 := hide hc; have n5 := hs.ne (b := w.heap.size) R3.out.lt (by omega); have R5 := hide (hs.blk R3.out (by omega) (by omega)); have S5 := hide (S3.out.trans hs); have r5 := R5.out.all; have rf5 := R5.out.fz; clear hc hs)
    have KR := (((((kept_one W5 w.heap.size 0 (.int .i64 Q.v)).one 1 (.int .i64 Q.pc)).one 2 (.int .i64 Q.ad)).one 3 (.int .i64 Q.wo)).one 4 (.bool Q.wr))
    refine bodyPost_ret (v := .agg #[.int .i64 Q.v, .int .i64 Q.pc, .int .i64 Q.ad, .int .i64 Q.wo, .bool Q.wr]) ?_ rfl ⟨g', ?_, (C5.out).kept KR (by omega) (by omega), (S5.out).mine KR (by omega)⟩
    · rw [results_one rfl]; go_simp
    · rw [← HQ.out]; rfl
  · have E1 : Hid (c.sp = { E with f := F }) := hide (by rw [ES.out, show (F.v == 0) = false from by simpa using hv]; rfl)
    have l2 := L2.out.all
    have r2 := R2.out.all
    have rf2 := R2.out.fz
    go_wp2_with fail
    have KR := (((((kept_one W2 w.heap.size 0 (.int .i64 F.v)).one 1 (.int .i64 F.pc)).one 2 (.int .i64 F.ad)).one 3 (.int .i64 F.wo)).one 4 (.bool F.wr))
    refine bodyPost_ret (v := .agg #[.int .i64 F.v, .int .i64 F.pc, .int .i64 F.ad, .int .i64 F.wo, .bool F.wr]) ?_ rfl ⟨g1, ?_, ?_, (S2.out).mine KR (by omega)⟩
    · rw [results_one rfl]; go_simp
    · rw [E1.out]; rfl
    · rw [E1.out]; exact ((C2.out).kept KR (by omega) (by omega)).fx rfl rfl rfl rfl rfl
end Go.Proofs.YtblddehlkaolbaaGreatDoor

namespace Go.Proofs.YtblddehlkaolbaaGreatDoor
open Go.RowKit
set_option linter.unusedVariables false

/-- a board's cells: 512 bytes and the log -/
def brd (xs : List Int) (u : Value) : Array Value := (cellsOf xs).push u
theorem brd_at {xs : List Int} {u : Value} {i : Nat} (hi : i < xs.length) : (brd xs u)[i]? = some (.int .i64 (el xs i)) := by
  simp [brd, cellsOf, el, hi]
  rw [List.getElem?_append_left (by simpa using hi)]
  simp [hi]
theorem brd_log {xs : List Int} {u : Value} (hl : xs.length = 512) : (brd xs u)[512]? = some u := by
  simp [brd, cellsOf, hl]
end Go.Proofs.YtblddehlkaolbaaGreatDoor

