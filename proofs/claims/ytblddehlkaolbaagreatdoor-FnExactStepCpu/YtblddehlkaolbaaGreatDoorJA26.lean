/- A frame of which some slots alone are written: for a drawn region walked by what holds, the frame a variable. The region of the program's GoodOperand, drawn and guarded: every way to name an operand, every order at once. What the program's GoodOperand answers, for every argument. What the program's NeedsExt answers, for every argument. What the program's small functions of chapter 7 answer: tests of modes, the first word, the instruction of two words. The first word of an instruction and the instruction of two words, as the program makes them. Whether an instruction comes back from its words, and the tests of what leads elsewhere, as the program makes them. -/
import Derived.Test.YtblddehlkaolbaaGreatDoorJA25
import Derived.Test.YtblddehlkaolbaaGreatDoorJA24
import Derived.RegionTactic
import Derived.BigQuiet
import Derived.Deep.QuietTactic
import Derived.Test.YtblddehlkaolbaaGreatDoorJA23
import Derived.Test.YtblddehlkaolbaaGreatDoorJA9
namespace Go.Proofs.YtblddehlkaolbaaGreatDoor
open Go.RowKit
set_option linter.unusedVariables false

/-- the frame A is A0 but for these slots -/
structure FR (SL : List Nat) (A0 A : Act) : Prop where
  size : A.tmps.size = A0.tmps.size
  defers : A.defers = A0.defers
  out : ∀ k, k ∉ SL → A.tmps[k]? = A0.tmps[k]?
theorem FR.refl (SL : List Nat) (A : Act) : FR SL A A := ⟨rfl, rfl, fun _ _ => rfl⟩
theorem put_ne {A : Act} {j k : Nat} {v : Value} (h : k ≠ j) : (A.put (some j) v).tmps[k]? = A.tmps[k]? := by
  show (A.tmps.setIfInBounds j v)[k]? = _
  rw [Array.getElem?_setIfInBounds_ne (Ne.symm h)]
theorem put_eq {A : Act} {k : Nat} {v : Value} (h : k < A.tmps.size) : (A.put (some k) v).tmps[k]? = some v := by
  show (A.tmps.setIfInBounds k v)[k]? = _
  rw [Array.getElem?_setIfInBounds]
  simp [h]
theorem FR.put {SL : List Nat} {A0 A : Act} (h : FR SL A0 A) {k : Nat} (hk : k ∈ SL) (v : Value) : FR SL A0 (A.put (some k) v) := by
  refine ⟨?_, h.defers, fun j hj => ?_⟩
  · show (A.tmps.setIfInBounds k v).size = _
    rw [Array.size_setIfInBounds]; exact h.size
  · rw [put_ne (fun e => hj (by rw [e]; exact hk))]; exact h.out j hj
theorem act_ext {A B : Act} (hs : A.tmps.size = B.tmps.size) (hd : A.defers = B.defers) (h : ∀ k : Nat, A.tmps[k]? = B.tmps[k]?) : A = B := by
  cases A; cases B
  simp only at hs hd h
  subst hd
  congr 1
  exact Array.ext_getElem? h
theorem chain_of {A : Act} : ∀ (SL : List Nat) (B : Act), A.tmps.size = B.tmps.size → A.defers = B.defers → (∀ k, k ∉ SL → A.tmps[k]? = B.tmps[k]?) → A = SL.foldl (fun a k => a.put (some k) (A.tmps.getD k undef)) B
  | [], B, hs, hd, h => act_ext hs hd (fun k => h k (by simp))
  | k :: t, B, hs, hd, h => by
    refine chain_of t (B.put (some k) (A.tmps.getD k undef)) ?_ hd (fun j hj => ?_)
    · show _ = (B.tmps.setIfInBounds k _).size
      rw [Array.size_setIfInBounds]; exact hs
    · by_cases e : j = k
      · subst e
        by_cases hb : j < B.tmps.size
        · rw [put_eq hb]
          have : j < A.tmps.size := by omega
          rw [Array.getElem?_eq_getElem this]
          simp [Array.getD_eq_getD_getElem?, this]
        · show _ = (B.tmps.setIfInBounds j _)[j]?
          rw [Array.getElem?_eq_none (by omega), Array.getElem?_eq_none (by rw [Array.size_setIfInBounds]; omega)]
      · rw [put_ne e]
        exact h j (by simp [e, hj])
theorem FR.chain {SL : List Nat} {A0 A : Act} (h : FR SL A0 A) : A = SL.foldl (fun a k => a.put (some k) (A.tmps.getD k undef)) A0 := chain_of SL A0 h.size h.defers h.out
theorem getD_of {A : Act} {k : Nat} {v : Value} (h : A.tmps[k]? = some v) : A.tmps.getD k undef = v := by
  rw [Array.getD_eq_getD_getElem?, h]; rfl
theorem wp_region_inv2 {P : Program} {ops : Array Oper} {Q : Exit → Act → World → Prop} {id : Nat} {a : Act} {w : World} (I : Act → Array Bool → Act → World → Prop) (hm : P.follows .mixedOrders = true) (hB : lowB .any ops = true)
    (hstart : I a (Array.replicate ops.size false) a w.drew)
    (hfin : ∀ l A w, I a l A w → (∀ i, i < ops.size → l.getD i true = true) → Q .normal A w)
    (hstep : ∀ l A w i, I a l A w → i ∈ Region.ready .any ops l → wpOp P ops Q i (I a (l.setIfInBounds i true)) A w) :
    (Code.region id ops true).wp P Q a w := wp_region_inv (I a) hm hB hstart hfin hstep
end Go.Proofs.YtblddehlkaolbaaGreatDoor

namespace Go.Proofs.YtblddehlkaolbaaGreatDoor
open Go.RowKit
set_option linter.unusedVariables false
theorem bfe (b : Bool) : b = false ∨ b = true := by cases b <;> simp
theorem wpOp_on {P : Program} {ops : Array Oper} {Q : Exit → Act → World → Prop} {i : Nat} {o : Oper} {K : Act → World → Prop} {a : Act} {w : World} (ho : ops[i]? = some o) {j s : Nat} {b : Bool} (hg : o.guard = some (j, b)) (hd : (ops[j]?).bind (·.dst) = some s) (hv : a.tmps[s]? = some (.bool b))
    (h : ∀ K' : Act → World → Prop, (∀ a w, K a w → K' a w) → Oper.wp P o a w K' Q) : wpOp P ops Q i K a w := by
  refine wpOp_step ho (fun K' hK => ?_)
  rw [if_pos]
  · exact h K' hK
  · unfold Region.wanted yielded
    rw [hg]
    simp only [hd, Option.bind_some, hv]
    simp
theorem wpOp_off {P : Program} {ops : Array Oper} {Q : Exit → Act → World → Prop} {i : Nat} {o : Oper} {K : Act → World → Prop} {a : Act} {w : World} (ho : ops[i]? = some o) {j s : Nat} {b c : Bool} (hg : o.guard = some (j, b)) (hd : (ops[j]?).bind (·.dst) = some s) (hv : a.tmps[s]? = some (.bool c)) (hn : c ≠ b)
    (h : K (a.put o.dst undef) w) : wpOp P ops Q i K a w := by
  refine wpOp_step ho (fun K' hK => ?_)
  rw [if_neg]
  · exact hK _ _ h
  · unfold Region.wanted yielded
    rw [hg]
    simp only [hd, Option.bind_some, hv]
    simpa using hn
set_option maxRecDepth 20000 in
set_option maxHeartbeats 16000000 in
theorem goodOp (m k e : Int) (w : World) (T N : Nat) (v : Value) (R : Array Value) (E : Bool) (lo : -9223372036854775808 ≤ e) (hi : e ≤ 9223372036854775807)
    (hw : ∀ w : World, Calls Tryz.prog 178 #[.agg #[.int .i64 m, .int .i64 k, .int .i64 e]] w fun r w' => r = .returned (.iface T v) ∧ Kept 0 0 w w')
    (hme : ∀ w : World, (method 346 T v "loop.example/g00389/impl.operand").run Tryz.prog w = .ok (N, v) w)
    (hc : ∀ w : World, Calls Tryz.prog N #[v] w fun r w' => r = .returned (.agg R) ∧ Kept 0 0 w w')
    (hfn : ∀ (a : Array Value) (w : World), (callFunc N a).run Tryz.prog w = .ok (.enter N a) w)
    (he : ∀ w : World, (binOp .eql 77 (.agg R) (.agg #[.int .i64 m, .int .i64 k, .int .i64 e])).run Tryz.prog w = .ok (.bool E) w) :
    Calls Tryz.prog 166 #[.agg #[.int .i64 m, .int .i64 k, .int .i64 e]] w fun r w' => r = .returned (.bool (E && (Pl.within k 0 3 && Pl.wordOk e))) ∧ Kept 0 0 w w' := by
  have B0 := hide (Blk.new w #[.int .i64 m, .int .i64 k, .int .i64 e] 77)
  have K0 := hide (kept_alloc w (.cells #[.int .i64 m, .int .i64 k, .int .i64 e] 77))
  obtain ⟨B, hBB⟩ : ∃ B, Pl.within k 0 3 = B := ⟨_, rfl⟩
  obtain ⟨C, hCC⟩ : ∃ C, Pl.wordOk e = C := ⟨_, rfl⟩
  go_enter Tryz.func166, Tryz.ntmps166
  go_wp2_with fail
  refine (hw _).mono ?_
  rintro r w1 ⟨rfl, k1⟩
  have B1 := hide (B0.out.kept0 k1)
  have K1 := hide (K0.out.trans k1)
  clear k1 hw
  go_wp2_with fail
  refine wp_region_inv2 (fun A0 l A W => FR [6, 7, 8, 9, 10, 11, 12, 13, 14, 15, 16, 17, 18, 19, 20, 21, 22, 23, 2] A0 A ∧ Once l 0 (A.tmps[6]? = some (.iface T v)) ∧ Once l 1 (A.tmps[7]? = some (.bool true)) ∧ Once l 2 (A.tmps[8]? = some (.bool true)) ∧ Once l 3 (A.tmps[9]? = some (.iface T v)) ∧ Once l 4 (A.tmps[10]? = some (.agg R)) ∧ Once l 5 (A.tmps[11]? = some (.agg #[.int .i64 m, .int .i64 k, .int .i64 e])) ∧ Once l 6 (A.tmps[12]? = some (.bool E)) ∧ Once l 7 (A.tmps[13]? = some (.bool E)) ∧ Once l 8 (A.tmps[14]? = some (.bool E)) ∧ Once l 9 (A.tmps[15]? = some (bif E then .pointer (some ⟨w.heap.size, 1, none⟩) else undef)) ∧ Once l 10 (A.tmps[16]? = some (bif E then .int .i64 k else undef)) ∧ Once l 11 (A.tmps[17]? = some (bif E then .bool B else undef)) ∧ Once l 12 (A.tmps[18]? = some (.bool (E && B))) ∧ Once l 13 (A.tmps[19]? = some (.bool (E && B))) ∧ Once l 14 (A.tmps[20]? = some (bif (E && B) then .pointer (some ⟨w.heap.size, 2, none⟩) else undef)) ∧ Once l 15 (A.tmps[21]? = some (bif (E && B) then .int .i64 e else undef)) ∧ Once l 16 (A.tmps[22]? = some (bif (E && B) then .bool C else undef)) ∧ Once l 17 (A.tmps[23]? = some (.bool ((E && B) && C))) ∧ Once l 18 (A.tmps[2]? = some (.bool ((E && B) && C))) ∧ Kept 0 0 w1 W) (by kernel_rfl) (by kernel_rfl) ?start ?fin ?step
  case start => exact ⟨FR.refl _ _, once_start (by decide), once_start (by decide), once_start (by decide), once_start (by decide), once_start (by decide), once_start (by decide), once_start (by decide), once_start (by decide), once_start (by decide), once_start (by decide), once_start (by decide), once_start (by decide), once_start (by decide), once_start (by decide), once_start (by decide), once_start (by decide), once_start (by decide), once_start (by decide), once_start (by decide), kept_drew (Kept.refl _ _ _)⟩
  case fin =>
    intro l A W h hl
    obtain ⟨hFR, o0, o1, o2, o3, o4, o5, o6, o7, o8, o9, o10, o11, o12, o13, o14, o15, o16, o17, o18, hK⟩ := h
    have g := o18 (hl 18 (by decide))
    have QQ := hide (K1.out.trans hK)
    have hc9 := hFR.chain
    simp only [List.foldl] at hc9
    rw [getD_of g] at hc9
    clear hl hK hFR g o0 o1 o2 o3 o4 o5 o6 o7 o8 o9 o10 o11 o12 o13 o14 o15 o16 o17 o18
    generalize A.tmps.getD 6 undef = s6 at hc9
    generalize A.tmps.getD 7 undef = s7 at hc9
    generalize A.tmps.getD 8 undef = s8 at hc9
    generalize A.tmps.getD 9 undef = s9 at hc9
    generalize A.tmps.getD 10 undef = s10 at hc9
    generalize A.tmps.getD 11 undef = s11 at hc9
    generalize A.tmps.getD 12 undef = s12 at hc9
    generalize A.tmps.getD 13 undef = s13 at hc9
    generalize A.tmps.getD 14 undef = s14 at hc9
    generalize A.tmps.getD 15 undef = s15 at hc9
    generalize A.tmps.getD 16 undef = s16 at hc9
    generalize A.tmps.getD 17 undef = s17 at hc9
    generalize A.tmps.getD 18 undef = s18 at hc9
    generalize A.tmps.getD 19 undef = s19 at hc9
    generalize A.tmps.getD 20 undef = s20 at hc9
    generalize A.tmps.getD 21 undef = s21 at hc9
    generalize A.tmps.getD 22 undef = s22 at hc9
    generalize A.tmps.getD 23 undef = s23 at hc9
    subst hc9
    go_simp
    go_wp2_with fail
    go_ret
    exact ⟨rB (by rw [← hBB, ← hCC, Bool.and_assoc]), QQ.out⟩
  case step =>
    intro l A W i hI hm
    obtain ⟨hFR, o0, o1, o2, o3, o4, o5, o6, o7, o8, o9, o10, o11, o12, o13, o14, o15, o16, o17, o18, hK⟩ := hI
    obtain ⟨hi1, hi2⟩ := ready_new hm
    have hsz : Hid (23 < A.tmps.size) := hide (by rw [hFR.size]; simp)
    have m1 : A.tmps[1]? = some (.pointer (some ⟨w.heap.size, 0, none⟩)) := (hFR.out 1 (by decide)).trans rfl
    have m3 : A.tmps[3]? = some (.iface T v) := (hFR.out 3 (by decide)).trans rfl
    rcases i with _ | _ | _ | _ | _ | _ | _ | _ | _ | _ | _ | _ | _ | _ | _ | _ | _ | _ | _ | i
    · refine wpOp_step rfl (fun KK hK2 => ?_)
      go_simp
      exact hK2 (A.put (some 6) (.iface T v)) _ ⟨hFR.put (by decide) _, .now (put_eq (by have hz := hsz.out; omega)), o1.past (by decide) (fun h => (put_ne (by decide)).trans h), o2.past (by decide) (fun h => (put_ne (by decide)).trans h), o3.past (by decide) (fun h => (put_ne (by decide)).trans h), o4.past (by decide) (fun h => (put_ne (by decide)).trans h), o5.past (by decide) (fun h => (put_ne (by decide)).trans h), o6.past (by decide) (fun h => (put_ne (by decide)).trans h), o7.past (by decide) (fun h => (put_ne (by decide)).trans h), o8.past (by decide) (fun h => (put_ne (by decide)).trans h), o9.past (by decide) (fun h => (put_ne (by decide)).trans h), o10.past (by decide) (fun h => (put_ne (by decide)).trans h), o11.past (by decide) (fun h => (put_ne (by decide)).trans h), o12.past (by decide) (fun h => (put_ne (by decide)).trans h), o13.past (by decide) (fun h => (put_ne (by decide)).trans h), o14.past (by decide) (fun h => (put_ne (by decide)).trans h), o15.past (by decide) (fun h => (put_ne (by decide)).trans h), o16.past (by decide) (fun h => (put_ne (by decide)).trans h), o17.past (by decide) (fun h => (put_ne (by decide)).trans h), o18.past (by decide) (fun h => (put_ne (by decide)).trans h), hK⟩
    · have e1 := o0 (ready_dep hm 0 (by kernel_rfl))
      refine wpOp_step rfl (fun KK hK2 => ?_)
      go_simp
      exact hK2 (A.put (some 7) (.bool true)) _ ⟨hFR.put (by decide) _, o0.past (by decide) (fun h => (put_ne (by decide)).trans h), .now (put_eq (by have hz := hsz.out; omega)), o2.past (by decide) (fun h => (put_ne (by decide)).trans h), o3.past (by decide) (fun h => (put_ne (by decide)).trans h), o4.past (by decide) (fun h => (put_ne (by decide)).trans h), o5.past (by decide) (fun h => (put_ne (by decide)).trans h), o6.past (by decide) (fun h => (put_ne (by decide)).trans h), o7.past (by decide) (fun h => (put_ne (by decide)).trans h), o8.past (by decide) (fun h => (put_ne (by decide)).trans h), o9.past (by decide) (fun h => (put_ne (by decide)).trans h), o10.past (by decide) (fun h => (put_ne (by decide)).trans h), o11.past (by decide) (fun h => (put_ne (by decide)).trans h), o12.past (by decide) (fun h => (put_ne (by decide)).trans h), o13.past (by decide) (fun h => (put_ne (by decide)).trans h), o14.past (by decide) (fun h => (put_ne (by decide)).trans h), o15.past (by decide) (fun h => (put_ne (by decide)).trans h), o16.past (by decide) (fun h => (put_ne (by decide)).trans h), o17.past (by decide) (fun h => (put_ne (by decide)).trans h), o18.past (by decide) (fun h => (put_ne (by decide)).trans h), hK⟩
    · have e1 := o1 (ready_dep hm 1 (by kernel_rfl))
      refine wpOp_step rfl (fun KK hK2 => ?_)
      go_simp
      exact hK2 (A.put (some 8) (.bool true)) _ ⟨hFR.put (by decide) _, o0.past (by decide) (fun h => (put_ne (by decide)).trans h), o1.past (by decide) (fun h => (put_ne (by decide)).trans h), .now (put_eq (by have hz := hsz.out; omega)), o3.past (by decide) (fun h => (put_ne (by decide)).trans h), o4.past (by decide) (fun h => (put_ne (by decide)).trans h), o5.past (by decide) (fun h => (put_ne (by decide)).trans h), o6.past (by decide) (fun h => (put_ne (by decide)).trans h), o7.past (by decide) (fun h => (put_ne (by decide)).trans h), o8.past (by decide) (fun h => (put_ne (by decide)).trans h), o9.past (by decide) (fun h => (put_ne (by decide)).trans h), o10.past (by decide) (fun h => (put_ne (by decide)).trans h), o11.past (by decide) (fun h => (put_ne (by decide)).trans h), o12.past (by decide) (fun h => (put_ne (by decide)).trans h), o13.past (by decide) (fun h => (put_ne (by decide)).trans h), o14.past (by decide) (fun h => (put_ne (by decide)).trans h), o15.past (by decide) (fun h => (put_ne (by decide)).trans h), o16.past (by decide) (fun h => (put_ne (by decide)).trans h), o17.past (by decide) (fun h => (put_ne (by decide)).trans h), o18.past (by decide) (fun h => (put_ne (by decide)).trans h), hK⟩
    · have g := o2 (ready_dep hm 2 (by kernel_rfl))
      refine wpOp_on (b := true) rfl rfl rfl g (fun KK hK2 => ?_)
      go_simp
      exact hK2 (A.put (some 9) (.iface T v)) _ ⟨hFR.put (by decide) _, o0.past (by decide) (fun h => (put_ne (by decide)).trans h), o1.past (by decide) (fun h => (put_ne (by decide)).trans h), o2.past (by decide) (fun h => (put_ne (by decide)).trans h), .now (put_eq (by have hz := hsz.out; omega)), o4.past (by decide) (fun h => (put_ne (by decide)).trans h), o5.past (by decide) (fun h => (put_ne (by decide)).trans h), o6.past (by decide) (fun h => (put_ne (by decide)).trans h), o7.past (by decide) (fun h => (put_ne (by decide)).trans h), o8.past (by decide) (fun h => (put_ne (by decide)).trans h), o9.past (by decide) (fun h => (put_ne (by decide)).trans h), o10.past (by decide) (fun h => (put_ne (by decide)).trans h), o11.past (by decide) (fun h => (put_ne (by decide)).trans h), o12.past (by decide) (fun h => (put_ne (by decide)).trans h), o13.past (by decide) (fun h => (put_ne (by decide)).trans h), o14.past (by decide) (fun h => (put_ne (by decide)).trans h), o15.past (by decide) (fun h => (put_ne (by decide)).trans h), o16.past (by decide) (fun h => (put_ne (by decide)).trans h), o17.past (by decide) (fun h => (put_ne (by decide)).trans h), o18.past (by decide) (fun h => (put_ne (by decide)).trans h), hK⟩
    · have g := o2 (ready_dep hm 2 (by kernel_rfl))
      have e1 := o3 (ready_dep hm 3 (by kernel_rfl))
      refine wpOp_on (b := true) rfl rfl rfl g (fun KK hK2 => ?_)
      go_simp
      refine (hc W).mono ?_
      rintro r y ⟨rfl, kd⟩
      go_simp
      exact hK2 (A.put (some 10) (.agg R)) _ ⟨hFR.put (by decide) _, o0.past (by decide) (fun h => (put_ne (by decide)).trans h), o1.past (by decide) (fun h => (put_ne (by decide)).trans h), o2.past (by decide) (fun h => (put_ne (by decide)).trans h), o3.past (by decide) (fun h => (put_ne (by decide)).trans h), .now (put_eq (by have hz := hsz.out; omega)), o5.past (by decide) (fun h => (put_ne (by decide)).trans h), o6.past (by decide) (fun h => (put_ne (by decide)).trans h), o7.past (by decide) (fun h => (put_ne (by decide)).trans h), o8.past (by decide) (fun h => (put_ne (by decide)).trans h), o9.past (by decide) (fun h => (put_ne (by decide)).trans h), o10.past (by decide) (fun h => (put_ne (by decide)).trans h), o11.past (by decide) (fun h => (put_ne (by decide)).trans h), o12.past (by decide) (fun h => (put_ne (by decide)).trans h), o13.past (by decide) (fun h => (put_ne (by decide)).trans h), o14.past (by decide) (fun h => (put_ne (by decide)).trans h), o15.past (by decide) (fun h => (put_ne (by decide)).trans h), o16.past (by decide) (fun h => (put_ne (by decide)).trans h), o17.past (by decide) (fun h => (put_ne (by decide)).trans h), o18.past (by decide) (fun h => (put_ne (by decide)).trans h), (hK.trans kd)⟩
    · have g := o2 (ready_dep hm 2 (by kernel_rfl))
      have BL := B1.out.kept0 hK
      have x0 := BL.cell (i := 0) rfl
      have x1 := BL.cell (i := 1) rfl
      have x2 := BL.cell (i := 2) rfl
      clear BL
      refine wpOp_on (b := true) rfl rfl rfl g (fun KK hK2 => ?_)
      go_simp
      exact hK2 (A.put (some 11) (.agg #[.int .i64 m, .int .i64 k, .int .i64 e])) _ ⟨hFR.put (by decide) _, o0.past (by decide) (fun h => (put_ne (by decide)).trans h), o1.past (by decide) (fun h => (put_ne (by decide)).trans h), o2.past (by decide) (fun h => (put_ne (by decide)).trans h), o3.past (by decide) (fun h => (put_ne (by decide)).trans h), o4.past (by decide) (fun h => (put_ne (by decide)).trans h), .now (put_eq (by have hz := hsz.out; omega)), o6.past (by decide) (fun h => (put_ne (by decide)).trans h), o7.past (by decide) (fun h => (put_ne (by decide)).trans h), o8.past (by decide) (fun h => (put_ne (by decide)).trans h), o9.past (by decide) (fun h => (put_ne (by decide)).trans h), o10.past (by decide) (fun h => (put_ne (by decide)).trans h), o11.past (by decide) (fun h => (put_ne (by decide)).trans h), o12.past (by decide) (fun h => (put_ne (by decide)).trans h), o13.past (by decide) (fun h => (put_ne (by decide)).trans h), o14.past (by decide) (fun h => (put_ne (by decide)).trans h), o15.past (by decide) (fun h => (put_ne (by decide)).trans h), o16.past (by decide) (fun h => (put_ne (by decide)).trans h), o17.past (by decide) (fun h => (put_ne (by decide)).trans h), o18.past (by decide) (fun h => (put_ne (by decide)).trans h), hK⟩
    · have g := o2 (ready_dep hm 2 (by kernel_rfl))
      have e1 := o4 (ready_dep hm 4 (by kernel_rfl))
      have e2 := o5 (ready_dep hm 5 (by kernel_rfl))
      refine wpOp_on (b := true) rfl rfl rfl g (fun KK hK2 => ?_)
      go_simp
      exact hK2 (A.put (some 12) (.bool E)) _ ⟨hFR.put (by decide) _, o0.past (by decide) (fun h => (put_ne (by decide)).trans h), o1.past (by decide) (fun h => (put_ne (by decide)).trans h), o2.past (by decide) (fun h => (put_ne (by decide)).trans h), o3.past (by decide) (fun h => (put_ne (by decide)).trans h), o4.past (by decide) (fun h => (put_ne (by decide)).trans h), o5.past (by decide) (fun h => (put_ne (by decide)).trans h), .now (put_eq (by have hz := hsz.out; omega)), o7.past (by decide) (fun h => (put_ne (by decide)).trans h), o8.past (by decide) (fun h => (put_ne (by decide)).trans h), o9.past (by decide) (fun h => (put_ne (by decide)).trans h), o10.past (by decide) (fun h => (put_ne (by decide)).trans h), o11.past (by decide) (fun h => (put_ne (by decide)).trans h), o12.past (by decide) (fun h => (put_ne (by decide)).trans h), o13.past (by decide) (fun h => (put_ne (by decide)).trans h), o14.past (by decide) (fun h => (put_ne (by decide)).trans h), o15.past (by decide) (fun h => (put_ne (by decide)).trans h), o16.past (by decide) (fun h => (put_ne (by decide)).trans h), o17.past (by decide) (fun h => (put_ne (by decide)).trans h), o18.past (by decide) (fun h => (put_ne (by decide)).trans h), hK⟩
    · have e1 := o2 (ready_dep hm 2 (by kernel_rfl))
      have e2 := o6 (ready_dep hm 6 (by kernel_rfl))
      refine wpOp_step rfl (fun KK hK2 => ?_)
      go_simp
      exact hK2 (A.put (some 13) (.bool E)) _ ⟨hFR.put (by decide) _, o0.past (by decide) (fun h => (put_ne (by decide)).trans h), o1.past (by decide) (fun h => (put_ne (by decide)).trans h), o2.past (by decide) (fun h => (put_ne (by decide)).trans h), o3.past (by decide) (fun h => (put_ne (by decide)).trans h), o4.past (by decide) (fun h => (put_ne (by decide)).trans h), o5.past (by decide) (fun h => (put_ne (by decide)).trans h), o6.past (by decide) (fun h => (put_ne (by decide)).trans h), .now (put_eq (by have hz := hsz.out; omega)), o8.past (by decide) (fun h => (put_ne (by decide)).trans h), o9.past (by decide) (fun h => (put_ne (by decide)).trans h), o10.past (by decide) (fun h => (put_ne (by decide)).trans h), o11.past (by decide) (fun h => (put_ne (by decide)).trans h), o12.past (by decide) (fun h => (put_ne (by decide)).trans h), o13.past (by decide) (fun h => (put_ne (by decide)).trans h), o14.past (by decide) (fun h => (put_ne (by decide)).trans h), o15.past (by decide) (fun h => (put_ne (by decide)).trans h), o16.past (by decide) (fun h => (put_ne (by decide)).trans h), o17.past (by decide) (fun h => (put_ne (by decide)).trans h), o18.past (by decide) (fun h => (put_ne (by decide)).trans h), hK⟩
    · have e1 := o7 (ready_dep hm 7 (by kernel_rfl))
      refine wpOp_step rfl (fun KK hK2 => ?_)
      go_simp
      exact hK2 (A.put (some 14) (.bool E)) _ ⟨hFR.put (by decide) _, o0.past (by decide) (fun h => (put_ne (by decide)).trans h), o1.past (by decide) (fun h => (put_ne (by decide)).trans h), o2.past (by decide) (fun h => (put_ne (by decide)).trans h), o3.past (by decide) (fun h => (put_ne (by decide)).trans h), o4.past (by decide) (fun h => (put_ne (by decide)).trans h), o5.past (by decide) (fun h => (put_ne (by decide)).trans h), o6.past (by decide) (fun h => (put_ne (by decide)).trans h), o7.past (by decide) (fun h => (put_ne (by decide)).trans h), .now (put_eq (by have hz := hsz.out; omega)), o9.past (by decide) (fun h => (put_ne (by decide)).trans h), o10.past (by decide) (fun h => (put_ne (by decide)).trans h), o11.past (by decide) (fun h => (put_ne (by decide)).trans h), o12.past (by decide) (fun h => (put_ne (by decide)).trans h), o13.past (by decide) (fun h => (put_ne (by decide)).trans h), o14.past (by decide) (fun h => (put_ne (by decide)).trans h), o15.past (by decide) (fun h => (put_ne (by decide)).trans h), o16.past (by decide) (fun h => (put_ne (by decide)).trans h), o17.past (by decide) (fun h => (put_ne (by decide)).trans h), o18.past (by decide) (fun h => (put_ne (by decide)).trans h), hK⟩
    · have g := o8 (ready_dep hm 8 (by kernel_rfl))
      rcases bfe E with hE | hE
      · rw [hE] at g
        refine wpOp_off (b := true) (c := false) rfl rfl rfl g (by decide) ?_
        exact ⟨hFR.put (by decide) _, o0.past (by decide) (fun h => (put_ne (by decide)).trans h), o1.past (by decide) (fun h => (put_ne (by decide)).trans h), o2.past (by decide) (fun h => (put_ne (by decide)).trans h), o3.past (by decide) (fun h => (put_ne (by decide)).trans h), o4.past (by decide) (fun h => (put_ne (by decide)).trans h), o5.past (by decide) (fun h => (put_ne (by decide)).trans h), o6.past (by decide) (fun h => (put_ne (by decide)).trans h), o7.past (by decide) (fun h => (put_ne (by decide)).trans h), o8.past (by decide) (fun h => (put_ne (by decide)).trans h), .now (by rw [hE]; exact put_eq (by have hz := hsz.out; omega)), o10.past (by decide) (fun h => (put_ne (by decide)).trans h), o11.past (by decide) (fun h => (put_ne (by decide)).trans h), o12.past (by decide) (fun h => (put_ne (by decide)).trans h), o13.past (by decide) (fun h => (put_ne (by decide)).trans h), o14.past (by decide) (fun h => (put_ne (by decide)).trans h), o15.past (by decide) (fun h => (put_ne (by decide)).trans h), o16.past (by decide) (fun h => (put_ne (by decide)).trans h), o17.past (by decide) (fun h => (put_ne (by decide)).trans h), o18.past (by decide) (fun h => (put_ne (by decide)).trans h), hK⟩
      · rw [hE] at g
        refine wpOp_on (b := true) rfl rfl rfl g (fun KK hK2 => ?_)
        go_simp
        exact hK2 (A.put (some 15) (.pointer (some ⟨w.heap.size, 1, none⟩))) _ ⟨hFR.put (by decide) _, o0.past (by decide) (fun h => (put_ne (by decide)).trans h), o1.past (by decide) (fun h => (put_ne (by decide)).trans h), o2.past (by decide) (fun h => (put_ne (by decide)).trans h), o3.past (by decide) (fun h => (put_ne (by decide)).trans h), o4.past (by decide) (fun h => (put_ne (by decide)).trans h), o5.past (by decide) (fun h => (put_ne (by decide)).trans h), o6.past (by decide) (fun h => (put_ne (by decide)).trans h), o7.past (by decide) (fun h => (put_ne (by decide)).trans h), o8.past (by decide) (fun h => (put_ne (by decide)).trans h), .now (by rw [hE]; exact put_eq (by have hz := hsz.out; omega)), o10.past (by decide) (fun h => (put_ne (by decide)).trans h), o11.past (by decide) (fun h => (put_ne (by decide)).trans h), o12.past (by decide) (fun h => (put_ne (by decide)).trans h), o13.past (by decide) (fun h => (put_ne (by decide)).trans h), o14.past (by decide) (fun h => (put_ne (by decide)).trans h), o15.past (by decide) (fun h => (put_ne (by decide)).trans h), o16.past (by decide) (fun h => (put_ne (by decide)).trans h), o17.past (by decide) (fun h => (put_ne (by decide)).trans h), o18.past (by decide) (fun h => (put_ne (by decide)).trans h), hK⟩
    · have g := o8 (ready_dep hm 8 (by kernel_rfl))
      have e1 := o9 (ready_dep hm 9 (by kernel_rfl))
      rcases bfe E with hE | hE
      · rw [hE] at g
        refine wpOp_off (b := true) (c := false) rfl rfl rfl g (by decide) ?_
        exact ⟨hFR.put (by decide) _, o0.past (by decide) (fun h => (put_ne (by decide)).trans h), o1.past (by decide) (fun h => (put_ne (by decide)).trans h), o2.past (by decide) (fun h => (put_ne (by decide)).trans h), o3.past (by decide) (fun h => (put_ne (by decide)).trans h), o4.past (by decide) (fun h => (put_ne (by decide)).trans h), o5.past (by decide) (fun h => (put_ne (by decide)).trans h), o6.past (by decide) (fun h => (put_ne (by decide)).trans h), o7.past (by decide) (fun h => (put_ne (by decide)).trans h), o8.past (by decide) (fun h => (put_ne (by decide)).trans h), o9.past (by decide) (fun h => (put_ne (by decide)).trans h), .now (by rw [hE]; exact put_eq (by have hz := hsz.out; omega)), o11.past (by decide) (fun h => (put_ne (by decide)).trans h), o12.past (by decide) (fun h => (put_ne (by decide)).trans h), o13.past (by decide) (fun h => (put_ne (by decide)).trans h), o14.past (by decide) (fun h => (put_ne (by decide)).trans h), o15.past (by decide) (fun h => (put_ne (by decide)).trans h), o16.past (by decide) (fun h => (put_ne (by decide)).trans h), o17.past (by decide) (fun h => (put_ne (by decide)).trans h), o18.past (by decide) (fun h => (put_ne (by decide)).trans h), hK⟩
      · rw [hE] at g e1
        simp only [cond_true] at e1
        have BL := B1.out.kept0 hK
        have x0 := BL.cell (i := 0) rfl
        have x1 := BL.cell (i := 1) rfl
        have x2 := BL.cell (i := 2) rfl
        clear BL
        refine wpOp_on (b := true) rfl rfl rfl g (fun KK hK2 => ?_)
        go_simp
        exact hK2 (A.put (some 16) (.int .i64 k)) _ ⟨hFR.put (by decide) _, o0.past (by decide) (fun h => (put_ne (by decide)).trans h), o1.past (by decide) (fun h => (put_ne (by decide)).trans h), o2.past (by decide) (fun h => (put_ne (by decide)).trans h), o3.past (by decide) (fun h => (put_ne (by decide)).trans h), o4.past (by decide) (fun h => (put_ne (by decide)).trans h), o5.past (by decide) (fun h => (put_ne (by decide)).trans h), o6.past (by decide) (fun h => (put_ne (by decide)).trans h), o7.past (by decide) (fun h => (put_ne (by decide)).trans h), o8.past (by decide) (fun h => (put_ne (by decide)).trans h), o9.past (by decide) (fun h => (put_ne (by decide)).trans h), .now (by rw [hE]; exact put_eq (by have hz := hsz.out; omega)), o11.past (by decide) (fun h => (put_ne (by decide)).trans h), o12.past (by decide) (fun h => (put_ne (by decide)).trans h), o13.past (by decide) (fun h => (put_ne (by decide)).trans h), o14.past (by decide) (fun h => (put_ne (by decide)).trans h), o15.past (by decide) (fun h => (put_ne (by decide)).trans h), o16.past (by decide) (fun h => (put_ne (by decide)).trans h), o17.past (by decide) (fun h => (put_ne (by decide)).trans h), o18.past (by decide) (fun h => (put_ne (by decide)).trans h), hK⟩
    · have g := o8 (ready_dep hm 8 (by kernel_rfl))
      have e1 := o10 (ready_dep hm 10 (by kernel_rfl))
      rcases bfe E with hE | hE
      · rw [hE] at g
        refine wpOp_off (b := true) (c := false) rfl rfl rfl g (by decide) ?_
        exact ⟨hFR.put (by decide) _, o0.past (by decide) (fun h => (put_ne (by decide)).trans h), o1.past (by decide) (fun h => (put_ne (by decide)).trans h), o2.past (by decide) (fun h => (put_ne (by decide)).trans h), o3.past (by decide) (fun h => (put_ne (by decide)).trans h), o4.past (by decide) (fun h => (put_ne (by decide)).trans h), o5.past (by decide) (fun h => (put_ne (by decide)).trans h), o6.past (by decide) (fun h => (put_ne (by decide)).trans h), o7.past (by decide) (fun h => (put_ne (by decide)).trans h), o8.past (by decide) (fun h => (put_ne (by decide)).trans h), o9.past (by decide) (fun h => (put_ne (by decide)).trans h), o10.past (by decide) (fun h => (put_ne (by decide)).trans h), .now (by rw [hE]; exact put_eq (by have hz := hsz.out; omega)), o12.past (by decide) (fun h => (put_ne (by decide)).trans h), o13.past (by decide) (fun h => (put_ne (by decide)).trans h), o14.past (by decide) (fun h => (put_ne (by decide)).trans h), o15.past (by decide) (fun h => (put_ne (by decide)).trans h), o16.past (by decide) (fun h => (put_ne (by decide)).trans h), o17.past (by decide) (fun h => (put_ne (by decide)).trans h), o18.past (by decide) (fun h => (put_ne (by decide)).trans h), hK⟩
      · rw [hE] at g e1
        simp only [cond_true] at e1
        refine wpOp_on (b := true) rfl rfl rfl g (fun KK hK2 => ?_)
        go_simp
        refine (isReg k _).mono ?_
        rintro r y ⟨rfl, hw⟩
        have hw2 := hw.symm
        clear hw
        subst hw2
        rw [hBB]
        go_simp
        exact hK2 (A.put (some 17) (.bool B)) _ ⟨hFR.put (by decide) _, o0.past (by decide) (fun h => (put_ne (by decide)).trans h), o1.past (by decide) (fun h => (put_ne (by decide)).trans h), o2.past (by decide) (fun h => (put_ne (by decide)).trans h), o3.past (by decide) (fun h => (put_ne (by decide)).trans h), o4.past (by decide) (fun h => (put_ne (by decide)).trans h), o5.past (by decide) (fun h => (put_ne (by decide)).trans h), o6.past (by decide) (fun h => (put_ne (by decide)).trans h), o7.past (by decide) (fun h => (put_ne (by decide)).trans h), o8.past (by decide) (fun h => (put_ne (by decide)).trans h), o9.past (by decide) (fun h => (put_ne (by decide)).trans h), o10.past (by decide) (fun h => (put_ne (by decide)).trans h), .now (by rw [hE]; exact put_eq (by have hz := hsz.out; omega)), o12.past (by decide) (fun h => (put_ne (by decide)).trans h), o13.past (by decide) (fun h => (put_ne (by decide)).trans h), o14.past (by decide) (fun h => (put_ne (by decide)).trans h), o15.past (by decide) (fun h => (put_ne (by decide)).trans h), o16.past (by decide) (fun h => (put_ne (by decide)).trans h), o17.past (by decide) (fun h => (put_ne (by decide)).trans h), o18.past (by decide) (fun h => (put_ne (by decide)).trans h), hK⟩
    · have e1 := o8 (ready_dep hm 8 (by kernel_rfl))
      have e2 := o11 (ready_dep hm 11 (by kernel_rfl))
      rcases bfe E with hE | hE
      · rw [hE] at e1 e2
        simp only [cond_false] at e2
        refine wpOp_step rfl (fun KK hK2 => ?_)
        go_simp
        exact hK2 (A.put (some 18) (.bool false)) _ ⟨hFR.put (by decide) _, o0.past (by decide) (fun h => (put_ne (by decide)).trans h), o1.past (by decide) (fun h => (put_ne (by decide)).trans h), o2.past (by decide) (fun h => (put_ne (by decide)).trans h), o3.past (by decide) (fun h => (put_ne (by decide)).trans h), o4.past (by decide) (fun h => (put_ne (by decide)).trans h), o5.past (by decide) (fun h => (put_ne (by decide)).trans h), o6.past (by decide) (fun h => (put_ne (by decide)).trans h), o7.past (by decide) (fun h => (put_ne (by decide)).trans h), o8.past (by decide) (fun h => (put_ne (by decide)).trans h), o9.past (by decide) (fun h => (put_ne (by decide)).trans h), o10.past (by decide) (fun h => (put_ne (by decide)).trans h), o11.past (by decide) (fun h => (put_ne (by decide)).trans h), .now (by rw [hE]; exact put_eq (by have hz := hsz.out; omega)), o13.past (by decide) (fun h => (put_ne (by decide)).trans h), o14.past (by decide) (fun h => (put_ne (by decide)).trans h), o15.past (by decide) (fun h => (put_ne (by decide)).trans h), o16.past (by decide) (fun h => (put_ne (by decide)).trans h), o17.past (by decide) (fun h => (put_ne (by decide)).trans h), o18.past (by decide) (fun h => (put_ne (by decide)).trans h), hK⟩
      · rw [hE] at e1 e2
        simp only [cond_true] at e2
        refine wpOp_step rfl (fun KK hK2 => ?_)
        go_simp
        exact hK2 (A.put (some 18) (.bool B)) _ ⟨hFR.put (by decide) _, o0.past (by decide) (fun h => (put_ne (by decide)).trans h), o1.past (by decide) (fun h => (put_ne (by decide)).trans h), o2.past (by decide) (fun h => (put_ne (by decide)).trans h), o3.past (by decide) (fun h => (put_ne (by decide)).trans h), o4.past (by decide) (fun h => (put_ne (by decide)).trans h), o5.past (by decide) (fun h => (put_ne (by decide)).trans h), o6.past (by decide) (fun h => (put_ne (by decide)).trans h), o7.past (by decide) (fun h => (put_ne (by decide)).trans h), o8.past (by decide) (fun h => (put_ne (by decide)).trans h), o9.past (by decide) (fun h => (put_ne (by decide)).trans h), o10.past (by decide) (fun h => (put_ne (by decide)).trans h), o11.past (by decide) (fun h => (put_ne (by decide)).trans h), .now (by rw [hE]; exact put_eq (by have hz := hsz.out; omega)), o13.past (by decide) (fun h => (put_ne (by decide)).trans h), o14.past (by decide) (fun h => (put_ne (by decide)).trans h), o15.past (by decide) (fun h => (put_ne (by decide)).trans h), o16.past (by decide) (fun h => (put_ne (by decide)).trans h), o17.past (by decide) (fun h => (put_ne (by decide)).trans h), o18.past (by decide) (fun h => (put_ne (by decide)).trans h), hK⟩
    · have e1 := o12 (ready_dep hm 12 (by kernel_rfl))
      refine wpOp_step rfl (fun KK hK2 => ?_)
      go_simp
      exact hK2 (A.put (some 19) (.bool (E && B))) _ ⟨hFR.put (by decide) _, o0.past (by decide) (fun h => (put_ne (by decide)).trans h), o1.past (by decide) (fun h => (put_ne (by decide)).trans h), o2.past (by decide) (fun h => (put_ne (by decide)).trans h), o3.past (by decide) (fun h => (put_ne (by decide)).trans h), o4.past (by decide) (fun h => (put_ne (by decide)).trans h), o5.past (by decide) (fun h => (put_ne (by decide)).trans h), o6.past (by decide) (fun h => (put_ne (by decide)).trans h), o7.past (by decide) (fun h => (put_ne (by decide)).trans h), o8.past (by decide) (fun h => (put_ne (by decide)).trans h), o9.past (by decide) (fun h => (put_ne (by decide)).trans h), o10.past (by decide) (fun h => (put_ne (by decide)).trans h), o11.past (by decide) (fun h => (put_ne (by decide)).trans h), o12.past (by decide) (fun h => (put_ne (by decide)).trans h), .now (put_eq (by have hz := hsz.out; omega)), o14.past (by decide) (fun h => (put_ne (by decide)).trans h), o15.past (by decide) (fun h => (put_ne (by decide)).trans h), o16.past (by decide) (fun h => (put_ne (by decide)).trans h), o17.past (by decide) (fun h => (put_ne (by decide)).trans h), o18.past (by decide) (fun h => (put_ne (by decide)).trans h), hK⟩
    · have g := o13 (ready_dep hm 13 (by kernel_rfl))
      rcases bfe (E && B) with hE | hE
      · rw [hE] at g
        refine wpOp_off (b := true) (c := false) rfl rfl rfl g (by decide) ?_
        exact ⟨hFR.put (by decide) _, o0.past (by decide) (fun h => (put_ne (by decide)).trans h), o1.past (by decide) (fun h => (put_ne (by decide)).trans h), o2.past (by decide) (fun h => (put_ne (by decide)).trans h), o3.past (by decide) (fun h => (put_ne (by decide)).trans h), o4.past (by decide) (fun h => (put_ne (by decide)).trans h), o5.past (by decide) (fun h => (put_ne (by decide)).trans h), o6.past (by decide) (fun h => (put_ne (by decide)).trans h), o7.past (by decide) (fun h => (put_ne (by decide)).trans h), o8.past (by decide) (fun h => (put_ne (by decide)).trans h), o9.past (by decide) (fun h => (put_ne (by decide)).trans h), o10.past (by decide) (fun h => (put_ne (by decide)).trans h), o11.past (by decide) (fun h => (put_ne (by decide)).trans h), o12.past (by decide) (fun h => (put_ne (by decide)).trans h), o13.past (by decide) (fun h => (put_ne (by decide)).trans h), .now (by rw [hE]; exact put_eq (by have hz := hsz.out; omega)), o15.past (by decide) (fun h => (put_ne (by decide)).trans h), o16.past (by decide) (fun h => (put_ne (by decide)).trans h), o17.past (by decide) (fun h => (put_ne (by decide)).trans h), o18.past (by decide) (fun h => (put_ne (by decide)).trans h), hK⟩
      · rw [hE] at g
        refine wpOp_on (b := true) rfl rfl rfl g (fun KK hK2 => ?_)
        go_simp
        exact hK2 (A.put (some 20) (.pointer (some ⟨w.heap.size, 2, none⟩))) _ ⟨hFR.put (by decide) _, o0.past (by decide) (fun h => (put_ne (by decide)).trans h), o1.past (by decide) (fun h => (put_ne (by decide)).trans h), o2.past (by decide) (fun h => (put_ne (by decide)).trans h), o3.past (by decide) (fun h => (put_ne (by decide)).trans h), o4.past (by decide) (fun h => (put_ne (by decide)).trans h), o5.past (by decide) (fun h => (put_ne (by decide)).trans h), o6.past (by decide) (fun h => (put_ne (by decide)).trans h), o7.past (by decide) (fun h => (put_ne (by decide)).trans h), o8.past (by decide) (fun h => (put_ne (by decide)).trans h), o9.past (by decide) (fun h => (put_ne (by decide)).trans h), o10.past (by decide) (fun h => (put_ne (by decide)).trans h), o11.past (by decide) (fun h => (put_ne (by decide)).trans h), o12.past (by decide) (fun h => (put_ne (by decide)).trans h), o13.past (by decide) (fun h => (put_ne (by decide)).trans h), .now (by rw [hE]; exact put_eq (by have hz := hsz.out; omega)), o15.past (by decide) (fun h => (put_ne (by decide)).trans h), o16.past (by decide) (fun h => (put_ne (by decide)).trans h), o17.past (by decide) (fun h => (put_ne (by decide)).trans h), o18.past (by decide) (fun h => (put_ne (by decide)).trans h), hK⟩
    · have g := o13 (ready_dep hm 13 (by kernel_rfl))
      have e1 := o14 (ready_dep hm 14 (by kernel_rfl))
      rcases bfe (E && B) with hE | hE
      · rw [hE] at g
        refine wpOp_off (b := true) (c := false) rfl rfl rfl g (by decide) ?_
        exact ⟨hFR.put (by decide) _, o0.past (by decide) (fun h => (put_ne (by decide)).trans h), o1.past (by decide) (fun h => (put_ne (by decide)).trans h), o2.past (by decide) (fun h => (put_ne (by decide)).trans h), o3.past (by decide) (fun h => (put_ne (by decide)).trans h), o4.past (by decide) (fun h => (put_ne (by decide)).trans h), o5.past (by decide) (fun h => (put_ne (by decide)).trans h), o6.past (by decide) (fun h => (put_ne (by decide)).trans h), o7.past (by decide) (fun h => (put_ne (by decide)).trans h), o8.past (by decide) (fun h => (put_ne (by decide)).trans h), o9.past (by decide) (fun h => (put_ne (by decide)).trans h), o10.past (by decide) (fun h => (put_ne (by decide)).trans h), o11.past (by decide) (fun h => (put_ne (by decide)).trans h), o12.past (by decide) (fun h => (put_ne (by decide)).trans h), o13.past (by decide) (fun h => (put_ne (by decide)).trans h), o14.past (by decide) (fun h => (put_ne (by decide)).trans h), .now (by rw [hE]; exact put_eq (by have hz := hsz.out; omega)), o16.past (by decide) (fun h => (put_ne (by decide)).trans h), o17.past (by decide) (fun h => (put_ne (by decide)).trans h), o18.past (by decide) (fun h => (put_ne (by decide)).trans h), hK⟩
      · rw [hE] at g e1
        simp only [cond_true] at e1
        have BL := B1.out.kept0 hK
        have x0 := BL.cell (i := 0) rfl
        have x1 := BL.cell (i := 1) rfl
        have x2 := BL.cell (i := 2) rfl
        clear BL
        refine wpOp_on (b := true) rfl rfl rfl g (fun KK hK2 => ?_)
        go_simp
        exact hK2 (A.put (some 21) (.int .i64 e)) _ ⟨hFR.put (by decide) _, o0.past (by decide) (fun h => (put_ne (by decide)).trans h), o1.past (by decide) (fun h => (put_ne (by decide)).trans h), o2.past (by decide) (fun h => (put_ne (by decide)).trans h), o3.past (by decide) (fun h => (put_ne (by decide)).trans h), o4.past (by decide) (fun h => (put_ne (by decide)).trans h), o5.past (by decide) (fun h => (put_ne (by decide)).trans h), o6.past (by decide) (fun h => (put_ne (by decide)).trans h), o7.past (by decide) (fun h => (put_ne (by decide)).trans h), o8.past (by decide) (fun h => (put_ne (by decide)).trans h), o9.past (by decide) (fun h => (put_ne (by decide)).trans h), o10.past (by decide) (fun h => (put_ne (by decide)).trans h), o11.past (by decide) (fun h => (put_ne (by decide)).trans h), o12.past (by decide) (fun h => (put_ne (by decide)).trans h), o13.past (by decide) (fun h => (put_ne (by decide)).trans h), o14.past (by decide) (fun h => (put_ne (by decide)).trans h), .now (by rw [hE]; exact put_eq (by have hz := hsz.out; omega)), o16.past (by decide) (fun h => (put_ne (by decide)).trans h), o17.past (by decide) (fun h => (put_ne (by decide)).trans h), o18.past (by decide) (fun h => (put_ne (by decide)).trans h), hK⟩
    · have g := o13 (ready_dep hm 13 (by kernel_rfl))
      have e1 := o15 (ready_dep hm 15 (by kernel_rfl))
      rcases bfe (E && B) with hE | hE
      · rw [hE] at g
        refine wpOp_off (b := true) (c := false) rfl rfl rfl g (by decide) ?_
        exact ⟨hFR.put (by decide) _, o0.past (by decide) (fun h => (put_ne (by decide)).trans h), o1.past (by decide) (fun h => (put_ne (by decide)).trans h), o2.past (by decide) (fun h => (put_ne (by decide)).trans h), o3.past (by decide) (fun h => (put_ne (by decide)).trans h), o4.past (by decide) (fun h => (put_ne (by decide)).trans h), o5.past (by decide) (fun h => (put_ne (by decide)).trans h), o6.past (by decide) (fun h => (put_ne (by decide)).trans h), o7.past (by decide) (fun h => (put_ne (by decide)).trans h), o8.past (by decide) (fun h => (put_ne (by decide)).trans h), o9.past (by decide) (fun h => (put_ne (by decide)).trans h), o10.past (by decide) (fun h => (put_ne (by decide)).trans h), o11.past (by decide) (fun h => (put_ne (by decide)).trans h), o12.past (by decide) (fun h => (put_ne (by decide)).trans h), o13.past (by decide) (fun h => (put_ne (by decide)).trans h), o14.past (by decide) (fun h => (put_ne (by decide)).trans h), o15.past (by decide) (fun h => (put_ne (by decide)).trans h), .now (by rw [hE]; exact put_eq (by have hz := hsz.out; omega)), o17.past (by decide) (fun h => (put_ne (by decide)).trans h), o18.past (by decide) (fun h => (put_ne (by decide)).trans h), hK⟩
      · rw [hE] at g e1
        simp only [cond_true] at e1
        refine wpOp_on (b := true) rfl rfl rfl g (fun KK hK2 => ?_)
        go_simp
        refine (isWord e _ lo hi).mono ?_
        rintro r y ⟨rfl, hw⟩
        have hw2 := hw.symm
        clear hw
        subst hw2
        rw [hCC]
        go_simp
        exact hK2 (A.put (some 22) (.bool C)) _ ⟨hFR.put (by decide) _, o0.past (by decide) (fun h => (put_ne (by decide)).trans h), o1.past (by decide) (fun h => (put_ne (by decide)).trans h), o2.past (by decide) (fun h => (put_ne (by decide)).trans h), o3.past (by decide) (fun h => (put_ne (by decide)).trans h), o4.past (by decide) (fun h => (put_ne (by decide)).trans h), o5.past (by decide) (fun h => (put_ne (by decide)).trans h), o6.past (by decide) (fun h => (put_ne (by decide)).trans h), o7.past (by decide) (fun h => (put_ne (by decide)).trans h), o8.past (by decide) (fun h => (put_ne (by decide)).trans h), o9.past (by decide) (fun h => (put_ne (by decide)).trans h), o10.past (by decide) (fun h => (put_ne (by decide)).trans h), o11.past (by decide) (fun h => (put_ne (by decide)).trans h), o12.past (by decide) (fun h => (put_ne (by decide)).trans h), o13.past (by decide) (fun h => (put_ne (by decide)).trans h), o14.past (by decide) (fun h => (put_ne (by decide)).trans h), o15.past (by decide) (fun h => (put_ne (by decide)).trans h), .now (by rw [hE]; exact put_eq (by have hz := hsz.out; omega)), o17.past (by decide) (fun h => (put_ne (by decide)).trans h), o18.past (by decide) (fun h => (put_ne (by decide)).trans h), hK⟩
    · have e1 := o13 (ready_dep hm 13 (by kernel_rfl))
      have e2 := o16 (ready_dep hm 16 (by kernel_rfl))
      rcases bfe (E && B) with hE | hE
      · rw [hE] at e1 e2
        simp only [cond_false] at e2
        refine wpOp_step rfl (fun KK hK2 => ?_)
        go_simp
        exact hK2 (A.put (some 23) (.bool false)) _ ⟨hFR.put (by decide) _, o0.past (by decide) (fun h => (put_ne (by decide)).trans h), o1.past (by decide) (fun h => (put_ne (by decide)).trans h), o2.past (by decide) (fun h => (put_ne (by decide)).trans h), o3.past (by decide) (fun h => (put_ne (by decide)).trans h), o4.past (by decide) (fun h => (put_ne (by decide)).trans h), o5.past (by decide) (fun h => (put_ne (by decide)).trans h), o6.past (by decide) (fun h => (put_ne (by decide)).trans h), o7.past (by decide) (fun h => (put_ne (by decide)).trans h), o8.past (by decide) (fun h => (put_ne (by decide)).trans h), o9.past (by decide) (fun h => (put_ne (by decide)).trans h), o10.past (by decide) (fun h => (put_ne (by decide)).trans h), o11.past (by decide) (fun h => (put_ne (by decide)).trans h), o12.past (by decide) (fun h => (put_ne (by decide)).trans h), o13.past (by decide) (fun h => (put_ne (by decide)).trans h), o14.past (by decide) (fun h => (put_ne (by decide)).trans h), o15.past (by decide) (fun h => (put_ne (by decide)).trans h), o16.past (by decide) (fun h => (put_ne (by decide)).trans h), .now (by rw [hE]; exact put_eq (by have hz := hsz.out; omega)), o18.past (by decide) (fun h => (put_ne (by decide)).trans h), hK⟩
      · rw [hE] at e1 e2
        simp only [cond_true] at e2
        refine wpOp_step rfl (fun KK hK2 => ?_)
        go_simp
        exact hK2 (A.put (some 23) (.bool C)) _ ⟨hFR.put (by decide) _, o0.past (by decide) (fun h => (put_ne (by decide)).trans h), o1.past (by decide) (fun h => (put_ne (by decide)).trans h), o2.past (by decide) (fun h => (put_ne (by decide)).trans h), o3.past (by decide) (fun h => (put_ne (by decide)).trans h), o4.past (by decide) (fun h => (put_ne (by decide)).trans h), o5.past (by decide) (fun h => (put_ne (by decide)).trans h), o6.past (by decide) (fun h => (put_ne (by decide)).trans h), o7.past (by decide) (fun h => (put_ne (by decide)).trans h), o8.past (by decide) (fun h => (put_ne (by decide)).trans h), o9.past (by decide) (fun h => (put_ne (by decide)).trans h), o10.past (by decide) (fun h => (put_ne (by decide)).trans h), o11.past (by decide) (fun h => (put_ne (by decide)).trans h), o12.past (by decide) (fun h => (put_ne (by decide)).trans h), o13.past (by decide) (fun h => (put_ne (by decide)).trans h), o14.past (by decide) (fun h => (put_ne (by decide)).trans h), o15.past (by decide) (fun h => (put_ne (by decide)).trans h), o16.past (by decide) (fun h => (put_ne (by decide)).trans h), .now (by rw [hE]; exact put_eq (by have hz := hsz.out; omega)), o18.past (by decide) (fun h => (put_ne (by decide)).trans h), hK⟩
    · have e1 := o17 (ready_dep hm 17 (by kernel_rfl))
      refine wpOp_step rfl (fun KK hK2 => ?_)
      go_simp
      exact hK2 (A.put (some 2) (.bool ((E && B) && C))) _ ⟨hFR.put (by decide) _, o0.past (by decide) (fun h => (put_ne (by decide)).trans h), o1.past (by decide) (fun h => (put_ne (by decide)).trans h), o2.past (by decide) (fun h => (put_ne (by decide)).trans h), o3.past (by decide) (fun h => (put_ne (by decide)).trans h), o4.past (by decide) (fun h => (put_ne (by decide)).trans h), o5.past (by decide) (fun h => (put_ne (by decide)).trans h), o6.past (by decide) (fun h => (put_ne (by decide)).trans h), o7.past (by decide) (fun h => (put_ne (by decide)).trans h), o8.past (by decide) (fun h => (put_ne (by decide)).trans h), o9.past (by decide) (fun h => (put_ne (by decide)).trans h), o10.past (by decide) (fun h => (put_ne (by decide)).trans h), o11.past (by decide) (fun h => (put_ne (by decide)).trans h), o12.past (by decide) (fun h => (put_ne (by decide)).trans h), o13.past (by decide) (fun h => (put_ne (by decide)).trans h), o14.past (by decide) (fun h => (put_ne (by decide)).trans h), o15.past (by decide) (fun h => (put_ne (by decide)).trans h), o16.past (by decide) (fun h => (put_ne (by decide)).trans h), o17.past (by decide) (fun h => (put_ne (by decide)).trans h), .now (put_eq (by have hz := hsz.out; omega)), hK⟩
    · simp at hi1
      omega
end Go.Proofs.YtblddehlkaolbaaGreatDoor

namespace Go.Proofs.YtblddehlkaolbaaGreatDoor
open Go.RowKit
set_option linter.unusedVariables false
theorem modes {m : Int} (h : Pl.modeOk m = true) : m = 0 ∨ m = 1 ∨ m = 2 ∨ m = 3 ∨ m = 4 ∨ m = 5 ∨ m = 6 ∨ m = 7 := by
  simp [Pl.modeOk, Pl.within] at h
  omega
theorem eqOp (m k e k' e' : Int) (w : World) : (binOp .eql 77 (.agg #[.int .i64 m, .int .i64 k', .int .i64 e']) (.agg #[.int .i64 m, .int .i64 k, .int .i64 e])).run Tryz.prog w = .ok (.bool ((k' == k) && (e' == e))) w := by
  go_simp
  by_cases h1 : k' = k <;> by_cases h2 : e' = e <;> simp [h1, h2]
theorem implGoodOperand (w : World) (m k e : Int) (wfm : (Lit.int .i64 m).wf = true) (wfk : (Lit.int .i64 k).wf = true) (wfe : (Lit.int .i64 e).wf = true) :
    Calls Tryz.prog 166 #[.agg #[.int .i64 m, .int .i64 k, .int .i64 e]] w fun r w' => r = .returned (.bool (Pl.opOk m k e)) ∧ Kept 0 0 w w' := by
  obtain ⟨lo, hi⟩ := wfB wfe
  cases h : Pl.modeOk m
  · have G : Hid (Pl.opOk m k e = false) := hide (by unfold Pl.opOk; rw [h]; rfl)
    have K0 := hide (kept_alloc w (.cells #[.int .i64 m, .int .i64 k, .int .i64 e] 77))
    go_enter Tryz.func166, Tryz.ntmps166
    go_wp2_with fail
    refine (wayOfNo m k e _ h).mono ?_
    rintro r w1 ⟨rfl, k1⟩
    have K1 := hide (K0.out.trans k1)
    clear k1
    go_wp2_with fail
    go_quiet (fail)
    go_wp2_with fail
    go_ret
    exact ⟨rB (by rw [G.out]), kept_drewN K1.out _⟩
  · rcases modes h with rfl | rfl | rfl | rfl | rfl | rfl | rfl | rfl
    · have q := goodOp 0 k e w 189 265 (.agg #[.int .i64 k]) _ _ lo hi (fun w => wayOf0 k e w) (fun w => meth0 _ w) (fun w => operand0 k e w) fn0 (fun w => eqOp 0 k e k 0 w)
      have G : (((k : Int) == k) && ((0 : Int) == e) && (Pl.within k 0 3 && Pl.wordOk e)) = Pl.opOk 0 k e := by
        unfold Pl.opOk
        rw [show Pl.modeOk 0 = true from by decide, show decide ((0 : Int) < 6) = true from by decide, show Pl.extM 0 = false from by decide, Bool.eq_iff_iff]
        simp
        grind
      rw [G] at q
      exact q
    · have q := goodOp 1 k e w 190 266 (.agg #[.int .i64 k]) _ _ lo hi (fun w => wayOf1 k e w) (fun w => meth1 _ w) (fun w => operand1 k e w) fn1 (fun w => eqOp 1 k e k 0 w)
      have G : (((k : Int) == k) && ((0 : Int) == e) && (Pl.within k 0 3 && Pl.wordOk e)) = Pl.opOk 1 k e := by
        unfold Pl.opOk
        rw [show Pl.modeOk 1 = true from by decide, show decide ((1 : Int) < 6) = true from by decide, show Pl.extM 1 = false from by decide, Bool.eq_iff_iff]
        simp
        grind
      rw [G] at q
      exact q
    · have q := goodOp 2 k e w 200 268 (.agg #[.int .i64 k]) _ _ lo hi (fun w => wayOf2 k e w) (fun w => meth2 _ w) (fun w => operand2 k e w) fn2 (fun w => eqOp 2 k e k 0 w)
      have G : (((k : Int) == k) && ((0 : Int) == e) && (Pl.within k 0 3 && Pl.wordOk e)) = Pl.opOk 2 k e := by
        unfold Pl.opOk
        rw [show Pl.modeOk 2 = true from by decide, show decide ((2 : Int) < 6) = true from by decide, show Pl.extM 2 = false from by decide, Bool.eq_iff_iff]
        simp
        grind
      rw [G] at q
      exact q
    · have q := goodOp 3 k e w 201 269 (.agg #[.int .i64 k]) _ _ lo hi (fun w => wayOf3 k e w) (fun w => meth3 _ w) (fun w => operand3 k e w) fn3 (fun w => eqOp 3 k e k 0 w)
      have G : (((k : Int) == k) && ((0 : Int) == e) && (Pl.within k 0 3 && Pl.wordOk e)) = Pl.opOk 3 k e := by
        unfold Pl.opOk
        rw [show Pl.modeOk 3 = true from by decide, show decide ((3 : Int) < 6) = true from by decide, show Pl.extM 3 = false from by decide, Bool.eq_iff_iff]
        simp
        grind
      rw [G] at q
      exact q
    · have q := goodOp 4 k e w 202 270 (.agg #[.int .i64 k]) _ _ lo hi (fun w => wayOf4 k e w) (fun w => meth4 _ w) (fun w => operand4 k e w) fn4 (fun w => eqOp 4 k e k 0 w)
      have G : (((k : Int) == k) && ((0 : Int) == e) && (Pl.within k 0 3 && Pl.wordOk e)) = Pl.opOk 4 k e := by
        unfold Pl.opOk
        rw [show Pl.modeOk 4 = true from by decide, show decide ((4 : Int) < 6) = true from by decide, show Pl.extM 4 = false from by decide, Bool.eq_iff_iff]
        simp
        grind
      rw [G] at q
      exact q
    · have q := goodOp 5 k e w 204 271 (.agg #[.int .i64 k, .int .i64 e]) _ _ lo hi (fun w => wayOf5 k e w) (fun w => meth5 _ w) (fun w => operand5 k e w) fn5 (fun w => eqOp 5 k e k e w)
      have G : (((k : Int) == k) && ((e : Int) == e) && (Pl.within k 0 3 && Pl.wordOk e)) = Pl.opOk 5 k e := by
        unfold Pl.opOk
        rw [show Pl.modeOk 5 = true from by decide, show decide ((5 : Int) < 6) = true from by decide, show Pl.extM 5 = true from by decide, Bool.eq_iff_iff]
        simp
        skip
      rw [G] at q
      exact q
    · have q := goodOp 6 k e w 205 272 (.agg #[.int .i64 e]) _ _ lo hi (fun w => wayOf6 k e w) (fun w => meth6 _ w) (fun w => operand6 k e w) fn6 (fun w => eqOp 6 k e 0 e w)
      have G : (((0 : Int) == k) && ((e : Int) == e) && (Pl.within k 0 3 && Pl.wordOk e)) = Pl.opOk 6 k e := by
        unfold Pl.opOk
        rw [show Pl.modeOk 6 = true from by decide, show decide ((6 : Int) < 6) = false from by decide, show Pl.extM 6 = true from by decide, Bool.eq_iff_iff]
        simp
        grind
      rw [G] at q
      exact q
    · have q := goodOp 7 k e w 192 267 (.agg #[.int .i64 e]) _ _ lo hi (fun w => wayOf7 k e w) (fun w => meth7 _ w) (fun w => operand7 k e w) fn7 (fun w => eqOp 7 k e 0 e w)
      have G : (((0 : Int) == k) && ((e : Int) == e) && (Pl.within k 0 3 && Pl.wordOk e)) = Pl.opOk 7 k e := by
        unfold Pl.opOk
        rw [show Pl.modeOk 7 = true from by decide, show decide ((7 : Int) < 6) = false from by decide, show Pl.extM 7 = true from by decide, Bool.eq_iff_iff]
        simp
        grind
      rw [G] at q
      exact q
end Go.Proofs.YtblddehlkaolbaaGreatDoor

namespace Go.Proofs.YtblddehlkaolbaaGreatDoor
open Go.RowKit
set_option linter.unusedVariables false
theorem implNeedsExt (w : World) (m : Int) (wfm : (Lit.int .i64 m).wf = true) :
    Calls Tryz.prog 169 #[.int .i64 m] w fun r w' => r = .returned (.tuple #[.bool (Pl.modeOk m && Pl.extM m), .bool (Pl.modeOk m)]) ∧ Kept 0 0 w w' := by
  cases h : Pl.modeOk m
  · go_enter Tryz.func169, Tryz.ntmps169
    go_wp2_with (first | (go_at_call 178; refine (wayOfNo m 0 0 _ h).mono ?_; rintro r w1 ⟨rfl, k1⟩))
    go_quiet (fail)
    go_wp2_with fail
    go_ret2
    exact ⟨by simp, kept_drewN k1 _⟩
  · rcases modes h with rfl | rfl | rfl | rfl | rfl | rfl | rfl | rfl
    · go_enter Tryz.func169, Tryz.ntmps169
      go_wp2_with (first | (go_at_call 178; refine (wayOf0 0 0 _).mono ?_; rintro r w1 ⟨rfl, k1⟩))
      go_quiet (first | (go_at_call 201; exact Calls.quiet_of_same (hasExt0 _ _)) | fail)
      go_wp2_with fail
      go_ret2
      exact ⟨rfl, kept_drewN k1 _⟩
    · go_enter Tryz.func169, Tryz.ntmps169
      go_wp2_with (first | (go_at_call 178; refine (wayOf1 0 0 _).mono ?_; rintro r w1 ⟨rfl, k1⟩))
      go_quiet (first | (go_at_call 201; exact Calls.quiet_of_same (hasExt1 _ _)) | fail)
      go_wp2_with fail
      go_ret2
      exact ⟨rfl, kept_drewN k1 _⟩
    · go_enter Tryz.func169, Tryz.ntmps169
      go_wp2_with (first | (go_at_call 178; refine (wayOf2 0 0 _).mono ?_; rintro r w1 ⟨rfl, k1⟩))
      go_quiet (first | (go_at_call 201; exact Calls.quiet_of_same (hasExt2 _ _)) | fail)
      go_wp2_with fail
      go_ret2
      exact ⟨rfl, kept_drewN k1 _⟩
    · go_enter Tryz.func169, Tryz.ntmps169
      go_wp2_with (first | (go_at_call 178; refine (wayOf3 0 0 _).mono ?_; rintro r w1 ⟨rfl, k1⟩))
      go_quiet (first | (go_at_call 201; exact Calls.quiet_of_same (hasExt3 _ _)) | fail)
      go_wp2_with fail
      go_ret2
      exact ⟨rfl, kept_drewN k1 _⟩
    · go_enter Tryz.func169, Tryz.ntmps169
      go_wp2_with (first | (go_at_call 178; refine (wayOf4 0 0 _).mono ?_; rintro r w1 ⟨rfl, k1⟩))
      go_quiet (first | (go_at_call 201; exact Calls.quiet_of_same (hasExt4 _ _)) | fail)
      go_wp2_with fail
      go_ret2
      exact ⟨rfl, kept_drewN k1 _⟩
    · go_enter Tryz.func169, Tryz.ntmps169
      go_wp2_with (first | (go_at_call 178; refine (wayOf5 0 0 _).mono ?_; rintro r w1 ⟨rfl, k1⟩))
      go_quiet (first | (go_at_call 201; exact Calls.quiet_of_same (hasExt5 _ _)) | fail)
      go_wp2_with fail
      go_ret2
      exact ⟨rfl, kept_drewN k1 _⟩
    · go_enter Tryz.func169, Tryz.ntmps169
      go_wp2_with (first | (go_at_call 178; refine (wayOf6 0 0 _).mono ?_; rintro r w1 ⟨rfl, k1⟩))
      go_quiet (first | (go_at_call 201; exact Calls.quiet_of_same (hasExt6 _ _)) | fail)
      go_wp2_with fail
      go_ret2
      exact ⟨rfl, kept_drewN k1 _⟩
    · go_enter Tryz.func169, Tryz.ntmps169
      go_wp2_with (first | (go_at_call 178; refine (wayOf7 0 0 _).mono ?_; rintro r w1 ⟨rfl, k1⟩))
      go_quiet (first | (go_at_call 201; exact Calls.quiet_of_same (hasExt7 _ _)) | fail)
      go_wp2_with fail
      go_ret2
      exact ⟨rfl, kept_drewN k1 _⟩
end Go.Proofs.YtblddehlkaolbaaGreatDoor

namespace Go.Proofs.YtblddehlkaolbaaGreatDoor
open Go.RowKit
set_option linter.unusedVariables false
theorem isMem (m : Int) (w : World) : Calls Tryz.prog 220 #[.int .i64 m] w fun e w' => e = .returned (.bool (Pl.memM m)) ∧ w' = w := by
  by_cases h0 : 2 ≤ m
  · by_cases h1 : m ≤ 6
    · go_enter Tryz.func220, Tryz.ntmps220
      go_wp2
      go_ret
      exact ⟨rB (by simp [Pl.memM, Pl.within, h0, h1]), rfl⟩
    · go_enter Tryz.func220, Tryz.ntmps220
      go_wp2
      go_ret
      exact ⟨rB (by simp [Pl.memM, Pl.within, h0]; omega), rfl⟩
  · go_enter Tryz.func220, Tryz.ntmps220
    go_wp2
    go_ret
    exact ⟨rB (by simp [Pl.memM, Pl.within]; omega), rfl⟩
theorem canTake (m : Int) (w : World) : Calls Tryz.prog 197 #[.int .i64 m] w fun e w' => e = .returned (.bool ((m == 0) || Pl.memM m)) ∧ w' = w := by
  cases h0 : (m == 0)
  · go_enter Tryz.func197, Tryz.ntmps197
    go_wp2_with (go_at_call 220; refine (isMem _ _).mono ?_; rintro e w' ⟨rfl, hw⟩; have hw2 := hw.symm; clear hw; subst hw2)
    go_ret
    exact ⟨rB (by simp), rfl⟩
  · go_enter Tryz.func197, Tryz.ntmps197
    go_wp2
    go_ret
    exact ⟨rB (by simp), rfl⟩
theorem isPlain (m : Int) (w : World) : Calls Tryz.prog 198 #[.int .i64 m] w fun e w' => e = .returned (.bool (Pl.plainM m)) ∧ w' = w := by
  unfold Pl.plainM
  cases h0 : (m == 2) <;> cases h1 : (m == 5) <;> cases h2 : (m == 6) <;> (
    go_enter Tryz.func198, Tryz.ntmps198
    go_wp2
    go_ret
    exact ⟨rB (by simp), rfl⟩)
theorem okv17 (v : Int) : Pl.okv 1 v = Pl.within v 0 255 := by
  unfold Pl.okv Pl.within Pl.top
  rw [Bool.eq_iff_iff]; simp; omega
theorem isByte7 (v : Int) (w : World) (lo : -9223372036854775808 ≤ v) (hi : v ≤ 9223372036854775807) :
    Calls Tryz.prog 134 #[.int .i64 v] w fun e w' => e = .returned (.bool (Pl.within v 0 255)) ∧ w' = w := by
  go_enter Tryz.func134, Tryz.ntmps134
  go_wp2_with (go_at_call 133; refine (signedOf _ _ _ lo hi).mono ?_; rintro e w' ⟨rfl, hw⟩; have hw2 := hw.symm; clear hw; subst hw2; rw [okv17])
  go_ret
  exact ⟨rfl, rfl⟩
/-- whether an instruction of this mode has two words -/
def Pl.lng (m : Int) : Bool := Pl.modeOk m && Pl.extM m
theorem isLong (w : World) (op z r m k e s : Int) (wfm : (Lit.int .i64 m).wf = true) : Calls Tryz.prog 139 #[.agg #[.int .i64 op, .int .i64 z, .int .i64 r, .int .i64 m, .int .i64 k, .int .i64 e, .int .i64 s]] w fun r' w' => r' = .returned (.bool (Pl.lng m)) ∧ Kept 0 0 w w' := by
  have K0 := hide (kept_alloc w (.cells #[.int .i64 op, .int .i64 z, .int .i64 r, .int .i64 m, .int .i64 k, .int .i64 e, .int .i64 s] 79))
  go_enter Tryz.func139, Tryz.ntmps139
  go_wp2_with (go_at_call 169; refine (implNeedsExt _ m wfm).mono ?_; rintro e' w2 ⟨rfl, k2⟩)
  go_ret
  exact ⟨rfl, K0.out.trans k2⟩
theorem lengthOf (w : World) (op z r m k e s : Int) (wfm : (Lit.int .i64 m).wf = true) : Calls Tryz.prog 98 #[.agg #[.int .i64 op, .int .i64 z, .int .i64 r, .int .i64 m, .int .i64 k, .int .i64 e, .int .i64 s]] w fun r' w' => r' = .returned (.int .i64 (if Pl.lng m = true then 2 else 1)) ∧ Kept 0 0 w w' := by
  have K0 := hide (kept_alloc w (.cells #[.int .i64 op, .int .i64 z, .int .i64 r, .int .i64 m, .int .i64 k, .int .i64 e, .int .i64 s] 79))
  cases h : Pl.lng m
  · go_enter Tryz.func98, Tryz.ntmps98
    go_wp2_with (go_at_call 139; refine (isLong _ op z r m k e s wfm).mono ?_; rintro e' w2 ⟨rfl, k2⟩; rw [h])
    go_ret
    exact ⟨rfl, K0.out.trans k2⟩
  · go_enter Tryz.func98, Tryz.ntmps98
    go_wp2_with (go_at_call 139; refine (isLong _ op z r m k e s wfm).mono ?_; rintro e' w2 ⟨rfl, k2⟩; rw [h])
    go_ret
    exact ⟨rfl, K0.out.trans k2⟩
theorem namesStatus (w : World) (op z r m k e s : Int) : Calls Tryz.prog 221 #[.agg #[.int .i64 op, .int .i64 z, .int .i64 r, .int .i64 m, .int .i64 k, .int .i64 e, .int .i64 s]] w fun r' w' => r' = .returned (.bool ((r == 0) && Pl.nowO m e)) ∧ Kept 0 0 w w' := by
  have K0 := hide (kept_alloc w (.cells #[.int .i64 op, .int .i64 z, .int .i64 r, .int .i64 m, .int .i64 k, .int .i64 e, .int .i64 s] 79))
  unfold Pl.nowO
  cases h0 : (r == 0) <;> cases h1 : (m == 7) <;> cases h2 : decide (e ≤ 1023) <;> (
    go_enter Tryz.func221, Tryz.ntmps221
    go_wp2
    go_ret
    exact ⟨rB (by simp), K0.out⟩)
theorem fitsSize (w : World) (op z r m k e s : Int) (wfe : (Lit.int .i64 e).wf = true) : Calls Tryz.prog 167 #[.agg #[.int .i64 op, .int .i64 z, .int .i64 r, .int .i64 m, .int .i64 k, .int .i64 e, .int .i64 s]] w fun r' w' => r' = .returned (.bool (Pl.fitZ ⟨op, z, r, m, k, e, s⟩)) ∧ Kept 0 0 w w' := by
  have K0 := hide (kept_alloc w (.cells #[.int .i64 op, .int .i64 z, .int .i64 r, .int .i64 m, .int .i64 k, .int .i64 e, .int .i64 s] 79))
  obtain ⟨lo, hi⟩ := wfB wfe
  unfold Pl.fitZ
  simp only
  cases h0 : (m != 7) <;> cases h1 : (z != 1) <;> cases h2 : Pl.within e 0 255 <;> (
    go_enter Tryz.func167, Tryz.ntmps167
    go_wp2_with (go_at_call 134; refine (isByte7 _ _ lo hi).mono ?_; rintro e w' ⟨rfl, hw⟩; have hw2 := hw.symm; clear hw; subst hw2; rw [h2])
    go_ret
    exact ⟨rB (by simp at h0 h1; simp [h0, h1]), K0.out⟩)
end Go.Proofs.YtblddehlkaolbaaGreatDoor

namespace Go.Proofs.YtblddehlkaolbaaGreatDoor
open Go.RowKit
set_option linter.unusedVariables false
theorem wrapQ (a : Int) : ∃ q : Int, wrap64 a = a + 18446744073709551616 * q := by
  refine ⟨-((a + 9223372036854775808) / 18446744073709551616), ?_⟩
  unfold wrap64
  omega
theorem firstWord (w : World) (op z r m k e s : Int) : Calls Tryz.prog 100 #[.agg #[.int .i64 op, .int .i64 z, .int .i64 r, .int .i64 m, .int .i64 k, .int .i64 e, .int .i64 s]] w fun r' w' => r' = .returned (.int .i64 (Pl.word1 ⟨op, z, r, m, k, e, s⟩ % 65536)) ∧ Kept 0 0 w w' := by
  have K0 := hide (kept_alloc w (.cells #[.int .i64 op, .int .i64 z, .int .i64 r, .int .i64 m, .int .i64 k, .int .i64 e, .int .i64 s] 79))
  go_enter Tryz.func100, Tryz.ntmps100
  go_wp2_with (go_at_call 95; refine (wrapWord _ _).mono ?_; rintro e' w2 ⟨rfl, hw⟩; have hw2 := hw.symm; clear hw; subst hw2)
  go_ret
  refine ⟨rI ?_, K0.out⟩
  unfold Pl.word1
  simp only
  obtain ⟨q1, e1⟩ := wrapQ (op * 2048)
  obtain ⟨q2, e2⟩ := wrapQ (z - 1)
  obtain ⟨q3, e3⟩ := wrapQ (wrap64 (z - 1) * 1024)
  obtain ⟨q4, e4⟩ := wrapQ (wrap64 (op * 2048) + wrap64 (wrap64 (z - 1) * 1024))
  obtain ⟨q5, e5⟩ := wrapQ (r * 256)
  obtain ⟨q6, e6⟩ := wrapQ (wrap64 (wrap64 (op * 2048) + wrap64 (wrap64 (z - 1) * 1024)) + wrap64 (r * 256))
  obtain ⟨q7, e7⟩ := wrapQ (m * 32)
  obtain ⟨q8, e8⟩ := wrapQ (wrap64 (wrap64 (wrap64 (op * 2048) + wrap64 (wrap64 (z - 1) * 1024)) + wrap64 (r * 256)) + wrap64 (m * 32))
  obtain ⟨q9, e9⟩ := wrapQ (k * 8)
  obtain ⟨qa, ea⟩ := wrapQ (wrap64 (wrap64 (wrap64 (wrap64 (op * 2048) + wrap64 (wrap64 (z - 1) * 1024)) + wrap64 (r * 256)) + wrap64 (m * 32)) + wrap64 (k * 8))
  obtain ⟨qb, eb⟩ := wrapQ (wrap64 (wrap64 (wrap64 (wrap64 (wrap64 (op * 2048) + wrap64 (wrap64 (z - 1) * 1024)) + wrap64 (r * 256)) + wrap64 (m * 32)) + wrap64 (k * 8)) + s)
  omega
theorem wfSm {n : Int} (h0 : -1 ≤ n) (h1 : n ≤ 65536) : (Lit.int .i64 n).wf = true := by
  have e1 : IntKind.i64.min = -9223372036854775808 := rfl
  have e2 : IntKind.i64.max = 9223372036854775807 := rfl
  simp [Lit.wf]
  omega
theorem Blk.c7 {w : World} {b : Nat} {v0 v1 v2 v3 v4 v5 v6 : Value} {t : TypeId} (h : Blk w b #[v0, v1, v2, v3, v4, v5, v6] t) : w.cell? ⟨b, 0, none⟩ = some v0 ∧ w.cell? ⟨b, 1, none⟩ = some v1 ∧ w.cell? ⟨b, 2, none⟩ = some v2 ∧ w.cell? ⟨b, 3, none⟩ = some v3 ∧ w.cell? ⟨b, 4, none⟩ = some v4 ∧ w.cell? ⟨b, 5, none⟩ = some v5 ∧ w.cell? ⟨b, 6, none⟩ = some v6 :=
  ⟨h.cell (i := 0) rfl, h.cell (i := 1) rfl, h.cell (i := 2) rfl, h.cell (i := 3) rfl, h.cell (i := 4) rfl, h.cell (i := 5) rfl, h.cell (i := 6) rfl⟩
theorem insOf (w : World) (n v : Int) (h0 : 0 ≤ n) (h1 : n ≤ 65535) : Calls Tryz.prog 137 #[.int .i64 n, .int .i64 v] w fun r' w' => r' = .returned (.agg #[.int .i64 (Pl.decode n v).op, .int .i64 (Pl.decode n v).z, .int .i64 (Pl.decode n v).r, .int .i64 (Pl.decode n v).m, .int .i64 (Pl.decode n v).k, .int .i64 (Pl.decode n v).e, .int .i64 (Pl.decode n v).s]) ∧ Kept 0 0 w w' := by
  rw [Pl.decode_e]
  simp only [Pl.decode]
  have t1 : n.tdiv 2048 = n / 2048 := Int.tdiv_eq_ediv_of_nonneg h0
  have t2 : n.tdiv 1024 = n / 1024 := Int.tdiv_eq_ediv_of_nonneg h0
  have t3 : n.tdiv 256 = n / 256 := Int.tdiv_eq_ediv_of_nonneg h0
  have t4 : n.tdiv 32 = n / 32 := Int.tdiv_eq_ediv_of_nonneg h0
  have t5 : n.tdiv 8 = n / 8 := Int.tdiv_eq_ediv_of_nonneg h0
  have t6 : n.tmod 8 = n % 8 := Int.tmod_eq_emod_of_nonneg h0
  have wfm : (Lit.int .i64 (n / 32 % 8)).wf = true := wfSm (by omega) (by omega)
  have hM : Pl.lng (n / 32 % 8) = Pl.extM (n / 32 % 8) := by
    unfold Pl.lng
    rw [show Pl.modeOk (n / 32 % 8) = true from by simp [Pl.modeOk, Pl.within]; omega]
    rfl
  have HM := hide hM
  have KA := hide (kept_new (kept_alloc w (.cells #[.int .i64 0, .int .i64 0, .int .i64 0, .int .i64 0, .int .i64 0, .int .i64 0, .int .i64 0] 79)) (.cells #[.int .i64 (n / 2048), .int .i64 (n / 1024 % 2 + 1), .int .i64 (n / 256 % 4), .int .i64 (n / 32 % 8), .int .i64 (n / 8 % 4), .int .i64 0, .int .i64 (n % 8)] 79))
  have B1 := hide ((Blk.new w #[.int .i64 0, .int .i64 0, .int .i64 0, .int .i64 0, .int .i64 0, .int .i64 0, .int .i64 0] 79).alloc (.cells #[.int .i64 (n / 2048), .int .i64 (n / 1024 % 2 + 1), .int .i64 (n / 256 % 4), .int .i64 (n / 32 % 8), .int .i64 (n / 8 % 4), .int .i64 0, .int .i64 (n % 8)] 79))
  have b2 := Blk.new (w.alloc (.cells #[.int .i64 0, .int .i64 0, .int .i64 0, .int .i64 0, .int .i64 0, .int .i64 0, .int .i64 0] 79)) #[.int .i64 (n / 2048), .int .i64 (n / 1024 % 2 + 1), .int .i64 (n / 256 % 4), .int .i64 (n / 32 % 8), .int .i64 (n / 8 % 4), .int .i64 0, .int .i64 (n % 8)] 79
  simp only [World.size_alloc] at b2
  have B2 := hide b2
  clear b2 hM
  cases hx : Pl.extM (n / 32 % 8)
  · go_enter Tryz.func137, Tryz.ntmps137
    go_wp2_with fail
    refine (isLong _ _ _ _ _ _ _ _ wfm).mono ?_
    rintro r2 w2 ⟨rfl, k2⟩
    rw [HM.out, hx]
    have K2 := hide (KA.out.trans k2)
    have C2 := hide (B2.out.kept0 k2)
    have C1 := hide (B1.out.kept0 k2)
    obtain ⟨p0, p1, p2, p3, p4, p5, p6⟩ := C2.out.c7
    obtain ⟨q0, q1, q2, q3, q4, q5, q6⟩ := C1.out.c7
    have fq0 := C1.out.frozen 0; have fq1 := C1.out.frozen 1; have fq2 := C1.out.frozen 2; have fq3 := C1.out.frozen 3; have fq4 := C1.out.frozen 4; have fq5 := C1.out.frozen 5; have fq6 := C1.out.frozen 6
    have fp5 := C2.out.frozen 5
    clear k2 t1 t2 t3 t4 t5 t6
    go_wp2_with fail
    refine bodyPost_ret (v := .agg #[.int .i64 (n / 2048), .int .i64 (n / 1024 % 2 + 1), .int .i64 (n / 256 % 4), .int .i64 (n / 32 % 8), .int .i64 (n / 8 % 4), .int .i64 0, .int .i64 (n % 8)]) ?_ rfl ⟨rfl, ?_⟩
    · rw [results_one rfl]; go_simp
    · exact (kept_set (kept_set (kept_set (kept_set (kept_set (kept_set (kept_set K2.out _ _ _ (.inr (by omega))) _ _ _ (.inr (by omega))) _ _ _ (.inr (by omega))) _ _ _ (.inr (by omega))) _ _ _ (.inr (by omega))) _ _ _ (.inr (by omega))) _ _ _ (.inr (by omega)))
  · go_enter Tryz.func137, Tryz.ntmps137
    go_wp2_with fail
    refine (isLong _ _ _ _ _ _ _ _ wfm).mono ?_
    rintro r2 w2 ⟨rfl, k2⟩
    rw [HM.out, hx]
    have K2 := hide (KA.out.trans k2)
    have C2 := hide (B2.out.kept0 k2)
    have C1 := hide (B1.out.kept0 k2)
    obtain ⟨p0, p1, p2, p3, p4, p5, p6⟩ := C2.out.c7
    obtain ⟨q0, q1, q2, q3, q4, q5, q6⟩ := C1.out.c7
    have fq0 := C1.out.frozen 0; have fq1 := C1.out.frozen 1; have fq2 := C1.out.frozen 2; have fq3 := C1.out.frozen 3; have fq4 := C1.out.frozen 4; have fq5 := C1.out.frozen 5; have fq6 := C1.out.frozen 6
    have fp5 := C2.out.frozen 5
    clear k2 t1 t2 t3 t4 t5 t6
    go_wp2_with fail
    refine bodyPost_ret (v := .agg #[.int .i64 (n / 2048), .int .i64 (n / 1024 % 2 + 1), .int .i64 (n / 256 % 4), .int .i64 (n / 32 % 8), .int .i64 (n / 8 % 4), .int .i64 v, .int .i64 (n % 8)]) ?_ rfl ⟨rfl, ?_⟩
    · rw [results_one rfl]; go_simp
    · exact (kept_set (kept_set (kept_set (kept_set (kept_set (kept_set (kept_set (kept_set K2.out _ _ _ (.inr (by omega))) _ _ _ (.inr (by omega))) _ _ _ (.inr (by omega))) _ _ _ (.inr (by omega))) _ _ _ (.inr (by omega))) _ _ _ (.inr (by omega))) _ _ _ (.inr (by omega))) _ _ _ (.inr (by omega)))
end Go.Proofs.YtblddehlkaolbaaGreatDoor

namespace Go.Proofs.YtblddehlkaolbaaGreatDoor
open Go.RowKit
set_option linter.unusedVariables false
theorem eqIn (a b : Pl.In) (w : World) : (binOp .eql 79 (.agg #[.int .i64 a.op, .int .i64 a.z, .int .i64 a.r, .int .i64 a.m, .int .i64 a.k, .int .i64 a.e, .int .i64 a.s]) (.agg #[.int .i64 b.op, .int .i64 b.z, .int .i64 b.r, .int .i64 b.m, .int .i64 b.k, .int .i64 b.e, .int .i64 b.s])).run Tryz.prog w = .ok (.bool (Pl.sameIn a b)) w := by
  obtain ⟨a1, a2, a3, a4, a5, a6, a7⟩ := a
  obtain ⟨b1, b2, b3, b4, b5, b6, b7⟩ := b
  unfold Pl.sameIn
  go_simp
  by_cases h1 : a1 = b1
  · by_cases h2 : a2 = b2
    · by_cases h3 : a3 = b3
      · by_cases h4 : a4 = b4
        · by_cases h5 : a5 = b5
          · by_cases h6 : a6 = b6
            · by_cases h7 : a7 = b7
              · simp [h1, h2, h3, h4, h5, h6, h7]
              · simp [h1, h2, h3, h4, h5, h6, h7]
            · simp [h1, h2, h3, h4, h5, h6]
          · simp [h1, h2, h3, h4, h5]
        · simp [h1, h2, h3, h4]
      · simp [h1, h2, h3]
    · simp [h1, h2]
  · simp [h1]
theorem eqO (m k e : Int) (w : World) : (binOp .eql 77 (.agg #[.int .i64 m, .int .i64 k, .int .i64 e]) (.agg #[.int .i64 0, .int .i64 0, .int .i64 0])).run Tryz.prog w = .ok (.bool (Pl.zeroO m k e)) w := by
  unfold Pl.zeroO
  go_simp
  by_cases h1 : m = 0 <;> by_cases h2 : k = 0 <;> by_cases h3 : e = 0 <;> simp [h1, h2, h3]
set_option maxRecDepth 20000 in
set_option maxHeartbeats 4000000 in
theorem fitsWords (w : World) (op z r m k e s : Int) : Calls Tryz.prog 165 #[.agg #[.int .i64 op, .int .i64 z, .int .i64 r, .int .i64 m, .int .i64 k, .int .i64 e, .int .i64 s]] w fun r' w' => r' = .returned (.bool (Pl.fits ⟨op, z, r, m, k, e, s⟩)) ∧ Kept 0 0 w w' := by
  have K0 := hide (kept_alloc w (.cells #[.int .i64 op, .int .i64 z, .int .i64 r, .int .i64 m, .int .i64 k, .int .i64 e, .int .i64 s] 79))
  have B0 := hide (Blk.new w #[.int .i64 op, .int .i64 z, .int .i64 r, .int .i64 m, .int .i64 k, .int .i64 e, .int .i64 s] 79)
  obtain ⟨N, hN⟩ : ∃ N, Pl.word1 ⟨op, z, r, m, k, e, s⟩ % 65536 = N := ⟨_, rfl⟩
  have n0 : Hid (0 ≤ N) := hide (by omega)
  have n1 : Hid (N ≤ 65535) := hide (by omega)
  obtain ⟨D, hD⟩ : ∃ D, Pl.decode N e = D := ⟨_, rfl⟩
  obtain ⟨F, hF⟩ : ∃ F, Pl.sameIn D ⟨op, z, r, m, k, e, s⟩ = F := ⟨_, rfl⟩
  have EF : Hid (Pl.fits ⟨op, z, r, m, k, e, s⟩ = F) := hide (by unfold Pl.fits; rw [hN, hD, hF])
  have HN := hide hN
  have HD := hide hD
  obtain ⟨RD, hR⟩ : ∃ RD : Array Value, RD = #[.int .i64 D.op, .int .i64 D.z, .int .i64 D.r, .int .i64 D.m, .int .i64 D.k, .int .i64 D.e, .int .i64 D.s] := ⟨_, rfl⟩
  have HE : Hid (∀ w : World, (binOp .eql 79 (.agg RD) (.agg #[.int .i64 op, .int .i64 z, .int .i64 r, .int .i64 m, .int .i64 k, .int .i64 e, .int .i64 s])).run Tryz.prog w = .ok (.bool F) w) := hide (fun w => by rw [← hF, hR]; exact eqIn D ⟨op, z, r, m, k, e, s⟩ w)
  have HR := hide hR
  clear hN hD hF hR
  rw [EF.out]
  go_enter Tryz.func165, Tryz.ntmps165
  go_wp2_with fail
  refine wp_region_inv2 (fun A0 l A W => FR [3, 4, 5, 6, 7, 8, 9, 10, 2] A0 A ∧ Once l 0 (A.tmps[3]? = some (.agg #[.int .i64 op, .int .i64 z, .int .i64 r, .int .i64 m, .int .i64 k, .int .i64 e, .int .i64 s])) ∧ Once l 1 (A.tmps[4]? = some (.int .i64 N)) ∧ Once l 2 (A.tmps[5]? = some (.pointer (some ⟨w.heap.size, 3, none⟩))) ∧ Once l 3 (A.tmps[6]? = some (.pointer (some ⟨w.heap.size, 5, none⟩))) ∧ Once l 4 (A.tmps[7]? = some (.int .i64 e)) ∧ Once l 5 (A.tmps[8]? = some (.agg RD)) ∧ Once l 6 (A.tmps[9]? = some (.agg #[.int .i64 op, .int .i64 z, .int .i64 r, .int .i64 m, .int .i64 k, .int .i64 e, .int .i64 s])) ∧ Once l 7 (A.tmps[10]? = some (.bool F)) ∧ Once l 8 (A.tmps[2]? = some (.bool F)) ∧ Kept 0 0 (w.alloc (.cells #[.int .i64 op, .int .i64 z, .int .i64 r, .int .i64 m, .int .i64 k, .int .i64 e, .int .i64 s] 79)) W) (by kernel_rfl) (by kernel_rfl) ?start ?fin ?step
  case start => exact ⟨FR.refl _ _, once_start (by decide), once_start (by decide), once_start (by decide), once_start (by decide), once_start (by decide), once_start (by decide), once_start (by decide), once_start (by decide), once_start (by decide), kept_drew (Kept.refl _ _ _)⟩
  case fin =>
    intro l A W h hl
    obtain ⟨hFR, o0, o1, o2, o3, o4, o5, o6, o7, o8, hK⟩ := h
    have g8 := o8 (hl 8 (by decide))
    have QQ := hide hK
    have hc9 := hFR.chain
    simp only [List.foldl] at hc9
    rw [getD_of g8] at hc9
    clear hl hK hFR g8 o0 o1 o2 o3 o4 o5 o6 o7 o8
    generalize A.tmps.getD 3 undef = s3 at hc9
    generalize A.tmps.getD 4 undef = s4 at hc9
    generalize A.tmps.getD 5 undef = s5 at hc9
    generalize A.tmps.getD 6 undef = s6 at hc9
    generalize A.tmps.getD 7 undef = s7 at hc9
    generalize A.tmps.getD 8 undef = s8 at hc9
    generalize A.tmps.getD 9 undef = s9 at hc9
    generalize A.tmps.getD 10 undef = s10 at hc9
    subst hc9
    go_simp
    go_wp2_with fail
    go_ret
    exact ⟨rfl, K0.out.trans QQ.out⟩
  case step =>
    intro l A W i hI hm
    obtain ⟨hFR, o0, o1, o2, o3, o4, o5, o6, o7, o8, hK⟩ := hI
    obtain ⟨hi1, hi2⟩ := ready_new hm
    have hsz : Hid (10 < A.tmps.size) := hide (by rw [hFR.size]; simp)
    have m1 : A.tmps[1]? = some (.pointer (some ⟨w.heap.size, 0, none⟩)) := (hFR.out 1 (by decide)).trans rfl
    rcases i with _ | _ | _ | _ | _ | _ | _ | _ | _ | i
    · have BL := hide (B0.out.kept0 hK)
      obtain ⟨x0, x1, x2, x3, x4, x5, x6⟩ := BL.out.c7
      refine wpOp_step rfl (fun KK hK2 => ?_)
      go_simp
      exact hK2 (A.put (some 3) (.agg #[.int .i64 op, .int .i64 z, .int .i64 r, .int .i64 m, .int .i64 k, .int .i64 e, .int .i64 s])) _ ⟨hFR.put (by decide) _, .now (put_eq (by have hz := hsz.out; omega)), o1.past (by decide) (fun h => (put_ne (by decide)).trans h), o2.past (by decide) (fun h => (put_ne (by decide)).trans h), o3.past (by decide) (fun h => (put_ne (by decide)).trans h), o4.past (by decide) (fun h => (put_ne (by decide)).trans h), o5.past (by decide) (fun h => (put_ne (by decide)).trans h), o6.past (by decide) (fun h => (put_ne (by decide)).trans h), o7.past (by decide) (fun h => (put_ne (by decide)).trans h), o8.past (by decide) (fun h => (put_ne (by decide)).trans h), hK⟩
    · have e0 := o0 (ready_dep hm 0 (by kernel_rfl))
      refine wpOp_step rfl (fun KK hK2 => ?_)
      go_simp
      refine (firstWord W op z r m k e s).mono ?_
      rw [HN.out]
      rintro r9 y ⟨rfl, kd⟩
      go_simp
      exact hK2 (A.put (some 4) (.int .i64 N)) _ ⟨hFR.put (by decide) _, o0.past (by decide) (fun h => (put_ne (by decide)).trans h), .now (put_eq (by have hz := hsz.out; omega)), o2.past (by decide) (fun h => (put_ne (by decide)).trans h), o3.past (by decide) (fun h => (put_ne (by decide)).trans h), o4.past (by decide) (fun h => (put_ne (by decide)).trans h), o5.past (by decide) (fun h => (put_ne (by decide)).trans h), o6.past (by decide) (fun h => (put_ne (by decide)).trans h), o7.past (by decide) (fun h => (put_ne (by decide)).trans h), o8.past (by decide) (fun h => (put_ne (by decide)).trans h), (hK.trans kd)⟩
    · refine wpOp_step rfl (fun KK hK2 => ?_)
      go_simp
      exact hK2 (A.put (some 5) (.pointer (some ⟨w.heap.size, 3, none⟩))) _ ⟨hFR.put (by decide) _, o0.past (by decide) (fun h => (put_ne (by decide)).trans h), o1.past (by decide) (fun h => (put_ne (by decide)).trans h), .now (put_eq (by have hz := hsz.out; omega)), o3.past (by decide) (fun h => (put_ne (by decide)).trans h), o4.past (by decide) (fun h => (put_ne (by decide)).trans h), o5.past (by decide) (fun h => (put_ne (by decide)).trans h), o6.past (by decide) (fun h => (put_ne (by decide)).trans h), o7.past (by decide) (fun h => (put_ne (by decide)).trans h), o8.past (by decide) (fun h => (put_ne (by decide)).trans h), hK⟩
    · have e2 := o2 (ready_dep hm 2 (by kernel_rfl))
      refine wpOp_step rfl (fun KK hK2 => ?_)
      go_simp
      exact hK2 (A.put (some 6) (.pointer (some ⟨w.heap.size, 5, none⟩))) _ ⟨hFR.put (by decide) _, o0.past (by decide) (fun h => (put_ne (by decide)).trans h), o1.past (by decide) (fun h => (put_ne (by decide)).trans h), o2.past (by decide) (fun h => (put_ne (by decide)).trans h), .now (put_eq (by have hz := hsz.out; omega)), o4.past (by decide) (fun h => (put_ne (by decide)).trans h), o5.past (by decide) (fun h => (put_ne (by decide)).trans h), o6.past (by decide) (fun h => (put_ne (by decide)).trans h), o7.past (by decide) (fun h => (put_ne (by decide)).trans h), o8.past (by decide) (fun h => (put_ne (by decide)).trans h), hK⟩
    · have e3 := o3 (ready_dep hm 3 (by kernel_rfl))
      have BL := hide (B0.out.kept0 hK)
      obtain ⟨x0, x1, x2, x3, x4, x5, x6⟩ := BL.out.c7
      refine wpOp_step rfl (fun KK hK2 => ?_)
      go_simp
      exact hK2 (A.put (some 7) (.int .i64 e)) _ ⟨hFR.put (by decide) _, o0.past (by decide) (fun h => (put_ne (by decide)).trans h), o1.past (by decide) (fun h => (put_ne (by decide)).trans h), o2.past (by decide) (fun h => (put_ne (by decide)).trans h), o3.past (by decide) (fun h => (put_ne (by decide)).trans h), .now (put_eq (by have hz := hsz.out; omega)), o5.past (by decide) (fun h => (put_ne (by decide)).trans h), o6.past (by decide) (fun h => (put_ne (by decide)).trans h), o7.past (by decide) (fun h => (put_ne (by decide)).trans h), o8.past (by decide) (fun h => (put_ne (by decide)).trans h), hK⟩
    · have e1 := o1 (ready_dep hm 1 (by kernel_rfl))
      have e4 := o4 (ready_dep hm 4 (by kernel_rfl))
      refine wpOp_step rfl (fun KK hK2 => ?_)
      go_simp
      refine (insOf W N e n0.out n1.out).mono ?_
      rw [HD.out, ← HR.out]
      rintro r9 y ⟨rfl, kd⟩
      go_simp
      exact hK2 (A.put (some 8) (.agg RD)) _ ⟨hFR.put (by decide) _, o0.past (by decide) (fun h => (put_ne (by decide)).trans h), o1.past (by decide) (fun h => (put_ne (by decide)).trans h), o2.past (by decide) (fun h => (put_ne (by decide)).trans h), o3.past (by decide) (fun h => (put_ne (by decide)).trans h), o4.past (by decide) (fun h => (put_ne (by decide)).trans h), .now (put_eq (by have hz := hsz.out; omega)), o6.past (by decide) (fun h => (put_ne (by decide)).trans h), o7.past (by decide) (fun h => (put_ne (by decide)).trans h), o8.past (by decide) (fun h => (put_ne (by decide)).trans h), (hK.trans kd)⟩
    · have BL := hide (B0.out.kept0 hK)
      obtain ⟨x0, x1, x2, x3, x4, x5, x6⟩ := BL.out.c7
      refine wpOp_step rfl (fun KK hK2 => ?_)
      go_simp
      exact hK2 (A.put (some 9) (.agg #[.int .i64 op, .int .i64 z, .int .i64 r, .int .i64 m, .int .i64 k, .int .i64 e, .int .i64 s])) _ ⟨hFR.put (by decide) _, o0.past (by decide) (fun h => (put_ne (by decide)).trans h), o1.past (by decide) (fun h => (put_ne (by decide)).trans h), o2.past (by decide) (fun h => (put_ne (by decide)).trans h), o3.past (by decide) (fun h => (put_ne (by decide)).trans h), o4.past (by decide) (fun h => (put_ne (by decide)).trans h), o5.past (by decide) (fun h => (put_ne (by decide)).trans h), .now (put_eq (by have hz := hsz.out; omega)), o7.past (by decide) (fun h => (put_ne (by decide)).trans h), o8.past (by decide) (fun h => (put_ne (by decide)).trans h), hK⟩
    · have e5 := o5 (ready_dep hm 5 (by kernel_rfl))
      have e6 := o6 (ready_dep hm 6 (by kernel_rfl))
      have hc := HE.out
      refine wpOp_step rfl (fun KK hK2 => ?_)
      go_simp
      exact hK2 (A.put (some 10) (.bool F)) _ ⟨hFR.put (by decide) _, o0.past (by decide) (fun h => (put_ne (by decide)).trans h), o1.past (by decide) (fun h => (put_ne (by decide)).trans h), o2.past (by decide) (fun h => (put_ne (by decide)).trans h), o3.past (by decide) (fun h => (put_ne (by decide)).trans h), o4.past (by decide) (fun h => (put_ne (by decide)).trans h), o5.past (by decide) (fun h => (put_ne (by decide)).trans h), o6.past (by decide) (fun h => (put_ne (by decide)).trans h), .now (put_eq (by have hz := hsz.out; omega)), o8.past (by decide) (fun h => (put_ne (by decide)).trans h), hK⟩
    · have e7 := o7 (ready_dep hm 7 (by kernel_rfl))
      refine wpOp_step rfl (fun KK hK2 => ?_)
      go_simp
      exact hK2 (A.put (some 2) (.bool F)) _ ⟨hFR.put (by decide) _, o0.past (by decide) (fun h => (put_ne (by decide)).trans h), o1.past (by decide) (fun h => (put_ne (by decide)).trans h), o2.past (by decide) (fun h => (put_ne (by decide)).trans h), o3.past (by decide) (fun h => (put_ne (by decide)).trans h), o4.past (by decide) (fun h => (put_ne (by decide)).trans h), o5.past (by decide) (fun h => (put_ne (by decide)).trans h), o6.past (by decide) (fun h => (put_ne (by decide)).trans h), o7.past (by decide) (fun h => (put_ne (by decide)).trans h), .now (put_eq (by have hz := hsz.out; omega)), hK⟩
    · simp at hi1
      omega
theorem fitsStatus (w : World) (op z r m k e s : Int) : Calls Tryz.prog 200 #[.agg #[.int .i64 op, .int .i64 z, .int .i64 r, .int .i64 m, .int .i64 k, .int .i64 e, .int .i64 s]] w fun r' w' => r' = .returned (.bool (((s == 0) && ((r == 0) && Pl.nowO m e)) || ((s == 1) && Pl.zeroO m k e))) ∧ Kept 0 0 w w' := by
  have K0 := hide (kept_alloc w (.cells #[.int .i64 op, .int .i64 z, .int .i64 r, .int .i64 m, .int .i64 k, .int .i64 e, .int .i64 s] 79))
  have hq := eqO m k e
  by_cases h0 : s = 0
  · subst h0
    go_enter Tryz.func200, Tryz.ntmps200
    go_wp2_with (go_at_call 221; refine (namesStatus _ op z r m k e 0).mono ?_; rintro e9 w2 ⟨rfl, k2⟩)
    go_ret
    exact ⟨rB (by simp), K0.out.trans k2⟩
  · by_cases h1 : s = 1
    · subst h1
      go_enter Tryz.func200, Tryz.ntmps200
      go_wp2_with fail
      go_ret
      exact ⟨rB (by simp), K0.out⟩
    · go_enter Tryz.func200, Tryz.ntmps200
      go_wp2_with fail
      go_ret
      exact ⟨rB (by simp [h0, h1]), K0.out⟩
theorem fitsFlow (w : World) (op z r m k e s : Int) (h0 : 0 ≤ s) : Calls Tryz.prog 199 #[.agg #[.int .i64 op, .int .i64 z, .int .i64 r, .int .i64 m, .int .i64 k, .int .i64 e, .int .i64 s]] w fun r' w' => r' = .returned (.bool (bif s == 3 then (r == 0) && Pl.nowO m e else (decide (s ≤ 6) && Pl.zeroO m k e) && (decide (3 < s) || (r == 0)))) ∧ Kept 0 0 w w' := by
  have K0 := hide (kept_alloc w (.cells #[.int .i64 op, .int .i64 z, .int .i64 r, .int .i64 m, .int .i64 k, .int .i64 e, .int .i64 s] 79))
  have hq := eqO m k e
  by_cases h7 : 7 ≤ s
  · go_enter Tryz.func199, Tryz.ntmps199
    go_wp2_with fail
    go_ret
    exact ⟨rB (by have a1 : (s == 3) = false := by simp; omega
                  have a2 : decide (s ≤ 6) = false := by simp; omega
                  rw [a1, a2]; rfl), K0.out⟩
  · have hs : s = 0 ∨ s = 1 ∨ s = 2 ∨ s = 3 ∨ s = 4 ∨ s = 5 ∨ s = 6 := by omega
    rcases hs with rfl | rfl | rfl | rfl | rfl | rfl | rfl
    · cases hr : (r == 0) <;> (
        go_enter Tryz.func199, Tryz.ntmps199
        go_wp2_with fail
        go_ret
        exact ⟨rB (by simp), K0.out⟩)
    · cases hr : (r == 0) <;> (
        go_enter Tryz.func199, Tryz.ntmps199
        go_wp2_with fail
        go_ret
        exact ⟨rB (by simp), K0.out⟩)
    · cases hr : (r == 0) <;> (
        go_enter Tryz.func199, Tryz.ntmps199
        go_wp2_with fail
        go_ret
        exact ⟨rB (by simp), K0.out⟩)
    · go_enter Tryz.func199, Tryz.ntmps199
      go_wp2_with (go_at_call 221; refine (namesStatus _ op z r m k e 3).mono ?_; rintro e9 w2 ⟨rfl, k2⟩)
      go_ret
      exact ⟨rB (by simp), K0.out.trans k2⟩
    · go_enter Tryz.func199, Tryz.ntmps199
      go_wp2_with fail
      go_ret
      exact ⟨rB (by simp), K0.out⟩
    · go_enter Tryz.func199, Tryz.ntmps199
      go_wp2_with fail
      go_ret
      exact ⟨rB (by simp), K0.out⟩
    · go_enter Tryz.func199, Tryz.ntmps199
      go_wp2_with fail
      go_ret
      exact ⟨rB (by simp), K0.out⟩
end Go.Proofs.YtblddehlkaolbaaGreatDoor

