/- What the model's draw of a list of instructions answers: at most 41, each with numbers within their bounds; it changes the reader's own block and no other that was there. -/
import Derived.Test.YtlbnllhabdnjjaaDoorDrawIns2
import Derived.Test.YtlbnllhabdnjjaaDoorSpecIns6
import Derived.Test.YtlbnllhabdnjjaaDoorInsX
import Derived.Deep.DeepCutAuto
import Derived.Deep.CutBlock
namespace Go.Proofs.YtlbnllhabdnjjaaDoor
open Go.RowKit
set_option linter.unusedVariables false
theorem Went.over {w W W' : World} {b : Nat} {a : Option Addr} {len cap : Nat} {p k p' : Int} {row : Option Nat} (h : Went w W b a len cap p k) (h0 : Cur w b a len cap p') (hg : W.grownBy W' row) (hr : ∀ g, row = some g → w.heap.size ≤ g) : Went w W' b a len cap p k := by
  obtain ⟨h1, q, h2, h3, h4⟩ := h
  have hb := h0.lt
  refine ⟨⟨hg.os.trans h1.os, hg.tape.trans h1.tape, hg.output.trans h1.output, Nat.le_trans h1.size hg.size, fun j hj hn => (hg.block j (Nat.lt_of_lt_of_le hj h1.size) (fun e => by have := hr j e.symm; omega)).trans (h1.block j hj hn)⟩, q, h2, h3, ?_⟩
  refine h4.kept2 hg (fun e => by have := hr b e.symm; omega) ?_
  intro g0 off hl e e2
  obtain ⟨g1, o1, z, ea, _, hc, _⟩ := h0.row 0 hl
  rw [e] at ea
  cases ea
  have := World.block_lt_of_cell? _ _ hc
  have := hr g0 e2.symm
  simp at *
  omega
theorem small_snoc {O : List Pl.In} {X : Pl.In} (h : ∀ x ∈ O, SmallI x) (sx : SmallI X) : ∀ x ∈ O ++ [X], SmallI x := by
  intro x hx
  rw [List.mem_append] at hx
  rcases hx with hx | hx
  · exact h x hx
  · simp at hx; rw [hx]; exact sx
theorem small_head {x0 X : Pl.In} {t : List Pl.In} (h : ∀ x ∈ x0 :: t, SmallI x) (sx : SmallI X) : ∀ x ∈ X :: t, SmallI x := by
  intro x hx
  rw [List.mem_cons] at hx
  rcases hx with rfl | hx
  · exact sx
  · exact h x (by simp [hx])
theorem anyInsW {w W : World} {b : Nat} {a : Option Addr} {len cap : Nat} {p k : Int} (h : Went w W b a len cap p k) (p0 : 0 ≤ p) (p1 : p + k ≤ 500000) :
    Calls Tryd.prog 38 #[.pointer (some ⟨b, 0, none⟩)] W fun e' w' => ∃ X : Pl.In, e' = .returned (.agg #[.int .i64 X.op, .int .i64 X.z, .int .i64 X.r, .int .i64 X.m, .int .i64 X.k, .int .i64 X.e, .int .i64 X.s]) ∧ SmallI X ∧ Went w w' b a len cap p (k + 800) ∧ W.grownBy w' (some b) := by
  obtain ⟨h1, q, h2, h3, h4⟩ := h
  refine (anyIns W b a len cap q h4 (by omega) (by omega)).mono ?_
  rintro e' w' ⟨X, he, hs, hw⟩
  exact ⟨X, he, hs, Went.step h1 h2 h3 hw, hw.1⟩
theorem flat_set {x0 X : Pl.In} {t : List Pl.In} : set7 (Pl.flat (x0 :: t)) 0 X.op X.z X.r X.m X.k X.e X.s = Pl.flat (X :: t) := by simp [set7, Pl.flat]
set_option maxRecDepth 100000 in
set_option maxHeartbeats 8000000 in
theorem insList (w : World) (b : Nat) (a : Option Addr) (len cap : Nat) (p : Int) (h : Cur w b a len cap p) (p0 : 0 ≤ p) (p1 : p ≤ 100000) :
    Calls Tryd.prog 19 #[.pointer (some ⟨b, 0, none⟩)] w fun e' w' => ∃ (d : Option Addr) (c : Nat) (O : List Pl.In), e' = .returned (.slice d O.length c) ∧ O.length ≤ 41 ∧ (∀ x ∈ O, SmallI x) ∧ SlotIn w' w.heap.size w'.heap.size d (Pl.flat O) ∧ Went w w' b a len cap p 40000 := by
  have hlt := h.lt
  have HC := hide h
  obtain ⟨i, hi, hz0, hz1, hz2⟩ := info_parts Tryd.infoIns
  have T0 := hide (Went.refl h)
  clear h
  go_enter Tryd.func19, Tryd.ntmps19
  go_wp2_with fail
  refine (pickW T0.out p0 (by omega) 8 (by omega) (by omega)).mono ?_
  rintro e9 w1 ⟨n1, rfl, n0, n9, t9, g9⟩
  have T1 := hide t9
  clear t9 g9 T0
  go_wp2_with fail
  refine (oneW T1.out p0 (by omega) 20 (by omega) (by omega)).mono ?_
  rintro e9 w2 ⟨on, rfl, t9, g9⟩
  have T2 := hide t9
  clear t9 g9 T1
  go_upto_if 8 with fail
  go_cut [4] (fun n wx => ∃ N : Nat, n = .int .i64 (N : Int) ∧ N ≤ 41 ∧ Went w wx b a len cap p 6)
  case first =>
    as_aux_lemma =>
      cases on
      · go_wp2_with fail
        go_meet
        case rel => exact ⟨n1.toNat, by rw [Int.toNat_of_nonneg n0], by omega, T2.out.more (by omega)⟩
      · go_wp2_with fail
        refine (pickW T2.out p0 (by omega) 2 (by omega) (by omega)).mono ?_
        rintro e9 w3 ⟨q, rfl, q0, q1, t9, g9⟩
        have T3 := hide t9
        clear t9 g9 T2
        go_wp2_with fail
        go_meet
        case rel => exact ⟨(40 + q).toNat, by rw [Int.toNat_of_nonneg (by omega)], by omega, T3.out⟩
  case rest =>
    · skip
      obtain ⟨N, rfl, hN, hT⟩ := hcut
      have T3 := hide hT
      have s3 := hT.1.size
      clear hT T2
      go_wp2_with fail
      go_loopw [3, 4] (fun v j wr => ∃ (k : Nat) (O : List Pl.In), j = .int .i64 (k : Int) ∧ k ≤ N ∧ O.length + k = N ∧ (∀ x ∈ O, SmallI x) ∧ wr.ownsRow w.heap.size 36 7 v O.length ((Pl.flat O).map (Value.int .i64)) ∧ Went w wr b a len cap p (6 + 700 * ((N : Int) - k))) (fun _ j _ => (intOf j).toNat)
      case atStart => exact ⟨N, [], rfl, Nat.le_refl _, by simp, by simp, World.ownsRow_nil _ _ _ _, T3.out.more (by omega)⟩
      case round =>
        obtain ⟨k, O, rfl, hk, hOl, hsm, hown, hwent⟩ := hrel
        have HO := hide hown
        have HT := hide hwent
        have HS := hide hsm
        clear hown hwent hsm
        by_cases hlt : 0 < k
        · go_wp2_with fail
          refine (insW HT.out p0 (by omega)).mono ?_
          rintro e9 w4 ⟨X, rfl, sx, t9, g9⟩
          have T4 := hide (t9.allocW (.cells #[.int .i64 X.op, .int .i64 X.z, .int .i64 X.r, .int .i64 X.m, .int .i64 X.k, .int .i64 X.e, .int .i64 X.s] 36))
          have O4 := hide ((HO.out.kept g9 (.inr (fun e => by have := HO.out.lt b e; omega))).alloc (.cells #[.int .i64 X.op, .int .i64 X.z, .int .i64 X.r, .int .i64 X.m, .int .i64 X.k, .int .i64 X.e, .int .i64 X.s] 36))
          have BN := hide (Blk.new w4 #[.int .i64 X.op, .int .i64 X.z, .int .i64 X.r, .int .i64 X.m, .int .i64 X.k, .int .i64 X.e, .int .i64 X.s] 36)
          clear t9 g9 HO HT
          go_wp2_with (first | (at_builtin; refine wpList_append_own _ rfl _ _ 23 rfl w.heap.size 36 i (.agg #[.int .i64 0, .int .i64 0, .int .i64 0, .int .i64 0, .int .i64 0, .int .i64 0, .int .i64 0]) 7 56 Tryd.underlying23 hi hz0 hz1 hz2 rfl (by decide) _ _ _ rfl O4.out ⟨w4.heap.size, 0, none⟩ 1 1 [.int .i64 X.op, .int .i64 X.z, .int .i64 X.r, .int .i64 X.m, .int .i64 X.k, .int .i64 X.e, .int .i64 X.s] rfl rfl ?c1 ?c2 ?c3 ?c4 ?c5 ?_))
          case c1 => exact World.news_of_block (cs := #[.int .i64 X.op, .int .i64 X.z, .int .i64 X.r, .int .i64 X.m, .int .i64 X.k, .int .i64 X.e, .int .i64 X.s]) (t := 36) (fr := (0, 0)) BN.out
          case c2 => intro u hu; simp at hu; rcases hu with rfl | rfl | rfl | rfl | rfl | rfl | rfl <;> rfl
          case c3 => unfold maxLen; omega
          case c4 => omega
          case c5 => have := T4.out.1.size; omega
          intro v' w5 hown' hgr _
          have HO5 := hide hown'
          have T5 := hide (T4.out.over HC.out hgr (fun g hg => (O4.out.lt g hg).1))
          clear hown' hgr T4 O4 BN
          go_wp2_with fail
          go_roundw
          case rel => exact ⟨k - 1, O ++ [X], by go_num, by omega, by simp; omega, small_snoc HS.out sx, (by rw [Pl.flat_snoc, List.length_append, List.map_append]; exact HO5.out), T5.out.more (by omega)⟩
          case measure => simp [intOf]; omega
        · obtain ⟨d, dc, rfl, hS⟩ := slotIn_row7 HO.out
          obtain rfl : k = 0 := by omega
          have HSl := hide hS
          clear hS HO
          cases O with
          | nil =>
            go_wp2_with fail
            go_ret
            exact ⟨d, dc, [], rfl, by simp, by simp, HSl.out, HT.out.more (by omega)⟩
          | cons x0 t =>
            simp only [List.length_cons] at hOl
            obtain rfl : N = t.length + 1 := by omega
            obtain ⟨_, e2⟩ | ⟨g, rfl, g0, g1, hO⟩ := HSl.out
            · simp [Pl.flat] at e2
            · go_wp2_with fail
              refine (oneW HT.out p0 (by omega) 20 (by omega) (by omega)).mono ?_
              rintro e9 w6 ⟨on2, rfl, t9, g9⟩
              have T6 := hide t9
              have O6 := hide (hO.kept g9 (by simp; omega))
              have s6 := g9.size
              clear t9 g9 hO HSl HT
              cases on2
              · go_wp2_with fail
                go_ret
                exact ⟨_, dc, x0 :: t, rfl, by simp; omega, HS.out, .inr ⟨g, rfl, g0, by omega, O6.out⟩, T6.out.more (by omega)⟩
              · go_wp2_with fail
                refine (anyInsW T6.out p0 (by omega)).mono ?_
                rintro e9 w7 ⟨X, rfl, sx, t9, g9⟩
                have T7 := hide t9
                have O7 := hide (O6.out.kept g9 (by simp; omega))
                have s7 := g9.size
                clear t9 g9 T6 O6
                obtain ⟨⟨p0', p1', p2', p3', p4', p5', p6'⟩, f0, f1, f2, f3, f4, f5, f6⟩ := O7.out.at7 (n := t.length + 1) (k := 0) (by rw [Pl.flat_len]; rfl) (by omega)
                simp only [Nat.zero_mul, Nat.zero_add] at p0' p1' p2' p3' p4' p5' p6' f0 f1 f2 f3 f4 f5 f6
                go_wp2_with fail
                go_ret
                have O8 := O7.out.set7 0 X.op X.z X.r X.m X.k X.e X.s
                rw [flat_set] at O8
                exact ⟨_, dc, X :: t, rfl, by simp; omega, small_head HS.out sx, .inr ⟨g, rfl, g0, by simp; omega, O8⟩, (((((((T7.out.setNew HC.out g _ _ g0).setNew HC.out g _ _ g0).setNew HC.out g _ _ g0).setNew HC.out g _ _ g0).setNew HC.out g _ _ g0).setNew HC.out g _ _ g0).setNew HC.out g _ _ g0).more (by omega)⟩
theorem enc_mem {x : Pl.In} (h : Pl.inOk x = true) : ∀ y ∈ Pl.encode x, 0 ≤ y ∧ y ≤ 65535 := by
  have hw := Pl.word1_in h
  have he := (Pl.modeR h).2.2.2.2.2.2.2.2.2
  intro y hy
  unfold Pl.encode at hy
  split at hy
  · simp at hy
    rcases hy with rfl | rfl
    · exact hw
    · exact ⟨he.1, he.2.1⟩
  · simp at hy
    rw [hy]
    exact hw
theorem encTo_mem {ys : List Int} : ∀ n : Nat, Pl.allIn ys n = true → ∀ y ∈ Pl.encTo ys n, 0 ≤ y ∧ y ≤ 65535
  | 0, _ => by intro y hy; simp [Pl.encTo] at hy
  | n + 1, h => by
    unfold Pl.allIn at h
    rw [Bool.and_eq_true] at h
    intro y hy
    unfold Pl.encTo at hy
    rw [List.mem_append] at hy
    rcases hy with hy | hy
    · exact encTo_mem n h.1 y hy
    · exact enc_mem h.2 y hy
theorem ea_mem (ys : List Int) (n : Nat) : (∀ y ∈ Pl.eaV ys n, -1 ≤ y ∧ y ≤ 65536) ∧ (Pl.eaV ys n).length ≤ 2 * n := by
  unfold Pl.eaV
  split
  · rename_i h
    simp only [Pl.eaOk, Bool.and_eq_true] at h
    refine ⟨fun y hy => ?_, Pl.encTo_len ys n⟩
    have := encTo_mem n h.1 y hy
    omega
  · exact ⟨by simp, by simp⟩
theorem set_mem {L : List Int} {i : Nat} {v : Int} (h : ∀ y ∈ L, -1 ≤ y ∧ y ≤ 65536) (v0 : -1 ≤ v) (v1 : v ≤ 65536) : ∀ y ∈ L.set i v, -1 ≤ y ∧ y ≤ 65536 := by
  intro y hy
  rcases List.mem_or_eq_of_mem_set hy with hy | rfl
  · exact h y hy
  · exact ⟨v0, v1⟩
theorem drawEncodeAll (w : World) (a : Option Addr) (len cap : Nat) (h : Bytes w a len) :
    Calls Tryd.prog 5 #[.slice a len cap] w fun e w' => ∃ (d : Option Addr) (c : Nat) (O : List Pl.In), e = .returned (.slice d O.length c) ∧ O.length ≤ 41 ∧ (∀ x ∈ O, SmallI x) ∧ SlotIn w' w.heap.size w'.heap.size d (Pl.flat O) ∧ Below w.heap.size w w' := by
  go_enter Tryd.func5, Tryd.ntmps5
  go_wp2_with fail
  refine (insList _ _ a len cap 0 (h.cur cap) (by omega) (by omega)).mono ?_
  rintro e w2 ⟨d, c, O, rfl, hO, hs, sl, hw⟩
  go_wp2_with fail
  go_ret
  exact ⟨d, c, O, rfl, hO, hs, sl.wide (by simp) (Nat.le_refl _), below_of hw.1⟩
set_option maxRecDepth 100000 in
set_option maxHeartbeats 8000000 in
theorem drawDecodeAll (w : World) (a : Option Addr) (len cap : Nat) (h : Bytes w a len) :
    Calls Tryd.prog 11 #[.slice a len cap] w fun e w' => ∃ (d : Option Addr) (c : Nat) (L : List Int), e = .returned (.slice d L.length c) ∧ L.length ≤ 100 ∧ (∀ x ∈ L, -1 ≤ x ∧ x ≤ 65536) ∧ SlotIn w' w.heap.size w'.heap.size d L ∧ Below w.heap.size w w' ∧ L.length ≤ c := by
  have HC := hide (h.cur cap)
  go_enter Tryd.func11, Tryd.ntmps11
  go_wp2_with fail
  refine (insList _ _ a len cap 0 HC.out (by omega) (by omega)).mono ?_
  rintro e w2 ⟨d, c, O, rfl, hO, hs, sl, hw⟩
  have T2 := hide hw
  have s2 := hw.1.size
  simp only [World.size_alloc] at s2
  have S2 := hide sl
  clear hw sl hs
  go_wp2_with fail
  refine (specEncodeAllC _ d c O.length (Pl.flat O) S2.out.row (Pl.flat_len O) (by omega)).mono ?_
  rintro e w3 ⟨d1, c1, rfl, sl, k3, hc1⟩
  have HC1 := hide hc1
  have T3 := hide (wentK T2.out k3)
  have S3 := hide (sl.wide s2 (Nat.le_refl _))
  have s3 := k3.size
  clear sl k3 hc1 T2 S2
  obtain ⟨L, hL⟩ : ∃ L, L = Pl.eaV (Pl.flat O) O.length := ⟨_, rfl⟩
  obtain ⟨ok, hok⟩ : ∃ ok, ok = Pl.eaOk (Pl.flat O) O.length := ⟨_, rfl⟩
  obtain ⟨hm, hl⟩ := ea_mem (Pl.flat O) O.length
  rw [← hL] at S3 hm hl HC1 ⊢
  rw [← hok]
  have HM := hide hm
  clear hL hok hm
  have bl : L.length ≤ 82 := by omega
  clear hl
  cases ok
  · go_wp2_with fail
    go_ret
    exact ⟨d1, c1, L, rfl, by omega, HM.out, S3.out.wide (Nat.le_succ _) (Nat.le_refl _), below_of T3.out.1, HC1.out⟩
  · cases L with
    | nil =>
      go_wp2_with fail
      go_ret
      exact ⟨d1, c1, [], rfl, by simp, HM.out, S3.out.wide (Nat.le_succ _) (Nat.le_refl _), below_of T3.out.1, HC1.out⟩
    | cons x0 t =>
      obtain ⟨_, e2⟩ | ⟨g, rfl, g0, g1, hO3⟩ := S3.out
      · simp at e2
      · go_wp2_with fail
        refine (oneW T3.out (by omega) (by omega) 3 (by omega) (by omega)).mono ?_
        rintro e9 w4 ⟨on, rfl, t9, g9⟩
        have T4 := hide t9
        have O4 := hide (hO3.kept g9 (by simp; omega))
        have s4 := g9.size
        clear t9 g9 T3 hO3 S3
        simp only [List.length_cons] at bl
        cases on
        · go_wp2_with fail
          go_ret
          exact ⟨_, c1, x0 :: t, rfl, by simp; omega, HM.out, .inr ⟨g, rfl, by omega, by omega, O4.out⟩, below_of T4.out.1, HC1.out⟩
        · go_wp2_with fail
          refine (pickW T4.out (by omega) (by omega) ((t.length : Int) + 1) (by omega) (by omega)).mono ?_
          rintro e9 w5 ⟨i, rfl, i0, i1, t9, g9⟩
          have T5 := hide t9
          have O5 := hide (O4.out.kept g9 (by simp; omega))
          have s5 := g9.size
          clear t9 g9 T4 O4
          obtain ⟨j, rfl⟩ := Int.eq_ofNat_of_zero_le i0
          go_wp2_with fail
          refine (valueW T5.out (by omega) (by omega)).mono ?_
          rintro e9 w6 ⟨v, rfl, v0, v1, t9, g9⟩
          have T6 := hide t9
          have O6 := hide (O5.out.kept g9 (by simp; omega))
          have s6 := g9.size
          clear t9 g9 T5 O5
          obtain ⟨c9, f9⟩ := O6.out j (by simp; omega)
          have T7 := T6.out.setNew HC.out g j (.int .i64 v) (by simp; omega)
          have H7 := hide T7
          clear T7
          go_wp2_with fail
          go_ret
          exact ⟨_, c1, (x0 :: t).set j v, by simp, by simp; omega, set_mem HM.out v0 v1, .inr ⟨g, rfl, by omega, by simp; omega, O6.out.set v⟩, below_of H7.out.1, by have q := HC1.out; simpa using q⟩
end Go.Proofs.YtlbnllhabdnjjaaDoor
