/- What the model of DecodeAll answers, for every list. -/
import Derived.Test.YtlbnllhabdnjjaaDoorSpecIns5
import Derived.Test.YtlbnllhabdnjjaaDoorGrB
namespace Go.Proofs.YtlbnllhabdnjjaaDoor
open Go.RowKit
set_option linter.unusedVariables false
set_option linter.unusedSimpArgs false
theorem slotIn_row7 {w : World} {base n : Nat} {v : Value} {xs : List Int} (h : w.ownsRow base 36 7 v n (xs.map (Value.int .i64))) : ∃ (b : Option Addr) (cb : Nat), v = .slice b n cb ∧ SlotIn w base w.heap.size b xs := by
  have h9 := h
  rcases h with ⟨hl, ⟨rfl, e⟩ | ⟨g, cap, cur, e, hb, hgg, hn, _, hsz, ht⟩⟩
  · subst e
    exact ⟨none, 0, rfl, .inl ⟨rfl, by simpa using hl⟩⟩
  · subst e
    exact ⟨some ⟨g, 0, none⟩, cap, rfl, .inr ⟨g, rfl, (h9.lt g rfl).1, (h9.lt g rfl).2, own_of_row7 h9⟩⟩
set_option maxRecDepth 20000 in
set_option maxHeartbeats 8000000 in
theorem specDecodeAll (w : World) (a : Option Addr) (ca : Nat) (xs : List Int) (ha : IRow w a xs) (bx : xs.length ≤ 2000000) :
    Calls Tryd.prog 12 #[.slice a xs.length ca] w fun e' w' => ∃ (b : Option Addr) (c : Nat), e' = .returned (.tuple #[.slice b (Pl.daV xs).length c, .bool (Pl.daOk xs)]) ∧ SlotIn w' w.heap.size w'.heap.size b (Pl.flat (Pl.daV xs)) ∧ Kept 0 0 w w' := by
  have HA := hide ha
  clear ha
  obtain ⟨i, hi, hz0, hz1, hz2⟩ := info_parts Tryd.infoIns
  cases h80 : decide ((80 : Int) < (xs.length : Int))
  · have b80 : xs.length ≤ 80 := by simp at h80; omega
    go_enter Tryd.func12, Tryd.ntmps12
    go_wp2_with fail
    go_loopw [4, 5, 6, 7, 8, 9] (fun v j _ _ _ _ wr => ∃ (k : Nat) (O : List Pl.In), k ≤ xs.length ∧ j = .int .i64 k ∧ O.length ≤ k ∧ Pl.daFrom xs k O ∧ wr.ownsRow w.heap.size 36 7 v O.length ((Pl.flat O).map (Value.int .i64)) ∧ Kept 0 0 w wr) (fun _ j _ _ _ _ _ => xs.length - (intOf j).toNat)
    case atStart => exact ⟨0, [], Nat.zero_le _, rfl, Nat.le_refl _, Pl.daFrom_start xs, World.ownsRow_nil _ _ _ _, Kept.refl _ _ _⟩
    case round =>
      obtain ⟨k, O, hk, rfl, hOl, hfrom, hown, hkept⟩ := hrel
      have HK := hide hkept
      have HO := hide hown
      have HF := hide hfrom
      clear hkept hown hfrom
      by_cases hlt : k < xs.length
      · obtain ⟨g1, o1, rfl, hc1⟩ := (HA.out.keptS HK.out) k hlt
        rw [show xs[k]?.getD 0 = el xs k from rfl] at hc1
        cases hw : Pl.wordOk (el xs k)
        · have E : Hid (Pl.daOk xs = false) := hide (by simp [Pl.daOk, Pl.daFrom_word HF.out hlt hw])
          go_wp2_with (first | (go_at_call 28; refine (specWord _ _).mono ?_; rintro e9 w' ⟨rfl, hw9⟩; have hw2 := hw9.symm; clear hw9; subst hw2; rw [hw]))
          go_ret2
          exact ⟨none, 0, by simp [Pl.daV, E.out, Pl.flat], .inl ⟨rfl, by simp [Pl.daV, E.out, Pl.flat]⟩, HK.out⟩
        · obtain ⟨b0, b1⟩ := wordIn hw
          rcases Pl.long_or (el xs k) with hL | hL
          · obtain ⟨hdn, hdy⟩ := Pl.daFrom_one HF.out hlt hw hL
            cases hd : Pl.decOk (el xs k) 0
            · have E : Hid (Pl.daOk xs = false) := hide (by simp [Pl.daOk, hdn hd])
              have EX : Hid (Pl.dec (el xs k) 0 = Pl.inNo) := hide (by simp [Pl.dec, hd])
              have EN : Hid (Pl.decN (el xs k) 0 = 0) := hide (by simp [Pl.decN, hd])
              clear hdn hdy
              go_wp2_with (first | (go_at_call 28; refine (specWord _ _).mono ?_; rintro e9 w' ⟨rfl, hw9⟩; have hw2 := hw9.symm; clear hw9; subst hw2; rw [hw]) | (go_at_call 29; refine (specLong _ _ b0 b1).mono ?_; rintro e9 w' ⟨rfl, hw9⟩; have hw2 := hw9.symm; clear hw9; subst hw2; rw [hL]) | (go_at_call 30; refine (specDecodeIns _ (el xs k) 0).mono ?_; rintro e9 w2 ⟨rfl, k2⟩; rw [EX.out, EN.out, hd]; have K2 := hide (HK.out.trans k2); clear k2))
              go_ret2
              exact ⟨none, 0, by simp [Pl.daV, E.out, Pl.flat], .inl ⟨rfl, by simp [Pl.daV, E.out, Pl.flat]⟩, kept_new K2.out _⟩
            · obtain ⟨X, hX⟩ : ∃ X, X = Pl.decode (el xs k) 0 := ⟨_, rfl⟩
              have EX : Hid (Pl.dec (el xs k) 0 = X) := hide (by rw [hX]; simp [Pl.dec, hd])
              have EN : Hid (Pl.decN (el xs k) 0 = 1) := hide (by simp [Pl.decN, hd, hL])
              have HF2 := hide (hdy hd)
              rw [← hX] at HF2
              clear hdn hdy hX
              go_wp2_with (first | (go_at_call 28; refine (specWord _ _).mono ?_; rintro e9 w' ⟨rfl, hw9⟩; have hw2 := hw9.symm; clear hw9; subst hw2; rw [hw]) | (go_at_call 29; refine (specLong _ _ b0 b1).mono ?_; rintro e9 w' ⟨rfl, hw9⟩; have hw2 := hw9.symm; clear hw9; subst hw2; rw [hL]) | (go_at_call 30; refine (specDecodeIns _ (el xs k) 0).mono ?_; rintro e9 w2 ⟨rfl, k2⟩; rw [EX.out, EN.out, hd]; have K2 := hide (HK.out.trans k2); have O2 := hide (((HO.out.kept k2.grown (Classical.em _)).alloc (.cells #[.int .i64 X.op, .int .i64 X.z, .int .i64 X.r, .int .i64 X.m, .int .i64 X.k, .int .i64 X.e, .int .i64 X.s] 36)).alloc (.cells #[.int .i64 X.op, .int .i64 X.z, .int .i64 X.r, .int .i64 X.m, .int .i64 X.k, .int .i64 X.e, .int .i64 X.s] 36)); have BN := Blk.new (w2.alloc (.cells #[.int .i64 X.op, .int .i64 X.z, .int .i64 X.r, .int .i64 X.m, .int .i64 X.k, .int .i64 X.e, .int .i64 X.s] 36)) #[.int .i64 X.op, .int .i64 X.z, .int .i64 X.r, .int .i64 X.m, .int .i64 X.k, .int .i64 X.e, .int .i64 X.s] 36; simp only [World.size_alloc] at BN; replace BN := hide BN; have s2 := K2.out.size; clear k2) | (at_builtin; refine wpList_append_own _ rfl _ _ 23 rfl w.heap.size 36 i (.agg #[.int .i64 0, .int .i64 0, .int .i64 0, .int .i64 0, .int .i64 0, .int .i64 0, .int .i64 0]) 7 56 Tryd.underlying23 hi hz0 hz1 hz2 rfl (by decide) _ _ _ rfl O2.out ⟨w2.heap.size + 1, 0, none⟩ 1 1 [.int .i64 X.op, .int .i64 X.z, .int .i64 X.r, .int .i64 X.m, .int .i64 X.k, .int .i64 X.e, .int .i64 X.s] rfl rfl ?c1 ?c2 ?c3 ?c4 ?c5 ?_))
              case c1 => exact World.news_of_block (cs := #[.int .i64 X.op, .int .i64 X.z, .int .i64 X.r, .int .i64 X.m, .int .i64 X.k, .int .i64 X.e, .int .i64 X.s]) (t := 36) (fr := (0, 0)) BN.out
              case c2 => intro u hu; simp at hu; rcases hu with rfl | rfl | rfl | rfl | rfl | rfl | rfl <;> rfl
              case c3 => unfold maxLen; omega
              case c4 => omega
              case c5 => simp; omega
              intro v' w4 hown' hgr _
              have HO4 := hide hown'
              have K4 := hide (kept_over (kept_new (kept_new K2.out (.cells #[.int .i64 X.op, .int .i64 X.z, .int .i64 X.r, .int .i64 X.m, .int .i64 X.k, .int .i64 X.e, .int .i64 X.s] 36)) (.cells #[.int .i64 X.op, .int .i64 X.z, .int .i64 X.r, .int .i64 X.m, .int .i64 X.k, .int .i64 X.e, .int .i64 X.s] 36)) (kept_row (lo := w.heap.size) (hi := w2.heap.size + 1 + 1) hgr (fun g hg => by have q := O2.out.lt g hg; simpa using q)) (Nat.le_refl _))
              clear hown' hgr
              go_wp2_with fail
              go_roundw
              case rel => exact ⟨k + 1, O ++ [X], by omega, by go_num, by simp; omega, HF2.out, by rw [Pl.flat_snoc, List.length_append, List.map_append]; exact HO4.out, K4.out⟩
              case measure => simp [intOf]; omega
          · by_cases he : k + 1 = xs.length
            · have E : Hid (Pl.daOk xs = false) := hide (by simp [Pl.daOk, Pl.daFrom_short HF.out hlt hL he])
              have hq : ((k : Int) + 1 == (xs.length : Int)) = true := by simp; omega
              go_wp2_with (first | (go_at_call 28; refine (specWord _ _).mono ?_; rintro e9 w' ⟨rfl, hw9⟩; have hw2 := hw9.symm; clear hw9; subst hw2; rw [hw]) | (go_at_call 29; refine (specLong _ _ b0 b1).mono ?_; rintro e9 w' ⟨rfl, hw9⟩; have hw2 := hw9.symm; clear hw9; subst hw2; rw [hL]))
              go_ret2
              exact ⟨none, 0, by simp [Pl.daV, E.out, Pl.flat], .inl ⟨rfl, by simp [Pl.daV, E.out, Pl.flat]⟩, HK.out⟩
            · have hq : ((k : Int) + 1 == (xs.length : Int)) = false := by simp; omega
              obtain ⟨g2, o2, ea, hc2⟩ := (HA.out.keptS HK.out) (k + 1) (by omega)
              cases ea
              rw [show xs[k + 1]?.getD 0 = el xs (k + 1) from rfl] at hc2
              have hlt2 : (k : Int) + 1 < (xs.length : Int) := by omega
              obtain ⟨hdn, hdy⟩ := Pl.daFrom_two HF.out (by omega) hw hL
              cases hd : Pl.decOk (el xs k) (el xs (k + 1))
              · have E : Hid (Pl.daOk xs = false) := hide (by simp [Pl.daOk, hdn hd])
                have EX : Hid (Pl.dec (el xs k) (el xs (k + 1)) = Pl.inNo) := hide (by simp [Pl.dec, hd])
                have EN : Hid (Pl.decN (el xs k) (el xs (k + 1)) = 0) := hide (by simp [Pl.decN, hd])
                clear hdn hdy
                go_wp2_with (first | (go_at_call 28; refine (specWord _ _).mono ?_; rintro e9 w' ⟨rfl, hw9⟩; have hw2 := hw9.symm; clear hw9; subst hw2; rw [hw]) | (go_at_call 29; refine (specLong _ _ b0 b1).mono ?_; rintro e9 w' ⟨rfl, hw9⟩; have hw2 := hw9.symm; clear hw9; subst hw2; rw [hL]) | (go_at_call 30; refine (specDecodeIns _ (el xs k) (el xs (k + 1))).mono ?_; rintro e9 w2 ⟨rfl, k2⟩; rw [EX.out, EN.out, hd]; have K2 := hide (HK.out.trans k2); clear k2))
                go_ret2
                exact ⟨none, 0, by simp [Pl.daV, E.out, Pl.flat], .inl ⟨rfl, by simp [Pl.daV, E.out, Pl.flat]⟩, kept_new K2.out _⟩
              · obtain ⟨X, hX⟩ : ∃ X, X = Pl.decode (el xs k) (el xs (k + 1)) := ⟨_, rfl⟩
                have EX : Hid (Pl.dec (el xs k) (el xs (k + 1)) = X) := hide (by rw [hX]; simp [Pl.dec, hd])
                have EN : Hid (Pl.decN (el xs k) (el xs (k + 1)) = 2) := hide (by simp [Pl.decN, hd, hL])
                have HF2 := hide (hdy hd)
                rw [← hX] at HF2
                clear hdn hdy hX
                go_wp2_with (first | (go_at_call 28; refine (specWord _ _).mono ?_; rintro e9 w' ⟨rfl, hw9⟩; have hw2 := hw9.symm; clear hw9; subst hw2; rw [hw]) | (go_at_call 29; refine (specLong _ _ b0 b1).mono ?_; rintro e9 w' ⟨rfl, hw9⟩; have hw2 := hw9.symm; clear hw9; subst hw2; rw [hL]) | (go_at_call 30; refine (specDecodeIns _ (el xs k) (el xs (k + 1))).mono ?_; rintro e9 w2 ⟨rfl, k2⟩; rw [EX.out, EN.out, hd]; have K2 := hide (HK.out.trans k2); have O2 := hide (((HO.out.kept k2.grown (Classical.em _)).alloc (.cells #[.int .i64 X.op, .int .i64 X.z, .int .i64 X.r, .int .i64 X.m, .int .i64 X.k, .int .i64 X.e, .int .i64 X.s] 36)).alloc (.cells #[.int .i64 X.op, .int .i64 X.z, .int .i64 X.r, .int .i64 X.m, .int .i64 X.k, .int .i64 X.e, .int .i64 X.s] 36)); have BN := Blk.new (w2.alloc (.cells #[.int .i64 X.op, .int .i64 X.z, .int .i64 X.r, .int .i64 X.m, .int .i64 X.k, .int .i64 X.e, .int .i64 X.s] 36)) #[.int .i64 X.op, .int .i64 X.z, .int .i64 X.r, .int .i64 X.m, .int .i64 X.k, .int .i64 X.e, .int .i64 X.s] 36; simp only [World.size_alloc] at BN; replace BN := hide BN; have s2 := K2.out.size; clear k2) | (at_builtin; refine wpList_append_own _ rfl _ _ 23 rfl w.heap.size 36 i (.agg #[.int .i64 0, .int .i64 0, .int .i64 0, .int .i64 0, .int .i64 0, .int .i64 0, .int .i64 0]) 7 56 Tryd.underlying23 hi hz0 hz1 hz2 rfl (by decide) _ _ _ rfl O2.out ⟨w2.heap.size + 1, 0, none⟩ 1 1 [.int .i64 X.op, .int .i64 X.z, .int .i64 X.r, .int .i64 X.m, .int .i64 X.k, .int .i64 X.e, .int .i64 X.s] rfl rfl ?c1 ?c2 ?c3 ?c4 ?c5 ?_))
                case c1 => exact World.news_of_block (cs := #[.int .i64 X.op, .int .i64 X.z, .int .i64 X.r, .int .i64 X.m, .int .i64 X.k, .int .i64 X.e, .int .i64 X.s]) (t := 36) (fr := (0, 0)) BN.out
                case c2 => intro u hu; simp at hu; rcases hu with rfl | rfl | rfl | rfl | rfl | rfl | rfl <;> rfl
                case c3 => unfold maxLen; omega
                case c4 => omega
                case c5 => simp; omega
                intro v' w4 hown' hgr _
                have HO4 := hide hown'
                have K4 := hide (kept_over (kept_new (kept_new K2.out (.cells #[.int .i64 X.op, .int .i64 X.z, .int .i64 X.r, .int .i64 X.m, .int .i64 X.k, .int .i64 X.e, .int .i64 X.s] 36)) (.cells #[.int .i64 X.op, .int .i64 X.z, .int .i64 X.r, .int .i64 X.m, .int .i64 X.k, .int .i64 X.e, .int .i64 X.s] 36)) (kept_row (lo := w.heap.size) (hi := w2.heap.size + 1 + 1) hgr (fun g hg => by have q := O2.out.lt g hg; simpa using q)) (Nat.le_refl _))
                clear hown' hgr
                go_wp2_with fail
                go_roundw
                case rel => exact ⟨k + 2, O ++ [X], by omega, by go_num, by simp; omega, HF2.out, by rw [Pl.flat_snoc, List.length_append, List.map_append]; exact HO4.out, K4.out⟩
                case measure => simp [intOf]; omega
      · obtain rfl : k = xs.length := by omega
        have hda := Pl.daFrom_end HF.out (Nat.le_refl _)
        have E : Hid (Pl.daOk xs = true) := hide (by simp [Pl.daOk, hda]; omega)
        have EV : Hid (Pl.daV xs = O) := hide (by simp [Pl.daV, E.out, hda])
        obtain ⟨b, cb, rfl, hS⟩ := slotIn_row7 HO.out
        clear hda
        go_wp2_with fail
        go_ret2
        exact ⟨b, cb, by rw [EV.out, E.out]; rfl, by rw [EV.out]; exact hS, HK.out⟩
  · have E : Hid (Pl.daOk xs = false) := hide (by simp at h80; simp [Pl.daOk]; omega)
    go_enter Tryd.func12, Tryd.ntmps12
    go_wp2_with fail
    go_ret2
    exact ⟨none, 0, by simp [Pl.daV, E.out, Pl.flat], .inl ⟨rfl, by simp [Pl.daV, E.out, Pl.flat]⟩, Kept.refl _ _ _⟩
end Go.Proofs.YtlbnllhabdnjjaaDoor
