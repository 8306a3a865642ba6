/- What the program's row of bytes answers that is made of a list, and made a list again. -/
import Derived.Test.YtlocilcnmbmikaaImplChan
import Derived.Test.YtlocilcnmbmikaaCopyInts
namespace Go.Proofs.Ytlocilcnmbmikaa
open Go.RowKit Go.Conc
set_option linter.unusedVariables false

theorem mkChan (w : World) (n : Nat) (hn : n ≤ 1000) : (Instr.makeChan 69 (.int .i64 (n : Int))).run Try.prog w = .ok (.chan (some w.heap.size)) (w.alloc (.chan n #[] false 0 0 false)) := by
  obtain ⟨i, hi, hz0, hz1, hz2⟩ := info_parts Try.info3
  exact run_makeChan (P := Try.prog) (w := w) Try.underlying69 hi .i64 n (by omega) (by rw [hz2]; omega)
theorem lenChan {w : World} {c cap : Nat} {vs : List Int} (h : Ch w c cap vs) (ty : TypeId) : (Builtin.len_ #[69] ty #[.chan (some c)]).run Try.prog w = .ok (.int .i64 (vs.length : Int)) w := by
  obtain ⟨s, r, hc⟩ := h
  have := run_len_chan (P := Try.prog) 69 ty Try.underlying69 hc
  rw [cellsOf_size] at this
  exact this
theorem ch_new (w : World) (n : Nat) : Ch (w.alloc (.chan n #[] false 0 0 false)) w.heap.size n [] := ⟨0, 0, heap_alloc_new w _⟩

theorem take_snoc {xs : List Int} {k : Nat} (h : k < xs.length) : xs.take k ++ [el xs k] = xs.take (k + 1) := by
  rw [List.take_add_one, List.getElem?_eq_getElem h]
  simp [el, List.getElem?_eq_getElem h]

theorem fifoOf (w : World) (a : Option Addr) (ca room : Nat) (xs : List Int) (ha : IRow w a xs) (hx : xs.length ≤ room) (hr : room ≤ 1000) :
    Calls Try.prog 61 #[.slice a xs.length ca, .int .i64 (room : Int)] w fun e w' => e = .returned (.chan (some w.heap.size)) ∧ Ch w' w.heap.size room xs ∧ Kept 0 0 w w' := by
  have HA := hide ha
  have hmc := fun w => mkChan w room hr
  clear ha
  go_enter Try.func61, Try.ntmps61
  go_wp2
  go_loopw [7, 12] (fun _ j wr => ∃ k : Nat, k ≤ xs.length ∧ j = .int .i64 k ∧ Ch wr w.heap.size room (xs.take k) ∧ Kept 0 0 w wr) (fun _ j _ => xs.length - (intOf j).toNat)
  case atStart => exact ⟨0, Nat.zero_le _, rfl, ch_new _ _, kept_alloc _ _⟩
  case round =>
    obtain ⟨k, hk, rfl, hC, hK⟩ := hrel
    have HC := hide hC
    have HK := hide hK
    clear hC hK
    by_cases hlt : k < xs.length
    · obtain ⟨g1, o1, rfl, hc1⟩ := (HA.out.keptS HK.out) k hlt
      rw [show xs[k]?.getD 0 = el xs k from rfl] at hc1
      go_wp2_with (go_at_call 70; refine (fifoPut _ _ _ _ _ HC.out).mono ?_; rintro e w2 ⟨rfl, hC2, hK2⟩)
      rw [if_pos (by rw [List.length_take]; omega), take_snoc hlt] at hC2
      go_round
      case rel => exact ⟨k + 1, by omega, by go_num, hC2, kept_over HK.out hK2 (Nat.le_refl _)⟩
      case measure => simp [intOf]; omega
    · go_wp2
      go_ret
      have e : k = xs.length := by omega
      have := HC.out
      rw [e, List.take_length] at this
      exact ⟨rfl, this, HK.out⟩

theorem kept_past {w W W' : World} {lo hi l h : Nat} (k : Kept lo hi w W) (m : Kept l h W W') (hg : w.heap.size ≤ l) : Kept lo hi w W' :=
  ⟨m.os.trans k.os, m.tape.trans k.tape, m.output.trans k.output, Nat.le_trans k.size m.size, fun j hj hn => (m.block j (Nat.lt_of_lt_of_le hj k.size) (by omega)).trans (k.block j hj hn)⟩

def lenV : Value → Nat
  | .slice _ n _ => n
  | _ => 0

theorem fifoDrain (w : World) (c cap : Nat) (vs : List Int) (h : Ch w c cap vs) (hv : vs.length ≤ 1000) :
    Calls Try.prog 66 #[.chan (some c)] w fun e w' => e = .returned (.slice (some ⟨w.heap.size, 0, none⟩) vs.length vs.length) ∧ w'.ownsRow w.heap.size 3 1 (.slice (some ⟨w.heap.size, 0, none⟩) vs.length vs.length) vs.length (vs.map (Value.int .i64)) ∧ Ch w' c cap [] ∧ Kept c (c + 1) w w' := by
  obtain ⟨i, hi, hz0, hz1, hz2⟩ := info_parts Try.info3
  have hlen := fun ty => lenChan h ty
  have HC := hide h
  have hcl := h.lt
  clear h
  go_enter Try.func66, Try.ntmps66
  go_wp2_with (at_make; refine wpList_make_own _ rfl _ _ 22 rfl w.heap.size 3 i (.int .i64 0) 1 Try.underlying22 hi hz0 hz1 _ _ _ vs.length rfl rfl rfl ?c1 ?c2 ?c3 ?_)
  case c1 => rw [hz2]; omega
  case c2 => unfold maxLen; omega
  case c3 => exact Nat.le_refl _
  intro w1 hown hg
  have HO := hide hown
  have HK1 := hide (kept_grown hg)
  have HC1 := hide (HC.out.kept HK1.out (by omega))
  have hs1 := (hown.lt _ rfl).2
  clear hown hg hlen HC
  go_wp2_with (go_at_call 72; refine (fifoTake _ _ _ _ HC1.out).mono ?_; rintro e w2 ⟨rfl, hC2, hK2⟩)
  go_loopw [3, 4, 5] (fun l v o wr => ∃ k : Nat, k ≤ vs.length ∧ l = .slice (some ⟨w.heap.size, 0, none⟩) k vs.length ∧ v = .int .i64 (el vs k) ∧ o = .bool (decide (k < vs.length)) ∧ wr.ownsRow w.heap.size 3 1 (.slice (some ⟨w.heap.size, 0, none⟩) k vs.length) k ((vs.take k).map (Value.int .i64)) ∧ Ch wr c cap (vs.drop (k + 1)) ∧ Kept c (c + 1) w wr) (fun l _ _ _ => vs.length - lenV l)
  case atStart => exact ⟨0, Nat.zero_le _, rfl, rfl, rfl, HO.out.kept (kept_by hK2) (.inr (by simp [Value.ownBlock]; omega)), hC2, HK1.out.any.trans hK2⟩
  case round =>
    clear HO HK1 HC1 hC2 hK2
    obtain ⟨k, hk, rfl, rfl, rfl, hO, hC, hK⟩ := hrel
    have HO := hide hO
    have HC := hide hC
    have HK := hide hK
    have sz := (hO.lt _ rfl).2
    clear hO hC hK
    by_cases hlt : k < vs.length
    · have hd : decide (k < vs.length) = true := decide_eq_true hlt
      have HA := hide (HO.out.alloc (.cells #[.int .i64 (el vs k)] 3))
      go_wp2_with (at_builtin; refine wpList_append_fits _ rfl (.tmp 20) (.tmp 22) 22 rfl w.heap.size 3 i 1 Try.underlying22 hi hz1 w.heap.size k vs.length _ rfl HA.out ⟨wr.heap.size, 0, none⟩ 1 1 [.int .i64 (el vs k)] rfl rfl (World.news_of_block (cs := #[.int .i64 (el vs k)]) (t := 3) (fr := (0, 0)) (heap_alloc_new wr _)) (by simp [Value.oneCell']) (by omega) ?_)
      intro w3 hO3 hg3
      have e2 : (vs.take k).map (Value.int .i64) ++ [.int .i64 (el vs k)] = (vs.take (k + 1)).map (Value.int .i64) := by rw [← take_snoc hlt, List.map_append]; rfl
      rw [← List.map_take, e2] at hO3
      have HO3 := hide hO3
      have HK3 := hide (kept_row (lo := w.heap.size) (hi := w.heap.size + 1) hg3 (by intro g hg; cases hg; omega))
      have HC3 := hide ((HC.out.kept (kept_alloc wr (.cells #[.int .i64 (el vs k)] 3)) (by omega)).kept HK3.out (by omega))
      have s3 := HK3.out.size
      simp only [World.size_alloc] at s3
      clear hO3 hg3 HA HO HC e2
      go_wp2_with (go_at_call 72; refine (fifoTake _ _ _ _ HC3.out).mono ?_; rintro e w2 ⟨rfl, hC2, hK2⟩)
      rw [List.drop_drop] at hC2
      go_round
      case rel => exact ⟨k + 1, by omega, rfl, by simp [el], by simp; omega, HO3.out.kept (kept_by hK2) (.inr (by simp [Value.ownBlock]; omega)), hC2, (kept_past (kept_new HK.out _) HK3.out (Nat.le_refl _)).trans hK2⟩
      case measure => simp [lenV]; omega
    · have hd : decide (k < vs.length) = false := decide_eq_false hlt
      go_wp2
      go_ret
      have e : k = vs.length := by omega
      have h1 := HO.out
      have h2 := HC.out
      rw [e, List.take_length] at h1
      rw [List.drop_eq_nil_of_le (by omega)] at h2
      exact ⟨by simp [e], h1, h2, HK.out⟩
end Go.Proofs.Ytlocilcnmbmikaa
