/- What the model's l16Own answers. A bus in numbers: its bytes as a list, its log as the row of its accesses' numbers: plain arithmetic; no Go text is spoken of here. What the model's test of bytes answers. What the laws' measure of a list answers. What the laws' own functions over lists of accesses do (structs of five whole numbers, laid one behind the other): compare, copy, mark, look for the marks. A list of n accesses is spoken of as the row of its 5 * n numbers. What the laws' own functions do that copy a list of accesses, mark it, and look for the marks. What the laws' own functions over a bus do (a struct of two lists: bytes, accesses): its size, copy, comparison, marks. What the model's test of a size answers. What the model's test of a value of a size answers, for every argument; none changes the world. What the models of chapter 4 that only look answer, for every argument. What the models of PeekWord and SameMemory answer, for every argument. What the program's test of a value of a size answers: one contract a function; none changes the world. What the program's small functions of chapter 4 answer: addresses, parts, accesses; none writes. What the program's tests of bytes answer; none changes the world. What the program's GoodBus answers, for every bus. What an access does to a bus, in numbers: plain arithmetic; no Go text is spoken of here. What the program's functions over the bytes of a bus as one array answer. When a word may be looked at, in numbers. Words at places of a memory, of both sides. What the model's tests of words and operands answer. What the small models of chapter 7 answer. What the model's GoodIns answers, for operands that are no numbers in the code and size 1. -/
import Derived.Test.YtflnodadeajmcaaGreatAF1
import Derived.RegionTactic
import Derived.ChangeAlike
import Derived.BigRegion
import Derived.Deep.RegionWith
import Derived.Laws.Rows
import Derived.Laws.ResultCell
import Derived.Laws.CopyOwn
import Derived.Deep.WholeRow
import Derived.Deep.RegionLawGrows
import Derived.Maps.AppendAt
import Derived.Laws.AppendOwnNone
import Derived.Deep.MidRow
import Derived.Deep.RegionHeld3
import Derived.BigQuiet
import Derived.Deep.QuietTactic
import Derived.Deep.DeepCutAuto
namespace Go.Proofs.YtflnodadeajmcaaGreat
open Go.RowKit
set_option linter.unusedVariables false
/-- the cells of a list that grows: the k-th one's four, its micros in a block of their own that is not the list's -/
def CVo (w : World) (v : Value) (vs : List Value) (k : Nat) (x : Pl.Ck) : Prop :=
  vl vs (k * 4) = iv x.f ∧ vl vs (k * 4 + 1) = iv x.t ∧ vl vs (k * 4 + 3) = iv x.u ∧ ∃ b cb : Nat, vl vs (k * 4 + 2) = .slice (some ⟨b, 0, none⟩) x.n cb ∧ v.ownBlock ≠ some b ∧ b < w.heap.size ∧ MOwn w b x.n x.ys x.ts x.sk
theorem vown_grown {w w' : World} {row : Option Nat} {g : Nat} {vs : List Value} (h : VOwn w g vs) (hg : w.grownBy w' row) (hn : row ≠ some g) : VOwn w' g vs := by
  intro i hi
  obtain ⟨hc, hf⟩ := h i hi
  have e := hg.block g (World.block_lt_of_cell? _ _ hc) (by intro q; exact hn q.symm)
  exact ⟨by rw [World.cell?_of_block (w := w) e]; exact hc, by rw [World.frozen?_of_block (w := w) e]; exact hf⟩
theorem vl_left {vs us : List Value} {i : Nat} (h : i < vs.length) : vl (vs ++ us) i = vl vs i := by unfold vl; rw [List.getElem?_append_left h]
theorem vl_right {vs us : List Value} {i : Nat} : vl (vs ++ us) (vs.length + i) = vl us i := by unfold vl; rw [List.getElem?_append_right (by omega)]; simp
/-- an older one, behind an append -/
theorem CVo.step {w w' : World} {v v' : Value} {vs us : List Value} {k : Nat} {x : Pl.Ck} (h : CVo w v vs k x) (hk : k * 4 + 3 < vs.length) (hg : w.grownBy w' v.ownBlock) (hat : v'.ownBlock = v.ownBlock ∨ v'.ownBlock = some w.heap.size) : CVo w' v' (vs ++ us) k x := by
  obtain ⟨h0, h1, h3, b, cb, h2, hne, hlt, hm⟩ := h
  refine ⟨(vl_left (by omega)).trans h0, (vl_left (by omega)).trans h1, (vl_left (by omega)).trans h3, b, cb, (vl_left (by omega)).trans h2, ?_, Nat.lt_of_lt_of_le hlt hg.size, vown_grown hm hg hne⟩
  rcases hat with e | e
  · rw [e]; exact hne
  · rw [e]; intro q; injection q with q; omega
theorem CVo.setOut {w : World} {v u : Value} {vs : List Value} {k X o : Nat} {x : Pl.Ck} (h : CVo w v vs k x) {N : Nat} (hb : ∀ b cb : Nat, vl vs (k * 4 + 2) = .slice (some ⟨b, 0, none⟩) x.n cb → b ≠ X) : CVo (w.setCell ⟨X, o, none⟩ u) v vs k x := by
  obtain ⟨h0, h1, h3, b, cb, h2, hne, hlt, hm⟩ := h
  exact ⟨h0, h1, h3, b, cb, h2, hne, by simpa using hlt, VOwn.setOther hm _ _ _ (hb b cb h2)⟩
theorem blk_vrow {w : World} {b : Nat} {vs : List Value} {ty : TypeId} (h : Blk w b vs.toArray ty) : VRow w (some ⟨b, 0, none⟩) vs := by
  intro i hi
  refine ⟨b, 0, rfl, ?_⟩
  rw [Nat.zero_add]
  refine h.cell ?_
  unfold vl
  simp [hi]
theorem own_set3 {w : World} {base n X : Nat} {v : Value} {vs : List Value} {e : TypeId} (h : w.ownsRow base e 4 v n vs) (hX : v.ownBlock ≠ some X) (p q s : Value) : (((w.setCell ⟨X, 0, none⟩ p).setCell ⟨X, 1, none⟩ q).setCell ⟨X, 2, none⟩ s).ownsRow base e 4 v n vs :=
  ((h.kept (grownBy_set w X 0 p) (.inr hX)).kept (grownBy_set _ X 1 q) (.inr hX)).kept (grownBy_set _ X 2 s) (.inr hX)
set_option maxRecDepth 20000 in
set_option maxHeartbeats 8000000 in
theorem specOwn (w : World) (r c : Int) (a : Option Addr) (ca n : Nat) (us : List Pl.Ck) (hn : n = us.length) (ha : CRow w a us) (h1 : ∀ k, k < us.length → 1 ≤ (Pl.ck us k).n) (bn : ∀ k, k < us.length → (Pl.ck us k).n ≤ 2000000) (bx : n ≤ 2000000) :
    Calls Tryz.prog 43 #[.agg #[iv r, iv c, .slice a n ca]] w fun e w' => ∃ (b' : Option Addr) (cb' : Nat), e = .returned (.agg #[iv r, iv c, .slice b' n cb']) ∧ CRow w' b' us ∧ Kept 0 0 w w' := by
  obtain ⟨ti, hi0, hz0, hz1, hz2⟩ := info_parts Tryz.infoCached
  have K0 := hide (kept_new (kept_new (kept_alloc w (.cells #[iv r, iv c, .slice a n ca] 39)) (.cells #[iv 0, iv 0, .slice none 0 0] 39)) (.cells #[iv r, iv c, .slice none 0 0] 39))
  have R0 := (Blk.new (w.alloc (.cells #[iv r, iv c, .slice a n ca] 39)) #[iv 0, iv 0, .slice none 0 0] 39).alloc (.cells #[iv r, iv c, .slice none 0 0] 39)
  have X0 := Blk.new ((w.alloc (.cells #[iv r, iv c, .slice a n ca] 39)).alloc (.cells #[iv 0, iv 0, .slice none 0 0] 39)) #[iv r, iv c, .slice none 0 0] 39
  simp only [World.size_alloc] at R0 X0
  replace R0 := hide R0
  replace X0 := hide X0
  have HA := hide ha
  have HN := hide hn
  have H1 := hide h1
  have HBN := hide bn
  clear ha hn h1 bn
  go_enter Tryz.func43, Tryz.ntmps43
  go_wp2
  go_loopw [14] (fun j wr => ∃ (k : Nat) (vs : List Value) (v : Value), k ≤ n ∧ j = .int .i64 k ∧ Blk wr (w.heap.size + 1 + 1) #[iv r, iv c, v] 39 ∧ Blk wr (w.heap.size + 1) #[iv 0, iv 0, .slice none 0 0] 39 ∧ wr.ownsRow (w.heap.size + 1 + 1 + 1) 101 4 v k vs ∧ (∀ i, i < k → CVo wr v vs i (Pl.ck us i) ∧ ∀ b cb : Nat, vl vs (i * 4 + 2) = .slice (some ⟨b, 0, none⟩) (Pl.ck us i).n cb → w.heap.size + 1 + 1 < b) ∧ Kept 0 0 w wr) (fun j _ => n - (intOf j).toNat)
  case atStart => exact ⟨0, [], _, Nat.zero_le _, rfl, X0.out, R0.out, World.ownsRow_nil _ _ _ _, fun i hi => absurd hi (Nat.not_lt_zero i), K0.out⟩
  case round =>
    obtain ⟨k, vs, v, hk, rfl, hb, hr, hown, hall, hkept⟩ := hrel
    have HB := hide hb
    have HR := hide hr
    have HOW := hide hown
    have HL := hide hall
    have HK := hide hkept
    have hsz := hb.lt
    clear hb hr hown hall
    by_cases hlt : k < n
    · have hlu : k < us.length := by rw [← HN.out]; exact hlt
      obtain ⟨g1, o1, b1, cb1, rfl, p0, p1, p2, p3, pm⟩ := HA.out.at4k hkept hlu
      have bk := HBN.out k hlu
      have b1k := H1.out k hlu
      have PM := hide pm
      have KA := hide (kept_new HK.out (.cells #[iv (Pl.ck us k).f, iv (Pl.ck us k).t, .slice b1 (Pl.ck us k).n cb1, iv (Pl.ck us k).u] 101))
      have BX := hide (Blk.new wr #[iv (Pl.ck us k).f, iv (Pl.ck us k).t, .slice b1 (Pl.ck us k).n cb1, iv (Pl.ck us k).u] 101)
      clear hkept pm
      go_wp2_with fail
      refine (specOwnUnit _ (Pl.ck us k).f (Pl.ck us k).t b1 cb1 (Pl.ck us k).n (Pl.ck us k).ys (Pl.ck us k).ts (Pl.ck us k).sk (PM.out.keptS KA.out) b1k bk).mono ?_
      rintro e9 w2 ⟨g, cg, rfl, hg1, hg2, hmo, k2⟩
      simp only [World.size_alloc] at hg1
      have KW := hide ((kept_new (Kept.refl 0 0 wr) (.cells #[iv (Pl.ck us k).f, iv (Pl.ck us k).t, .slice b1 (Pl.ck us k).n cb1, iv (Pl.ck us k).u] 101)).trans k2)
      have K2 := hide (KA.out.trans k2)
      have BX2 := hide (BX.out.kept0 k2)
      have BO2 := hide (HB.out.kept0 KW.out)
      have HMO := hide hmo
      have x2 := BX2.out.all
      have fx2 := BX2.out.fz
      have o2 := BO2.out.all
      have hne1 : wr.heap.size ≠ w.heap.size + 1 + 1 := by omega
      have hne2 : w.heap.size + 1 + 1 ≠ wr.heap.size := by omega
      have hvx : v.ownBlock ≠ some wr.heap.size := by intro q; have := (HOW.out.lt _ q).2; omega
      have OA := own_set3 (HOW.out.kept KW.out.grown (Classical.em _)) hvx (iv (Pl.ck us k).f) (iv (Pl.ck us k).t) (.slice (some ⟨g, 0, none⟩) (Pl.ck us k).n cg)
      have OB := hide (OA.alloc (.cells #[iv (Pl.ck us k).f, iv (Pl.ck us k).t, .slice (some ⟨g, 0, none⟩) (Pl.ck us k).n cg, iv (Pl.ck us k).u] 101))
      have NW := blk_vrow (vs := [iv (Pl.ck us k).f, iv (Pl.ck us k).t, .slice (some ⟨g, 0, none⟩) (Pl.ck us k).n cg, iv (Pl.ck us k).u]) (Blk.new (((w2.setCell ⟨wr.heap.size, 0, none⟩ (iv (Pl.ck us k).f)).setCell ⟨wr.heap.size, 1, none⟩ (iv (Pl.ck us k).t)).setCell ⟨wr.heap.size, 2, none⟩ (.slice (some ⟨g, 0, none⟩) (Pl.ck us k).n cg)) #[iv (Pl.ck us k).f, iv (Pl.ck us k).t, .slice (some ⟨g, 0, none⟩) (Pl.ck us k).n cg, iv (Pl.ck us k).u] 101)
      simp only [World.size_setCell] at NW
      have NN := hide (VRow.news NW)
      have hsz2 := KW.out.size
      clear hmo k2 OA NW
      go_wp2_with (first | (at_builtin; refine wpList_append_own_at _ rfl _ _ 37 rfl (w.heap.size + 1 + 1 + 1) 101 ti (.agg #[iv 0, iv 0, .slice none 0 0, iv 0]) 4 48 Tryz.underlying37 hi0 hz0 hz1 hz2 rfl (by decide) v k vs rfl OB.out ⟨w2.heap.size, 0, none⟩ 1 1 _ rfl rfl NN.out ?c1 ?c3 ?c4 ?c5 ?_))
      case c1 => intro u hu; simp at hu; rcases hu with rfl | rfl | rfl | rfl <;> rfl
      case c3 => unfold maxLen; omega
      case c4 => omega
      case c5 => simp only [World.size_alloc, World.size_setCell]; omega
      intro v0 w5 hown5 hgr5 _ hat5
      obtain ⟨g5, cap5, ev5, _, _⟩ := own_form hown5 (by omega)
      obtain ⟨v', hv5⟩ : ∃ v', v' = Value.slice (some ⟨g5, 0, none⟩) (k + 1) cap5 := ⟨_, rfl⟩
      have HO5 := hide hown5
      rw [ev5, ← hv5] at hat5
      rw [ev5] at HO5 ⊢
      have HV5 := hide hv5
      clear hown5 ev5
      rw [← hv5] at HO5
      have hown5 := trivial
      have hat6 : v'.ownBlock = v.ownBlock ∨ v'.ownBlock = some (((((w2.setCell ⟨wr.heap.size, 0, none⟩ (iv (Pl.ck us k).f)).setCell ⟨wr.heap.size, 1, none⟩ (iv (Pl.ck us k).t)).setCell ⟨wr.heap.size, 2, none⟩ (.slice (some ⟨g, 0, none⟩) (Pl.ck us k).n cg)).alloc (.cells #[iv (Pl.ck us k).f, iv (Pl.ck us k).t, .slice (some ⟨g, 0, none⟩) (Pl.ck us k).n cg, iv (Pl.ck us k).u] 101)).heap.size) := by simpa using hat5
      have vlt : v.ownBlock ≠ some g := by intro q; have := (HOW.out.lt _ q).2; omega
      have vlo : v.ownBlock ≠ some (w.heap.size + 1 + 1) := by intro q; have := (HOW.out.lt _ q).1; omega
      have vlr : v.ownBlock ≠ some (w.heap.size + 1) := by intro q; have := (HOW.out.lt _ q).1; omega
      -- the world in which the append is done, as a step of those before
      have S3 := fun (b : Nat) (hb : b ≠ wr.heap.size) (vs2 : List Value) (h : VOwn w2 b vs2) => (((VOwn.setOther h wr.heap.size 0 (iv (Pl.ck us k).f) hb).setOther wr.heap.size 1 (iv (Pl.ck us k).t) hb).setOther wr.heap.size 2 (.slice (some ⟨g, 0, none⟩) (Pl.ck us k).n cg) hb).keptS (kept_alloc _ (.cells #[iv (Pl.ck us k).f, iv (Pl.ck us k).t, .slice (some ⟨g, 0, none⟩) (Pl.ck us k).n cg, iv (Pl.ck us k).u] 101)) (by omega)
      have BO5 := hide (blkGrown hgr5 ((((BO2.out.other _ 0 (iv (Pl.ck us k).f) hne2).other _ 1 (iv (Pl.ck us k).t) hne2).other _ 2 (.slice (some ⟨g, 0, none⟩) (Pl.ck us k).n cg) hne2).alloc _) vlo)
      have BR5 := hide (blkGrown hgr5 (((((HR.out.kept0 KW.out).other _ 0 (iv (Pl.ck us k).f) (show w.heap.size + 1 ≠ wr.heap.size by omega)).other _ 1 (iv (Pl.ck us k).t) (show w.heap.size + 1 ≠ wr.heap.size by omega)).other _ 2 (.slice (some ⟨g, 0, none⟩) (Pl.ck us k).n cg) (show w.heap.size + 1 ≠ wr.heap.size by omega)).alloc _) vlr)
      have KK := kept_new (kept_set (kept_set (kept_set K2.out wr.heap.size 0 (iv (Pl.ck us k).f) (.inr (by omega))) wr.heap.size 1 (iv (Pl.ck us k).t) (.inr (by omega))) wr.heap.size 2 (.slice (some ⟨g, 0, none⟩) (Pl.ck us k).n cg) (.inr (by omega))) (.cells #[iv (Pl.ck us k).f, iv (Pl.ck us k).t, .slice (some ⟨g, 0, none⟩) (Pl.ck us k).n cg, iv (Pl.ck us k).u] 101)
      have K5 := hide (kept_over KK (kept_row (lo := w.heap.size) (hi := w2.heap.size) hgr5 (fun b q => ⟨by have := (HOW.out.lt _ q).1; omega, by have := (HOW.out.lt _ q).2; omega⟩)) (Nat.le_refl _))
      have hvl : vs.length = k * 4 := HOW.out.1
      have HALL : Hid (∀ i, i < k + 1 → CVo w5 v' (vs ++ [iv (Pl.ck us k).f, iv (Pl.ck us k).t, .slice (some ⟨g, 0, none⟩) (Pl.ck us k).n cg, iv (Pl.ck us k).u]) i (Pl.ck us i) ∧ ∀ b cb : Nat, vl (vs ++ [iv (Pl.ck us k).f, iv (Pl.ck us k).t, .slice (some ⟨g, 0, none⟩) (Pl.ck us k).n cg, iv (Pl.ck us k).u]) (i * 4 + 2) = .slice (some ⟨b, 0, none⟩) (Pl.ck us i).n cb → w.heap.size + 1 + 1 < b) := hide (by
        intro i hi
        by_cases e : i < k
        · obtain ⟨⟨d0, d1, d3, b, cb, d2, dne, dlt, dm⟩, dout⟩ := HL.out i e
          have hbx : b ≠ wr.heap.size := by omega
          have C3 : CVo ((((w2.setCell ⟨wr.heap.size, 0, none⟩ (iv (Pl.ck us k).f)).setCell ⟨wr.heap.size, 1, none⟩ (iv (Pl.ck us k).t)).setCell ⟨wr.heap.size, 2, none⟩ (.slice (some ⟨g, 0, none⟩) (Pl.ck us k).n cg)).alloc (.cells #[iv (Pl.ck us k).f, iv (Pl.ck us k).t, .slice (some ⟨g, 0, none⟩) (Pl.ck us k).n cg, iv (Pl.ck us k).u] 101)) v vs i (Pl.ck us i) :=
            ⟨d0, d1, d3, b, cb, d2, dne, by simp only [World.size_alloc, World.size_setCell]; omega, S3 b hbx _ (dm.keptS KW.out (by omega))⟩
          exact ⟨C3.step (by omega) hgr5 hat6, fun b2 cb2 q => dout b2 cb2 ((vl_left (by omega)).symm.trans q)⟩
        · obtain rfl : i = k := by omega
          have e0 := vl_right (vs := vs) (us := [iv (Pl.ck us i).f, iv (Pl.ck us i).t, .slice (some ⟨g, 0, none⟩) (Pl.ck us i).n cg, iv (Pl.ck us i).u]) (i := 0)
          have e1 := vl_right (vs := vs) (us := [iv (Pl.ck us i).f, iv (Pl.ck us i).t, .slice (some ⟨g, 0, none⟩) (Pl.ck us i).n cg, iv (Pl.ck us i).u]) (i := 1)
          have e2 := vl_right (vs := vs) (us := [iv (Pl.ck us i).f, iv (Pl.ck us i).t, .slice (some ⟨g, 0, none⟩) (Pl.ck us i).n cg, iv (Pl.ck us i).u]) (i := 2)
          have e3 := vl_right (vs := vs) (us := [iv (Pl.ck us i).f, iv (Pl.ck us i).t, .slice (some ⟨g, 0, none⟩) (Pl.ck us i).n cg, iv (Pl.ck us i).u]) (i := 3)
          rw [hvl] at e0 e1 e2 e3
          refine ⟨⟨e0, e1, e3, g, cg, e2, ?_, ?_, ?_⟩, fun b cb q => ?_⟩
          · rcases hat6 with q | q
            · rw [q]; exact vlt
            · rw [q]; simp only [World.size_alloc, World.size_setCell]; intro q2; injection q2 with q2; omega
          · have := hgr5.size
            simp only [World.size_alloc, World.size_setCell] at this
            omega
          · exact vown_grown (S3 g (by omega) _ HMO.out) hgr5 vlt
          · have q3 := e2.symm.trans q
            injection q3 with q4
            injection q4 with q5
            injection q5 with q6
            omega)
      have o5 := BO5.out.all
      have fo5 := BO5.out.fz
      have lo5 := BO5.out.lt
      clear hown5 hgr5 hat5 hat6 S3 KK x2 fx2 o2 hv5
      go_wp2_with fail
      go_roundw
      case rel =>
        refine ⟨k + 1, vs ++ [iv (Pl.ck us k).f, iv (Pl.ck us k).t, .slice (some ⟨g, 0, none⟩) (Pl.ck us k).n cg, iv (Pl.ck us k).u], .slice (some ⟨g5, 0, none⟩) (k + 1) cap5, by omega, by go_num, BO5.out.set 2 _, BR5.out.other _ 2 _ (by omega), ?_, ?_, kept_set K5.out _ _ _ (.inr (by omega))⟩
        · have := HO5.out
          rw [HV5.out] at this
          exact this.kept (grownBy_set _ _ _ _) (.inr (by intro q; have q2 := (this.lt _ q).1; omega))
        · intro i hi
          obtain ⟨d, dout⟩ := HALL.out i hi
          rw [HV5.out] at d
          exact ⟨d.setOut (N := 0) (fun b cb q => by have := dout b cb q; omega), dout⟩
      case measure => simp [intOf]; omega
    · obtain rfl : k = n := by omega
      have ho := HOW.out
      have hvf : ∃ (b : Option Addr) (cb : Nat), v = .slice b k cb ∧ (k = 0 ∨ ∃ g, b = some ⟨g, 0, none⟩ ∧ w.heap.size + 1 + 1 < g ∧ VOwn wr g vs) := by
        have h9 := ho
        rcases ho.2 with ⟨e, e0⟩ | ⟨g, cap, cur, e, hb, _⟩
        · exact ⟨none, 0, by rw [e, e0], .inl e0⟩
        · subst e
          exact ⟨_, _, rfl, .inr ⟨g, rfl, by omega, vown_made (sz := 4) h9 h9.1⟩⟩
      obtain ⟨b, cb, rfl, hform⟩ := hvf
      have HF := hide hform
      have o9 := HB.out.all
      have r9 := HR.out.all
      have fr9 := HR.out.fz
      have lr9 := HR.out.lt
      have hne3 : w.heap.size + 1 ≠ w.heap.size + 1 + 1 := by omega
      clear ho hform hkept
      go_wp2_with fail
      refine bodyPost_ret (v := .agg #[iv r, iv c, .slice b k cb]) ?_ rfl ⟨b, cb, rfl, ?_, kept_set (kept_set (kept_set HK.out _ _ _ (.inr (by omega))) _ _ _ (.inr (by omega))) _ _ _ (.inr (by omega))⟩
      · rw [results_one rfl]; go_simp
      · intro i hi
        have hi2 : i < k := by rw [HN.out]; exact hi
        rcases HF.out with e | ⟨g, rfl, hg, hvo⟩
        · omega
        · obtain ⟨⟨d0, d1, d3, bb, cbb, d2, _, _, dm⟩, dout⟩ := HL.out i hi2
          have hbb := dout bb cbb d2
          have hv3 := ((hvo.setOther (w.heap.size + 1) 0 (iv r) (by omega)).setOther (w.heap.size + 1) 1 (iv c) (by omega)).setOther (w.heap.size + 1) 2 (.slice (some ⟨g, 0, none⟩) k cb) (by omega)
          have hm3 := ((VOwn.setOther dm (w.heap.size + 1) 0 (iv r) (by omega)).setOther (w.heap.size + 1) 1 (iv c) (by omega)).setOther (w.heap.size + 1) 2 (.slice (some ⟨g, 0, none⟩) k cb) (by omega)
          have hl : vs.length = k * 4 := HOW.out.1
          refine ⟨g, 0, rfl, ?_, ?_, ⟨some ⟨bb, 0, none⟩, cbb, ?_, VOwn.row hm3⟩, ?_⟩
          · rw [Nat.zero_add]; exact (hv3 (i * 4) (by omega)).1.trans (congrArg Option.some d0)
          · rw [Nat.zero_add]; exact (hv3 (i * 4 + 1) (by omega)).1.trans (congrArg Option.some d1)
          · rw [Nat.zero_add]; exact (hv3 (i * 4 + 2) (by omega)).1.trans (congrArg Option.some d2)
          · rw [Nat.zero_add]; exact (hv3 (i * 4 + 3) (by omega)).1.trans (congrArg Option.some d3)
end Go.Proofs.YtflnodadeajmcaaGreat

namespace Go.Proofs.YtflnodadeajmcaaGreat.Pl
set_option linter.unusedVariables false

def kind (a : Int) : Int := if 512 ≤ a ∨ (448 ≤ a ∧ a ≤ 495) then 1 else if 384 ≤ a ∧ a ≤ 447 then 3 else 0
def addr (a : Int) : Bool := decide (0 ≤ a) && decide (a ≤ 65535)
def byteOk (v : Int) : Bool := decide (0 ≤ v) && decide (v ≤ 255)
def bytesOk (xs : List Int) : Bool := xs.all byteOk
def accKind (k : Int) : Bool := decide (1 ≤ k) && decide (k ≤ 3)
def accOk (k s a v c : Int) : Bool := accKind k && (okv s v && (addr a && ((decide (0 ≤ c) && decide (c ≤ 3)) && (k != 3 || c != 0))))
def accAt (ys : List Int) (i : Nat) : Bool := accOk (el ys (i * 5)) (el ys (i * 5 + 1)) (el ys (i * 5 + 2)) (el ys (i * 5 + 3)) (el ys (i * 5 + 4))
def accsOk (ys : List Int) (m : Nat) : Bool := (List.range m).all (accAt ys)
def goodBus (xs ys : List Int) (m : Nat) : Bool := accsOk ys m && (decide (xs.length = 512) && (bytesOk xs && decide (m ≤ 400)))
/-- what an access is told -/
def code (k s a : Int) : Int :=
  if s = 2 ∧ a % 2 = 1 then 2 else if kind a = 1 ∨ kind (a + s - 1) = 1 then 1 else if k = 2 ∧ (kind a = 3 ∨ kind (a + s - 1) = 3) then 3 else 0

theorem bytesOk_at {xs : List Int} (h : bytesOk xs = true) (i : Nat) (hi : i < xs.length) : 0 ≤ el xs i ∧ el xs i ≤ 255 := by
  have := List.all_eq_true.1 h (xs[i]) (List.getElem_mem hi)
  simp [byteOk] at this
  simpa [el, hi] using this
theorem bytesOk_no {xs : List Int} {i : Nat} (hi : i < xs.length) (h : byteOk (el xs i) = false) : bytesOk xs = false := by
  cases e : bytesOk xs
  · rfl
  · have := bytesOk_at e i hi
    simp [byteOk] at h
    omega
theorem bytesOk_of {xs : List Int} (h : ∀ i, i < xs.length → byteOk (el xs i) = true) : bytesOk xs = true := by
  unfold bytesOk
  rw [List.all_eq_true]
  intro x hx
  obtain ⟨i, hi, rfl⟩ := List.getElem_of_mem hx
  simpa [el, hi] using h i hi
theorem accsOk_no {ys : List Int} {m i : Nat} (hi : i < m) (h : accAt ys i = false) : accsOk ys m = false := by
  cases e : accsOk ys m
  · rfl
  · have := List.all_eq_true.1 e i (List.mem_range.2 hi)
    rw [h] at this; cases this
theorem accsOk_of {ys : List Int} {m : Nat} (h : ∀ i, i < m → accAt ys i = true) : accsOk ys m = true := by
  unfold accsOk
  rw [List.all_eq_true]
  intro i hi
  exact h i (List.mem_range.1 hi)
end Go.Proofs.YtflnodadeajmcaaGreat.Pl

namespace Go.Proofs.YtflnodadeajmcaaGreat
open Go.RowKit
set_option linter.unusedVariables false

theorem l4Bytes (w : World) (a : Option Addr) (ca : Nat) (xs : List Int) (ha : IRow w a xs) (lx : xs.length ≤ 2000000) :
    Calls Tryz.prog 58 #[.slice a xs.length ca] w fun e w' => e = .returned (.bool (Pl.bytesOk xs)) ∧ w' = w := by
  have HA := hide ha
  clear ha
  go_enter Tryz.func58, Tryz.ntmps58
  go_wp2
  go_loop [4, 7] (fun _ j => ∃ k : Nat, k ≤ xs.length ∧ j = iv k ∧ ∀ i, i < k → Pl.byteOk (el xs i) = true) (fun _ j => xs.length - (intOf j).toNat)
  case atStart => exact ⟨0, Nat.zero_le _, rfl, fun i hi => absurd hi (Nat.not_lt_zero i)⟩
  case round =>
    obtain ⟨k, hk, rfl, heq⟩ := hrel
    have HE := hide heq
    clear heq
    by_cases hlt : k < xs.length
    · obtain ⟨g1, o1, rfl, hc1⟩ := HA.out k hlt
      rw [show xs[k]?.getD 0 = el xs k from rfl] at hc1
      cases hb : (decide (0 ≤ el xs k) && decide (el xs k ≤ 255))
      · go_wp2_with (go_at_call 41; refine (l1In _ _ _ _).mono ?_; rintro e w' ⟨rfl, rfl⟩; rw [hb])
        go_ret
        exact ⟨rB (Pl.bytesOk_no hlt hb).symm, rfl⟩
      · go_wp2_with (go_at_call 41; refine (l1In _ _ _ _).mono ?_; rintro e w' ⟨rfl, rfl⟩; rw [hb])
        go_round
        case rel => exact ⟨k + 1, by omega, by go_num, snoc_all HE.out hb⟩
        case measure => simp [intOf]; omega
    · go_wp2
      go_ret
      exact ⟨rB (Pl.bytesOk_of (fun i hi => HE.out i (by omega))).symm, rfl⟩
end Go.Proofs.YtflnodadeajmcaaGreat

namespace Go.Proofs.YtflnodadeajmcaaGreat
open Go.RowKit
set_option linter.unusedVariables false
theorem szIntS (w : World) (a : Option Addr) (ca n : Nat) (left : Int) (hn : n ≤ 9223372036854775807) (l0 : 0 ≤ left) (l1 : left ≤ 2000000) :
    Calls Tryz.prog 24 #[.slice a n ca, iv left] w fun e w' => e = .returned (iv (if left - (n : Int) < 0 then -1 else left - (n : Int))) ∧ w' = w := by
  by_cases h : left - (n : Int) < 0
  all_goals
    go_enter Tryz.func24, Tryz.ntmps24
    go_wp2
    go_ret
    exact ⟨rfl, rfl⟩
end Go.Proofs.YtflnodadeajmcaaGreat

namespace Go.Proofs.YtflnodadeajmcaaGreat
open Go.RowKit
set_option linter.unusedVariables false

/-- five numbers, each like the other's -/
def five (a b c d e a' b' c' d' e' : Int) : Bool := decide (a = a' ∧ b = b' ∧ c = c' ∧ d = d' ∧ e = e')

theorem IRow.five {w : World} {a : Option Addr} {xs : List Int} (h : IRow w a xs) {n k : Nat} (hl : xs.length = 5 * n) (hk : k < n) :
    ∃ g off : Nat, a = some ⟨g, off, none⟩ ∧ w.cell? ⟨g, off + k * 5, none⟩ = some (iv (el xs (k * 5))) ∧ w.cell? ⟨g, off + k * 5 + 1, none⟩ = some (iv (el xs (k * 5 + 1))) ∧ w.cell? ⟨g, off + k * 5 + 2, none⟩ = some (iv (el xs (k * 5 + 2))) ∧
      w.cell? ⟨g, off + k * 5 + 3, none⟩ = some (iv (el xs (k * 5 + 3))) ∧ w.cell? ⟨g, off + k * 5 + 4, none⟩ = some (iv (el xs (k * 5 + 4))) := by
  obtain ⟨g, off, ea, c0⟩ := h (k * 5) (by omega)
  have pick : ∀ j, j < 5 → w.cell? ⟨g, off + k * 5 + j, none⟩ = some (iv (el xs (k * 5 + j))) := by
    intro j hj
    obtain ⟨g', off', ea', c⟩ := h (k * 5 + j) (by omega)
    rw [ea] at ea'
    cases ea'
    rw [Nat.add_assoc]; exact c
  exact ⟨g, off, ea, c0, pick 1 (by decide), pick 2 (by decide), pick 3 (by decide), pick 4 (by decide)⟩

theorem Own.five {w : World} {g : Nat} {xs : List Int} (h : Own w g xs) {n k : Nat} (hl : xs.length = 5 * n) (hk : k < n) :
    (w.cell? ⟨g, k * 5, none⟩ = some (iv (el xs (k * 5))) ∧ w.cell? ⟨g, k * 5 + 1, none⟩ = some (iv (el xs (k * 5 + 1))) ∧ w.cell? ⟨g, k * 5 + 2, none⟩ = some (iv (el xs (k * 5 + 2))) ∧ w.cell? ⟨g, k * 5 + 3, none⟩ = some (iv (el xs (k * 5 + 3))) ∧ w.cell? ⟨g, k * 5 + 4, none⟩ = some (iv (el xs (k * 5 + 4)))) ∧
    w.frozen? ⟨g, k * 5, none⟩ = false ∧ w.frozen? ⟨g, k * 5 + 1, none⟩ = false ∧ w.frozen? ⟨g, k * 5 + 2, none⟩ = false ∧ w.frozen? ⟨g, k * 5 + 3, none⟩ = false ∧ w.frozen? ⟨g, k * 5 + 4, none⟩ = false :=
  ⟨⟨(h (k * 5) (by omega)).1, (h (k * 5 + 1) (by omega)).1, (h (k * 5 + 2) (by omega)).1, (h (k * 5 + 3) (by omega)).1, (h (k * 5 + 4) (by omega)).1⟩,
   (h (k * 5) (by omega)).2, (h (k * 5 + 1) (by omega)).2, (h (k * 5 + 2) (by omega)).2, (h (k * 5 + 3) (by omega)).2, (h (k * 5 + 4) (by omega)).2⟩

theorem snoc5 {p : Nat → Prop} {k : Nat} (h : ∀ i, i < k * 5 → p i) (h0 : p (k * 5)) (h1 : p (k * 5 + 1)) (h2 : p (k * 5 + 2)) (h3 : p (k * 5 + 3)) (h4 : p (k * 5 + 4)) : ∀ i, i < (k + 1) * 5 → p i := by
  intro i hi
  by_cases e : i < k * 5
  · exact h i e
  · obtain rfl | rfl | rfl | rfl | rfl : i = k * 5 ∨ i = k * 5 + 1 ∨ i = k * 5 + 2 ∨ i = k * 5 + 3 ∨ i = k * 5 + 4 := by omega
    all_goals assumption

theorem eqAccess (a b c d e a' b' c' d' e' : Int) (w : World) :
    Calls Tryz.prog 68 #[.agg #[iv a, iv b, iv c, iv d, iv e], .agg #[iv a', iv b', iv c', iv d', iv e']] w fun r w' => r = .returned (.bool (five a b c d e a' b' c' d' e')) ∧ ∃ o1 o2, w' = (w.alloc o1).alloc o2 := by
  have F : Hid (five a b c d e a' b' c' d' e' = (!(a != a') && (!(b != b') && (!(c != c') && (!(d != d') && !(e != e')))))) := hide (by unfold five; rw [Bool.eq_iff_iff]; simp)
  cases ka : (a != a')
  · cases kb : (b != b')
    · cases kc : (c != c')
      · cases kd : (d != d')
        · cases ke : (e != e')
          all_goals
            go_enter Tryz.func68, Tryz.ntmps68
            go_wp2
            go_ret
            exact ⟨rB (by rw [F.out, ka, kb, kc, kd, ke]; rfl), _, _, rfl⟩
        · go_enter Tryz.func68, Tryz.ntmps68
          go_wp2
          go_ret
          exact ⟨rB (by rw [F.out, kd]; simp), _, _, rfl⟩
      · go_enter Tryz.func68, Tryz.ntmps68
        go_wp2
        go_ret
        exact ⟨rB (by rw [F.out, kc]; simp), _, _, rfl⟩
    · go_enter Tryz.func68, Tryz.ntmps68
      go_wp2
      go_ret
      exact ⟨rB (by rw [F.out, kb]; simp), _, _, rfl⟩
  · go_enter Tryz.func68, Tryz.ntmps68
    go_wp2
    go_ret
    exact ⟨rB (by rw [F.out, ka]; simp), _, _, rfl⟩

set_option maxHeartbeats 2000000 in
theorem eqAccessS (w : World) (a b : Option Addr) (ca cb n m : Nat) (xs ys : List Int) (ha : IRow w a xs) (hb : IRow w b ys) (lx : xs.length = 5 * n) (ly : ys.length = 5 * m) (bx : n ≤ 2000000) (by_ : m ≤ 2000000) :
    Calls Tryz.prog 39 #[.slice a n ca, .slice b m cb] w fun e w' => e = .returned (.bool (decide (xs = ys))) ∧ w.grownBy w' none := by
  by_cases hl : n = m
  · subst hl
    have HX := hide lx
    have HY := hide ly
    clear lx ly
    go_enter Tryz.func39, Tryz.ntmps39
    go_wp2
    go_loopw [5] (fun j wr => ∃ k : Nat, k ≤ n ∧ j = iv k ∧ (∀ i, i < k * 5 → el xs i = el ys i) ∧ w.grownBy wr none) (fun j _ => n - (intOf j).toNat)
    case atStart => exact ⟨0, Nat.zero_le _, rfl, fun i hi => absurd hi (by omega), World.grownBy.refl _ _⟩
    case round =>
      obtain ⟨k, hk, rfl, heq, hg⟩ := hrel
      have HE := hide heq
      clear heq
      by_cases hlt : k < n
      · obtain ⟨g1, o1, rfl, p0, p1, p2, p3, p4⟩ := (ha.kept hg).five HX.out hlt
        obtain ⟨g2, o2, rfl, q0, q1, q2, q3, q4⟩ := (hb.kept hg).five HY.out hlt
        clear ha hb
        cases hf : five (el xs (k * 5)) (el xs (k * 5 + 1)) (el xs (k * 5 + 2)) (el xs (k * 5 + 3)) (el xs (k * 5 + 4)) (el ys (k * 5)) (el ys (k * 5 + 1)) (el ys (k * 5 + 2)) (el ys (k * 5 + 3)) (el ys (k * 5 + 4))
        · go_wp2
          go_region_with (go_at_call 68; refine (eqAccess _ _ _ _ _ _ _ _ _ _ _).mono ?_; rintro e w' ⟨rfl, o5, o6, rfl⟩)
          all_goals
            go_wp2
            go_ret
            refine ⟨rB ?_, grownBy_drew (grownBy_alloc (grownBy_alloc hg _) _)⟩
            symm; rw [decide_eq_false_iff_not]; intro e
            simp [five, e] at hf
        · go_wp2
          go_region_with (go_at_call 68; refine (eqAccess _ _ _ _ _ _ _ _ _ _ _).mono ?_; rintro e w' ⟨rfl, o5, o6, rfl⟩)
          all_goals
            go_wp2
            go_roundw
            case rel =>
              simp only [five, decide_eq_true_eq] at hf
              obtain ⟨f0, f1, f2, f3, f4⟩ := hf
              exact ⟨k + 1, by omega, by go_num, snoc5 HE.out f0 f1 f2 f3 f4, grownBy_drew (grownBy_alloc (grownBy_alloc hg _) _)⟩
            case measure => simp [intOf]; omega
      · go_wp2
        go_ret
        exact ⟨rB (by symm; rw [decide_eq_true_iff]; exact ext_of (HX.out.trans HY.out.symm) (fun i hi => HE.out i (by have := HX.out; omega))), hg⟩
  · have kl : (((n : Nat) : Int) != ((m : Nat) : Int)) = true := by rw [bne_iff_ne]; omega
    have HL : Hid (¬ n = m) := hl
    have HX := hide lx
    have HY := hide ly
    clear hl lx ly
    go_enter Tryz.func39, Tryz.ntmps39
    go_wp2
    go_ret
    exact ⟨rB (by symm; rw [decide_eq_false_iff_not]; intro e; apply HL.out; have := HX.out; have := HY.out; rw [e] at *; omega), World.grownBy.refl _ _⟩
end Go.Proofs.YtflnodadeajmcaaGreat

namespace Go.Proofs.YtflnodadeajmcaaGreat
open Go.RowKit
set_option linter.unusedVariables false

theorem toAccess (a b c d e : Int) (w : World) :
    Calls Tryz.prog 61 #[.agg #[iv a, iv b, iv c, iv d, iv e]] w fun r w' => r = .returned (.agg #[iv a, iv b, iv c, iv d, iv e]) ∧ ∃ o1 o2 o3, w' = ((w.alloc o1).alloc o2).alloc o3 := by
  go_enter Tryz.func61, Tryz.ntmps61
  go_wp2
  refine bodyPost_ret (v := .agg #[iv a, iv b, iv c, iv d, iv e]) ?_ rfl ⟨rfl, _, _, _, rfl⟩
  rw [results_one rfl]; go_simp

theorem Tryz.infoAcc : (Tryz.prog.info? 97).map (fun i => (i.zero, i.size, i.bytes)) = some (some (.agg #[iv 0, iv 0, iv 0, iv 0, iv 0]), 5, 40) := by kernel_rfl

theorem made5 (n : Nat) : (madeCells (Value.agg #[iv 0, iv 0, iv 0, iv 0, iv 0]).cells (n * 5)).toList = (List.replicate (5 * n) (0 : Int)).map (Value.int .i64) := by
  have hz : ∀ j, j < 5 → (Value.agg #[iv 0, iv 0, iv 0, iv 0, iv 0]).cells[j]! = iv 0 := by
    intro j hj
    obtain rfl | rfl | rfl | rfl | rfl : j = 0 ∨ j = 1 ∨ j = 2 ∨ j = 3 ∨ j = 4 := by omega
    all_goals rfl
  have hs : (Value.agg #[iv 0, iv 0, iv 0, iv 0, iv 0]).cells.size = 5 := rfl
  apply List.ext_getElem
  · simp [size_madeCells]; omega
  · intro i h1 h2
    simp only [madeCells, hs, Array.toList_map, List.getElem_map, List.getElem_replicate]
    exact hz _ (Nat.mod_lt _ (by decide))

theorem own_of_row5 {w : World} {base g n cap : Nat} {xs : List Int} (h : w.ownsRow base 97 5 (.slice (some ⟨g, 0, none⟩) n cap) n (xs.map (Value.int .i64))) : Own w g xs := by
  intro i hi
  rcases h with ⟨hl, ⟨e, _⟩ | ⟨g', cap', cur, e, _, hgg, hn, _, hsz, ht⟩⟩
  · cases e
  · cases e
    simp at hl
    have hc : cur[i]? = some (iv (xs[i]?.getD 0)) := by
      have : (cur.toList.take (n * 5))[i]? = (xs.map (Value.int .i64))[i]? := by rw [ht]
      rw [List.getElem?_take, if_pos (by omega)] at this
      simpa [hi] using this
    refine ⟨?_, ?_⟩
    · simp [World.cell?, hgg, hc]
    · simp [World.frozen?, hgg]

/-- five places of a row, written -/
def set5 (xs : List Int) (k : Nat) (a b c d e : Int) : List Int := ((((xs.set (k * 5) a).set (k * 5 + 1) b).set (k * 5 + 2) c).set (k * 5 + 3) d).set (k * 5 + 4) e
theorem set5_len (xs : List Int) (k : Nat) (a b c d e : Int) : (set5 xs k a b c d e).length = xs.length := by simp [set5]
theorem set5_old {xs : List Int} {k : Nat} {a b c d e : Int} {i : Nat} (h : i < k * 5) : el (set5 xs k a b c d e) i = el xs i := by
  unfold el set5
  rw [List.getElem?_set_ne (by omega), List.getElem?_set_ne (by omega), List.getElem?_set_ne (by omega), List.getElem?_set_ne (by omega), List.getElem?_set_ne (by omega)]
theorem set5_new {xs : List Int} {k : Nat} {a b c d e : Int} (h : k * 5 + 4 < xs.length) : el (set5 xs k a b c d e) (k * 5) = a ∧ el (set5 xs k a b c d e) (k * 5 + 1) = b ∧ el (set5 xs k a b c d e) (k * 5 + 2) = c ∧ el (set5 xs k a b c d e) (k * 5 + 3) = d ∧ el (set5 xs k a b c d e) (k * 5 + 4) = e := by
  unfold el set5
  refine ⟨?_, ?_, ?_, ?_, ?_⟩
  · rw [List.getElem?_set_ne (by omega), List.getElem?_set_ne (by omega), List.getElem?_set_ne (by omega), List.getElem?_set_ne (by omega), List.getElem?_set_self (by omega)]; rfl
  · rw [List.getElem?_set_ne (by omega), List.getElem?_set_ne (by omega), List.getElem?_set_ne (by omega), List.getElem?_set_self (by simp; omega)]; rfl
  · rw [List.getElem?_set_ne (by omega), List.getElem?_set_ne (by omega), List.getElem?_set_self (by simp; omega)]; rfl
  · rw [List.getElem?_set_ne (by omega), List.getElem?_set_self (by simp; omega)]; rfl
  · rw [List.getElem?_set_self (by simp; omega)]; rfl
theorem Own.set5 {w : World} {g : Nat} {xs : List Int} (h : Own w g xs) (k : Nat) (a b c d e : Int) :
    Own (((((w.setCell ⟨g, k * 5, none⟩ (iv a)).setCell ⟨g, k * 5 + 1, none⟩ (iv b)).setCell ⟨g, k * 5 + 2, none⟩ (iv c)).setCell ⟨g, k * 5 + 3, none⟩ (iv d)).setCell ⟨g, k * 5 + 4, none⟩ (iv e)) g (set5 xs k a b c d e) :=
  ((((h.set a).set b).set c).set d).set e
theorem grown_set5 {w wr : World} {g : Nat} {row : Option Nat} (h : w.grownBy wr row) (hr : row = some g ∨ w.heap.size ≤ g) (k0 k1 k2 k3 k4 : Nat) (a b c d e : Value) :
    w.grownBy (((((wr.setCell ⟨g, k0, none⟩ a).setCell ⟨g, k1, none⟩ b).setCell ⟨g, k2, none⟩ c).setCell ⟨g, k3, none⟩ d).setCell ⟨g, k4, none⟩ e) row := by
  have one : ∀ {wx : World} (k : Nat) (v : Value), w.grownBy wx row → w.grownBy (wx.setCell ⟨g, k, none⟩ v) row := fun {wx} k v hx =>
    ⟨hx.os, hx.tape, hx.output, by simpa using hx.size, fun j hj hne => (Below.heap_setCell _ _ _ _ (by
      rcases hr with rfl | hr
      · intro q; apply hne; rw [q]
      · simp; omega)).trans (hx.block j hj hne)⟩
  exact one _ _ (one _ _ (one _ _ (one _ _ (one _ _ h))))

set_option maxHeartbeats 2000000 in
theorem toAccessS (w : World) (a : Option Addr) (ca n : Nat) (xs : List Int) (ha : IRow w a xs) (lx : xs.length = 5 * n) (bx : n ≤ 2000000) :
    Calls Tryz.prog 31 #[.slice a n ca] w fun e w' => e = .returned (.slice (some ⟨w.heap.size, 0, none⟩) n n) ∧ Own w' w.heap.size xs ∧ w.heap.size < w'.heap.size ∧ w.grownBy w' none := by
  obtain ⟨i, hi, hz0, hz1, hz2⟩ := info_parts Tryz.infoAcc
  have HX := hide lx
  clear lx
  go_enter Tryz.func31, Tryz.ntmps31
  go_wp2_with (first | (at_make; refine wpList_make_full _ rfl _ _ 33 rfl w.heap.size 97 i (.agg #[iv 0, iv 0, iv 0, iv 0, iv 0]) 5 Tryz.underlying33 hi hz0 hz1 _ _ _ _ n rfl rfl rfl rfl ?c1 ?c2 ?c3 ?_))
  case c1 => rw [hz2]; omega
  case c2 => unfold maxLen; omega
  case c3 => exact Nat.le_refl _
  intro w1 hown hg
  have ho : Own w1 w.heap.size (List.replicate (5 * n) 0) := own_of_row5 (base := w.heap.size) (n := n) (cap := n) (by rw [← made5]; exact hown)
  have hs : w.heap.size < w1.heap.size := (hown.lt _ rfl).2
  clear hown
  go_wp2
  go_loopw [4] (fun j wr => ∃ (k : Nat) (zs : List Int), k ≤ n ∧ j = iv k ∧ zs.length = 5 * n ∧ Own wr w.heap.size zs ∧ (∀ i, i < k * 5 → el zs i = el xs i) ∧ w.heap.size < wr.heap.size ∧ w.grownBy wr none) (fun j _ => n - (intOf j).toNat)
  case atStart => exact ⟨0, _, Nat.zero_le _, rfl, by simp, ho, fun i hi => absurd hi (by omega), hs, hg⟩
  case round =>
    obtain ⟨k, zs, hk, rfl, hl, hown, heq, hsz, hgr⟩ := hrel
    have HE := hide heq
    have HL := hide hl
    have HO := hide hown
    have HS := hide hsz
    clear heq hl
    by_cases hlt : k < n
    · obtain ⟨g1, o1, rfl, p0, p1, p2, p3, p4⟩ := (ha.kept hgr).five HX.out hlt
      clear ha hown hsz
      go_wp2_with fail
      refine (toAccess _ _ _ _ _ _).mono ?_
      rintro e w' ⟨rfl, o5, o6, o7, rfl⟩
      obtain ⟨X, hX⟩ : ∃ X : World, X = ((wr.alloc o5).alloc o6).alloc o7 := ⟨_, rfl⟩
      rw [← hX]
      have hx : wr.grownBy X none := by rw [hX]; exact grownBy_alloc (grownBy_alloc (grownBy_alloc (World.grownBy.refl _ _) _) _) _
      have HX2 : Hid (w.grownBy X none) := hide (grownBy_trans hgr hx)
      have HO2 := hide (HO.out.kept hx (by simp))
      have HS2 : Hid (w.heap.size < X.heap.size) := hide (Nat.lt_of_lt_of_le HS.out hx.size)
      clear hX hx p0 p1 p2 p3 p4 hgr
      obtain ⟨⟨c0, c1, c2, c3, c4⟩, g0, g1', g2, g3, g4⟩ := HO2.out.five HL.out hlt
      go_wp2_with fail
      go_roundw
      case rel =>
        have hk4 : k * 5 + 4 < zs.length := by have := HL.out; omega
        obtain ⟨n0, n1, n2, n3, n4⟩ := set5_new (a := el xs (k * 5)) (b := el xs (k * 5 + 1)) (c := el xs (k * 5 + 2)) (d := el xs (k * 5 + 3)) (e := el xs (k * 5 + 4)) hk4
        exact ⟨k + 1, set5 zs k _ _ _ _ _, by omega, by go_num, by rw [set5_len]; exact HL.out, HO2.out.set5 k _ _ _ _ _, snoc5 (fun i hi => (set5_old hi).trans (HE.out i hi)) n0 n1 n2 n3 n4, by simpa using HS2.out, grown_set5 HX2.out (.inr (Nat.le_refl _)) _ _ _ _ _ _ _ _ _ _⟩
      case measure => simp [intOf]; omega
    · clear hown hsz
      go_wp2
      go_ret
      have e : zs = xs := ext_of (HL.out.trans HX.out.symm) (fun i hi => HE.out i (by have := HL.out; omega))
      exact ⟨rfl, by rw [← e]; exact HO.out, HS.out, hgr⟩

end Go.Proofs.YtflnodadeajmcaaGreat

namespace Go.Proofs.YtflnodadeajmcaaGreat
open Go.RowKit
set_option linter.unusedVariables false

theorem szAccessS (w : World) (a : Option Addr) (ca n : Nat) (left : Int) (hn : n ≤ 9223372036854775807) (l0 : 0 ≤ left) (l1 : left ≤ 2000000) :
    Calls Tryz.prog 25 #[.slice a n ca, iv left] w fun e w' => e = .returned (iv (if left - (n : Int) < 0 then -1 else left - (n : Int))) ∧ w' = w := by
  by_cases h : left - (n : Int) < 0
  all_goals
    go_enter Tryz.func25, Tryz.ntmps25
    go_wp2
    go_ret
    exact ⟨rfl, rfl⟩
theorem szBus (w : World) (a b : Option Addr) (ca cb n m : Nat) (left : Int) (hn : n ≤ 9223372036854775807) (hm : m ≤ 9223372036854775807) (l0 : 0 ≤ left) (l1 : left ≤ 2000000) :
    Calls Tryz.prog 6 #[.agg #[.slice a n ca, .slice b m cb], iv left] w fun e w' => e = .returned (iv (szB n m left)) ∧ Kept 0 0 w w' := by
  by_cases h : left - (n : Int) < 0
  · have E : Hid (szB n m left = -1) := hide (by simp [szB, h])
    have e1 : (if left - (n : Int) < 0 then (-1 : Int) else left - (n : Int)) = -1 := by simp [h]
    go_enter Tryz.func6, Tryz.ntmps6
    go_wp2_with fail
    refine (szIntS _ a ca n left hn l0 l1).mono ?_
    rintro e w' ⟨rfl, rfl⟩
    rw [e1]
    go_wp2_with fail
    go_ret
    exact ⟨rI E.out.symm, kept_alloc _ _⟩
  · have e1 : (if left - (n : Int) < 0 then (-1 : Int) else left - (n : Int)) = left - (n : Int) := by simp [h]
    by_cases h2 : left - (n : Int) - (m : Int) < 0
    · have E : Hid (szB n m left = -1) := hide (by simp [szB, h, h2])
      have e2 : (if left - (n : Int) - (m : Int) < 0 then (-1 : Int) else left - (n : Int) - (m : Int)) = -1 := by simp [h2]
      go_enter Tryz.func6, Tryz.ntmps6
      go_wp2_with fail
      refine (szIntS _ a ca n left hn l0 l1).mono ?_
      rintro e w' ⟨rfl, rfl⟩
      rw [e1]
      go_wp2_with fail
      refine (szAccessS _ b cb m (left - (n : Int)) hm (by omega) (by omega)).mono ?_
      rintro e w' ⟨rfl, rfl⟩
      rw [e2]
      go_wp2_with fail
      go_ret
      exact ⟨rI E.out.symm, kept_alloc _ _⟩
    · have E : Hid (szB n m left = left - (n : Int) - (m : Int)) := hide (by simp [szB, h, h2])
      have e2 : (if left - (n : Int) - (m : Int) < 0 then (-1 : Int) else left - (n : Int) - (m : Int)) = left - (n : Int) - (m : Int) := by simp [h2]
      go_enter Tryz.func6, Tryz.ntmps6
      go_wp2_with fail
      refine (szIntS _ a ca n left hn l0 l1).mono ?_
      rintro e w' ⟨rfl, rfl⟩
      rw [e1]
      go_wp2_with fail
      refine (szAccessS _ b cb m (left - (n : Int)) hm (by omega) (by omega)).mono ?_
      rintro e w' ⟨rfl, rfl⟩
      rw [e2]
      go_wp2_with fail
      go_ret
      exact ⟨rI E.out.symm, kept_alloc _ _⟩
theorem toBus (w : World) (a b : Option Addr) (ca cb m : Nat) (xs ys : List Int) (ha : IRow w a xs) (hb : IRow w b ys) (lx : xs.length ≤ 2000000) (ly : ys.length = 5 * m) (bm : m ≤ 2000000) :
    Calls Tryz.prog 9 #[.agg #[.slice a xs.length ca, .slice b m cb]] w fun e w' => ∃ g1 g2 : Nat, e = .returned (.agg #[.slice (some ⟨g1, 0, none⟩) xs.length xs.length, .slice (some ⟨g2, 0, none⟩) m m]) ∧ Own w' g1 xs ∧ Own w' g2 ys ∧ w.heap.size ≤ g1 ∧ g1 < g2 ∧ g2 < w'.heap.size ∧ Kept 0 0 w w' := by
  have HY := hide ly
  have HA := hide ha
  have HB := hide hb
  clear ly ha hb
  go_enter Tryz.func9, Tryz.ntmps9
  go_wp2_with fail
  have k0 : Kept 0 0 w (((w.alloc (.cells #[.slice a xs.length ca, .slice b m cb] 25)).alloc (.cells #[.slice none 0 0, .slice none 0 0] 35)).alloc (.cells #[.slice none 0 0, .slice none 0 0] 35)) := kept_new (kept_new (kept_alloc _ _) _) _
  refine (toIntS _ a ca xs (HA.out.keptS k0) lx).mono ?_
  rintro e w1 ⟨rfl, o1, z1, g1⟩
  have k1 := kept_grown g1
  have B0 := ((((Blk.new w #[.slice a xs.length ca, .slice b m cb] 25).alloc (.cells #[.slice none 0 0, .slice none 0 0] 35)).alloc (.cells #[.slice none 0 0, .slice none 0 0] 35)).kept0 k1)
  have B1 := (((Blk.new (w.alloc (.cells #[.slice a xs.length ca, .slice b m cb] 25)) #[.slice none 0 0, .slice none 0 0] 35).alloc (.cells #[.slice none 0 0, .slice none 0 0] 35)).kept0 k1)
  have B2 := ((Blk.new ((w.alloc (.cells #[.slice a xs.length ca, .slice b m cb] 25)).alloc (.cells #[.slice none 0 0, .slice none 0 0] 35)) #[.slice none 0 0, .slice none 0 0] 35).kept0 k1)
  simp only [World.size_alloc] at B1 B2 z1 o1 ⊢
  have c1 := B0.cell (i := 1) rfl
  have d0 := B2.cell (i := 0) rfl
  have d1 := B2.cell (i := 1) rfl
  have f0 := B2.frozen 0
  have f1 := B2.frozen 1
  have HK1 := hide (k0.trans k1)
  have HO1 := hide o1
  have HZ1 := hide z1
  have HB1 := hide B1
  have HB2 := hide B2
  clear k0 k1 g1 o1 z1 B0 B1 B2
  go_wp2_with fail
  obtain ⟨X, hX⟩ : ∃ X : World, X = w1.setCell ⟨w.heap.size + 1 + 1, 0, none⟩ (.slice (some ⟨w.heap.size + 1 + 1 + 1, 0, none⟩) xs.length xs.length) := ⟨_, rfl⟩
  rw [← hX]
  have HKX : Hid (Kept 0 0 w X) := hide (by rw [hX]; exact kept_set HK1.out _ _ _ (.inr (by omega)))
  have HOX : Hid (Own X (w.heap.size + 1 + 1 + 1) xs) := hide (by rw [hX]; exact HO1.out.setOther _ _ _ (by omega))
  have HBX1 : Hid (Blk X (w.heap.size + 1) #[.slice none 0 0, .slice none 0 0] 35) := hide (by rw [hX]; exact HB1.out.other _ _ _ (by omega))
  have HBX2 : Hid (Blk X (w.heap.size + 1 + 1) #[.slice (some ⟨w.heap.size + 1 + 1 + 1, 0, none⟩) xs.length xs.length, .slice none 0 0] 35) := hide (by rw [hX]; exact HB2.out.set _ _)
  have HZX : Hid (w.heap.size + 1 + 1 + 1 < X.heap.size) := hide (by rw [hX]; simpa using HZ1.out)
  clear hX c1 d0 d1 f0 f1 HB1 HB2 HO1 HK1 HZ1
  refine (toAccessS _ b cb m ys (HB.out.keptS HKX.out) HY.out bm).mono ?_
  rintro e w2 ⟨rfl, o2, z2, g2⟩
  have k2 := kept_grown g2
  have HK2 := hide (HKX.out.trans k2)
  have HO1 := hide (HOX.out.keptS k2 (by omega))
  have HO2 := hide o2
  have HZ2 := hide z2
  have B1 := HBX1.out.kept0 k2
  have B2 := HBX2.out.kept0 k2
  have HB1 := hide B1
  have HB2 := hide B2
  have d0 := B2.cell (i := 0) rfl
  have d1 := B2.cell (i := 1) rfl
  have f0 := B2.frozen 0
  have f1 := B2.frozen 1
  have e0 := B1.cell (i := 0) rfl
  have e1 := B1.cell (i := 1) rfl
  have h0 := B1.frozen 0
  have h1 := B1.frozen 1
  clear g2 k2 o2 z2 B1 B2
  go_wp2_with fail
  refine bodyPost_ret (v := .agg #[.slice (some ⟨w.heap.size + 1 + 1 + 1, 0, none⟩) xs.length xs.length, .slice (some ⟨X.heap.size, 0, none⟩) m m]) ?_ rfl ⟨w.heap.size + 1 + 1 + 1, X.heap.size, rfl, ?_, ?_, by omega, HZX.out, ?_, ?_⟩
  · exact results_cell_row rfl _ _ _ _ _ (0, 0) _ rfl ((((HB1.out.other _ _ _ (by omega)).set _ _).set _ _)) Tryz.underlying35 rfl (by kernel_rfl)
  · exact ((HO1.out.setOther _ _ _ (by omega)).setOther _ _ _ (by omega)).setOther _ _ _ (by omega)
  · have := HZX.out
    exact ((HO2.out.setOther _ _ _ (by omega)).setOther _ _ _ (by omega)).setOther _ _ _ (by omega)
  · simpa using HZ2.out
  · exact kept_set (kept_set (kept_set HK2.out _ _ _ (.inr (by omega))) _ _ _ (.inr (by omega))) _ _ _ (.inr (by omega))
theorem eqBus (w : World) (a b c d : Option Addr) (ca cb cc cd m n : Nat) (xs ys us vs : List Int) (ha : IRow w a xs) (hb : IRow w b ys) (hc : IRow w c us) (hd : IRow w d vs) (lx : xs.length ≤ 2000000) (lu : us.length ≤ 2000000) (ly : ys.length = 5 * m) (lv : vs.length = 5 * n) (bm : m ≤ 2000000) (bn : n ≤ 2000000) :
    Calls Tryz.prog 12 #[.agg #[.slice a xs.length ca, .slice b m cb], .agg #[.slice c us.length cc, .slice d n cd]] w fun e w' => e = .returned (.bool (decide (xs = us) && decide (ys = vs))) ∧ Kept 0 0 w w' := by
  have HY := hide ly
  have HV := hide lv
  clear ly lv
  have k0 : Kept 0 0 w ((w.alloc (.cells #[.slice a xs.length ca, .slice b m cb] 35)).alloc (.cells #[.slice c us.length cc, .slice d n cd] 35)) := kept_new (kept_alloc _ _) _
  have HK0 := hide k0
  have HA := hide ha
  have HB := hide hb
  have HC := hide hc
  have HD := hide hd
  clear k0 ha hb hc hd
  cases h1 : decide (xs = us)
  · go_enter Tryz.func12, Tryz.ntmps12
    go_wp2_with fail
    refine (eqIntS _ a c ca cc xs us (HA.out.keptS HK0.out) (HC.out.keptS HK0.out) lx lu).mono ?_
    rintro e w1 ⟨rfl, g1⟩
    rw [h1]
    have HK1 := hide (HK0.out.trans (kept_grown g1))
    clear g1
    go_wp2_with fail
    go_ret
    exact ⟨rfl, HK1.out⟩
  · go_enter Tryz.func12, Tryz.ntmps12
    go_wp2_with fail
    refine (eqIntS _ a c ca cc xs us (HA.out.keptS HK0.out) (HC.out.keptS HK0.out) lx lu).mono ?_
    rintro e w1 ⟨rfl, g1⟩
    rw [h1]
    have k1 := kept_grown g1
    have B0 := ((Blk.new w #[.slice a xs.length ca, .slice b m cb] 35).alloc (.cells #[.slice c us.length cc, .slice d n cd] 35)).kept0 k1
    have B1 := (Blk.new (w.alloc (.cells #[.slice a xs.length ca, .slice b m cb] 35)) #[.slice c us.length cc, .slice d n cd] 35).kept0 k1
    simp only [World.size_alloc] at B1
    have c1 := B0.cell (i := 1) rfl
    have d1 := B1.cell (i := 1) rfl
    have HK1 := hide (HK0.out.trans k1)
    clear g1 k1 B0 B1
    go_wp2_with fail
    refine (eqAccessS _ b d cb cd m n ys vs (HB.out.keptS HK1.out) (HD.out.keptS HK1.out) HY.out HV.out bm bn).mono ?_
    rintro e w2 ⟨rfl, g2⟩
    have HK2 := hide (HK1.out.trans (kept_grown g2))
    clear g2
    cases h2 : decide (ys = vs)
    all_goals
      go_wp2_with fail
      go_ret
      exact ⟨rB (by rw [h2]; rfl), HK2.out⟩

end Go.Proofs.YtflnodadeajmcaaGreat

namespace Go.Proofs.YtflnodadeajmcaaGreat
open Go.RowKit
set_option linter.unusedVariables false

theorem l1Size_no (s : Int) (w : World) (h1 : ¬ s = 1) (h2 : ¬ s = 2) : Calls Tryz.prog 112 #[iv s] w fun e w' => e = .returned (.bool false) ∧ w' = w := by
  have k1 : (s == 1) = false := by simpa using h1
  have k2 : (s == 2) = false := by simpa using h2
  go_enter Tryz.func112, Tryz.ntmps112
  go_wp2
  go_ret
  exact ⟨rfl, rfl⟩

theorem l1Size1 (w : World) : Calls Tryz.prog 112 #[iv 1] w fun e w' => e = .returned (.bool true) ∧ w' = w := by
  go_enter Tryz.func112, Tryz.ntmps112
  go_wp2
  go_ret
  exact ⟨rfl, rfl⟩

theorem l1Size2 (w : World) : Calls Tryz.prog 112 #[iv 2] w fun e w' => e = .returned (.bool true) ∧ w' = w := by
  go_enter Tryz.func112, Tryz.ntmps112
  go_wp2
  go_ret
  exact ⟨rfl, rfl⟩
theorem specSize (z : Int) (w : World) : Calls Tryz.prog 112 #[iv z] w fun e w' => e = .returned (.bool (decide (z = 1) || decide (z = 2))) ∧ w' = w := by
  by_cases h1 : z = 1
  · subst h1; exact l1Size1 w
  · by_cases h2 : z = 2
    · subst h2; exact l1Size2 w
    · rw [show (decide (z = 1) || decide (z = 2)) = false from by simp [h1, h2]]; exact l1Size_no z w h1 h2
end Go.Proofs.YtflnodadeajmcaaGreat

namespace Go.Proofs.YtflnodadeajmcaaGreat
open Go.RowKit
set_option linter.unusedVariables false

theorem l1Top1 (w : World) : Calls Tryz.prog 113 #[iv 1] w fun e w' => e = .returned (iv 256) ∧ w' = w := by
  go_enter Tryz.func113, Tryz.ntmps113
  go_wp2
  go_ret
  exact ⟨rfl, rfl⟩

theorem l1Top2 (w : World) : Calls Tryz.prog 113 #[iv 2] w fun e w' => e = .returned (iv 65536) ∧ w' = w := by
  go_enter Tryz.func113, Tryz.ntmps113
  go_wp2
  go_ret
  exact ⟨rfl, rfl⟩

theorem l1Value (s v : Int) (w : World) :
    Calls Tryz.prog 84 #[iv s, iv v] w fun e w' => e = .returned (.bool (Pl.okv s v)) ∧ w' = w := by
  by_cases h1 : s = 1
  · subst h1
    go_enter Tryz.func84, Tryz.ntmps84
    go_wp2_with fail
    refine (l1Size1 _).mono ?_
    rintro e w' ⟨rfl, rfl⟩
    go_wp2_with fail
    refine (l1Top1 _).mono ?_
    rintro e w' ⟨rfl, rfl⟩
    go_wp2_with fail
    refine (l1In _ _ _ _).mono ?_
    rintro e w' ⟨rfl, rfl⟩
    go_wp2_with fail
    go_ret
    exact ⟨rB (by rw [Bool.eq_iff_iff]; simp [Pl.okv, Pl.top]; omega), rfl⟩
  · by_cases h2 : s = 2
    · subst h2
      go_enter Tryz.func84, Tryz.ntmps84
      go_wp2_with fail
      refine (l1Size2 _).mono ?_
      rintro e w' ⟨rfl, rfl⟩
      go_wp2_with fail
      refine (l1Top2 _).mono ?_
      rintro e w' ⟨rfl, rfl⟩
      go_wp2_with fail
      refine (l1In _ _ _ _).mono ?_
      rintro e w' ⟨rfl, rfl⟩
      go_wp2_with fail
      go_ret
      exact ⟨rB (by rw [Bool.eq_iff_iff]; simp [Pl.okv, Pl.top]; omega), rfl⟩
    · go_enter Tryz.func84, Tryz.ntmps84
      go_wp2_with fail
      refine (l1Size_no s _ h1 h2).mono ?_
      rintro e w' ⟨rfl, rfl⟩
      go_wp2_with fail
      go_ret
      exact ⟨rB (by simp [Pl.okv, h1, h2]), rfl⟩

end Go.Proofs.YtflnodadeajmcaaGreat

namespace Go.Proofs.YtflnodadeajmcaaGreat
open Go.RowKit
set_option linter.unusedVariables false

theorem l4Addr (a : Int) (w : World) : Calls Tryz.prog 85 #[iv a] w fun e w' => e = .returned (.bool (Pl.addr a)) ∧ w' = w := by
  go_enter Tryz.func85, Tryz.ntmps85
  go_wp2_with fail
  refine (l1In _ _ _ _).mono ?_
  rintro e w' ⟨rfl, rfl⟩
  go_wp2_with fail
  go_ret
  exact ⟨rfl, rfl⟩
theorem l4Kind (a : Int) (w : World) : Calls Tryz.prog 146 #[iv a] w fun e w' => e = .returned (iv (Pl.kind a)) ∧ w' = w := by
  by_cases h1 : 512 ≤ a
  · have E : Hid (Pl.kind a = 1) := hide (by simp [Pl.kind, h1])
    go_enter Tryz.func146, Tryz.ntmps146
    go_wp2
    go_ret
    exact ⟨rI E.out.symm, rfl⟩
  · cases h2 : (decide ((448 : Int) ≤ a) && decide (a ≤ 495))
    · cases h3 : (decide ((384 : Int) ≤ a) && decide (a ≤ 447))
      all_goals
        have E : Hid (Pl.kind a = if (decide ((384 : Int) ≤ a) && decide (a ≤ 447)) then 3 else 0) := hide (by
          simp at h2
          have : ¬ (448 ≤ a ∧ a ≤ 495) := by omega
          simp [Pl.kind, h1, this])
        rw [h3] at E
        go_enter Tryz.func146, Tryz.ntmps146
        go_wp2_with fail
        refine (l1In _ _ _ _).mono ?_
        rintro e w' ⟨rfl, rfl⟩
        rw [h2]
        go_wp2_with fail
        refine (l1In _ _ _ _).mono ?_
        rintro e w' ⟨rfl, rfl⟩
        rw [h3]
        go_wp2_with fail
        go_ret
        exact ⟨rI E.out.symm, rfl⟩
    · have E : Hid (Pl.kind a = 1) := hide (by simp at h2; simp [Pl.kind, h2])
      go_enter Tryz.func146, Tryz.ntmps146
      go_wp2_with fail
      refine (l1In _ _ _ _).mono ?_
      rintro e w' ⟨rfl, rfl⟩
      rw [h2]
      go_wp2_with fail
      go_ret
      exact ⟨rI E.out.symm, rfl⟩
theorem l4Access (k s a v c : Int) (w : World) : Calls Tryz.prog 57 #[.agg #[iv k, iv s, iv a, iv v, iv c]] w fun e w' => e = .returned (.bool (Pl.accOk k s a v c)) ∧ ∃ o, w' = w.alloc o := by
  cases h1 : (decide (1 ≤ k) && decide (k ≤ 3))
  · go_enter Tryz.func57, Tryz.ntmps57
    go_wp2_with (first | (go_at_call 41; refine (l1In _ _ _ _).mono ?_; rintro e w' ⟨rfl, rfl⟩; rw [h1]) | (go_at_call 84; refine (l1Value _ _ _).mono ?_; rintro e w' ⟨rfl, rfl⟩) | (go_at_call 85; refine (l4Addr _ _).mono ?_; rintro e w' ⟨rfl, rfl⟩))
    go_ret
    exact ⟨rB (by unfold Pl.accOk Pl.accKind; rw [h1]; simp), _, rfl⟩
  · cases h2 : Pl.okv s v
    · go_enter Tryz.func57, Tryz.ntmps57
      go_wp2_with (first | (go_at_call 41; refine (l1In _ _ _ _).mono ?_; rintro e w' ⟨rfl, rfl⟩; rw [h1]) | (go_at_call 84; refine (l1Value _ _ _).mono ?_; rintro e w' ⟨rfl, rfl⟩; rw [h2]) | (go_at_call 85; refine (l4Addr _ _).mono ?_; rintro e w' ⟨rfl, rfl⟩))
      go_ret
      exact ⟨rB (by unfold Pl.accOk Pl.accKind; rw [h1, h2]; simp), _, rfl⟩
    · cases h3 : Pl.addr a
      · go_enter Tryz.func57, Tryz.ntmps57
        go_wp2_with (first | (go_at_call 41; refine (l1In _ _ _ _).mono ?_; rintro e w' ⟨rfl, rfl⟩; rw [h1]) | (go_at_call 84; refine (l1Value _ _ _).mono ?_; rintro e w' ⟨rfl, rfl⟩; rw [h2]) | (go_at_call 85; refine (l4Addr _ _).mono ?_; rintro e w' ⟨rfl, rfl⟩; rw [h3]))
        go_ret
        exact ⟨rB (by unfold Pl.accOk Pl.accKind; rw [h1, h2, h3]; simp), _, rfl⟩
      · cases h4 : (decide (0 ≤ c) && decide (c ≤ 3))
        · go_enter Tryz.func57, Tryz.ntmps57
          go_wp2_with (first | (go_at_call 41; refine (l1In _ _ _ _).mono ?_; rintro e w' ⟨rfl, rfl⟩; first | rw [h1] | rw [h4]) | (go_at_call 84; refine (l1Value _ _ _).mono ?_; rintro e w' ⟨rfl, rfl⟩; rw [h2]) | (go_at_call 85; refine (l4Addr _ _).mono ?_; rintro e w' ⟨rfl, rfl⟩; rw [h3]))
          go_ret
          exact ⟨rB (by unfold Pl.accOk Pl.accKind; rw [h1, h2, h3, h4]; simp), _, rfl⟩
        · cases h5 : (k != 3)
          · cases h6 : (c != 0)
            all_goals
              go_enter Tryz.func57, Tryz.ntmps57
              go_wp2_with (first | (go_at_call 41; refine (l1In _ _ _ _).mono ?_; rintro e w' ⟨rfl, rfl⟩; first | rw [h1] | rw [h4]) | (go_at_call 84; refine (l1Value _ _ _).mono ?_; rintro e w' ⟨rfl, rfl⟩; rw [h2]) | (go_at_call 85; refine (l4Addr _ _).mono ?_; rintro e w' ⟨rfl, rfl⟩; rw [h3]))
              go_ret
              exact ⟨rB (by unfold Pl.accOk Pl.accKind; rw [h1, h2, h3, h4, h5, h6]; simp), _, rfl⟩
          · go_enter Tryz.func57, Tryz.ntmps57
            go_wp2_with (first | (go_at_call 41; refine (l1In _ _ _ _).mono ?_; rintro e w' ⟨rfl, rfl⟩; first | rw [h1] | rw [h4]) | (go_at_call 84; refine (l1Value _ _ _).mono ?_; rintro e w' ⟨rfl, rfl⟩; rw [h2]) | (go_at_call 85; refine (l4Addr _ _).mono ?_; rintro e w' ⟨rfl, rfl⟩; rw [h3]))
            go_ret
            exact ⟨rB (by unfold Pl.accOk Pl.accKind; rw [h1, h2, h3, h4, h5]; simp), _, rfl⟩

theorem specGoodBus (w : World) (a b : Option Addr) (ca cb m : Nat) (xs ys : List Int) (ha : IRow w a xs) (hb : IRow w b ys) (lx : xs.length ≤ 2000000) (ly : ys.length = 5 * m) (bm : m ≤ 2000000) :
    Calls Tryz.prog 27 #[.agg #[.slice a xs.length ca, .slice b m cb]] w fun e w' => e = .returned (.bool (Pl.goodBus xs ys m)) ∧ Kept 0 0 w w' := by
  have HA := hide ha
  have HB := hide hb
  have HY := hide ly
  clear ha hb ly
  go_enter Tryz.func27, Tryz.ntmps27
  go_wp2
  have HK0 := hide (kept_alloc w (.cells #[.slice a xs.length ca, .slice b m cb] 35))
  have HW := hide (Blk.new w #[.slice a xs.length ca, .slice b m cb] 35)
  obtain ⟨W, hW⟩ : ∃ W : World, W = w.alloc (.cells #[.slice a xs.length ca, .slice b m cb] 35) := ⟨_, rfl⟩
  rw [← hW] at HK0 HW ⊢
  clear hW
  go_loopw [4, 8] (fun _ j wr => ∃ k : Nat, k ≤ m ∧ j = iv k ∧ (∀ i, i < k → Pl.accAt ys i = true) ∧ Kept 0 0 W wr) (fun _ j _ => m - (intOf j).toNat)
  case atStart => exact ⟨0, Nat.zero_le _, rfl, fun i hi => absurd hi (Nat.not_lt_zero i), Kept.refl _ _ _⟩
  case round =>
    obtain ⟨k, hk, rfl, heq, hkept⟩ := hrel
    have HE := hide heq
    have HK := hide hkept
    clear heq hkept
    by_cases hlt : k < m
    · obtain ⟨g1, o1, rfl, p0, p1, p2, p3, p4⟩ := (HB.out.keptS (HK0.out.trans HK.out)).five HY.out hlt
      cases hb : Pl.accAt ys k
      · have hb2 : Pl.accOk (el ys (k * 5)) (el ys (k * 5 + 1)) (el ys (k * 5 + 2)) (el ys (k * 5 + 3)) (el ys (k * 5 + 4)) = false := hb
        clear hb
        go_wp2_with (go_at_call 57; refine (l4Access _ _ _ _ _ _).mono ?_; rintro e w' ⟨rfl, o, rfl⟩; rw [hb2])
        go_ret
        exact ⟨rB (by unfold Pl.goodBus; rw [Pl.accsOk_no hlt hb2]; rfl), HK0.out.trans (kept_new (kept_new HK.out _) _)⟩
      · have hb2 : Pl.accOk (el ys (k * 5)) (el ys (k * 5 + 1)) (el ys (k * 5 + 2)) (el ys (k * 5 + 3)) (el ys (k * 5 + 4)) = true := hb
        clear hb
        go_wp2_with (go_at_call 57; refine (l4Access _ _ _ _ _ _).mono ?_; rintro e w' ⟨rfl, o, rfl⟩; rw [hb2])
        go_roundw
        case rel => exact ⟨k + 1, by omega, by go_num, snoc_all HE.out hb2, kept_new (kept_new HK.out _) _⟩
        case measure => simp [intOf]; omega
    · have HA1 : Hid (Pl.accsOk ys m = true) := hide (Pl.accsOk_of (fun i hi => HE.out i (by omega)))
      have B := HW.out.kept0 HK.out
      have c0 := B.cell (i := 0) rfl
      have c1 := B.cell (i := 1) rfl
      have HX := hide (HA.out.keptS (HK0.out.trans HK.out))
      clear B
      have G : Hid (Pl.goodBus xs ys m = (((xs.length : Int) == 512) && (Pl.bytesOk xs && decide ((m : Int) ≤ 400)))) := hide (by
        unfold Pl.goodBus
        rw [HA1.out, Bool.true_and]
        congr 1
        · rw [Bool.eq_iff_iff]; simp; omega
        · congr 1; rw [Bool.eq_iff_iff]; simp; omega)
      cases h1 : ((xs.length : Int) == 512)
      · go_wp2_with fail
        go_ret
        exact ⟨rB (by rw [G.out, h1]; rfl), HK0.out.trans HK.out⟩
      · cases h2 : Pl.bytesOk xs
        · go_wp2_with fail
          refine (l4Bytes _ a ca xs HX.out lx).mono ?_
          rintro e w' ⟨rfl, rfl⟩
          rw [h2]
          go_wp2_with fail
          go_ret
          exact ⟨rB (by rw [G.out, h1, h2]; rfl), HK0.out.trans HK.out⟩
        · cases h3 : decide ((m : Int) ≤ 400)
          all_goals
            go_wp2_with fail
            refine (l4Bytes _ a ca xs HX.out lx).mono ?_
            rintro e w' ⟨rfl, rfl⟩
            rw [h2]
            go_wp2_with fail
            go_ret
            exact ⟨rB (by rw [G.out, h1, h2, h3]; rfl), HK0.out.trans HK.out⟩
end Go.Proofs.YtflnodadeajmcaaGreat

namespace Go.Proofs.YtflnodadeajmcaaGreat
open Go.RowKit
set_option linter.unusedVariables false

namespace Pl
theorem goodBus_ok {xs ys : List Int} {m : Nat} (h : goodBus xs ys m = true) : xs.length = 512 ∧ bytesOk xs = true ∧ m ≤ 400 ∧ accsOk ys m = true := by
  simp only [goodBus, Bool.and_eq_true, decide_eq_true_eq] at h
  exact ⟨h.2.1, h.2.2.1, h.2.2.2, h.1⟩
theorem code_low {k s a : Int} (h : code k s a = 0) (a0 : 0 ≤ a) : a ≤ 511 ∧ a + s - 1 ≤ 511 := by
  unfold code at h
  split at h
  · cases h
  · split at h
    · cases h
    · rename_i h1 h2
      have k1 : ¬ kind a = 1 := fun e => h2 (.inl e)
      have k2 : ¬ kind (a + s - 1) = 1 := fun e => h2 (.inr e)
      constructor
      · refine Decidable.byContradiction fun q => k1 ?_
        have : 512 ≤ a := by omega
        simp [kind, this]
      · refine Decidable.byContradiction fun q => k2 ?_
        have : 512 ≤ a + s - 1 := by omega
        simp [kind, this]
theorem word_or {h l : Int} (h0 : 0 ≤ h) (h1 : h ≤ 255) (l0 : 0 ≤ l) (l1 : l ≤ 255) : bits .or .i64 (h * 256) l = h * 256 + l :=
  bits_join .i64 62 (by decide) wraps_i64 8 (h * 256) l (by omega) (by omega) (by omega) (by omega) (by omega) (by omega)
end Pl

set_option maxHeartbeats 1000000 in
theorem l4Code (k s a : Int) (w : World) (s0 : 1 ≤ s) (s1 : s ≤ 2) (a0 : 0 ≤ a) (a1 : a ≤ 65535) :
    Calls Tryz.prog 121 #[iv k, iv s, iv a] w fun e w' => e = .returned (iv (Pl.code k s a)) ∧ w' = w := by
  have hA := Pl.and1 a
  have G : Hid (Pl.code k s a = if ((s == 2) && (a % 2 == 1)) then 2 else if ((Pl.kind a == 1) || (Pl.kind (a + s - 1) == 1)) then 1 else if ((k == 2) && ((Pl.kind a == 3) || (Pl.kind (a + s - 1) == 3))) then 3 else 0) := hide (by
    unfold Pl.code; simp only [Bool.and_eq_true, Bool.or_eq_true, beq_iff_eq])
  cases h1 : (s == 2)
  · cases h3 : (Pl.kind a == 1)
    · cases h4 : (Pl.kind (a + s - 1) == 1)
      · cases h5 : (k == 2)
        · rw [h1, h3, h4, h5] at G
          go_enter Tryz.func121, Tryz.ntmps121
          go_wp2_with (go_at_call 146; refine (l4Kind _ _).mono ?_; rintro e w' ⟨rfl, rfl⟩)
          go_ret
          exact ⟨rI (by rw [G.out]; simp), rfl⟩
        · cases h6 : (Pl.kind a == 3)
          · cases h7 : (Pl.kind (a + s - 1) == 3)
            · rw [h1, h3, h4, h5, h6, h7] at G
              go_enter Tryz.func121, Tryz.ntmps121
              go_wp2_with (go_at_call 146; refine (l4Kind _ _).mono ?_; rintro e w' ⟨rfl, rfl⟩)
              go_ret
              exact ⟨rI (by rw [G.out]; simp), rfl⟩
            · rw [h1, h3, h4, h5, h6, h7] at G
              go_enter Tryz.func121, Tryz.ntmps121
              go_wp2_with (go_at_call 146; refine (l4Kind _ _).mono ?_; rintro e w' ⟨rfl, rfl⟩)
              go_ret
              exact ⟨rI (by rw [G.out]; simp), rfl⟩
          · rw [h1, h3, h4, h5, h6] at G
            go_enter Tryz.func121, Tryz.ntmps121
            go_wp2_with (go_at_call 146; refine (l4Kind _ _).mono ?_; rintro e w' ⟨rfl, rfl⟩)
            go_ret
            exact ⟨rI (by rw [G.out]; simp), rfl⟩
      · rw [h1, h3, h4] at G
        go_enter Tryz.func121, Tryz.ntmps121
        go_wp2_with (go_at_call 146; refine (l4Kind _ _).mono ?_; rintro e w' ⟨rfl, rfl⟩)
        go_ret
        exact ⟨rI (by rw [G.out]; simp), rfl⟩
    · rw [h1, h3] at G
      go_enter Tryz.func121, Tryz.ntmps121
      go_wp2_with (go_at_call 146; refine (l4Kind _ _).mono ?_; rintro e w' ⟨rfl, rfl⟩)
      go_ret
      exact ⟨rI (by rw [G.out]; simp), rfl⟩
  · cases h2 : (a % 2 == 1)
    · cases h3 : (Pl.kind a == 1)
      · cases h4 : (Pl.kind (a + s - 1) == 1)
        · cases h5 : (k == 2)
          · rw [h1, h2, h3, h4, h5] at G
            go_enter Tryz.func121, Tryz.ntmps121
            go_wp2_with (go_at_call 146; refine (l4Kind _ _).mono ?_; rintro e w' ⟨rfl, rfl⟩)
            go_ret
            exact ⟨rI (by rw [G.out]; simp), rfl⟩
          · cases h6 : (Pl.kind a == 3)
            · cases h7 : (Pl.kind (a + s - 1) == 3)
              · rw [h1, h2, h3, h4, h5, h6, h7] at G
                go_enter Tryz.func121, Tryz.ntmps121
                go_wp2_with (go_at_call 146; refine (l4Kind _ _).mono ?_; rintro e w' ⟨rfl, rfl⟩)
                go_ret
                exact ⟨rI (by rw [G.out]; simp), rfl⟩
              · rw [h1, h2, h3, h4, h5, h6, h7] at G
                go_enter Tryz.func121, Tryz.ntmps121
                go_wp2_with (go_at_call 146; refine (l4Kind _ _).mono ?_; rintro e w' ⟨rfl, rfl⟩)
                go_ret
                exact ⟨rI (by rw [G.out]; simp), rfl⟩
            · rw [h1, h2, h3, h4, h5, h6] at G
              go_enter Tryz.func121, Tryz.ntmps121
              go_wp2_with (go_at_call 146; refine (l4Kind _ _).mono ?_; rintro e w' ⟨rfl, rfl⟩)
              go_ret
              exact ⟨rI (by rw [G.out]; simp), rfl⟩
        · rw [h1, h2, h3, h4] at G
          go_enter Tryz.func121, Tryz.ntmps121
          go_wp2_with (go_at_call 146; refine (l4Kind _ _).mono ?_; rintro e w' ⟨rfl, rfl⟩)
          go_ret
          exact ⟨rI (by rw [G.out]; simp), rfl⟩
      · rw [h1, h2, h3] at G
        go_enter Tryz.func121, Tryz.ntmps121
        go_wp2_with (go_at_call 146; refine (l4Kind _ _).mono ?_; rintro e w' ⟨rfl, rfl⟩)
        go_ret
        exact ⟨rI (by rw [G.out]; simp), rfl⟩
    · rw [h1, h2] at G
      go_enter Tryz.func121, Tryz.ntmps121
      go_wp2_with (go_at_call 146; refine (l4Kind _ _).mono ?_; rintro e w' ⟨rfl, rfl⟩)
      go_ret
      exact ⟨rI (by rw [G.out]; simp), rfl⟩

end Go.Proofs.YtflnodadeajmcaaGreat

namespace Go.Proofs.YtflnodadeajmcaaGreat
open Go.RowKit
set_option linter.unusedVariables false

theorem signedAs8 (v : Int) (w : World) (lo : -9223372036854775808 ≤ v) (hi : v ≤ 9223372036854775807) :
    Calls Tryz.prog 148 #[iv v] w fun e w' => e = .returned (.tuple #[iv (Pl.sgnV 1 v), .bool (Pl.okv 1 v)]) ∧ w' = w := by
  by_cases h : 0 ≤ v ∧ v < 256
  · obtain ⟨h0, h1⟩ := h
    have hs : IntKind.u8.signed = false := rfl
    have hm : IntKind.u8.max = 255 := by decide
    have hb : bits .xor .u8 255 0 = 255 := by decide
    by_cases h : 127 < v
    all_goals
      go_enter Tryz.func148, Tryz.ntmps148
      go_wp2
      go_ret2
      exact ⟨rIB (by simp [Pl.sgnV, Pl.okv, Pl.sg, Pl.top, h0, h1]; omega) (by simp [Pl.okv, Pl.top, h0, h1]), rfl⟩
  · go_enter Tryz.func148, Tryz.ntmps148
    go_wp2
    go_ret2
    have k : Pl.okv 1 v = false := by
      cases c : Pl.okv 1 v
      · rfl
      · have := Pl.top_ok c; omega
    exact ⟨rIB (by simp [Pl.sgnV, k]) k.symm, rfl⟩

theorem signedAs16 (v : Int) (w : World) (lo : -9223372036854775808 ≤ v) (hi : v ≤ 9223372036854775807) :
    Calls Tryz.prog 149 #[iv v] w fun e w' => e = .returned (.tuple #[iv (Pl.sgnV 2 v), .bool (Pl.okv 2 v)]) ∧ w' = w := by
  by_cases h : 0 ≤ v ∧ v < 65536
  · obtain ⟨h0, h1⟩ := h
    have hs : IntKind.u16.signed = false := rfl
    have hm : IntKind.u16.max = 65535 := by decide
    have hb : bits .xor .u16 65535 0 = 65535 := by decide
    by_cases h : 32767 < v
    all_goals
      go_enter Tryz.func149, Tryz.ntmps149
      go_wp2
      go_ret2
      exact ⟨rIB (by simp [Pl.sgnV, Pl.okv, Pl.sg, Pl.top, h0, h1]; omega) (by simp [Pl.okv, Pl.top, h0, h1]), rfl⟩
  · have hw : IntKind.u16.wrap v = v % 65536 := IntKind.wrap_u16 v
    go_enter Tryz.func149, Tryz.ntmps149
    go_wp2
    go_ret2
    have k : Pl.okv 2 v = false := by
      cases c : Pl.okv 2 v
      · rfl
      · have := Pl.top_ok c; omega
    exact ⟨rIB (by simp [Pl.sgnV, k]) k.symm, rfl⟩

theorem signedOf (s v : Int) (w : World) (lo : -9223372036854775808 ≤ v) (hi : v ≤ 9223372036854775807) :
    Calls Tryz.prog 123 #[iv s, iv v] w fun e w' => e = .returned (.tuple #[iv (Pl.sgnV s v), .bool (Pl.okv s v)]) ∧ w' = w := by
  by_cases h1 : s = 1
  · subst h1
    go_enter Tryz.func123, Tryz.ntmps123
    go_wp2_with fail
    refine (signedAs8 v _ lo hi).mono ?_
    rintro e w' ⟨rfl, rfl⟩
    go_wp2_with fail
    go_ret2
    exact ⟨rfl, rfl⟩
  · by_cases h2 : s = 2
    · subst h2
      go_enter Tryz.func123, Tryz.ntmps123
      go_wp2_with fail
      refine (signedAs16 v _ lo hi).mono ?_
      rintro e w' ⟨rfl, rfl⟩
      go_wp2_with fail
      go_ret2
      exact ⟨rfl, rfl⟩
    · have k : Pl.okv s v = false := by simp [Pl.okv, h1, h2]
      have k1 : (s == 1) = false := by simpa using h1
      have k2 : (s == 2) = false := by simpa using h2
      go_enter Tryz.func123, Tryz.ntmps123
      go_wp2_with fail
      go_ret2
      exact ⟨rIB (by simp [Pl.sgnV, k]) k.symm, rfl⟩

end Go.Proofs.YtflnodadeajmcaaGreat

namespace Go.Proofs.YtflnodadeajmcaaGreat
open Go.RowKit
set_option linter.unusedVariables false

theorem isAddress (a : Int) (w : World) : Calls Tryz.prog 125 #[iv a] w fun e w' => e = .returned (.bool (Pl.addr a)) ∧ w' = w := by
  by_cases h0 : 0 ≤ a
  all_goals
    by_cases h1 : a ≤ 65535
    all_goals
      go_enter Tryz.func125, Tryz.ntmps125
      go_wp2
      go_ret
      exact ⟨rB (by simp [Pl.addr, h0, h1] <;> omega), rfl⟩
theorem isAccessKind (a : Int) (w : World) : Calls Tryz.prog 124 #[iv a] w fun e w' => e = .returned (.bool (Pl.accKind a)) ∧ w' = w := by
  by_cases h0 : 1 ≤ a
  all_goals
    by_cases h1 : a ≤ 3
    all_goals
      go_enter Tryz.func124, Tryz.ntmps124
      go_wp2
      go_ret
      exact ⟨rB (by simp [Pl.accKind, h0, h1] <;> omega), rfl⟩
theorem isOdd (a : Int) (w : World) (h0 : 0 ≤ a) (h1 : a ≤ 65535) : Calls Tryz.prog 74 #[iv a] w fun e w' => e = .returned (.bool (decide (a % 2 = 1))) ∧ w' = w := by
  go_enter Tryz.func74, Tryz.ntmps74
  go_wp2
  go_ret
  refine ⟨rB ?_, rfl⟩
  rw [Bool.eq_iff_iff]
  simp
  omega
theorem partOf (a : Int) (w : World) : Calls Tryz.prog 130 #[iv a] w fun e w' => e = .returned (iv (Pl.kind a)) ∧ w' = w := by
  by_cases h1 : 512 ≤ a
  · have E : Hid (Pl.kind a = 1) := hide (by simp [Pl.kind, h1])
    go_enter Tryz.func130, Tryz.ntmps130
    go_wp2
    go_ret
    exact ⟨rI E.out.symm, rfl⟩
  · by_cases h2 : 496 ≤ a
    · have E : Hid (Pl.kind a = 0) := hide (by unfold Pl.kind; rw [if_neg (by omega), if_neg (by omega)])
      go_enter Tryz.func130, Tryz.ntmps130
      go_wp2
      go_ret
      exact ⟨rI E.out.symm, rfl⟩
    · by_cases h3 : 448 ≤ a
      · have E : Hid (Pl.kind a = 1) := hide (by unfold Pl.kind; rw [if_pos (by omega)])
        go_enter Tryz.func130, Tryz.ntmps130
        go_wp2
        go_ret
        exact ⟨rI E.out.symm, rfl⟩
      · by_cases h4 : 384 ≤ a
        · have E : Hid (Pl.kind a = 3) := hide (by unfold Pl.kind; rw [if_neg (by omega), if_pos (by omega)])
          go_enter Tryz.func130, Tryz.ntmps130
          go_wp2
          go_ret
          exact ⟨rI E.out.symm, rfl⟩
        · have E : Hid (Pl.kind a = 0) := hide (by unfold Pl.kind; rw [if_neg (by omega), if_neg (by omega)])
          go_enter Tryz.func130, Tryz.ntmps130
          go_wp2
          go_ret
          exact ⟨rI E.out.symm, rfl⟩
namespace Pl
def isAcc (k s a v c : Int) : Bool := okv s v && (accKind k && (addr a && (decide (0 ≤ c) && decide (c ≤ 3))))
theorem accOk_isAcc (k s a v c : Int) : accOk k s a v c = (isAcc k s a v c && !((k == 3) && (c == 0))) := by
  unfold accOk isAcc
  rw [Bool.eq_iff_iff]
  simp only [Bool.and_eq_true, Bool.or_eq_true, Bool.not_eq_true', decide_eq_true_eq, bne_iff_ne, ne_eq, Bool.and_eq_false_iff, beq_eq_false_iff_ne]
  constructor
  · rintro ⟨a1, a2, a3, a4, a5⟩; exact ⟨⟨a2, a1, a3, a4⟩, a5⟩
  · rintro ⟨⟨a2, a1, a3, a4⟩, a5⟩; exact ⟨a1, a2, a3, a4, a5⟩
end Pl
theorem isAccess (k s a v c : Int) (w : World) (lo : -9223372036854775808 ≤ v) (hi : v ≤ 9223372036854775807) : Calls Tryz.prog 95 #[.agg #[iv k, iv s, iv a, iv v, iv c]] w fun e w' => e = .returned (.bool (Pl.isAcc k s a v c)) ∧ ∃ o, w' = w.alloc o := by
  cases h1 : Pl.okv s v
  · go_enter Tryz.func95, Tryz.ntmps95
    go_wp2_with (first | (go_at_call 123; refine (signedOf _ _ _ lo hi).mono ?_; rintro e w' ⟨rfl, rfl⟩; rw [h1]) | (go_at_call 124; refine (isAccessKind _ _).mono ?_; rintro e w' ⟨rfl, rfl⟩) | (go_at_call 125; refine (isAddress _ _).mono ?_; rintro e w' ⟨rfl, rfl⟩))
    go_ret
    exact ⟨rB (by unfold Pl.isAcc; rw [h1]; rfl), _, rfl⟩
  · cases h2 : Pl.accKind k
    · go_enter Tryz.func95, Tryz.ntmps95
      go_wp2_with (first | (go_at_call 123; refine (signedOf _ _ _ lo hi).mono ?_; rintro e w' ⟨rfl, rfl⟩; rw [h1]) | (go_at_call 124; refine (isAccessKind _ _).mono ?_; rintro e w' ⟨rfl, rfl⟩; rw [h2]) | (go_at_call 125; refine (isAddress _ _).mono ?_; rintro e w' ⟨rfl, rfl⟩))
      go_ret
      exact ⟨rB (by unfold Pl.isAcc; rw [h1, h2]; rfl), _, rfl⟩
    · cases h3 : Pl.addr a
      · go_enter Tryz.func95, Tryz.ntmps95
        go_wp2_with (first | (go_at_call 123; refine (signedOf _ _ _ lo hi).mono ?_; rintro e w' ⟨rfl, rfl⟩; rw [h1]) | (go_at_call 124; refine (isAccessKind _ _).mono ?_; rintro e w' ⟨rfl, rfl⟩; rw [h2]) | (go_at_call 125; refine (isAddress _ _).mono ?_; rintro e w' ⟨rfl, rfl⟩; rw [h3]))
        go_ret
        exact ⟨rB (by unfold Pl.isAcc; rw [h1, h2, h3]; rfl), _, rfl⟩
      · cases h4 : decide (0 ≤ c)
        all_goals
          cases h5 : decide (c ≤ 3)
          all_goals
            go_enter Tryz.func95, Tryz.ntmps95
            go_wp2_with (first | (go_at_call 123; refine (signedOf _ _ _ lo hi).mono ?_; rintro e w' ⟨rfl, rfl⟩; rw [h1]) | (go_at_call 124; refine (isAccessKind _ _).mono ?_; rintro e w' ⟨rfl, rfl⟩; rw [h2]) | (go_at_call 125; refine (isAddress _ _).mono ?_; rintro e w' ⟨rfl, rfl⟩; rw [h3]))
            go_ret
            exact ⟨rB (by unfold Pl.isAcc; rw [h1, h2, h3, h4, h5]; rfl), _, rfl⟩
theorem isLogged (k s a v c : Int) (w : World) (lo : -9223372036854775808 ≤ v) (hi : v ≤ 9223372036854775807) : Calls Tryz.prog 64 #[.agg #[iv k, iv s, iv a, iv v, iv c]] w fun e w' => e = .returned (.bool (Pl.accOk k s a v c)) ∧ ∃ o p, w' = (w.alloc o).alloc p := by
  cases h1 : Pl.isAcc k s a v c
  · go_enter Tryz.func64, Tryz.ntmps64
    go_wp2_with (go_at_call 95; refine (isAccess _ _ _ _ _ _ lo hi).mono ?_; rintro e w' ⟨rfl, o, rfl⟩; rw [h1])
    go_ret
    exact ⟨rB (by rw [Pl.accOk_isAcc, h1]; rfl), _, _, rfl⟩
  · cases h2 : (k == 3)
    · go_enter Tryz.func64, Tryz.ntmps64
      go_wp2_with (go_at_call 95; refine (isAccess _ _ _ _ _ _ lo hi).mono ?_; rintro e w' ⟨rfl, o, rfl⟩; rw [h1])
      go_ret
      exact ⟨rB (by rw [Pl.accOk_isAcc, h1, h2]; rfl), _, _, rfl⟩
    · cases h3 : (c == 0)
      all_goals
        go_enter Tryz.func64, Tryz.ntmps64
        go_wp2_with (go_at_call 95; refine (isAccess _ _ _ _ _ _ lo hi).mono ?_; rintro e w' ⟨rfl, o, rfl⟩; rw [h1])
        go_ret
        exact ⟨rB (by rw [Pl.accOk_isAcc, h1, h2, h3]; rfl), _, _, rfl⟩
end Go.Proofs.YtflnodadeajmcaaGreat

namespace Go.Proofs.YtflnodadeajmcaaGreat
open Go.RowKit
set_option linter.unusedVariables false

theorem okv1 (v : Int) : Pl.okv 1 v = Pl.byteOk v := by
  unfold Pl.okv Pl.byteOk Pl.top
  rw [Bool.eq_iff_iff]; simp; omega
theorem isByte (v : Int) (w : World) (lo : -9223372036854775808 ≤ v) (hi : v ≤ 9223372036854775807) :
    Calls Tryz.prog 94 #[iv v] w fun e w' => e = .returned (.bool (Pl.byteOk v)) ∧ w' = w := by
  go_enter Tryz.func94, Tryz.ntmps94
  go_wp2_with (go_at_call 123; refine (signedOf _ _ _ lo hi).mono ?_; rintro e w' ⟨rfl, hw⟩; have hw2 := hw.symm; clear hw; subst hw2; rw [okv1])
  go_ret
  exact ⟨rfl, rfl⟩
theorem areBytes (w : World) (a : Option Addr) (ca : Nat) (xs : List Int) (ha : Came w a xs) (lx : xs.length ≤ 2000000) :
    Calls Tryz.prog 63 #[.slice a xs.length ca] w fun e w' => e = .returned (.bool (Pl.bytesOk xs)) ∧ w' = w := by
  have HA := hide ha
  clear ha
  go_enter Tryz.func63, Tryz.ntmps63
  go_wp2
  go_loop [4, 7] (fun _ j => ∃ k : Nat, k ≤ xs.length ∧ j = iv k ∧ ∀ i, i < k → Pl.byteOk (el xs i) = true) (fun _ j => xs.length - (intOf j).toNat)
  case atStart => exact ⟨0, Nat.zero_le _, rfl, fun i hi => absurd hi (Nat.not_lt_zero i)⟩
  case round =>
    obtain ⟨k, hk, rfl, heq⟩ := hrel
    have HE := hide heq
    clear heq
    by_cases hlt : k < xs.length
    · obtain ⟨g1, o1, rfl, hc1⟩ := HA.out.1 k hlt
      obtain ⟨lo, hi⟩ := HA.out.2 k hlt
      rw [show xs[k]?.getD 0 = el xs k from rfl] at hc1 lo hi
      cases hb : Pl.byteOk (el xs k)
      · go_wp2_with (go_at_call 94; refine (isByte _ _ lo hi).mono ?_; rintro e w' ⟨rfl, rfl⟩; rw [hb])
        go_ret
        exact ⟨rB (Pl.bytesOk_no hlt hb).symm, rfl⟩
      · go_wp2_with (go_at_call 94; refine (isByte _ _ lo hi).mono ?_; rintro e w' ⟨rfl, rfl⟩; rw [hb])
        go_round
        case rel => exact ⟨k + 1, by omega, by go_num, snoc_all HE.out hb⟩
        case measure => simp [intOf]; omega
    · go_wp2
      go_ret
      exact ⟨rB (Pl.bytesOk_of (fun i hi => HE.out i (by omega))).symm, rfl⟩
end Go.Proofs.YtflnodadeajmcaaGreat

namespace Go.Proofs.YtflnodadeajmcaaGreat
open Go.RowKit
set_option linter.unusedVariables false

theorem Wide.at5 {ys : List Int} (h : Wide ys) {m k : Nat} (hl : ys.length = 5 * m) (hk : k < m) : -9223372036854775808 ≤ el ys (k * 5 + 3) ∧ el ys (k * 5 + 3) ≤ 9223372036854775807 := h (k * 5 + 3) (by omega)

theorem goodBus (w : World) (a b : Option Addr) (ca cb m : Nat) (xs ys : List Int) (ha : Came w a xs) (hb : Came w b ys) (lx : xs.length ≤ 2000000) (ly : ys.length = 5 * m) (bm : m ≤ 2000000) :
    Calls Tryz.prog 33 #[.agg #[.slice a xs.length ca, .slice b m cb]] w fun e w' => e = .returned (.bool (Pl.goodBus xs ys m)) ∧ Kept 0 0 w w' := by
  have HA := hide ha
  have HB := hide hb
  have HY := hide ly
  have HK0 := hide (kept_alloc w (.cells #[.slice a xs.length ca, .slice b m cb] 35))
  clear ha hb ly
  cases h1 : ((xs.length : Int) != 512)
  · have hl5 : xs.length = 512 := by simp at h1; omega
    have G : Hid (Pl.goodBus xs ys m = (Pl.accsOk ys m && (Pl.bytesOk xs && decide (m ≤ 400)))) := hide (by
      unfold Pl.goodBus
      rw [show decide (xs.length = 512) = true from by simp [hl5], Bool.true_and])
    clear hl5
    cases h2 : Pl.bytesOk xs
    · go_enter Tryz.func33, Tryz.ntmps33
      go_wp2_with (go_at_call 63; refine (areBytes _ a ca xs (HA.out.keptS HK0.out) lx).mono ?_; rintro e w' ⟨rfl, rfl⟩; rw [h2])
      go_ret
      exact ⟨rB (by rw [G.out, h2, Bool.false_and, Bool.and_false]), HK0.out⟩
    · cases h3 : decide ((400 : Int) < (m : Int))
      · go_enter Tryz.func33, Tryz.ntmps33
        go_wp2_with (first | (go_at_call 63; refine (areBytes _ a ca xs (HA.out.keptS HK0.out) lx).mono ?_; rintro e w' ⟨rfl, rfl⟩; rw [h2]) | fail)
        obtain ⟨W, hW⟩ : ∃ W : World, W = w.alloc (.cells #[.slice a xs.length ca, .slice b m cb] 35) := ⟨_, rfl⟩
        rw [← hW] at HK0 ⊢
        clear hW
        go_loopw [4, 24] (fun _ j wr => ∃ k : Nat, k ≤ m ∧ j = iv k ∧ (∀ i, i < k → Pl.accAt ys i = true) ∧ Kept 0 0 W wr) (fun _ j _ => m - (intOf j).toNat)
        case atStart => exact ⟨0, Nat.zero_le _, rfl, fun i hi => absurd hi (Nat.not_lt_zero i), Kept.refl _ _ _⟩
        case round =>
          obtain ⟨k, hk, rfl, heq, hkept⟩ := hrel
          have HE := hide heq
          have HK := hide hkept
          clear heq hkept
          by_cases hlt : k < m
          · obtain ⟨lo, hi⟩ := HB.out.2.at5 HY.out hlt
            obtain ⟨g1, o1, rfl, p0, p1, p2, p3, p4⟩ := ((HB.out.keptS (HK0.out.trans HK.out)).1).five HY.out hlt
            cases hb : Pl.accAt ys k
            · have hb2 : Pl.accOk (el ys (k * 5)) (el ys (k * 5 + 1)) (el ys (k * 5 + 2)) (el ys (k * 5 + 3)) (el ys (k * 5 + 4)) = false := hb
              clear hb
              go_wp2_with (go_at_call 64; refine (isLogged _ _ _ _ _ _ lo hi).mono ?_; rintro e w' ⟨rfl, o, p, rfl⟩; rw [hb2])
              go_ret
              exact ⟨rB (by unfold Pl.goodBus; rw [Pl.accsOk_no hlt hb2]; rfl), HK0.out.trans (kept_new (kept_new (kept_new HK.out _) _) _)⟩
            · have hb2 : Pl.accOk (el ys (k * 5)) (el ys (k * 5 + 1)) (el ys (k * 5 + 2)) (el ys (k * 5 + 3)) (el ys (k * 5 + 4)) = true := hb
              clear hb
              go_wp2_with (go_at_call 64; refine (isLogged _ _ _ _ _ _ lo hi).mono ?_; rintro e w' ⟨rfl, o, p, rfl⟩; rw [hb2])
              go_roundw
              case rel => exact ⟨k + 1, by omega, by go_num, snoc_all HE.out hb2, kept_new (kept_new (kept_new HK.out _) _) _⟩
              case measure => simp [intOf]; omega
          · have HA1 : Hid (Pl.accsOk ys m = true) := hide (Pl.accsOk_of (fun i hi => HE.out i (by omega)))
            go_wp2_with fail
            go_ret
            refine ⟨rB ?_, HK0.out.trans HK.out⟩
            rw [G.out, HA1.out, h2]
            simp at h3
            simp; omega
      · go_enter Tryz.func33, Tryz.ntmps33
        go_wp2_with (go_at_call 63; refine (areBytes _ a ca xs (HA.out.keptS HK0.out) lx).mono ?_; rintro e w' ⟨rfl, rfl⟩; rw [h2])
        go_ret
        refine ⟨rB ?_, HK0.out⟩
        rw [G.out]
        simp at h3
        rw [show decide (m ≤ 400) = false from by simp; omega]
        simp
  · have hl5 : Hid (¬ xs.length = 512) := hide (by simp at h1; omega)
    go_enter Tryz.func33, Tryz.ntmps33
    go_wp2_with (go_at_call 63; fail)
    go_ret
    refine ⟨rB ?_, HK0.out⟩
    unfold Pl.goodBus
    rw [show decide (xs.length = 512) = false from by simp [hl5.out]]
    simp
end Go.Proofs.YtflnodadeajmcaaGreat

namespace Go.Proofs.YtflnodadeajmcaaGreat.Pl
set_option linter.unusedVariables false
/-- what lies there, of a size -/
def rd (xs : List Int) (s : Int) (i : Nat) : Int := if s = 1 then el xs i else el xs i * 256 + el xs (i + 1)
/-- .. behind so many bytes -/
def rdK (xs : List Int) (i k : Nat) : Int := if k = 0 then 0 else if k = 1 then el xs i else el xs i * 256 + el xs (i + 1)

end Go.Proofs.YtflnodadeajmcaaGreat.Pl

namespace Go.Proofs.YtflnodadeajmcaaGreat
open Go.RowKit
set_option linter.unusedVariables false

def zeros : List Int := List.replicate 512 0
theorem zeros_len : zeros.length = 512 := List.length_replicate ..
theorem Tryz.infoMem : (Tryz.prog.info? 71).map (fun i => (i.zero, i.size)) = some (some (.agg (cellsOf zeros)), 512) := by kernel_rfl
theorem Tryz.memZero : ∀ w, (zeroValue 71).run Tryz.prog w = .ok (.agg (cellsOf zeros)) w := (zero_of_info Tryz.infoMem).1
theorem Tryz.memSize : (Tryz.prog.info? 71).map (·.size) = some 512 := (zero_of_info Tryz.infoMem).2
set_option maxHeartbeats 4000000 in
theorem memoryOf (w : World) (a b : Option Addr) (ca cb m : Nat) (xs : List Int) (ha : IRow w a xs) (lx : xs.length = 512) :
    Calls Tryz.prog 36 #[.agg #[.slice a xs.length ca, .slice b m cb]] w fun e w' => e = .returned (.agg (cellsOf xs)) ∧ Kept 0 0 w w' := by
  obtain ⟨ga, oa, rfl, _⟩ := ha 0 (by omega)
  have HA := hide ha
  have HX := hide lx
  clear ha lx
  have mz := Tryz.memZero
  have HS : Hid ((Tryz.prog.info? 3).map (·.size) = some 1) := hide (by kernel_rfl)
  go_enter Tryz.func36, Tryz.ntmps36
  go_wp2_with fail
  have K := hide (kept_new (kept_new (kept_alloc w (.cells #[.slice (some ⟨ga, oa, none⟩) xs.length ca, .slice b m cb] 35)) (.cells (cellsOf zeros) 71)) (.cells (cellsOf zeros) 71))
  have B0 := (((Blk.new w #[.slice (some ⟨ga, oa, none⟩) xs.length ca, .slice b m cb] 35).alloc (.cells (cellsOf zeros) 71)).alloc (.cells (cellsOf zeros) 71))
  have B1 := ((Blk.new (w.alloc (.cells #[.slice (some ⟨ga, oa, none⟩) xs.length ca, .slice b m cb] 35)) (cellsOf zeros) 71).alloc (.cells (cellsOf zeros) 71))
  have B2 := Blk.new ((w.alloc (.cells #[.slice (some ⟨ga, oa, none⟩) xs.length ca, .slice b m cb] 35)).alloc (.cells (cellsOf zeros) 71)) (cellsOf zeros) 71
  simp only [World.size_alloc] at B1 B2
  obtain ⟨W, hW⟩ : ∃ W : World, W = (((w.alloc (.cells #[.slice (some ⟨ga, oa, none⟩) xs.length ca, .slice b m cb] 35)).alloc (.cells (cellsOf zeros) 71)).alloc (.cells (cellsOf zeros) 71)) := ⟨_, rfl⟩
  rw [← hW] at K B0 B1 B2 ⊢
  clear hW
  have p0 := B0.cell (i := 0) rfl
  have H1 := hide B1
  have H2 := hide B2
  clear B0 B1 B2
  have HZ : Hid ((Tryz.prog.info? 71).map (·.size) = some (cellsOf xs).size) := hide (by rw [cellsOf_size, HX.out]; exact Tryz.memSize)
  have HZ2 : Hid ((cellsOf zeros).size = (cellsOf xs).size) := hide (by rw [cellsOf_size, cellsOf_size, HX.out, zeros_len])
  have HN : Hid ((xs.map (Value.int .i64)).length = Nat.min xs.length 512) := hide (by rw [HX.out]; simp [HX.out])
  have HF : Hid (0 + (xs.map (Value.int .i64)).length ≤ (zeros.map (Value.int .i64)).length) := hide (by simp [HX.out, zeros_len])
  go_region_law (refine step_copy_splice rfl (.tmp 4) (.tmp 6) 22 22 rfl 3 Tryz.underlying22 HS.out _ _ _ _ _ _ rfl rfl (w.heap.size + 1 + 1) 0 (zeros.map (Value.int .i64)) 71 ?hg (xs.map (Value.int .i64)) HN.out ?hpos HF.out news_one (w.heap.size + 1 + 1) W ?hb (Nat.le_refl _) ?_
                 (case hg => exact H2.out)
                 (case hb => exact (Below.refl _ W).drew)
                 (case hpos => intro _; exact ⟨rfl, _, rfl, news_of (HA.out.keptS (kept_drew K.out))⟩)
                 intro w4 hg4 hb4)
  all_goals
    have D2 : Hid (Blk w4 (w.heap.size + 1 + 1) (cellsOf xs) 71) := hide (by
      have h := hg4.out
      rw [splice_all (by simp [HX.out, zeros_len])] at h
      exact h)
    have D1 : Hid (Blk w4 (w.heap.size + 1) (cellsOf zeros) 71) := hide ((hb4.block _ (by omega)).trans H1.out)
    have K4 : Hid (Kept 0 0 w w4) := hide (kept_lower K.out hb4 (by omega))
    clear hg4 hb4
    go_wp2_with (first | (refine wpList_load_row rfl 71 (.tmp 3) rfl (w.heap.size + 1 + 1) rfl 71 (cellsOf xs) (0, 0) _ D2.out Tryz.underlying71 rfl HZ.out ?_) | (refine wpList_store_row rfl 71 (.tmp 2) (.tmp 8) rfl (w.heap.size + 1) (cellsOf xs) rfl rfl 71 (cellsOf zeros) D1.out HZ.out HZ2.out (cellsOf_one xs) ?_))
    refine bodyPost_ret (v := .agg (cellsOf xs)) ?_ rfl ⟨rfl, kept_setRow K4.out _ _ (by omega)⟩
    exact results_cell_row rfl _ _ _ _ _ (0, 0) _ rfl D1.out.setRow Tryz.underlying71 rfl HZ.out

set_option maxRecDepth 20000 in
set_option maxHeartbeats 4000000 in
theorem memRead (w : World) (xs : List Int) (s n : Nat) (lx : xs.length = 512) (hb : Pl.bytesOk xs = true) (s0 : 1 ≤ s) (s1 : s ≤ 2) (hn : n + s ≤ 512) :
    Calls Tryz.prog 131 #[.agg (cellsOf xs), iv s, iv n] w fun e w' => e = .returned (iv (Pl.rd xs s n)) ∧ Kept 0 0 w w' := by
  have HX := hide lx
  have HO := hide (own_of_blk (Blk.new w (cellsOf xs) 71))
  have HK := hide (kept_alloc w (.cells (cellsOf xs) 71))
  have HB := hide hb
  have HS0 := hide s0
  have HN : Hid (n + s ≤ 512) := hide hn
  clear lx hb
  have hsl : ∀ W : World, (Instr.sliceAt 71 (.pointer (some ⟨w.heap.size, 0, none⟩)) (some (iv (n : Int))) (some (iv ((n : Int) + (s : Int)))) none).run Tryz.prog W = .ok (.slice (some ⟨w.heap.size, n, none⟩) s (512 - n)) W := by
    intro W
    have hlen : Tryz.prog.arrayLen 71 = 512 := by kernel_rfl
    have hel : Tryz.prog.elem 71 = 3 := by kernel_rfl
    have ht : Tryz.prog.underlying 71 = some (.array (Tryz.prog.arrayLen 71) (Tryz.prog.elem 71)) := by kernel_rfl
    obtain ⟨i, hi, hz0, hz1, hz2⟩ := info_parts Tryz.info3
    rw [run_sliceAt_array_lh W 71 _ ht .i64 .i64 n ((n : Int) + (s : Int)) (by omega) (by omega) (by rw [hlen]; omega), hlen, hel]
    have e1 : ((n : Int)).toNat = n := by omega
    have e2 : ((n : Int) + (s : Int)).toNat - n = s := by omega
    have q1 : ¬ 512 = n := by omega
    simp only [sizeOf, typeInfo, Sem.run_bind, Sem.run_pure, slicedAt, e1, e2, q1, if_false]
    simp [hi, hz1, Addr.add]
    intro h0; exact h0.symm
  go_enter Tryz.func131, Tryz.ntmps131
  go_wp2_with fail
  go_loop [7, 9, 16] (fun v _ j => ∃ k : Nat, k ≤ s ∧ j = iv k ∧ v = iv (Pl.rdK xs n k)) (fun _ _ j => s - (intOf j).toNat)
  case atStart => exact ⟨0, Nat.zero_le _, rfl, rfl⟩
  case round =>
    obtain ⟨k, hk, rfl, rfl⟩ := hrel
    by_cases hlt : k < s
    · obtain ⟨hc, _⟩ := HO.out (n + k) (by rw [HX.out]; omega)
      have b0 := Pl.bytesOk_at HB.out n (by rw [HX.out]; omega)
      have b1 := Pl.bytesOk_at HB.out (n + k) (by rw [HX.out]; omega)
      rw [show xs[n + k]?.getD 0 = el xs (n + k) from rfl] at hc
      obtain ⟨b00, b01⟩ := b0
      obtain ⟨b10, b11⟩ := b1
      by_cases hk0 : k = 0
      · subst hk0
        have hor := Pl.word_or (h := 0) (by decide) (by decide) b10 b11
        rw [Int.zero_mul, Int.zero_add] at hor
        rw [Nat.add_zero] at hc hor b10 b11
        rw [show Pl.rdK xs n 0 = 0 from rfl]
        go_wp2
        go_round
        case rel => exact ⟨1, by omega, rfl, rfl⟩
        case measure => simp [intOf]; omega
      · obtain rfl : k = 1 := by omega
        have hor := Pl.word_or b00 b01 b10 b11
        rw [show Pl.rdK xs n 1 = el xs n from rfl]
        go_wp2
        go_round
        case rel => exact ⟨2, by omega, rfl, rfl⟩
        case measure => simp [intOf]; omega
    · have E : Hid (Pl.rdK xs n k = Pl.rd xs s n) := hide (by
        have : k = 1 ∨ k = 2 := by omega
        unfold Pl.rdK Pl.rd
        rcases this with rfl | rfl
        · rw [if_neg (by decide), if_pos rfl, if_pos (by omega)]
        · rw [if_neg (by decide), if_neg (by decide), if_neg (by omega)])
      go_wp2
      go_ret
      exact ⟨rI E.out, HK.out⟩
end Go.Proofs.YtflnodadeajmcaaGreat

namespace Go.Proofs.YtflnodadeajmcaaGreat
open Go.RowKit
set_option linter.unusedVariables false
theorem Pl.peek_code {a : Int} (h0 : 0 ≤ a) : decide (Pl.code 1 2 a = 0) = (!(decide (a % 2 = 1)) && !(Pl.kind a == 1)) := by
  rw [Bool.eq_iff_iff]
  simp only [decide_eq_true_eq, Bool.and_eq_true, Bool.not_eq_true', decide_eq_false_iff_not, beq_eq_false_iff_ne, ne_eq]
  unfold Pl.code
  by_cases h1 : a % 2 = 1
  · simp [h1]
  · have e : (Pl.kind (a + 2 - 1) = 1) ↔ (Pl.kind a = 1) := by
      unfold Pl.kind
      constructor
      · intro h
        split at h
        · rw [if_pos (by omega)]
        · split at h
          · cases h
          · cases h
      · intro h
        split at h
        · rw [if_pos (by omega)]
        · split at h
          · cases h
          · cases h
    rw [if_neg (by omega)]
    by_cases h2 : Pl.kind a = 1
    · simp [h1, h2]
    · simp [h1, h2, e]

end Go.Proofs.YtflnodadeajmcaaGreat

namespace Go.Proofs.YtflnodadeajmcaaGreat
open Go.RowKit
set_option linter.unusedVariables false
set_option linter.unusedSimpArgs false
/-- whether a word lies at a place -/
def Pl.wdOk (q : Int) : Bool := decide (Pl.code 1 2 q = 0)
/-- the model's word at a place, and the program's -/
def Pl.wdAt (xs : List Int) (q : Int) : Int := el xs q.toNat * 256 + el xs (q.toNat + 1)
def Pl.wdM (xs : List Int) (q : Int) : Int := if Pl.wdOk q = true then Pl.wdAt xs q else -1
def Pl.wdP (xs : List Int) (q : Int) : Int := if Pl.wdOk q = true then Pl.wdAt xs q else 0
theorem Pl.wd_low {q : Int} (q0 : 0 ≤ q) (h : Pl.wdOk q = true) : q + 2 ≤ 512 := by
  have := Pl.code_low (of_decide_eq_true h) q0
  omega
set_option maxRecDepth 20000 in
set_option maxHeartbeats 4000000 in
theorem specUWord (w : World) (a b : Option Addr) (ca cb m : Nat) (xs : List Int) (q : Int) (ha : IRow w a xs) (lx : xs.length = 512) (hb : Pl.bytesOk xs = true) (q0 : 0 ≤ q) (q1 : q ≤ 2000) :
    Calls Tryz.prog 92 #[.agg #[.slice a xs.length ca, .slice b m cb], iv q] w fun e w' => e = .returned (iv (Pl.wdM xs q)) ∧ Kept 0 0 w w' := by
  have K0 := hide (kept_alloc w (.cells #[.slice a xs.length ca, .slice b m cb] 35))
  have B0 := hide (Blk.new w #[.slice a xs.length ca, .slice b m cb] 35)
  have HA := hide (ha.keptS K0.out)
  have HX := hide lx
  clear lx
  cases h1 : decide ((512 : Int) ≤ q + 1)
  · cases h2 : Pl.wdOk q
    · have hc : (Pl.code 1 2 q != 0) = true := by unfold Pl.wdOk at h2; simp at h2 ⊢; exact h2
      go_enter Tryz.func92, Tryz.ntmps92
      go_wp2_with (first | (go_at_call 121; refine st (l4Code 1 2 q _ (by decide) (by decide) q0 (by omega)) ?_))
      go_ret
      exact ⟨rI (by unfold Pl.wdM; rw [h2]; rfl), K0.out⟩
    · have hc : (Pl.code 1 2 q != 0) = false := by unfold Pl.wdOk at h2; simp at h2 ⊢; exact h2
      have hl := Pl.wd_low q0 h2
      obtain ⟨i, rfl⟩ : ∃ i : Nat, q = (i : Int) := ⟨q.toNat, by omega⟩
      have y0 := Pl.bytesOk_at hb i (by have := HX.out; omega)
      have y1 := Pl.bytesOk_at hb (i + 1) (by have := HX.out; omega)
      obtain ⟨g1, o1, rfl, p0⟩ := HA.out i (by have := HX.out; omega)
      obtain ⟨g2, o2, e2, p1⟩ := HA.out (i + 1) (by have := HX.out; omega)
      cases e2
      rw [show xs[i]?.getD 0 = el xs i from rfl] at p0
      rw [show xs[i + 1]?.getD 0 = el xs (i + 1) from rfl] at p1
      have E : Hid (Pl.wdAt xs (i : Int) = el xs i * 256 + el xs (i + 1)) := hide (by unfold Pl.wdAt; rw [Int.toNat_natCast])
      have hor := Pl.word_or y0.1 y0.2 y1.1 y1.2
      have hi2 : ((i : Int) + 1) < (xs.length : Int) := by have := HX.out; omega
      have hi1 : (i : Int) < (xs.length : Int) := by have := HX.out; omega
      obtain ⟨x00, x01⟩ := y0
      obtain ⟨x10, x11⟩ := y1
      have pb := B0.out.all
      go_enter Tryz.func92, Tryz.ntmps92
      go_wp2_with (first | (go_at_call 121; refine st (l4Code 1 2 (i : Int) _ (by decide) (by decide) q0 (by omega)) ?_))
      go_region
      go_wp2
      go_ret
      exact ⟨rI (by unfold Pl.wdM; rw [h2, if_pos rfl, E.out]), kept_drew K0.out⟩
  · have h2 : Pl.wdOk q = false := by
      rw [Bool.eq_false_iff]
      intro h
      have := Pl.wd_low q0 h
      simp at h1
      omega
    go_enter Tryz.func92, Tryz.ntmps92
    go_wp2_with fail
    go_ret
    exact ⟨rI (by unfold Pl.wdM; rw [h2]; rfl), K0.out⟩
set_option maxRecDepth 100000 in
set_option maxHeartbeats 4000000 in
theorem implUPeek (w : World) (bk : Nat) (xs : List Int) (q : Int) (hB : Blk w bk (cellsOf xs) 71) (lx : xs.length = 512) (hb : Pl.bytesOk xs = true) (q0 : 0 ≤ q) (q1 : q ≤ 65535) :
    Calls Tryz.prog 100 #[.pointer (some ⟨bk, 0, none⟩), iv q] w fun e w' => e = .returned (.tuple #[iv (Pl.wdP xs q), .bool (Pl.wdOk q)]) ∧ Kept 0 0 w w' := by
  have HB := hide hB
  have HX := hide lx
  have HBY := hide hb
  have hpc := Pl.peek_code q0
  cases h3 : decide (q % 2 = 1)
  · cases h4 : (Pl.kind q == 1)
    · have h2 : Pl.wdOk q = true := by unfold Pl.wdOk; rw [hpc, h3, h4]; rfl
      have hl := Pl.wd_low q0 h2
      obtain ⟨i, rfl⟩ : ∃ i : Nat, q = (i : Int) := ⟨q.toNat, by omega⟩
      have E : Hid (Pl.rd xs (2 : Nat) i = Pl.wdAt xs (i : Int)) := hide (by unfold Pl.wdAt; rw [Int.toNat_natCast]; rfl)
      have HI : Hid (i + 2 ≤ 512) := hide (by omega)
      have HW : Hid (Pl.wdOk (i : Int) = true) := hide h2
      have HZ : Hid ((Tryz.prog.info? 71).map (·.size) = some (cellsOf xs).size) := hide (by rw [cellsOf_size, lx]; kernel_rfl)
      clear hB lx hb hpc h2
      go_enter Tryz.func100, Tryz.ntmps100
      go_wp2_with (first | (refine wpList_load_row rfl 71 (.tmp 14) rfl bk rfl 71 (cellsOf xs) (0, 0) _ HB.out Tryz.underlying71 rfl HZ.out ?_) | (go_at_call 74; refine st (isOdd _ _ q0 q1) ?_; rw [h3]) | (go_at_call 130; refine st (partOf _ _) ?_) | (go_at_call 131; refine (memRead _ xs 2 i HX.out HBY.out (by decide) (by decide) HI.out).mono ?_; rintro e w3 ⟨rfl, k3⟩; have K3 := hide k3; clear k3))
      go_ret2
      exact ⟨rIB (by unfold Pl.wdP; rw [HW.out, if_pos rfl]; exact E.out) HW.out.symm, K3.out⟩
    · have h2 : Pl.wdOk q = false := by unfold Pl.wdOk; rw [hpc, h3, h4]; rfl
      go_enter Tryz.func100, Tryz.ntmps100
      go_wp2_with (first | (go_at_call 74; refine st (isOdd _ _ q0 q1) ?_; rw [h3]) | (go_at_call 130; refine st (partOf _ _) ?_))
      go_ret2
      exact ⟨rIB (by unfold Pl.wdP; rw [h2]; rfl) h2.symm, Kept.refl _ _ _⟩
  · have h2 : Pl.wdOk q = false := by unfold Pl.wdOk; rw [hpc, h3]; rfl
    go_enter Tryz.func100, Tryz.ntmps100
    go_wp2_with (first | (go_at_call 74; refine st (isOdd _ _ q0 q1) ?_; rw [h3]))
    go_ret2
    exact ⟨rIB (by unfold Pl.wdP; rw [h2]; rfl) h2.symm, Kept.refl _ _ _⟩
end Go.Proofs.YtflnodadeajmcaaGreat

namespace Go.Proofs.YtflnodadeajmcaaGreat
open Go.RowKit
set_option linter.unusedVariables false
theorem specWord (n : Int) (w : World) : Calls Tryz.prog 140 #[iv n] w fun e w' => e = .returned (.bool (Pl.wordOk n)) ∧ w' = w := by
  go_enter Tryz.func140, Tryz.ntmps140
  go_wp2_with (go_at_call 41; refine (l1In _ _ _ _).mono ?_; rintro e w' ⟨rfl, hw⟩; have hw2 := hw.symm; clear hw; subst hw2)
  go_ret
  exact ⟨rfl, rfl⟩
theorem specExtM (n : Int) (w : World) : Calls Tryz.prog 119 #[iv n] w fun e w' => e = .returned (.bool (Pl.extM n)) ∧ w' = w := by
  go_enter Tryz.func119, Tryz.ntmps119
  go_wp2
  go_ret
  exact ⟨rfl, rfl⟩
set_option maxHeartbeats 4000000 in
theorem specGoodOperand (w : World) (m k e : Int) :
    Calls Tryz.prog 114 #[.agg #[iv m, iv k, iv e]] w fun r w' => r = .returned (.bool (Pl.opOk m k e)) ∧ Kept 0 0 w w' := by
  have HK := hide (kept_alloc w (.cells #[iv m, iv k, iv e] 122))
  have G : Hid (Pl.opOk m k e = (Pl.modeOk m && (Pl.within k 0 3 && ((decide (m < 6) || (k == 0)) && (Pl.wordOk e && (Pl.extM m || (e == 0))))))) := hide rfl
  cases h1 : Pl.modeOk m
  · go_enter Tryz.func114, Tryz.ntmps114
    go_wp2_with (first | (go_at_call 41; refine (l1In _ _ _ _).mono ?_; rintro e w' ⟨rfl, hw⟩; have hw2 := hw.symm; clear hw; subst hw2; rw [show (decide (0 ≤ m) && decide (m ≤ 7)) = Pl.modeOk m from rfl, h1]; have Z1 : True := trivial))
    go_ret
    exact ⟨rB (by rw [G.out, h1]; simp), HK.out⟩
  · cases h2 : Pl.within k 0 3
    · go_enter Tryz.func114, Tryz.ntmps114
      go_wp2_with (first | (go_at_call 41; have z := Z1; refine (l1In _ _ _ _).mono ?_; rintro e w' ⟨rfl, hw⟩; have hw2 := hw.symm; clear hw; subst hw2; rw [show (decide (0 ≤ k) && decide (k ≤ 3)) = Pl.within k 0 3 from rfl, h2]) | (go_at_call 41; refine (l1In _ _ _ _).mono ?_; rintro e w' ⟨rfl, hw⟩; have hw2 := hw.symm; clear hw; subst hw2; rw [show (decide (0 ≤ m) && decide (m ≤ 7)) = Pl.modeOk m from rfl, h1]; have Z1 : True := trivial))
      go_ret
      exact ⟨rB (by rw [G.out, h1, h2]; simp), HK.out⟩
    · cases h3 : decide (6 ≤ m)
      · have q3 : decide (m < 6) = true := by simp at h3 ⊢; omega
        cases h4 : Pl.wordOk e
        · go_enter Tryz.func114, Tryz.ntmps114
          go_wp2_with (first | (go_at_call 41; have z := Z1; refine (l1In _ _ _ _).mono ?_; rintro e w' ⟨rfl, hw⟩; have hw2 := hw.symm; clear hw; subst hw2; rw [show (decide (0 ≤ k) && decide (k ≤ 3)) = Pl.within k 0 3 from rfl, h2]) | (go_at_call 41; refine (l1In _ _ _ _).mono ?_; rintro e w' ⟨rfl, hw⟩; have hw2 := hw.symm; clear hw; subst hw2; rw [show (decide (0 ≤ m) && decide (m ≤ 7)) = Pl.modeOk m from rfl, h1]; have Z1 : True := trivial) | (go_at_call 140; refine (specWord _ _).mono ?_; rintro e w' ⟨rfl, hw⟩; have hw2 := hw.symm; clear hw; subst hw2; rw [h4]))
          go_ret
          exact ⟨rB (by rw [G.out, h1, h2, q3, h4]; simp), HK.out⟩
        · cases h5 : Pl.extM m
          · cases h6 : (e == 0)
            all_goals
              go_enter Tryz.func114, Tryz.ntmps114
              go_wp2_with (first | (go_at_call 41; have z := Z1; refine (l1In _ _ _ _).mono ?_; rintro e w' ⟨rfl, hw⟩; have hw2 := hw.symm; clear hw; subst hw2; rw [show (decide (0 ≤ k) && decide (k ≤ 3)) = Pl.within k 0 3 from rfl, h2]) | (go_at_call 41; refine (l1In _ _ _ _).mono ?_; rintro e w' ⟨rfl, hw⟩; have hw2 := hw.symm; clear hw; subst hw2; rw [show (decide (0 ≤ m) && decide (m ≤ 7)) = Pl.modeOk m from rfl, h1]; have Z1 : True := trivial) | (go_at_call 140; refine (specWord _ _).mono ?_; rintro e w' ⟨rfl, hw⟩; have hw2 := hw.symm; clear hw; subst hw2; rw [h4]) | (go_at_call 119; refine (specExtM _ _).mono ?_; rintro e w' ⟨rfl, hw⟩; have hw2 := hw.symm; clear hw; subst hw2; rw [h5]))
              go_ret
              exact ⟨rB (by rw [G.out, h1, h2, q3, h4, h5, h6]; simp), HK.out⟩
          · go_enter Tryz.func114, Tryz.ntmps114
            go_wp2_with (first | (go_at_call 41; have z := Z1; refine (l1In _ _ _ _).mono ?_; rintro e w' ⟨rfl, hw⟩; have hw2 := hw.symm; clear hw; subst hw2; rw [show (decide (0 ≤ k) && decide (k ≤ 3)) = Pl.within k 0 3 from rfl, h2]) | (go_at_call 41; refine (l1In _ _ _ _).mono ?_; rintro e w' ⟨rfl, hw⟩; have hw2 := hw.symm; clear hw; subst hw2; rw [show (decide (0 ≤ m) && decide (m ≤ 7)) = Pl.modeOk m from rfl, h1]; have Z1 : True := trivial) | (go_at_call 140; refine (specWord _ _).mono ?_; rintro e w' ⟨rfl, hw⟩; have hw2 := hw.symm; clear hw; subst hw2; rw [h4]) | (go_at_call 119; refine (specExtM _ _).mono ?_; rintro e w' ⟨rfl, hw⟩; have hw2 := hw.symm; clear hw; subst hw2; rw [h5]))
            go_ret
            exact ⟨rB (by rw [G.out, h1, h2, q3, h4, h5]; simp), HK.out⟩
      · have q3 : decide (m < 6) = false := by simp at h3 ⊢; omega
        cases h7 : (k != 0)
        · have q7 : (k == 0) = true := by simpa using h7
          cases h4 : Pl.wordOk e
          · go_enter Tryz.func114, Tryz.ntmps114
            go_wp2_with (first | (go_at_call 41; have z := Z1; refine (l1In _ _ _ _).mono ?_; rintro e w' ⟨rfl, hw⟩; have hw2 := hw.symm; clear hw; subst hw2; rw [show (decide (0 ≤ k) && decide (k ≤ 3)) = Pl.within k 0 3 from rfl, h2]) | (go_at_call 41; refine (l1In _ _ _ _).mono ?_; rintro e w' ⟨rfl, hw⟩; have hw2 := hw.symm; clear hw; subst hw2; rw [show (decide (0 ≤ m) && decide (m ≤ 7)) = Pl.modeOk m from rfl, h1]; have Z1 : True := trivial) | (go_at_call 140; refine (specWord _ _).mono ?_; rintro e w' ⟨rfl, hw⟩; have hw2 := hw.symm; clear hw; subst hw2; rw [h4]))
            go_ret
            exact ⟨rB (by rw [G.out, h1, h2, q3, q7, h4]; simp), HK.out⟩
          · cases h5 : Pl.extM m
            · cases h6 : (e == 0)
              all_goals
                go_enter Tryz.func114, Tryz.ntmps114
                go_wp2_with (first | (go_at_call 41; have z := Z1; refine (l1In _ _ _ _).mono ?_; rintro e w' ⟨rfl, hw⟩; have hw2 := hw.symm; clear hw; subst hw2; rw [show (decide (0 ≤ k) && decide (k ≤ 3)) = Pl.within k 0 3 from rfl, h2]) | (go_at_call 41; refine (l1In _ _ _ _).mono ?_; rintro e w' ⟨rfl, hw⟩; have hw2 := hw.symm; clear hw; subst hw2; rw [show (decide (0 ≤ m) && decide (m ≤ 7)) = Pl.modeOk m from rfl, h1]; have Z1 : True := trivial) | (go_at_call 140; refine (specWord _ _).mono ?_; rintro e w' ⟨rfl, hw⟩; have hw2 := hw.symm; clear hw; subst hw2; rw [h4]) | (go_at_call 119; refine (specExtM _ _).mono ?_; rintro e w' ⟨rfl, hw⟩; have hw2 := hw.symm; clear hw; subst hw2; rw [h5]))
                go_ret
                exact ⟨rB (by rw [G.out, h1, h2, q3, q7, h4, h5, h6]; simp), HK.out⟩
            · go_enter Tryz.func114, Tryz.ntmps114
              go_wp2_with (first | (go_at_call 41; have z := Z1; refine (l1In _ _ _ _).mono ?_; rintro e w' ⟨rfl, hw⟩; have hw2 := hw.symm; clear hw; subst hw2; rw [show (decide (0 ≤ k) && decide (k ≤ 3)) = Pl.within k 0 3 from rfl, h2]) | (go_at_call 41; refine (l1In _ _ _ _).mono ?_; rintro e w' ⟨rfl, hw⟩; have hw2 := hw.symm; clear hw; subst hw2; rw [show (decide (0 ≤ m) && decide (m ≤ 7)) = Pl.modeOk m from rfl, h1]; have Z1 : True := trivial) | (go_at_call 140; refine (specWord _ _).mono ?_; rintro e w' ⟨rfl, hw⟩; have hw2 := hw.symm; clear hw; subst hw2; rw [h4]) | (go_at_call 119; refine (specExtM _ _).mono ?_; rintro e w' ⟨rfl, hw⟩; have hw2 := hw.symm; clear hw; subst hw2; rw [h5]))
              go_ret
              exact ⟨rB (by rw [G.out, h1, h2, q3, q7, h4, h5]; simp), HK.out⟩
        · have q7 : (k == 0) = false := by simpa using h7
          go_enter Tryz.func114, Tryz.ntmps114
          go_wp2_with (first | (go_at_call 41; have z := Z1; refine (l1In _ _ _ _).mono ?_; rintro e w' ⟨rfl, hw⟩; have hw2 := hw.symm; clear hw; subst hw2; rw [show (decide (0 ≤ k) && decide (k ≤ 3)) = Pl.within k 0 3 from rfl, h2]) | (go_at_call 41; refine (l1In _ _ _ _).mono ?_; rintro e w' ⟨rfl, hw⟩; have hw2 := hw.symm; clear hw; subst hw2; rw [show (decide (0 ≤ m) && decide (m ≤ 7)) = Pl.modeOk m from rfl, h1]; have Z1 : True := trivial))
          go_ret
          exact ⟨rB (by rw [G.out, h1, h2, q3, q7]; simp), HK.out⟩
end Go.Proofs.YtflnodadeajmcaaGreat

namespace Go.Proofs.YtflnodadeajmcaaGreat
open Go.RowKit
set_option linter.unusedVariables false
theorem specMem (m : Int) (w : World) : Calls Tryz.prog 115 #[iv m] w fun e w' => e = .returned (.bool (Pl.memM m)) ∧ w' = w := by
  go_enter Tryz.func115, Tryz.ntmps115
  go_wp2_with (go_at_call 41; refine (l1In _ _ _ _).mono ?_; rintro e w' ⟨rfl, hw⟩; have hw2 := hw.symm; clear hw; subst hw2)
  go_ret
  exact ⟨rfl, rfl⟩
theorem specPlain (m : Int) (w : World) : Calls Tryz.prog 116 #[iv m] w fun e w' => e = .returned (.bool (Pl.plainM m)) ∧ w' = w := by
  cases h1 : (m == 2) <;> cases h2 : (m == 5) <;> cases h3 : (m == 6)
  all_goals
    go_enter Tryz.func116, Tryz.ntmps116
    go_wp2
    go_ret
    exact ⟨rB (by simp only [Pl.plainM, h1, h2, h3]; rfl), rfl⟩
theorem specZero (m k e : Int) (w : World) : Calls Tryz.prog 118 #[.agg #[iv m, iv k, iv e]] w fun r w' => r = .returned (.bool (Pl.zeroO m k e)) ∧ Kept 0 0 w w' := by
  have K0 := hide (kept_alloc w (.cells #[iv m, iv k, iv e] 122))
  cases h1 : (m == 0) <;> cases h2 : (k == 0) <;> cases h3 : (e == 0)
  all_goals
    go_enter Tryz.func118, Tryz.ntmps118
    go_wp2
    go_ret
    exact ⟨rB (by simp only [Pl.zeroO, h1, h2, h3]; rfl), K0.out⟩
theorem specNow (m k e : Int) (w : World) : Calls Tryz.prog 117 #[.agg #[iv m, iv k, iv e]] w fun r w' => r = .returned (.bool (Pl.nowO m e)) ∧ Kept 0 0 w w' := by
  have K0 := hide (kept_alloc w (.cells #[iv m, iv k, iv e] 122))
  cases h1 : (m == 7) <;> cases h2 : decide (e ≤ 1023)
  all_goals
    go_enter Tryz.func117, Tryz.ntmps117
    go_wp2
    go_ret
    exact ⟨rB (by simp only [Pl.nowO, h1, h2]; rfl), K0.out⟩
theorem opsAll (op : Int) : op = 1 ∨ op = 2 ∨ op = 3 ∨ op = 4 ∨ op = 5 ∨ op = 6 ∨ op = 7 ∨ op = 8 ∨ op = 9 ∨ op = 10 ∨ op = 11 ∨ op = 12 ∨ op = 13 ∨ op = 14 ∨ op = 15 ∨ op = 16 ∨ op = 17 ∨ op = 18 ∨ op = 19 ∨ (¬ op = 1 ∧ ¬ op = 2 ∧ ¬ op = 3 ∧ ¬ op = 4 ∧ ¬ op = 5 ∧ ¬ op = 6 ∧ ¬ op = 7 ∧ ¬ op = 8 ∧ ¬ op = 9 ∧ ¬ op = 10 ∧ ¬ op = 11 ∧ ¬ op = 12 ∧ ¬ op = 13 ∧ ¬ op = 14 ∧ ¬ op = 15 ∧ ¬ op = 16 ∧ ¬ op = 17 ∧ ¬ op = 18 ∧ ¬ op = 19) := by omega
end Go.Proofs.YtflnodadeajmcaaGreat

namespace Go.Proofs.YtflnodadeajmcaaGreat
open Go.RowKit
set_option linter.unusedVariables false
set_option linter.unusedSimpArgs false
set_option maxRecDepth 100000 in
set_option maxHeartbeats 16000000 in
theorem goodInsA1 (w : World) (op r m k e s : Int) (h2 : Pl.within r 0 3 = true) (h3 : Pl.opOk m k e = true) (h4 : Pl.within s 0 7 = true) (h6 : (m == 7) = false) :
    Calls Tryz.prog 87 #[.agg (inA op 1 r m k e s)] w fun r' w' => r' = .returned (.bool (Pl.inOk ⟨op, 1, r, m, k, e, s⟩)) ∧ Kept 0 0 w w' := by
  have K0 := hide (kept_alloc w (.cells (inA op 1 r m k e s) 124))
  have B0 := hide (Blk.new w (inA op 1 r m k e s) 124)
  have G : Hid (Pl.inOk ⟨op, 1, r, m, k, e, s⟩ = Pl.inKind ⟨op, 1, r, m, k, e, s⟩) := hide (by simp only [Pl.inOk, Pl.inBase, Pl.byteNow, h2, h3, h4, h6]; rfl)
  have hN : Pl.nowO m e = false := by simp only [Pl.nowO, h6]; rfl
  go_enter Tryz.func87, Tryz.ntmps87
  go_upto_region 5 with (first | (go_at_call 41; have z9 := B2; refine (l1In _ _ _ _).mono ?_; rintro e9 w' ⟨rfl, hw⟩; have hw2 := hw.symm; clear hw; subst hw2; rw [show (decide (0 ≤ s) && decide (s ≤ 7)) = Pl.within s 0 7 from rfl, h4]) | (go_at_call 112; refine (l1Size1 _).mono ?_; rintro e9 w' ⟨rfl, hw⟩; have hw2 := hw.symm; clear hw; subst hw2) | (go_at_call 41; refine (l1In _ _ _ _).mono ?_; rintro e9 w' ⟨rfl, hw⟩; have hw2 := hw.symm; clear hw; subst hw2; rw [show (decide (0 ≤ r) && decide (r ≤ 3)) = Pl.within r 0 3 from rfl, h2]) | (go_at_call 114; refine (specGoodOperand _ m k e).mono ?_; rintro e9 w2 ⟨rfl, k2⟩; rw [h3]; have B2 := hide (B0.out.kept0 k2); have K2 := hide (K0.out.trans k2); have c0 := B2.out.cell (i := 0) rfl; have c1 := B2.out.cell (i := 1) rfl; have c2 := B2.out.cell (i := 2) rfl; have c3 := B2.out.cell (i := 3) rfl; have c4 := B2.out.cell (i := 4) rfl; have c5 := B2.out.cell (i := 5) rfl; have c6 := B2.out.cell (i := 6) rfl; clear k2))
  rcases opsAll op with rfl | rfl | rfl | rfl | rfl | rfl | rfl | rfl | rfl | rfl | rfl | rfl | rfl | rfl | rfl | rfl | rfl | rfl | rfl | hno
  · have KND : Hid (Pl.inKind ⟨1, 1, r, m, k, e, s⟩ = ((s == 0) && (((1 : Int) == 2) || !(m == 1)))) := hide rfl
    cases a1 : (s == 0)
    all_goals
      go_wp2_with fail
      go_ret
      exact ⟨rB (by rw [G.out, KND.out] <;> first | rfl | (simp only [a1, hN, h6]; done) | (simp only [a1, hN, h6]; rfl) | simp [a1, hN, h6]), by first | exact K4.out | exact K3.out | exact K2.out⟩
  · have KND : Hid (Pl.inKind ⟨2, 1, r, m, k, e, s⟩ = ((s == 0) && ((m == 0) || Pl.memM m))) := hide rfl
    cases a1 : (s == 0) <;> cases b1 : (m == 0)
    all_goals
      go_wp2_with (first | (go_at_call 115; refine (specMem _ _).mono ?_; rintro e9 w' ⟨rfl, hw⟩; have hw2 := hw.symm; clear hw; subst hw2))
      go_ret
      exact ⟨rB (by rw [G.out, KND.out] <;> first | rfl | (simp only [a1, b1, hN, h6]; done) | (simp only [a1, b1, hN, h6]; rfl) | simp [a1, b1, hN, h6]), by first | exact K4.out | exact K3.out | exact K2.out⟩
  · have KND : Hid (Pl.inKind ⟨3, 1, r, m, k, e, s⟩ = ((s == 0) && (((1 : Int) == 2) || !(m == 1)))) := hide rfl
    cases a1 : (s == 0)
    all_goals
      go_wp2_with fail
      go_ret
      exact ⟨rB (by rw [G.out, KND.out] <;> first | rfl | (simp only [a1, hN, h6]; done) | (simp only [a1, hN, h6]; rfl) | simp [a1, hN, h6]), by first | exact K4.out | exact K3.out | exact K2.out⟩
  · have KND : Hid (Pl.inKind ⟨4, 1, r, m, k, e, s⟩ = ((s == 0) && (((1 : Int) == 2) || !(m == 1)))) := hide rfl
    cases a1 : (s == 0)
    all_goals
      go_wp2_with fail
      go_ret
      exact ⟨rB (by rw [G.out, KND.out] <;> first | rfl | (simp only [a1, hN, h6]; done) | (simp only [a1, hN, h6]; rfl) | simp [a1, hN, h6]), by first | exact K4.out | exact K3.out | exact K2.out⟩
  · have KND : Hid (Pl.inKind ⟨5, 1, r, m, k, e, s⟩ = ((s == 0) && (((1 : Int) == 2) || !(m == 1)))) := hide rfl
    cases a1 : (s == 0)
    all_goals
      go_wp2_with fail
      go_ret
      exact ⟨rB (by rw [G.out, KND.out] <;> first | rfl | (simp only [a1, hN, h6]; done) | (simp only [a1, hN, h6]; rfl) | simp [a1, hN, h6]), by first | exact K4.out | exact K3.out | exact K2.out⟩
  · have KND : Hid (Pl.inKind ⟨6, 1, r, m, k, e, s⟩ = ((s == 0) && (((1 : Int) == 2) || !(m == 1)))) := hide rfl
    cases a1 : (s == 0)
    all_goals
      go_wp2_with fail
      go_ret
      exact ⟨rB (by rw [G.out, KND.out] <;> first | rfl | (simp only [a1, hN, h6]; done) | (simp only [a1, hN, h6]; rfl) | simp [a1, hN, h6]), by first | exact K4.out | exact K3.out | exact K2.out⟩
  · have KND : Hid (Pl.inKind ⟨7, 1, r, m, k, e, s⟩ = ((s == 0) && (((1 : Int) == 2) || !(m == 1)))) := hide rfl
    cases a1 : (s == 0)
    all_goals
      go_wp2_with fail
      go_ret
      exact ⟨rB (by rw [G.out, KND.out] <;> first | rfl | (simp only [a1, hN, h6]; done) | (simp only [a1, hN, h6]; rfl) | simp [a1, hN, h6]), by first | exact K4.out | exact K3.out | exact K2.out⟩
  · have KND : Hid (Pl.inKind ⟨8, 1, r, m, k, e, s⟩ = ((s == 0) && (((1 : Int) == 2) || !(m == 1)))) := hide rfl
    cases a1 : (s == 0)
    all_goals
      go_wp2_with fail
      go_ret
      exact ⟨rB (by rw [G.out, KND.out] <;> first | rfl | (simp only [a1, hN, h6]; done) | (simp only [a1, hN, h6]; rfl) | simp [a1, hN, h6]), by first | exact K4.out | exact K3.out | exact K2.out⟩
  · have KND : Hid (Pl.inKind ⟨9, 1, r, m, k, e, s⟩ = (((1 : Int) == 2) && (s == 0))) := hide rfl
    go_wp2_with fail
    go_ret
    exact ⟨rB (by rw [G.out, KND.out] <;> first | rfl | (simp only [hN, h6]; done) | (simp only [hN, h6]; rfl) | simp [hN, h6]), by first | exact K4.out | exact K3.out | exact K2.out⟩
  · have KND : Hid (Pl.inKind ⟨10, 1, r, m, k, e, s⟩ = ((((1 : Int) == 2) && (s == 0)) && Pl.plainM m)) := hide rfl
    go_wp2_with (first | (go_at_call 116; refine (specPlain _ _).mono ?_; rintro e9 w' ⟨rfl, hw⟩; have hw2 := hw.symm; clear hw; subst hw2))
    go_ret
    exact ⟨rB (by rw [G.out, KND.out] <;> first | rfl | (simp only [hN, h6]; done) | (simp only [hN, h6]; rfl) | simp [hN, h6]), by first | exact K4.out | exact K3.out | exact K2.out⟩
  · have KND : Hid (Pl.inKind ⟨11, 1, r, m, k, e, s⟩ = (((r == 0) && decide (s ≤ 3)) && ((m == 0) || Pl.memM m))) := hide rfl
    cases a1 : (r == 0) <;> cases a2 : decide (s ≤ 3) <;> cases b1 : (m == 0)
    all_goals
      go_wp2_with (first | (go_at_call 115; refine (specMem _ _).mono ?_; rintro e9 w' ⟨rfl, hw⟩; have hw2 := hw.symm; clear hw; subst hw2))
      go_ret
      exact ⟨rB (by rw [G.out, KND.out] <;> first | rfl | (simp only [a1, a2, b1, hN, h6]; done) | (simp only [a1, a2, b1, hN, h6]; rfl) | simp [a1, a2, b1, hN, h6]), by first | exact K4.out | exact K3.out | exact K2.out⟩
  · have KND : Hid (Pl.inKind ⟨12, 1, r, m, k, e, s⟩ = ((m == 0))) := hide rfl
    go_wp2_with fail
    go_ret
    exact ⟨rB (by rw [G.out, KND.out] <;> first | rfl | (simp only [hN, h6]; done) | (simp only [hN, h6]; rfl) | simp [hN, h6]), by first | exact K4.out | exact K3.out | exact K2.out⟩
  · have KND : Hid (Pl.inKind ⟨13, 1, r, m, k, e, s⟩ = ((((1 : Int) == 2) && decide (r ≤ 1)) && (m == 7))) := hide rfl
    go_wp2_with fail
    go_ret
    exact ⟨rB (by rw [G.out, KND.out] <;> first | rfl | (simp only [hN, h6]; done) | (simp only [hN, h6]; rfl) | simp [hN, h6]), by first | exact K4.out | exact K3.out | exact K2.out⟩
  · have KND : Hid (Pl.inKind ⟨14, 1, r, m, k, e, s⟩ = (((((1 : Int) == 2) && (r == 0)) && decide (s ≤ 1)) && Pl.plainM m)) := hide rfl
    go_wp2_with (first | (go_at_call 116; refine (specPlain _ _).mono ?_; rintro e9 w' ⟨rfl, hw⟩; have hw2 := hw.symm; clear hw; subst hw2))
    go_ret
    exact ⟨rB (by rw [G.out, KND.out] <;> first | rfl | (simp only [hN, h6]; done) | (simp only [hN, h6]; rfl) | simp [hN, h6]), by first | exact K4.out | exact K3.out | exact K2.out⟩
  · have KND : Hid (Pl.inKind ⟨15, 1, r, m, k, e, s⟩ = (bif s == 3 then (((1 : Int) == 2) && (r == 0)) && Pl.nowO m e else ((((1 : Int) == 2) && decide (s ≤ 6)) && Pl.zeroO m k e) && (decide (3 < s) || (r == 0)))) := hide rfl
    cases a0 : (s == 3)
    all_goals
      go_wp2_with (first | (go_at_call 117; refine (specNow m k e _).mono ?_; rintro e9 w3 ⟨rfl, k3⟩; rw [hN]; have B3 := hide (B2.out.kept0 k3); have K3 := hide (K2.out.trans k3); have d0 := B3.out.cell (i := 0) rfl; have d1 := B3.out.cell (i := 1) rfl; have d2 := B3.out.cell (i := 2) rfl; have d3 := B3.out.cell (i := 3) rfl; have d4 := B3.out.cell (i := 4) rfl; have d5 := B3.out.cell (i := 5) rfl; have d6 := B3.out.cell (i := 6) rfl; clear k3) | (go_at_call 118; have z9 := B3; refine (specZero m k e _).mono ?_; rintro e9 w4 ⟨rfl, k4⟩; rw [a3]; have B4 := hide (B3.out.kept0 k4); have K4 := hide (K3.out.trans k4); have f0 := B4.out.cell (i := 0) rfl; have f1 := B4.out.cell (i := 1) rfl; have f2 := B4.out.cell (i := 2) rfl; have f3 := B4.out.cell (i := 3) rfl; have f4 := B4.out.cell (i := 4) rfl; have f5 := B4.out.cell (i := 5) rfl; have f6 := B4.out.cell (i := 6) rfl; clear k4) | (go_at_call 118; refine (specZero m k e _).mono ?_; rintro e9 w4 ⟨rfl, k4⟩; rw [a3]; have B4 := hide (B2.out.kept0 k4); have K4 := hide (K2.out.trans k4); have f0 := B4.out.cell (i := 0) rfl; have f1 := B4.out.cell (i := 1) rfl; have f2 := B4.out.cell (i := 2) rfl; have f3 := B4.out.cell (i := 3) rfl; have f4 := B4.out.cell (i := 4) rfl; have f5 := B4.out.cell (i := 5) rfl; have f6 := B4.out.cell (i := 6) rfl; clear k4))
      go_ret
      exact ⟨rB (by rw [G.out, KND.out] <;> first | rfl | (simp only [a0, hN, h6]; done) | (simp only [a0, hN, h6]; rfl) | simp [a0, hN, h6]), by first | exact K4.out | exact K3.out | exact K2.out⟩
  · have KND : Hid (Pl.inKind ⟨16, 1, r, m, k, e, s⟩ = ((((1 : Int) == 2) && (s == 0)) && !(m == 1))) := hide rfl
    go_wp2_with fail
    go_ret
    exact ⟨rB (by rw [G.out, KND.out] <;> first | rfl | (simp only [hN, h6]; done) | (simp only [hN, h6]; rfl) | simp [hN, h6]), by first | exact K4.out | exact K3.out | exact K2.out⟩
  · have KND : Hid (Pl.inKind ⟨17, 1, r, m, k, e, s⟩ = ((((1 : Int) == 2) && (s == 0)) && !(m == 1))) := hide rfl
    go_wp2_with fail
    go_ret
    exact ⟨rB (by rw [G.out, KND.out] <;> first | rfl | (simp only [hN, h6]; done) | (simp only [hN, h6]; rfl) | simp [hN, h6]), by first | exact K4.out | exact K3.out | exact K2.out⟩
  · have KND : Hid (Pl.inKind ⟨18, 1, r, m, k, e, s⟩ = (((!((1 : Int) == 2)) && decide (s ≤ 1)) && (m == 0))) := hide rfl
    cases a1 : decide (s ≤ 1)
    all_goals
      go_wp2_with fail
      go_ret
      exact ⟨rB (by rw [G.out, KND.out] <;> first | rfl | (simp only [a1, hN, h6]; done) | (simp only [a1, hN, h6]; rfl) | simp [a1, hN, h6]), by first | exact K4.out | exact K3.out | exact K2.out⟩
  · have KND : Hid (Pl.inKind ⟨19, 1, r, m, k, e, s⟩ = (((1 : Int) == 2) && ((((s == 0) && (r == 0)) && Pl.nowO m e) || ((s == 1) && Pl.zeroO m k e)))) := hide rfl
    go_wp2_with (first | (go_at_call 117; refine (specNow m k e _).mono ?_; rintro e9 w3 ⟨rfl, k3⟩; rw [hN]; have B3 := hide (B2.out.kept0 k3); have K3 := hide (K2.out.trans k3); have d0 := B3.out.cell (i := 0) rfl; have d1 := B3.out.cell (i := 1) rfl; have d2 := B3.out.cell (i := 2) rfl; have d3 := B3.out.cell (i := 3) rfl; have d4 := B3.out.cell (i := 4) rfl; have d5 := B3.out.cell (i := 5) rfl; have d6 := B3.out.cell (i := 6) rfl; clear k3) | (go_at_call 118; have z9 := B3; refine (specZero m k e _).mono ?_; rintro e9 w4 ⟨rfl, k4⟩; have B4 := hide (B3.out.kept0 k4); have K4 := hide (K3.out.trans k4); have f0 := B4.out.cell (i := 0) rfl; have f1 := B4.out.cell (i := 1) rfl; have f2 := B4.out.cell (i := 2) rfl; have f3 := B4.out.cell (i := 3) rfl; have f4 := B4.out.cell (i := 4) rfl; have f5 := B4.out.cell (i := 5) rfl; have f6 := B4.out.cell (i := 6) rfl; clear k4) | (go_at_call 118; refine (specZero m k e _).mono ?_; rintro e9 w4 ⟨rfl, k4⟩; have B4 := hide (B2.out.kept0 k4); have K4 := hide (K2.out.trans k4); have f0 := B4.out.cell (i := 0) rfl; have f1 := B4.out.cell (i := 1) rfl; have f2 := B4.out.cell (i := 2) rfl; have f3 := B4.out.cell (i := 3) rfl; have f4 := B4.out.cell (i := 4) rfl; have f5 := B4.out.cell (i := 5) rfl; have f6 := B4.out.cell (i := 6) rfl; clear k4))
    go_ret
    exact ⟨rB (by rw [G.out, KND.out] <;> first | rfl | (simp only [hN, h6]; done) | (simp only [hN, h6]; rfl) | simp [hN, h6]), by first | exact K4.out | exact K3.out | exact K2.out⟩
  · obtain ⟨q1, q2, q3, q4, q5, q6, q7, q8, q9, q10, q11, q12, q13, q14, q15, q16, q17, q18, q19⟩ := hno
    have KND : Hid (Pl.inKind ⟨op, 1, r, m, k, e, s⟩ = false) := hide (by simp [Pl.inKind, q1, q2, q3, q4, q5, q6, q7, q8, q9, q10, q11, q12, q13, q14, q15, q16, q17, q18, q19])
    go_wp2_with fail
    go_ret
    exact ⟨rB (by rw [G.out, KND.out]), K2.out⟩
end Go.Proofs.YtflnodadeajmcaaGreat

