/- A range over a function of which no round leaves early: a form of contract for the iterator (Gives), and one law for the caller (wp_range). An iterator may keep state of its own in new blocks. -/
import Derived.RangeFuncNested
import Derived.RangeFuncBound
import Derived.RangeFuncCalls
import Derived.RangeFuncLeaves
import Derived.Shelf.Abstract
import Derived.Shelf.RegionOpen
import Derived.WalkKit
import Derived.OwnWalkIn
import Derived.TacticsInMore
import Derived.LoopNIn
import Derived.LoopIn
import Derived.Test.YtjgcadighogmkaaFrame
namespace Go.Proofs.Ytjgcadighogmkaa
open Go.RowKit Go.Shelf
set_option linter.unusedVariables false
set_option linter.unusedSimpArgs false
/-- what a round keeps for its iterator: the blocks from B on that were there, and block c -/
structure Keep (B c : Nat) (W W' : World) : Prop where
  size : W.heap.size ≤ W'.heap.size
  block : ∀ k, k < W.heap.size → (B ≤ k ∨ k = c) → W'.heap[k]? = W.heap[k]?
theorem Keep.refl (B c : Nat) (W : World) : Keep B c W W := ⟨Nat.le_refl _, fun _ _ _ => rfl⟩
theorem Keep.trans {B c : Nat} {X Y Z : World} (h : Keep B c X Y) (k : Keep B c Y Z) : Keep B c X Z :=
  ⟨Nat.le_trans h.size k.size, fun i hi q => (k.block i (Nat.lt_of_lt_of_le hi h.size) q).trans (h.block i hi q)⟩
theorem Keep.mono {B B' c : Nat} {X Y : World} (h : Keep B c X Y) (hB : B ≤ B') : Keep B' c X Y := ⟨h.size, fun k hk q => h.block k hk (by omega)⟩
theorem Keep.sub {B B' c c' : Nat} {X Y : World} (h : Keep B c X Y) (hB : B ≤ B') (hc : B ≤ c') : Keep B' c' X Y := ⟨h.size, fun k hk q => h.block k hk (by omega)⟩
theorem Keep.drew {B c : Nat} {X Y : World} (h : Keep B c X Y) : Keep B c X Y.drew := ⟨h.size, h.block⟩
theorem Keep.setCell {B c : Nat} {X Y : World} (h : Keep B c X Y) {p : Addr} (h1 : p.block < B) (h2 : p.block ≠ c) (u : Value) : Keep B c X (Y.setCell p u) :=
  h.trans ⟨by simp [World.setCell], fun k hk q => Below.heap_setCell _ _ _ _ (by omega)⟩
theorem Keep.alloc {B c : Nat} {X Y : World} (h : Keep B c X Y) (o : Obj) : Keep B c X (Y.alloc o) :=
  h.trans ⟨by simp, fun k hk q => Below.heap_alloc _ _ _ hk⟩
theorem Keep.at {B c k : Nat} {X Y : World} {o : Obj} (h : Keep B c X Y) (hk : X.heap[k]? = some o) (q : B ≤ k ∨ k = c) : Y.heap[k]? = some o :=
  (h.block k (Array.getElem?_eq_some_iff.1 hk).1 q).trans hk
theorem Keep.grown {B c : Nat} {X Y : World} {row : Option Nat} (h : X.grownBy Y row) (hr : ∀ j, row = some j → j < B ∧ j ≠ c) : Keep B c X Y :=
  ⟨h.size, fun k hk q => h.block k hk (fun e => by have := hr k e.symm; omega)⟩
theorem below_put {B l : Nat} {W : World} (h : B ≤ l) (o : Obj) : Below B W (W.putObj l o) :=
  ⟨rfl, rfl, rfl, by simp, fun k hk => World.putObj_heap_other (by omega)⟩
theorem keep_put {B c l : Nat} {W : World} (h1 : l < B) (h2 : l ≠ c) (o : Obj) : Keep B c W (W.putObj l o) :=
  ⟨by simp, fun k hk q => World.putObj_heap_other (by omega)⟩
theorem room_wide (n : Nat) : Fence.wide.room n := fun d h => by simp [Fence.wide] at h
theorem round_any {m m' : Nat} {P : Program} {l : Nat} {f : FuncId} {tmps : Array Value} {assign body : Code} {w : World} {R : Ending → World → Prop}
    (h : RoundIn Fence.wide m P l f tmps assign body w R) : RoundIn Fence.wide m' P l f tmps assign body w R := ⟨h.1, fun c cs _ => h.2 c cs (room_wide _)⟩
theorem yield_any {m : Nat} (m' : Nat) {P : Program} {l : Nat} {args : Array Value} {W : World} {R : Ending → World → Prop} (h : YieldAt Fence.wide m P l args W R) : YieldAt Fence.wide m' P l args W R := by
  obtain ⟨fn, tmps, assign, body, hy, hR⟩ := h
  exact ⟨fn, tmps, assign, body, hy, round_any hR⟩
/-- the iterator g over lb gives N rounds, the k-th at enc k; block c, which it reads, holds o -/
def Gives (P : Program) (g : Nat) (lb : Array Value) (c : Nat) (o : Obj) (enc : Nat → Array Value) (N : Nat) : Prop :=
  ∀ (l : Nat) (J : Nat → World → Prop) (W : World), W.heap[c]? = some o → (∀ k W1 W2, J k W1 → Below W.heap.size W1 W2 → J k W2) →
    (∀ k W1, k < N → J k W1 → W.heap.size ≤ W1.heap.size → YieldAt Fence.wide 3 P l (enc k) W1 fun e W' => e = .returned (.bool true) ∧ J (k + 1) W' ∧ Keep W.heap.size c W1 W') →
    J 0 W → Calls P g (#[.func (.yield l) #[] #[]] ++ lb) W fun e W' => (∃ v, e = .returned v) ∧ J N W'
/-- how a round's body is left -/
def rngPost (B c : Nat) (J : World → Prop) (W : World) : Exit → Act → World → Prop
  | .normal, _, W' => J W' ∧ Keep B c W W'
  | .ret, _, _ => False
  | .exit _, _, _ => False
  | .goto _, _, _ => False
  | .panic _, _, _ => False
  | .outgrown, _, _ => False
theorem wp_range {P : Program} {g : Operand} {ps : Array Tmp} {assign body : Code} {Q : Exit → Act → World → Prop} {a : Act} {w : World} {n : Nat} {gf : Nat} {lb : Array Value} {c : Nat} {o : Obj} {enc : Nat → Array Value} {N : Nat}
    (hseq : Gives P gf lb c o enc N) (hg : a.eval g = .func (.func gf) #[] lb) (eg : ∀ args w, (callFunc gf args).run P w = .ok (.enter gf args) w) (hc : w.heap[c]? = some o) (hps : ∀ k, (enc k).size = ps.size)
    (I : Nat → World → Prop) (hI : ∀ k W1 W2, I k W1 → Below w.heap.size W1 W2 → I k W2) (h0 : I 0 w) (a₁ : Nat → Act)
    (hassign : ∀ (l k : Nat) (W : World) (K : Act → World → Prop), K (a₁ k) W →
      assign.wpIn (Fence.wide.inRound l) 3 P (Exit.then K (fun _ _ _ => False)) { tmps := (ps.zip (enc k)).foldl (fun t (p, v) => t.setIfInBounds p v) a.tmps, defers := [] } W)
    (hbody : ∀ (l k : Nat) (W : World), k < N → I k W → w.heap.size ≤ W.heap.size → body.wpIn (Fence.wide.inRound l) 3 P (rngPost w.heap.size c (I (k + 1)) W) (a₁ k) W)
    (hdone : ∀ W : World, I N W → W.heap[w.heap.size]? = some (.deferred (some [])) → Q .normal { a with defers := { target := .collected w.heap.size, args := #[] } :: a.defers } W) :
    (Code.rangeFunc g ps assign body).wpIn Fence.wide n P Q a w := by
  refine wpIn_rangeFunc ?_
  intro fn hfn
  have hclt : c < w.heap.size := (Array.getElem?_eq_some_iff.1 hc).1
  obtain ⟨rec, hrec⟩ : ∃ rec : LoopState → Option Code → Loop, rec = fun st pe => { state := st, pending := pe, fn, tmps := a.tmps, params := ps, assign, body, defers := w.heap.size } := ⟨_, rfl⟩
  obtain ⟨W1, hW1⟩ : ∃ W1, (w.alloc (.deferred (some []))).alloc (.loop (rec .ready none)) = W1 := ⟨_, rfl⟩
  have hs1 : W1.heap.size = w.heap.size + 2 := by rw [← hW1]; simp
  have hL1 : W1.heap[w.heap.size + 1]? = some (.loop (rec .ready none)) := by
    rw [← hW1]; have := World.alloc_heap_new (w.alloc (.deferred (some []))) (.loop (rec .ready none)); rwa [World.size_alloc] at this
  have hK1 : W1.heap[w.heap.size]? = some (.deferred (some [])) := by
    rw [← hW1]; exact (Below.heap_alloc _ _ _ (by simp)).trans (World.alloc_heap_new w _)
  have hb1 : Below w.heap.size w W1 := by
    rw [← hW1]; exact ((Below.refl _ w).alloc (Nat.le_refl _) _).alloc (by simp) _
  have hI1 : I 0 W1 := hI 0 w W1 h0 hb1
  refine ⟨w.heap.size + 1, [{ target := .collected w.heap.size, args := #[] }], W1, { target := .fn (.func gf) lb, args := #[.func (.yield (w.heap.size + 1)) #[] #[]] }, W1, gf,
    #[.func (.yield (w.heap.size + 1)) #[] #[]] ++ lb, W1, ?_, ?_, ?_, ?_, fun h => by simp [Fence.wide] at h, ?_⟩
  · rw [← hW1, hrec]; exact run_enterLoop_outer _ _ _ _ _
  · simp only [resolve, hg]
    simp [go_sem]
  · intro f' hf'; trivial
  · simp [invoke, go_sem, eg]
  · refine callsIn_wide.2 ((hseq (w.heap.size + 1)
      (fun k W => I k W ∧ W.heap[w.heap.size + 1]? = some (.loop (rec .ready none)) ∧ W.heap[w.heap.size]? = some (.deferred (some [])))
      W1 ((hb1.block c hclt).trans hc)
      (fun k X Y hs hb => ⟨hI k X Y hs.1 (hb.mono (by omega)), (hb.block _ (by omega)).trans hs.2.1, (hb.block _ (by omega)).trans hs.2.2⟩) ?_ ⟨hI1, hL1, hK1⟩).mono ?_)
    · rintro k W hk ⟨hi, hl, hd⟩ hsz
      have hlt : w.heap.size + 1 < W.heap.size := (Array.getElem?_eq_some_iff.1 hl).1
      have hy := run_yield (P := P) (args := enc k) hl (by rw [hrec]; exact hps k)
      rw [hrec] at hy
      refine ⟨fn, _, assign, body, hy, roundIn_of_wpIn hfn (hassign _ k W _ ⟨_, run_beginRound hl (by rw [hrec]), ?_⟩)⟩
      have hl2 : (W.putObj (w.heap.size + 1) (.loop { rec .ready none with state := .busy })).heap[w.heap.size + 1]? = some (.loop { rec .ready none with state := .busy }) := World.putObj_heap_same hlt
      have hd2 : (W.putObj (w.heap.size + 1) (.loop { rec .ready none with state := .busy })).heap[w.heap.size]? = some (.deferred (some [])) := (World.putObj_heap_other (by omega)).trans hd
      have hi2 := hI k _ _ hi (below_put (l := w.heap.size + 1) (W := W) (by omega) (.loop { rec .ready none with state := .busy }))
      have hk2 := keep_put (B := w.heap.size + 2) (c := c) (l := w.heap.size + 1) (W := W) (by omega) (by omega) (.loop { rec .ready none with state := .busy })
      refine wpIn_mono (hbody _ k _ hk hi2 (by simp; omega)) ?_
      rintro e a3 W3 hp
      cases e with
      | normal =>
        obtain ⟨hi3, hk3⟩ := hp
        have hl3 := hk3.at hl2 (.inl (by omega))
        have hd3 := hk3.at hd2 (.inl (by omega))
        have hr := run_endRound (P := P) none hl3
        rw [hrec] at hr hl3
        refine ⟨_, _, hr, rfl, ⟨hI _ _ _ hi3 (below_put (by omega) _), ?_, (World.putObj_heap_other (by omega)).trans hd3⟩, ?_⟩
        · rw [hrec]; exact World.putObj_heap_same (Array.getElem?_eq_some_iff.1 hl3).1
        · rw [hs1]
          exact (hk2.trans (hk3.mono (by omega))).trans (keep_put (by omega) (by omega) _)
      | ret => exact hp.elim
      | exit id => exact hp.elim
      | goto t => exact hp.elim
      | panic ch => exact hp.elim
      | outgrown => exact hp.elim
    · rintro e W2 ⟨⟨v, rfl⟩, hi, hl, hd⟩
      refine ⟨none, _, by have := run_endLoop (P := P) hl (by rw [hrec]; simp); rw [hrec] at this; exact this, hdone _ (hI _ _ _ hi (below_put (by omega) _)) ((World.putObj_heap_other (by omega)).trans hd)⟩
/-- a box -/
theorem boxed_below {W W' : World} {B b : Nat} {t : TypeId} {v : Value} (h : Boxed W b t v) (k : Below B W W') (hb : b < B) : Boxed W' b t v := (k.block b hb).trans h
theorem boxed_keep {W W' : World} {B c b : Nat} {t : TypeId} {v : Value} (h : Boxed W b t v) (k : Keep B c W W') (hb : B ≤ b ∨ b = c) : Boxed W' b t v := k.at h hb
end Go.Proofs.Ytjgcadighogmkaa
