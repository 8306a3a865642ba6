/- The program's processor that is worked on, as it lies in memory: one block (fourteen cells of registers, the bytes, the log, two more), and the log's own. What the program's functions over the bytes of a bus as one array answer. What the program's functions of an access answer: its code; a value laid into the bytes. What the program's functions over a board answer: a bus opened onto it and shut again. What the laws' own functions over Regs do (a struct of numbers, flags and two lists): its size, copy, comparison, marks. What the laws' own functions over Cpu and Fault do: size, comparison, marks. A processor opened to be worked on, and shut again. Whether the program's processor that is worked on goes on. -/
import Derived.Test.YtbppfbkkphhjnaaGreatCN11
import Derived.Laws.CopyOwn
import Derived.Deep.WholeRow
import Derived.Deep.RegionLawGrows
import Derived.Maps.AppendAt
import Derived.Laws.AppendOwnNone
import Derived.Deep.RegionHeld3
import Derived.Deep.MidRow
import Derived.Test.YtbppfbkkphhjnaaGreatCN1
import Derived.Test.YtbppfbkkphhjnaaGreatCN9
import Derived.Deep.AppendLies
import Derived.Test.YtbppfbkkphhjnaaGreatCN5
import Derived.Deep.QuietTactic
import Derived.BigQuiet
import Derived.Deep.DeepCutAuto
namespace Go.Proofs.YtbppfbkkphhjnaaGreat
open Go.RowKit
set_option linter.unusedVariables false
/-- what lies in the block behind a core, and the block's type -/
structure Tl where
  c : Array Value
  y : TypeId
structure Hl where
  a : Bool
  t : Tl
abbrev tl0 : Tl := ⟨#[], 121⟩
def cor (r : Pl.Rg) (xs : List Int) (u : Value) (st : Bool) (ha : Hl) : Array Value := bkR r ++ (cellsOf xs ++ (#[u, .bool st, .bool ha.a] ++ ha.t.c))
section
variable {r : Pl.Rg} {xs : List Int} {u : Value} {st : Bool} {ha : Hl}
theorem cor_size {x : Bool} (hl : xs.length = 512) : (cor r xs u st ⟨x, tl0⟩).size = 529 := by
  have : (bkR r).size = 14 := rfl
  simp [cor, this, cellsOf_size, hl]
theorem cor_lo {i : Nat} (h : i < 14) : (cor r xs u st ha)[i]? = (bkR r)[i]? := Array.getElem?_append_left h
theorem cor_hi (i : Nat) : (cor r xs u st ha)[14 + i]? = (cellsOf xs ++ (#[u, .bool st, .bool ha.a] ++ ha.t.c))[i]? := by
  have := Array.getElem?_append_right (xs := bkR r) (ys := cellsOf xs ++ (#[u, .bool st, .bool ha.a] ++ ha.t.c)) (i := 14 + i) (Nat.le_add_right 14 i)
  rw [show 14 + i - (bkR r).size = i from Nat.add_sub_cancel_left 14 i] at this
  exact this
theorem cor_at {i : Nat} (hi : i < xs.length) : (cor r xs u st ha)[14 + i]? = some (iv (el xs i)) := by
  rw [cor_hi, Array.getElem?_append_left (by rw [cellsOf_size]; exact hi)]
  simp [cellsOf, el, hi]
theorem cor_up (hl : xs.length = 512) (i : Nat) : (cor r xs u st ha)[14 + (512 + i)]? = ((#[u, .bool st, .bool ha.a] ++ ha.t.c : Array Value))[i]? := by
  rw [cor_hi, Array.getElem?_append_right (by rw [cellsOf_size, hl]; omega), cellsOf_size, hl, Nat.add_sub_cancel_left]
theorem cor_log (hl : xs.length = 512) : (cor r xs u st ha)[526]? = some u := (cor_up hl 0).trans (Array.getElem?_append_left (by simp))
theorem cor_st (hl : xs.length = 512) : (cor r xs u st ha)[527]? = some (.bool st) := (cor_up hl 1).trans (Array.getElem?_append_left (by simp))
theorem cor_ha (hl : xs.length = 512) : (cor r xs u st ha)[528]? = some (.bool ha.a) := (cor_up hl 2).trans (Array.getElem?_append_left (by simp))
end
/-- the block -/
def CBk (w : World) (b g cu : Nat) (c : Pl.Mc) (h : Hl) : Prop := Blk w b (cor c.r c.bx (.slice (some ⟨g, 0, none⟩) c.bm cu) c.st h) h.t.y
/-- the log -/
structure CLg (w : World) (lo b g cu : Nat) (bl : List Int) (bm : Nat) : Prop where
  l : w.ownsRow lo 97 5 (.slice (some ⟨g, 0, none⟩) bm cu) bm (bl.map (Value.int .i64))
  lo' : lo ≤ b
  ne : b ≠ g
def CAt (w : World) (lo b g : Nat) (c : Pl.Mc) (h : Hl) : Prop := ∃ cu : Nat, CBk w b g cu c h ∧ CLg w lo b g cu c.bl c.bm
section
variable {w w' : World} {lo b g cu : Nat} {c : Pl.Mc} {h : Hl} {bl : List Int} {bm : Nat}
theorem CLg.any (o : CLg w lo b g cu bl bm) (k : Kept 0 0 w w') : CLg w' lo b g cu bl bm := ⟨ownsRow_keptS o.l k (by omega), o.lo', o.ne⟩
theorem CAt.any (a : CAt w lo b g c h) (k : Kept 0 0 w w') : CAt w' lo b g c h := by
  obtain ⟨cu, hB, hO⟩ := a
  exact ⟨cu, Blk.kept0 hB k, hO.any k⟩
theorem CAt.cR (a : CAt w lo b g c h) {i : Nat} {v : Value} (hi : i < 14) (e : (bkR c.r)[i]? = some v) : w.cell? ⟨b, i, none⟩ = some v := by
  obtain ⟨cu, hB, hO⟩ := a
  exact Blk.cell hB ((cor_lo hi).trans e)
theorem CAt.cP (a : CAt w lo b g c h) : w.cell? ⟨b, 9, none⟩ = some (iv c.r.p) := a.cR (by omega) rfl
theorem CAt.cT (a : CAt w lo b g c h) : w.cell? ⟨b, 13, none⟩ = some (.bool c.r.t) := a.cR (by omega) rfl
theorem CAt.cSt (a : CAt w lo b g c h) (l : c.bx.length = 512) : w.cell? ⟨b, 527, none⟩ = some (.bool c.st) := by
  obtain ⟨cu, hB, hO⟩ := a
  exact Blk.cell hB (cor_st l)
theorem CAt.cH (a : CAt w lo b g c h) (l : c.bx.length = 512) : w.cell? ⟨b, 528, none⟩ = some (.bool h.a) := by
  obtain ⟨cu, hB, hO⟩ := a
  exact Blk.cell hB (cor_ha l)
end
end Go.Proofs.YtbppfbkkphhjnaaGreat

namespace Go.Proofs.YtbppfbkkphhjnaaGreat
open Go.RowKit
set_option linter.unusedVariables false

def zeros : List Int := List.replicate 512 0
theorem zeros_len : zeros.length = 512 := List.length_replicate ..
theorem Tryz.infoMem : (Tryz.prog.info? 84).map (fun i => (i.zero, i.size)) = some (some (.agg (cellsOf zeros)), 512) := by kernel_rfl
theorem Tryz.memZero : ∀ w, (zeroValue 84).run Tryz.prog w = .ok (.agg (cellsOf zeros)) w := (zero_of_info Tryz.infoMem).1
theorem Tryz.memSize : (Tryz.prog.info? 84).map (·.size) = some 512 := (zero_of_info Tryz.infoMem).2
set_option maxHeartbeats 4000000 in
theorem memoryOf (w : World) (a b : Option Addr) (ca cb m : Nat) (xs : List Int) (ha : IRow w a xs) (lx : xs.length = 512) :
    Calls Tryz.prog 51 #[.agg #[.slice a xs.length ca, .slice b m cb]] w fun e w' => e = .returned (.agg (cellsOf xs)) ∧ Kept 0 0 w w' := by
  obtain ⟨ga, oa, rfl, _⟩ := ha 0 (by omega)
  have HA := hide ha
  have HX := hide lx
  clear ha lx
  have mz := Tryz.memZero
  have HS : Hid ((Tryz.prog.info? 3).map (·.size) = some 1) := hide (by kernel_rfl)
  go_enter Tryz.func51, Tryz.ntmps51
  go_wp2_with fail
  have K := hide (kept_new (kept_new (kept_alloc w (.cells #[.slice (some ⟨ga, oa, none⟩) xs.length ca, .slice b m cb] 34)) (.cells (cellsOf zeros) 84)) (.cells (cellsOf zeros) 84))
  have B0 := (((Blk.new w #[.slice (some ⟨ga, oa, none⟩) xs.length ca, .slice b m cb] 34).alloc (.cells (cellsOf zeros) 84)).alloc (.cells (cellsOf zeros) 84))
  have B1 := ((Blk.new (w.alloc (.cells #[.slice (some ⟨ga, oa, none⟩) xs.length ca, .slice b m cb] 34)) (cellsOf zeros) 84).alloc (.cells (cellsOf zeros) 84))
  have B2 := Blk.new ((w.alloc (.cells #[.slice (some ⟨ga, oa, none⟩) xs.length ca, .slice b m cb] 34)).alloc (.cells (cellsOf zeros) 84)) (cellsOf zeros) 84
  simp only [World.size_alloc] at B1 B2
  obtain ⟨W, hW⟩ : ∃ W : World, W = (((w.alloc (.cells #[.slice (some ⟨ga, oa, none⟩) xs.length ca, .slice b m cb] 34)).alloc (.cells (cellsOf zeros) 84)).alloc (.cells (cellsOf zeros) 84)) := ⟨_, rfl⟩
  rw [← hW] at K B0 B1 B2 ⊢
  clear hW
  have p0 := B0.cell (i := 0) rfl
  have H1 := hide B1
  have H2 := hide B2
  clear B0 B1 B2
  have HZ : Hid ((Tryz.prog.info? 84).map (·.size) = some (cellsOf xs).size) := hide (by rw [cellsOf_size, HX.out]; exact Tryz.memSize)
  have HZ2 : Hid ((cellsOf zeros).size = (cellsOf xs).size) := hide (by rw [cellsOf_size, cellsOf_size, HX.out, zeros_len])
  have HN : Hid ((xs.map (Value.int .i64)).length = Nat.min xs.length 512) := hide (by rw [HX.out]; simp [HX.out])
  have HF : Hid (0 + (xs.map (Value.int .i64)).length ≤ (zeros.map (Value.int .i64)).length) := hide (by simp [HX.out, zeros_len])
  go_region_law (refine step_copy_splice rfl (.tmp 4) (.tmp 6) 22 22 rfl 3 Tryz.underlying22 HS.out _ _ _ _ _ _ rfl rfl (w.heap.size + 1 + 1) 0 (zeros.map (Value.int .i64)) 84 ?hg (xs.map (Value.int .i64)) HN.out ?hpos HF.out news_one (w.heap.size + 1 + 1) W ?hb (Nat.le_refl _) ?_
                 (case hg => exact H2.out)
                 (case hb => exact (Below.refl _ W).drew)
                 (case hpos => intro _; exact ⟨rfl, _, rfl, news_of (HA.out.keptS (kept_drew K.out))⟩)
                 intro w4 hg4 hb4)
  all_goals
    have D2 : Hid (Blk w4 (w.heap.size + 1 + 1) (cellsOf xs) 84) := hide (by
      have h := hg4.out
      rw [splice_all (by simp [HX.out, zeros_len])] at h
      exact h)
    have D1 : Hid (Blk w4 (w.heap.size + 1) (cellsOf zeros) 84) := hide ((hb4.block _ (by omega)).trans H1.out)
    have K4 : Hid (Kept 0 0 w w4) := hide (kept_lower K.out hb4 (by omega))
    clear hg4 hb4
    go_wp2_with (first | (refine wpList_load_row rfl 84 (.tmp 3) rfl (w.heap.size + 1 + 1) rfl 84 (cellsOf xs) (0, 0) _ D2.out Tryz.underlying84 rfl HZ.out ?_) | (refine wpList_store_row rfl 84 (.tmp 2) (.tmp 8) rfl (w.heap.size + 1) (cellsOf xs) rfl rfl 84 (cellsOf zeros) D1.out HZ.out HZ2.out (cellsOf_one xs) ?_))
    refine bodyPost_ret (v := .agg (cellsOf xs)) ?_ rfl ⟨rfl, kept_setRow K4.out _ _ (by omega)⟩
    exact results_cell_row rfl _ _ _ _ _ (0, 0) _ rfl D1.out.setRow Tryz.underlying84 rfl HZ.out

end Go.Proofs.YtbppfbkkphhjnaaGreat

namespace Go.Proofs.YtbppfbkkphhjnaaGreat
open Go.RowKit
set_option linter.unusedVariables false

/-- a board's cells: 512 bytes and the log -/
def brd (xs : List Int) (u : Value) : Array Value := (cellsOf xs).push u
theorem brd_at {xs : List Int} {u : Value} {i : Nat} (hi : i < xs.length) : (brd xs u)[i]? = some (iv (el xs i)) := by
  simp [brd, cellsOf, el, hi]
  rw [List.getElem?_append_left (by simpa using hi)]
  simp [hi]
theorem brd_log {xs : List Int} {u : Value} (hl : xs.length = 512) : (brd xs u)[512]? = some u := by
  simp [brd, cellsOf, hl]
end Go.Proofs.YtbppfbkkphhjnaaGreat

namespace Go.Proofs.YtbppfbkkphhjnaaGreat
open Go.RowKit
set_option linter.unusedVariables false

theorem fold_set (off : Nat) : ∀ (l : List Value) (k : Nat) (A : Array Value) (i : Nat), off + k + l.length ≤ A.size →
    ((l.zipIdx k).foldl (fun a (x : Value × Nat) => a.setIfInBounds (off + x.2) x.1) A)[i]? = if off + k ≤ i ∧ i < off + k + l.length then l[i - (off + k)]? else A[i]?
  | [], k, A, i, h => by
    simp only [List.zipIdx_nil, List.foldl_nil, List.length_nil]
    rw [if_neg (by omega)]
  | v :: r, k, A, i, h => by
    simp only [List.length_cons] at h
    simp only [List.zipIdx_cons, List.foldl_cons, List.length_cons]
    rw [fold_set off r (k + 1) _ i (by simp; omega)]
    by_cases h1 : off + (k + 1) ≤ i ∧ i < off + (k + 1) + r.length
    · rw [if_pos h1, if_pos (by omega), show i - (off + k) = (i - (off + (k + 1))) + 1 by omega, List.getElem?_cons_succ]
    · rw [if_neg h1, Array.getElem?_setIfInBounds]
      by_cases h2 : off + k = i
      · rw [if_pos h2, if_pos (by omega), if_pos (by omega), show i - (off + k) = 0 by omega]; rfl
      · rw [if_neg h2, if_neg (by omega)]
theorem Tryz.infoBoard : (Tryz.prog.info? 119).map (fun i => (i.zero, i.size)) = some (some (.agg (brd zeros (.slice none 0 0))), 513) := by kernel_rfl
theorem Tryz.boardZero : ∀ w, (zeroValue 119).run Tryz.prog w = .ok (.agg (brd zeros (.slice none 0 0))) w := (zero_of_info Tryz.infoBoard).1
theorem Tryz.boardSize : (Tryz.prog.info? 119).map (·.size) = some 513 := (zero_of_info Tryz.infoBoard).2
theorem brd_size (xs : List Int) (u : Value) : (brd xs u).size = xs.length + 1 := by simp [brd, cellsOf]
theorem fold_size (off : Nat) : ∀ (l : List (Value × Nat)) (A : Array Value), (l.foldl (fun a (x : Value × Nat) => a.setIfInBounds (off + x.2) x.1) A).size = A.size
  | [], A => rfl
  | v :: r, A => by rw [List.foldl_cons, fold_size off r]; simp
/-- what 'fill' lays, of a part that fits -/
def laid (off : Nat) (cs A : Array Value) : Array Value := cs.zipIdx.foldl (fun a (x : Value × Nat) => a.setIfInBounds (off + x.2) x.1) A
theorem laid_size (off : Nat) (cs A : Array Value) : (laid off cs A).size = A.size := by
  unfold laid
  rw [← Array.foldl_toList]
  exact fold_size off _ A
theorem laid_at (off : Nat) (cs A : Array Value) (h : off + cs.size ≤ A.size) (i : Nat) : (laid off cs A)[i]? = if off ≤ i ∧ i < off + cs.size then cs[i - off]? else A[i]? := by
  unfold laid
  rw [← Array.foldl_toList, Array.toList_zipIdx]
  have := fold_set off cs.toList 0 A i (by simpa using h)
  simpa using this
theorem fill_two (cs A : Array Value) (u : Value) (hu : u.cells = #[u]) (hc : cs.size = 512) (hA : A.size = 513) :
    Instr.fill (#[(0, 512), (512, 1)][·]?) A [(0, .agg cs), (1, u)] = some (laid 512 #[u] (laid 0 cs A)) := by
  have h1 : ((laid 0 cs A)).size = 513 := by rw [laid_size, hA]
  have e1 : cs.zipIdx.foldl (fun a (x : Value × Nat) => a.setIfInBounds (0 + x.2) x.1) A = laid 0 cs A := rfl
  unfold Instr.fill
  simp only [Value.cells, List.getElem?_toArray, List.getElem?_cons_zero]
  rw [if_neg (by simp [hc, hA])]
  rw [e1]
  unfold Instr.fill
  simp only [hu, List.getElem?_cons_succ, List.getElem?_cons_zero]
  rw [if_neg (by simp [h1])]
  unfold Instr.fill
  rfl
theorem brd_one (xs : List Int) (u : Value) (h : u.oneCell' = true) : (brd xs u).all (·.oneCell') = true := by
  rw [Array.all_eq_true_iff_forall_mem]
  intro v hv
  simp only [brd, Array.mem_push] at hv
  rcases hv with hv | rfl
  · exact Array.all_eq_true_iff_forall_mem.1 (cellsOf_one xs) v hv
  · exact h
theorem build_two {P : Program} {ops : Array Oper} {rest : List Oper} {o : Oper} {a : Act} {w : World} {Q : Exit → Act → World → Prop} (hg : o.guard = none) (t : TypeId) (x y : Operand) (ho : o.op = .build t #[(0, x), (1, y)])
    (v u : Value) (hx : a.eval x = v) (hy : a.eval y = u) (cells : Array Value) (hf : P.built t [(0, v), (1, u)] = some cells)
    (h : wpList P ops Q rest (a.put o.dst (.agg cells)) w) : wpList P ops Q (o :: rest) a w := by
  have e : P.built t (#[(0, x), (1, y)].map fun (p : Nat × Operand) => (p.1, a.eval p.2)).toList = some cells := by
    simp [hx, hy, hf]
  refine wpList_build hg t #[(0, x), (1, y)] ho (by rw [e]; rfl) ?_
  rw [e]
  exact h
theorem boardBuilt (xs : List Int) (b : Option Addr) (n c : Nat) (lx : xs.length = 512) :
    Tryz.prog.built 119 [(0, .agg (cellsOf xs)), (1, .slice b n c)] = some (brd xs (.slice b n c)) := by
  have hp : (match Tryz.prog.underlying 119 with | some (.struct fields) => fields.toList.mapM (fun f => (Tryz.prog.info? f.type).map fun i => (f.offset, i.size)) | _ => none) = some [(0, 512), (512, 1)] := by kernel_rfl
  have e : Tryz.prog.built 119 [(0, .agg (cellsOf xs)), (1, .slice b n c)] = Instr.fill (#[(0, 512), (512, 1)][·]?) (brd zeros (.slice none 0 0)) [(0, .agg (cellsOf xs)), (1, .slice b n c)] := by
    have hi := Tryz.infoBoard
    unfold Program.built
    cases h1 : Tryz.prog.info? 119 with
    | none => rw [h1] at hi; cases hi
    | some it =>
      rw [h1] at hi
      have hz : it.zero = some (.agg (brd zeros (.slice none 0 0))) := congrArg (fun o => (o.map Prod.fst).getD none) hi
      cases h2 : Tryz.prog.underlying 119 with
      | none => rw [h2] at hp; cases hp
      | some d =>
        rw [h2] at hp
        cases d
        case struct fields =>
          have hp' : fields.toList.mapM (fun f => (Tryz.prog.info? f.type).map fun i => (f.offset, i.size)) = some [(0, 512), (512, 1)] := hp
          simp only [hz, hp']
          rfl
        all_goals cases hp
  rw [e, fill_two (cellsOf xs) (brd zeros (.slice none 0 0)) (.slice b n c) rfl (by rw [cellsOf_size, lx]) (by rw [brd_size, zeros_len])]
  refine congrArg some ?_
  apply Array.ext_getElem?
  intro i
  rw [laid_at 512 #[.slice b n c] _ (by rw [laid_size, brd_size, zeros_len]; simp), laid_at 0 _ _ (by rw [brd_size, zeros_len, cellsOf_size, lx]; decide), cellsOf_size, lx]
  simp only [brd, Array.getElem?_push, cellsOf_size, lx]
  by_cases h : i < 512
  · rw [if_neg (by simp; omega), if_pos (by omega), if_neg (by omega)]
    rfl
  · by_cases h2 : i = 512
    · subst h2
      rfl
    · have h3 : ¬ i < 513 := by omega
      rw [if_neg (by simp; omega), if_neg (by omega)]
      simp only [zeros_len]
      rw [if_neg h2, if_neg h2]
      rw [Array.getElem?_eq_none (by rw [cellsOf_size, zeros_len]; omega), Array.getElem?_eq_none (by rw [cellsOf_size, lx]; omega)]

/-- a row of accesses copied into a block as long -/
theorem copy5_at (W : World) (g m sCap : Nat) (sp : Option Addr) (ys : List Int) (cur : List Value) (t : TypeId) (hB : Blk W g cur.toArray t) (hr : IRow W sp ys) (hl : ys.length = 5 * m) (hc : cur.length = 5 * m) :
    ∃ W', (Builtin.copy_ #[32, 32] 3 #[.slice (some ⟨g, 0, none⟩) m m, .slice sp m sCap]).run Tryz.prog W = .ok (iv m) W' ∧ Blk W' g (cellsOf ys) t ∧ Kept g (g + 1) W W' := by
  obtain ⟨i, hi, hz0, hz1, hz2⟩ := info_parts Tryz.infoAcc
  have hmin : Nat.min m m = m := Nat.min_self m
  by_cases h0 : m = 0
  · subst h0
    obtain rfl : ys = [] := List.eq_nil_of_length_eq_zero (by omega)
    obtain rfl : cur = [] := List.eq_nil_of_length_eq_zero (by omega)
    refine ⟨W, ?_, hB, Kept.refl _ _ _⟩
    have hl0 : ∀ (x : Addr), (loadCells x 0).run Tryz.prog W = .ok #[] W := fun x => by simpa using run_loadCells_list (P := Tryz.prog) W x [] (by simp)
    cases sp <;> simp [Builtin.copy_, run_underlying Tryz.underlying32, Builtin.lenOf, Builtin.firstCells, sizeOf, typeInfo, hi, storeCells, hl0] <;> rfl
  · obtain ⟨ga, oa, rfl, _⟩ := hr 0 (by omega)
    have hld := run_loadCells_list (P := Tryz.prog) W ⟨ga, oa, none⟩ (ys.map (Value.int .i64)) (news_of hr)
    have hst := run_storeCells_at Tryz.prog g 0 t (ys.map (Value.int .i64)) 0 cur.toArray W hB (by simp [hl, hc]) news_one
    have e5 : (ys.map (Value.int .i64)).length = m * 5 := by rw [List.length_map, hl]; omega
    rw [e5] at hld
    have e : (List.take (0 + 0) cur.toArray.toList ++ ys.map (Value.int .i64) ++ List.drop (0 + 0 + (ys.map (Value.int .i64)).length) cur.toArray.toList) = ys.map (Value.int .i64) := by
      rw [List.drop_eq_nil_of_le (by simp [hl, hc])]; simp
    rw [e] at hst
    refine ⟨W.setRow g (cellsOf ys), ?_, hB.setRow, ⟨rfl, rfl, rfl, by simp, fun k hk hn => setRow_other W g k _ (by omega)⟩⟩
    simp [Builtin.copy_, run_underlying Tryz.underlying32, Builtin.lenOf, Builtin.firstCells, sizeOf, typeInfo, hi, hz1, hmin, hld]
    have hst' : (storeCells ⟨g, 0, none⟩ (ys.map (Value.int .i64))).run Tryz.prog W = .ok () (W.setRow g (cellsOf ys)) := hst
    rw [hst']
    rfl
theorem own5_of_blk {w : World} {base g m : Nat} {ys : List Int} (h : Blk w g (cellsOf ys) 97) (hl : ys.length = 5 * m) (hb : base ≤ g) (bm : m ≤ 2000000) : w.ownsRow base 97 5 (.slice (some ⟨g, 0, none⟩) m m) m (ys.map (Value.int .i64)) := by
  refine ⟨by simp [hl]; omega, .inr ⟨g, m, cellsOf ys, rfl, hb, h, Nat.le_refl _, by unfold maxLen; omega, by rw [cellsOf_size, hl]; omega, ?_⟩⟩
  rw [List.take_of_length_le (by simp [cellsOf, hl]; omega)]
  simp [cellsOf]

set_option maxHeartbeats 4000000 in
theorem boardOf (w : World) (a b : Option Addr) (ca cb m : Nat) (xs ys : List Int) (ha : IRow w a xs) (hb : IRow w b ys) (lx : xs.length = 512) (ly : ys.length = 5 * m) (bm : m ≤ 400) :
    Calls Tryz.prog 93 #[.agg #[.slice a xs.length ca, .slice b m cb]] w fun e w' => ∃ g : Nat, e = .returned (.agg (brd xs (.slice (some ⟨g, 0, none⟩) m m))) ∧ Blk w' g (cellsOf ys) 97 ∧ w.heap.size ≤ g ∧ Kept 0 0 w w' := by
  obtain ⟨i, hi, hz0, hz1, hz2⟩ := info_parts Tryz.infoAcc
  have HA := hide ha
  have HB := hide hb
  have HX := hide lx
  have HY := hide ly
  have bz := Tryz.boardZero
  have hbuilt := hide (boardBuilt xs (some ⟨w.heap.size + 1 + 1, 0, none⟩) m m lx)
  have K0 := hide (kept_new (kept_alloc w (.cells #[.slice a xs.length ca, .slice b m cb] 34)) (.cells (brd zeros (.slice none 0 0)) 119))
  have B0 := hide ((Blk.new w #[.slice a xs.length ca, .slice b m cb] 34).alloc (.cells (brd zeros (.slice none 0 0)) 119))
  have B1 := Blk.new (w.alloc (.cells #[.slice a xs.length ca, .slice b m cb] 34)) (brd zeros (.slice none 0 0)) 119
  simp only [World.size_alloc] at B1
  replace B1 := hide B1
  clear ha hb lx ly
  go_enter Tryz.func93, Tryz.ntmps93
  go_wp2_with (at_make; refine wpList_make_full _ rfl _ _ 32 rfl w.heap.size 97 i (.agg #[iv 0, iv 0, iv 0, iv 0, iv 0]) 5 Tryz.underlying32 hi hz0 hz1 _ _ _ _ m rfl rfl rfl rfl ?c1 ?c2 ?c3 ?_)
  case c1 => rw [hz2]; omega
  case c2 => unfold maxLen; omega
  case c3 => simp; omega
  intro w1 hown hg
  have k1 := kept_grown hg
  have C0 := B0.out.kept0 k1
  have C1 := B1.out.kept0 k1
  have K1 := K0.out.trans k1
  obtain ⟨W2, hcopy, E2, k2⟩ := copy5_at w1 (w.heap.size + 1 + 1) m cb b ys _ _ (blk_of_row hown) (HB.out.keptS K1) HY.out (by rw [hown.1]; omega)
  have D0 := hide (C0.kept k2 (by omega))
  have D1 := hide (C1.kept k2 (by omega))
  have K2 := hide (kept_over K1 k2 (by omega))
  have H2 := hide E2
  have HZ : ∀ u, Hid ((Tryz.prog.info? 119).map (·.size) = some (brd xs u).size) := fun u => hide (by rw [brd_size, HX.out]; exact Tryz.boardSize)
  have HZ2 : ∀ u, Hid ((brd zeros (.slice none 0 0)).size = (brd xs u).size) := fun u => hide (by rw [brd_size, brd_size, HX.out, zeros_len])
  have p1 := C0.cell (i := 1) rfl
  have d0 := D0.out.cell (i := 0) rfl
  have d1 := D0.out.cell (i := 1) rfl
  clear hown hg k1 C0 C1 K1 E2 k2
  go_wp2_with (first
    | (go_at_call 51; refine (memoryOf _ a b ca cb m xs (HA.out.keptS K2.out) HX.out).mono ?_; rintro e w3 ⟨rfl, k3⟩; have D3 := hide (D1.out.kept0 k3); have H3 := hide (H2.out.kept0 k3); have K3 := hide (K2.out.trans k3); clear k3)
    | (refine build_two rfl 119 (.tmp 13) (.tmp 14) rfl (.agg (cellsOf xs)) (.slice (some ⟨w.heap.size + 1 + 1, 0, none⟩) m m) rfl rfl (brd xs (.slice (some ⟨w.heap.size + 1 + 1, 0, none⟩) m m)) hbuilt.out ?_)
    | (refine wpList_store_row rfl 119 (.tmp 2) (.tmp 15) rfl (w.heap.size + 1) (brd xs (.slice (some ⟨w.heap.size + 1 + 1, 0, none⟩) m m)) rfl rfl 119 (brd zeros (.slice none 0 0)) D3.out (HZ _).out (HZ2 _).out (brd_one _ _ rfl) ?_))
  refine bodyPost_ret (v := .agg (brd xs (.slice (some ⟨w.heap.size + 1 + 1, 0, none⟩) m m))) ?_ rfl ⟨w.heap.size + 1 + 1, rfl, H3.out.setRowOther (by omega), by omega, kept_setRow K3.out _ _ (by omega)⟩
  exact results_cell_row rfl _ _ _ _ _ (0, 0) _ rfl D3.out.setRow Tryz.underlying119 rfl (HZ _).out

end Go.Proofs.YtbppfbkkphhjnaaGreat

namespace Go.Proofs.YtbppfbkkphhjnaaGreat
open Go.RowKit
set_option linter.unusedVariables false

theorem szRegs (w : World) (o pc fl mk : Int) (su tr : Bool) (a b : Option Addr) (ca cb n m : Nat) (left : Int) (hn : n ≤ 9223372036854775807) (hm : m ≤ 9223372036854775807) (l0 : 0 ≤ left) (l1 : left ≤ 2000000) :
    Calls Tryz.prog 55 #[.agg #[.slice a n ca, .slice b m cb, iv o, iv pc, iv fl, iv mk, .bool su, .bool tr], iv left] w fun e w' => e = .returned (iv (szB n m left)) ∧ Kept 0 0 w w' := by
  by_cases h : left - (n : Int) < 0
  · have E : Hid (szB n m left = -1) := hide (by simp [szB, h])
    have e1 : (if left - (n : Int) < 0 then (-1 : Int) else left - (n : Int)) = -1 := by simp [h]
    go_enter Tryz.func55, Tryz.ntmps55
    go_wp2_with fail
    refine (szIntS _ a ca n left hn l0 l1).mono ?_
    rintro e w' ⟨rfl, rfl⟩
    rw [e1]
    go_wp2_with fail
    go_ret
    exact ⟨rI E.out.symm, kept_alloc _ _⟩
  · have e1 : (if left - (n : Int) < 0 then (-1 : Int) else left - (n : Int)) = left - (n : Int) := by simp [h]
    by_cases h2 : left - (n : Int) - (m : Int) < 0
    · have E : Hid (szB n m left = -1) := hide (by simp [szB, h, h2])
      have e2 : (if left - (n : Int) - (m : Int) < 0 then (-1 : Int) else left - (n : Int) - (m : Int)) = -1 := by simp [h2]
      go_enter Tryz.func55, Tryz.ntmps55
      go_wp2_with fail
      refine (szIntS _ a ca n left hn l0 l1).mono ?_
      rintro e w' ⟨rfl, rfl⟩
      rw [e1]
      go_wp2_with fail
      refine (szIntS _ b cb m (left - (n : Int)) hm (by omega) (by omega)).mono ?_
      rintro e w' ⟨rfl, rfl⟩
      rw [e2]
      go_wp2_with fail
      go_ret
      exact ⟨rI E.out.symm, kept_alloc _ _⟩
    · have E : Hid (szB n m left = left - (n : Int) - (m : Int)) := hide (by simp [szB, h, h2])
      have e2 : (if left - (n : Int) - (m : Int) < 0 then (-1 : Int) else left - (n : Int) - (m : Int)) = left - (n : Int) - (m : Int) := by simp [h2]
      go_enter Tryz.func55, Tryz.ntmps55
      go_wp2_with fail
      refine (szIntS _ a ca n left hn l0 l1).mono ?_
      rintro e w' ⟨rfl, rfl⟩
      rw [e1]
      go_wp2_with fail
      refine (szIntS _ b cb m (left - (n : Int)) hm (by omega) (by omega)).mono ?_
      rintro e w' ⟨rfl, rfl⟩
      rw [e2]
      go_wp2_with fail
      go_ret
      exact ⟨rI E.out.symm, kept_alloc _ _⟩

theorem eqRegs (w : World) (o pc fl mk : Int) (su tr : Bool) (a b c d : Option Addr) (ca cb cc cd : Nat) (xs ys : List Int) (ha : IRow w a xs) (hb : IRow w b ys) (hc : IRow w c xs) (hd : IRow w d ys) (lx : xs.length ≤ 2000000) (ly : ys.length ≤ 2000000) :
    Calls Tryz.prog 62 #[.agg #[.slice a xs.length ca, .slice b ys.length cb, iv o, iv pc, iv fl, iv mk, .bool su, .bool tr], .agg #[.slice c xs.length cc, .slice d ys.length cd, iv o, iv pc, iv fl, iv mk, .bool su, .bool tr]] w fun e w' => e = .returned (.bool true) ∧ Kept 0 0 w w' := by
  have HK0 := hide (kept_new (kept_alloc w (.cells #[.slice a xs.length ca, .slice b ys.length cb, iv o, iv pc, iv fl, iv mk, .bool su, .bool tr] 60)) (.cells #[.slice c xs.length cc, .slice d ys.length cd, iv o, iv pc, iv fl, iv mk, .bool su, .bool tr] 60))
  have HA := hide ha
  have HB := hide hb
  have HC := hide hc
  have HD := hide hd
  have B0 := hide ((Blk.new w #[.slice a xs.length ca, .slice b ys.length cb, iv o, iv pc, iv fl, iv mk, .bool su, .bool tr] 60).alloc (.cells #[.slice c xs.length cc, .slice d ys.length cd, iv o, iv pc, iv fl, iv mk, .bool su, .bool tr] 60))
  have B1 := Blk.new (w.alloc (.cells #[.slice a xs.length ca, .slice b ys.length cb, iv o, iv pc, iv fl, iv mk, .bool su, .bool tr] 60)) #[.slice c xs.length cc, .slice d ys.length cd, iv o, iv pc, iv fl, iv mk, .bool su, .bool tr] 60
  simp only [World.size_alloc] at B1
  replace B1 := hide B1
  clear ha hb hc hd
  go_enter Tryz.func62, Tryz.ntmps62
  go_wp2_with fail
  refine (eqIntS _ a c ca cc xs xs (HA.out.keptS HK0.out) (HC.out.keptS HK0.out) lx lx).mono ?_
  rintro e w1 ⟨rfl, g1⟩
  rw [show decide (xs = xs) = true from by simp]
  have k1 := kept_grown g1
  have C0 := hide (B0.out.kept0 k1)
  have C1 := hide (B1.out.kept0 k1)
  have c1 := C0.out.cell (i := 1) rfl
  have d1 := C1.out.cell (i := 1) rfl
  have HK1 := hide (HK0.out.trans k1)
  clear g1 k1
  go_wp2_with fail
  refine (eqIntS _ b d cb cd ys ys (HB.out.keptS HK1.out) (HD.out.keptS HK1.out) ly ly).mono ?_
  rintro e w2 ⟨rfl, g2⟩
  rw [show decide (ys = ys) = true from by simp]
  have k2 := kept_grown g2
  have q2 := (C0.out.kept0 k2).all
  have r2 := (C1.out.kept0 k2).all
  have HK2 := hide (HK1.out.trans k2)
  clear g2 k2
  go_wp2_with fail
  go_ret
  exact ⟨rfl, HK2.out⟩

set_option maxHeartbeats 8000000 in
theorem toRegs (w : World) (o pc fl mk : Int) (su tr : Bool) (a b : Option Addr) (ca cb : Nat) (xs ys : List Int) (ha : IRow w a xs) (hb : IRow w b ys) (lx : xs.length ≤ 2000000) (ly : ys.length ≤ 2000000) :
    Calls Tryz.prog 58 #[.agg #[.slice a xs.length ca, .slice b ys.length cb, iv o, iv pc, iv fl, iv mk, .bool su, .bool tr]] w fun e' w' => ∃ g1 g2 : Nat, e' = .returned (.agg #[.slice (some ⟨g1, 0, none⟩) xs.length xs.length, .slice (some ⟨g2, 0, none⟩) ys.length ys.length, iv o, iv pc, iv fl, iv mk, .bool su, .bool tr]) ∧ Own w' g1 xs ∧ Own w' g2 ys ∧ w.heap.size ≤ g1 ∧ g1 < g2 ∧ g2 < w'.heap.size ∧ Kept 0 0 w w' := by
  have HA := hide ha
  have HB := hide hb
  clear ha hb
  go_enter Tryz.func58, Tryz.ntmps58
  go_wp2_with fail
  have k0 : Kept 0 0 w (((w.alloc (.cells #[.slice a xs.length ca, .slice b ys.length cb, iv o, iv pc, iv fl, iv mk, .bool su, .bool tr] 55)).alloc (.cells #[.slice none 0 0, .slice none 0 0, iv 0, iv 0, iv 0, iv 0, .bool false, .bool false] 60)).alloc (.cells #[.slice none 0 0, .slice none 0 0, iv 0, iv 0, iv 0, iv 0, .bool false, .bool false] 60)) := kept_new (kept_new (kept_alloc _ _) _) _
  have B0 := ((Blk.new w #[.slice a xs.length ca, .slice b ys.length cb, iv o, iv pc, iv fl, iv mk, .bool su, .bool tr] 55).alloc (.cells #[.slice none 0 0, .slice none 0 0, iv 0, iv 0, iv 0, iv 0, .bool false, .bool false] 60)).alloc (.cells #[.slice none 0 0, .slice none 0 0, iv 0, iv 0, iv 0, iv 0, .bool false, .bool false] 60)
  have B1 := (Blk.new (w.alloc (.cells #[.slice a xs.length ca, .slice b ys.length cb, iv o, iv pc, iv fl, iv mk, .bool su, .bool tr] 55)) #[.slice none 0 0, .slice none 0 0, iv 0, iv 0, iv 0, iv 0, .bool false, .bool false] 60).alloc (.cells #[.slice none 0 0, .slice none 0 0, iv 0, iv 0, iv 0, iv 0, .bool false, .bool false] 60)
  have B2 := Blk.new ((w.alloc (.cells #[.slice a xs.length ca, .slice b ys.length cb, iv o, iv pc, iv fl, iv mk, .bool su, .bool tr] 55)).alloc (.cells #[.slice none 0 0, .slice none 0 0, iv 0, iv 0, iv 0, iv 0, .bool false, .bool false] 60)) #[.slice none 0 0, .slice none 0 0, iv 0, iv 0, iv 0, iv 0, .bool false, .bool false] 60
  simp only [World.size_alloc] at B1 B2
  obtain ⟨W, hW⟩ : ∃ W : World, W = (((w.alloc (.cells #[.slice a xs.length ca, .slice b ys.length cb, iv o, iv pc, iv fl, iv mk, .bool su, .bool tr] 55)).alloc (.cells #[.slice none 0 0, .slice none 0 0, iv 0, iv 0, iv 0, iv 0, .bool false, .bool false] 60)).alloc (.cells #[.slice none 0 0, .slice none 0 0, iv 0, iv 0, iv 0, iv 0, .bool false, .bool false] 60)) := ⟨_, rfl⟩
  rw [← hW] at k0 B0 B1 B2 ⊢
  clear hW
  have n0 := B2.lt
  refine (toIntS _ a ca xs (HA.out.keptS k0) lx).mono ?_
  rintro e' w1 ⟨rfl, o1, z1, g1⟩
  have k1 := kept_grown g1
  have C0 := B0.kept0 k1
  have C1 := hide (B1.kept0 k1)
  have C2 := B2.kept0 k1
  have d3 := C2.cell (i := 0) rfl
  have f3 := C2.frozen 0
  have D2 := hide (C2.set 0 (.slice (some ⟨W.heap.size, 0, none⟩) xs.length xs.length))
  have D1 := hide (C1.out.other (w.heap.size + 1 + 1) 0 (.slice (some ⟨W.heap.size, 0, none⟩) xs.length xs.length) (by omega))
  have D0 := hide (C0.other (w.heap.size + 1 + 1) 0 (.slice (some ⟨W.heap.size, 0, none⟩) xs.length xs.length) (by omega))
  have O1 := hide (o1.setOther (w.heap.size + 1 + 1) 0 (.slice (some ⟨W.heap.size, 0, none⟩) xs.length xs.length) (by omega))
  have K1 := hide (kept_set (k0.trans k1) (w.heap.size + 1 + 1) 0 (.slice (some ⟨W.heap.size, 0, none⟩) xs.length xs.length) (.inr (by omega)))
  have Z1 : Hid (W.heap.size < (w1.setCell ⟨w.heap.size + 1 + 1, 0, none⟩ (.slice (some ⟨W.heap.size, 0, none⟩) xs.length xs.length)).heap.size) := hide (by simpa using z1)
  obtain ⟨X, hX⟩ : ∃ X : World, X = w1.setCell ⟨w.heap.size + 1 + 1, 0, none⟩ (.slice (some ⟨W.heap.size, 0, none⟩) xs.length xs.length) := ⟨_, rfl⟩
  rw [← hX] at D2 D1 D0 O1 K1 Z1
  have x4 := D0.out.cell (i := 1) rfl
  rw [hX] at x4
  have cc1 := C0.all
  clear B0 B1 B2 C0 C1 C2 o1 z1 g1 k0 k1
  go_wp2_with fail
  rw [← hX]
  clear hX x4 d3 f3 cc1
  refine (toIntS _ b cb ys (HB.out.keptS K1.out) ly).mono ?_
  rintro e' w2 ⟨rfl, o2, z2, g2⟩
  have k2 := kept_grown g2
  have E0 := D0.out.kept0 k2
  have E1 := D1.out.kept0 k2
  have E2 := D2.out.kept0 k2
  have zz := Z1.out
  have O1 := hide (O1.out.keptS k2 (by omega))
  have O2 := hide o2
  have K2 := hide (K1.out.trans k2)
  have e2 := E0.all
  have a0 := E2.all
  have u1 := E2.fz
  have b0 := E1.all
  have v0 := E1.fz
  have E1 := hide E1
  clear E0 E2 o2 g2 k2
  go_wp2_with fail
  refine bodyPost_ret (v := .agg #[.slice (some ⟨W.heap.size, 0, none⟩) xs.length xs.length, .slice (some ⟨X.heap.size, 0, none⟩) ys.length ys.length, iv o, iv pc, iv fl, iv mk, .bool su, .bool tr]) ?_ rfl ⟨W.heap.size, X.heap.size, rfl, ?_, ?_, by omega, zz, ?_, ?_⟩
  · exact results_cell_row rfl _ _ _ _ _ (0, 0) _ rfl (((((((((((((((E1.out.other _ _ _ (by omega)).other _ _ _ (by omega)).other _ _ _ (by omega)).other _ _ _ (by omega)).other _ _ _ (by omega)).other _ _ _ (by omega)).other _ _ _ (by omega)).set _ _).set _ _).set _ _).set _ _).set _ _).set _ _).set _ _).set _ _) Tryz.underlying60 rfl (by kernel_rfl)
  · exact (((((((((((((((O1.out.setOther _ _ _ (by omega)).setOther _ _ _ (by omega)).setOther _ _ _ (by omega)).setOther _ _ _ (by omega)).setOther _ _ _ (by omega)).setOther _ _ _ (by omega)).setOther _ _ _ (by omega)).setOther _ _ _ (by omega)).setOther _ _ _ (by omega)).setOther _ _ _ (by omega)).setOther _ _ _ (by omega)).setOther _ _ _ (by omega)).setOther _ _ _ (by omega)).setOther _ _ _ (by omega)).setOther _ _ _ (by omega))
  · exact (((((((((((((((O2.out.setOther _ _ _ (by omega)).setOther _ _ _ (by omega)).setOther _ _ _ (by omega)).setOther _ _ _ (by omega)).setOther _ _ _ (by omega)).setOther _ _ _ (by omega)).setOther _ _ _ (by omega)).setOther _ _ _ (by omega)).setOther _ _ _ (by omega)).setOther _ _ _ (by omega)).setOther _ _ _ (by omega)).setOther _ _ _ (by omega)).setOther _ _ _ (by omega)).setOther _ _ _ (by omega)).setOther _ _ _ (by omega))
  · simpa using z2
  · exact (kept_set (kept_set (kept_set (kept_set (kept_set (kept_set (kept_set (kept_set (kept_set (kept_set (kept_set (kept_set (kept_set (kept_set (kept_set K2.out _ _ _ (.inr (by omega))) _ _ _ (.inr (by omega))) _ _ _ (.inr (by omega))) _ _ _ (.inr (by omega))) _ _ _ (.inr (by omega))) _ _ _ (.inr (by omega))) _ _ _ (.inr (by omega))) _ _ _ (.inr (by omega))) _ _ _ (.inr (by omega))) _ _ _ (.inr (by omega))) _ _ _ (.inr (by omega))) _ _ _ (.inr (by omega))) _ _ _ (.inr (by omega))) _ _ _ (.inr (by omega))) _ _ _ (.inr (by omega)))
end Go.Proofs.YtbppfbkkphhjnaaGreat

namespace Go.Proofs.YtbppfbkkphhjnaaGreat
open Go.RowKit
set_option linter.unusedVariables false
/-- a processor's four lists: each in a block of its own, of the span -/
structure CpSl (w : World) (lo hi : Nat) (c : Pl.Cp) (a b e q : Option Addr) : Prop where
  d : SlotIn w lo hi a c.r.xs
  a' : SlotIn w lo hi b c.r.ys
  b' : SlotIn w lo hi e c.bx
  l : SlotIn w lo hi q c.bl
  n1 : ∀ g, blk a = some g → blk b ≠ some g
  n2 : ∀ g, blk a = some g → blk e ≠ some g
  n3 : ∀ g, blk a = some g → blk q ≠ some g
  n4 : ∀ g, blk b = some g → blk e ≠ some g
  n5 : ∀ g, blk b = some g → blk q ≠ some g
  n6 : ∀ g, blk e = some g → blk q ≠ some g
theorem CpSl.kept {w w' : World} {l h lo hi : Nat} {c : Pl.Cp} {a b e q : Option Addr} (s : CpSl w l h c a b e q) (k : Kept lo hi w w') (hd : h ≤ lo ∨ hi ≤ l ∨ hi ≤ lo) : CpSl w' l h c a b e q :=
  ⟨s.d.kept k hd, s.a'.kept k hd, s.b'.kept k hd, s.l.kept k hd, s.n1, s.n2, s.n3, s.n4, s.n5, s.n6⟩
def szC (n m k j : Nat) (left : Int) : Int := if szB n m left < 0 then -1 else szB k j (szB n m left)
theorem szC_neg {n m k j : Nat} {left : Int} (h : ¬ szC n m k j left < 0) : (n : Int) + (m : Int) + (k : Int) + (j : Int) ≤ left := by
  unfold szC at h
  split at h
  · exact absurd (by decide) h
  · rename_i h1
    have a1 := szB_neg h1
    have a2 := szB_neg h
    unfold szB at a2
    split at a2
    · omega
    · split at a2 <;> omega
theorem szB_hi {n m : Nat} {left : Int} (h : ¬ szB n m left < 0) : 0 ≤ szB n m left ∧ szB n m left ≤ left := by
  unfold szB at h ⊢
  split
  · rename_i h1; rw [if_pos h1] at h; exact absurd (by decide) h
  · rename_i h1
    rw [if_neg h1] at h
    split
    · rename_i h2; rw [if_pos h2] at h; exact absurd (by decide) h
    · omega
theorem szB_minus {n m : Nat} {left : Int} (h : szB n m left < 0) : szB n m left = -1 := by
  unfold szB at h ⊢
  split
  · rfl
  · rename_i h1
    rw [if_neg h1] at h
    split
    · rfl
    · rename_i h2; rw [if_neg h2] at h; omega
theorem szCpu (w : World) (c : Pl.Cp) (a b e q : Option Addr) (ca cb ce cq : Nat) (left : Int) (lx : c.r.xs.length ≤ 9223372036854775807) (ly : c.r.ys.length ≤ 9223372036854775807) (lb : c.bx.length ≤ 9223372036854775807) (lm : c.bm ≤ 9223372036854775807) (l0 : 0 ≤ left) (l1 : left ≤ 2000000) :
    Calls Tryz.prog 25 #[.agg (cpA c a b e q ca cb ce cq), iv left] w fun r w' => r = .returned (iv (szC c.r.xs.length c.r.ys.length c.bx.length c.bm left)) ∧ Kept 0 0 w w' := by
  have K0 := hide (kept_alloc w (.cells (cpA c a b e q ca cb ce cq) 57))
  have B0 := hide (Blk.new w (cpA c a b e q ca cb ce cq) 57)
  by_cases h : szB c.r.xs.length c.r.ys.length left < 0
  · have E : Hid (szC c.r.xs.length c.r.ys.length c.bx.length c.bm left = -1) := hide (by simp [szC, h])
    have e1 := szB_minus h
    go_enter Tryz.func25, Tryz.ntmps25
    go_wp2_with fail
    refine (szRegs _ _ _ _ _ _ _ _ _ _ _ _ _ left lx ly l0 l1).mono ?_
    rintro e9 w1 ⟨rfl, k⟩
    rw [e1]
    have HK := hide (K0.out.trans k)
    clear k
    go_wp2_with fail
    go_ret
    exact ⟨rI E.out.symm, HK.out⟩
  · obtain ⟨s0, s1⟩ := szB_hi h
    have E : Hid (szC c.r.xs.length c.r.ys.length c.bx.length c.bm left = szB c.bx.length c.bm (szB c.r.xs.length c.r.ys.length left)) := hide (by simp [szC, h])
    revert h s0 s1 E
    generalize hS : szB c.r.xs.length c.r.ys.length left = S
    have HS := hide hS
    clear hS
    intro h s0 s1 E
    by_cases h2 : szB c.bx.length c.bm S < 0
    all_goals
      have E2 := hide (fun q => @szB_minus c.bx.length c.bm S q)
      go_enter Tryz.func25, Tryz.ntmps25
      go_wp2_with fail
      refine (szRegs _ _ _ _ _ _ _ _ _ _ _ _ _ left lx ly l0 l1).mono ?_
      rintro e9 w1 ⟨rfl, k⟩
      rw [HS.out]
      have HK := hide (K0.out.trans k)
      have B1 := hide (B0.out.kept0 k)
      clear k
      have i8 := B1.out.cell (i := 8) rfl
      have i9 := B1.out.cell (i := 9) rfl
      go_wp2_with fail
      refine (szBus _ _ _ _ _ _ _ S lb lm s0 (by omega)).mono ?_
      rintro e9 w2 ⟨rfl, k⟩
      have HK2 := hide (HK.out.trans k)
      clear k i8 i9
      go_wp2_with fail
      go_ret
      first
        | exact ⟨rI E.out.symm, HK2.out⟩
        | exact ⟨rI (by rw [E.out, E2.out h2]), HK2.out⟩
set_option maxHeartbeats 4000000 in
theorem eqCpu (w : World) (c : Pl.Cp) (a b e q a2 b2 e2 q2 : Option Addr) (ca cb ce cq ca2 cb2 ce2 cq2 : Nat) (ha : IRow w a c.r.xs) (hb : IRow w b c.r.ys) (he : IRow w e c.bx) (hq : IRow w q c.bl) (ha2 : IRow w a2 c.r.xs) (hb2 : IRow w b2 c.r.ys) (he2 : IRow w e2 c.bx) (hq2 : IRow w q2 c.bl) (lx : c.r.xs.length ≤ 2000000) (ly : c.r.ys.length ≤ 2000000) (lb : c.bx.length ≤ 2000000) (ll : c.bl.length = 5 * c.bm) (lm : c.bm ≤ 2000000) :
    Calls Tryz.prog 29 #[.agg (cpA c a b e q ca cb ce cq), .agg (cpA c a2 b2 e2 q2 ca2 cb2 ce2 cq2)] w fun r w' => r = .returned (.bool true) ∧ Kept 0 0 w w' := by
  have K0 := hide (kept_new (kept_alloc w (.cells (cpA c a b e q ca cb ce cq) 62)) (.cells (cpA c a2 b2 e2 q2 ca2 cb2 ce2 cq2) 62))
  have B0 := (Blk.new w (cpA c a b e q ca cb ce cq) 62).alloc (.cells (cpA c a2 b2 e2 q2 ca2 cb2 ce2 cq2) 62)
  have B1 := Blk.new (w.alloc (.cells (cpA c a b e q ca cb ce cq) 62)) (cpA c a2 b2 e2 q2 ca2 cb2 ce2 cq2) 62
  simp only [World.size_alloc] at B1
  obtain ⟨X, hX⟩ : ∃ X : World, (w.alloc (.cells (cpA c a b e q ca cb ce cq) 62)).alloc (.cells (cpA c a2 b2 e2 q2 ca2 cb2 ce2 cq2) 62) = X := ⟨_, rfl⟩
  rw [hX] at K0 B0 B1
  have HB0 := hide B0
  have HB1 := hide B1
  have i0 := B0.all
  have j0 := B1.all
  have HL := hide ll
  have HE := hide (he.keptS K0.out)
  have HQ := hide (hq.keptS K0.out)
  have HE2 := hide (he2.keptS K0.out)
  have HQ2 := hide (hq2.keptS K0.out)
  have HA := hide (ha.keptS K0.out)
  have HB := hide (hb.keptS K0.out)
  have HA2 := hide (ha2.keptS K0.out)
  have HBB2 := hide (hb2.keptS K0.out)
  clear B0 B1 ll ha hb he hq ha2 hb2 he2 hq2
  go_enter Tryz.func29, Tryz.ntmps29
  go_wp2_with fail
  refine (eqRegs _ c.r.o c.r.p c.r.f c.r.m c.r.s c.r.t a b a2 b2 ca cb ca2 cb2 c.r.xs c.r.ys HA.out HB.out HA2.out HBB2.out lx ly).mono ?_
  rintro e9 w1 ⟨rfl, k⟩
  have K1 := hide (K0.out.trans k)
  have C0 := hide (HB0.out.kept0 k)
  have C1 := hide (HB1.out.kept0 k)
  have HE' := hide (HE.out.keptS k)
  have HQ' := hide (HQ.out.keptS k)
  have HE2' := hide (HE2.out.keptS k)
  have HQ2' := hide (HQ2.out.keptS k)
  clear k i0 j0
  have i8 := C0.out.all
  have j8 := C1.out.all
  go_wp2_with fail
  refine (eqBus _ e q e2 q2 ce cq ce2 cq2 c.bm c.bm c.bx c.bl c.bx c.bl HE'.out HQ'.out HE2'.out HQ2'.out lb lb HL.out HL.out lm lm).mono ?_
  rintro e9 w2 ⟨rfl, k⟩
  rw [show (decide (c.bx = c.bx) && decide (c.bl = c.bl)) = true from by simp]
  have K2 := hide (K1.out.trans k)
  have D0 := hide (C0.out.kept0 k)
  have D1 := hide (C1.out.kept0 k)
  clear k
  have i10 := D0.out.cell (i := 10) rfl
  have i11 := D0.out.cell (i := 11) rfl
  have j10 := D1.out.cell (i := 10) rfl
  have j11 := D1.out.cell (i := 11) rfl
  go_wp2_with fail
  go_ret
  exact ⟨rfl, K2.out⟩
end Go.Proofs.YtbppfbkkphhjnaaGreat

namespace Go.Proofs.YtbppfbkkphhjnaaGreat
open Go.RowKit
set_option linter.unusedVariables false
theorem Tryz.infoCore : (Tryz.prog.info? 121).map (fun i => (i.zero, i.size)) = some (some (.agg (cor ⟨[0, 0, 0, 0], [0, 0, 0, 0], 0, 0, 0, 0, false, false⟩ zeros (.slice none 0 0) false ⟨false, tl0⟩)), 529) := by kernel_rfl
theorem cor_laid (r : Pl.Rg) (xs : List Int) (u : Value) (st ha : Bool) (A : Array Value) (hA : A.size = 529) (lx : xs.length = 512) : laid 528 #[.bool ha] (laid 527 #[.bool st] (laid 14 (brd xs u) (laid 0 (bkR r) A))) = cor r xs u st ⟨ha, tl0⟩ := by
  have hb : (brd xs u).size = 513 := by rw [brd_size, lx]
  have hr : (bkR r).size = 14 := rfl
  apply Array.ext_getElem?
  intro i
  rw [laid_at 528 _ _ (by simp only [laid_size, hA]; exact Nat.le_refl 529), laid_at 527 _ _ (by simp only [laid_size, hA]; exact Nat.le_succ 528), laid_at 14 _ _ (by rw [laid_size, hA, hb]; decide), laid_at 0 _ _ (by rw [hA, hr]; decide), hb, hr]
  by_cases h1 : i < 14
  · rw [if_neg (by simp; omega), if_neg (by simp; omega), if_neg (by omega), if_pos (by omega), cor_lo h1]; rfl
  · by_cases h2 : i < 526
    · rw [if_neg (by simp; omega), if_neg (by simp; omega), if_pos (by omega)]
      obtain ⟨n, rfl⟩ : ∃ n, i = 14 + n := ⟨i - 14, by omega⟩
      rw [cor_at (by omega), Nat.add_sub_cancel_left, brd_at (by omega)]
    · by_cases h3 : i < 529
      · have : i = 526 ∨ i = 527 ∨ i = 528 := by omega
        rcases this with rfl | rfl | rfl
        · rw [if_neg (by simp), if_neg (by simp), if_pos (by omega), cor_log lx]; exact brd_log lx
        · rw [if_neg (by simp), if_pos (by simp), cor_st lx]; rfl
        · rw [if_pos (by simp), cor_ha lx]; rfl
      · rw [if_neg (by simp; omega), if_neg (by simp; omega), if_neg (by omega), if_neg (by omega), Array.getElem?_eq_none (by omega), Array.getElem?_eq_none (by rw [cor_size lx]; omega)]
theorem laid_one (k : Nat) (v : Value) (A : Array Value) : laid k #[v] A = A.setIfInBounds k v := rfl
/-- what the walk's own rules want of a processor that is laid down part by part -/
theorem coreFill (r : Pl.Rg) (xs : List Int) (m : Nat) (st ha : Bool) (lx : xs.length = 512) : ∃ (Z L : Array Value) (M : Option Addr → Array Value), (∀ w, (zeroValue 121).run Tryz.prog w = .ok (.agg Z) w) ∧ Z.size = 529 ∧ (bkR r).size = 14 ∧ (∀ d, (brd xs (.slice d m m)).size = 513) ∧
    (bkR r).zipIdx.foldl (fun cs x => cs.setIfInBounds x.2 x.1) Z 0 14 = L ∧ L.size = 529 ∧ (∀ d, (brd xs (.slice d m m)).zipIdx.foldl (fun cs x => cs.setIfInBounds (14 + x.2) x.1) L 0 513 = M d) ∧ (∀ d, (M d).size = 529) ∧
    ∀ d, ((M d).setIfInBounds 527 (.bool st)).setIfInBounds 528 (.bool ha) = cor r xs (.slice d m m) st ⟨ha, tl0⟩ := by
  have hr : (bkR r).size = 14 := rfl
  have hd : ∀ d, (brd xs (.slice d m m)).size = 513 := fun d => by rw [brd_size, lx]
  obtain ⟨Z, hz, hs⟩ : ∃ Z : Array Value, (∀ w, (zeroValue 121).run Tryz.prog w = .ok (.agg Z) w) ∧ Z.size = 529 := ⟨_, (zero_of_info Tryz.infoCore).1, cor_size zeros_len⟩
  refine ⟨Z, laid 0 (bkR r) Z, fun d => laid 14 (brd xs (.slice d m m)) (laid 0 (bkR r) Z), hz, hs, hr, hd, ?_, ?_, ?_, ?_, ?_⟩
  · unfold laid; simp [hr]
  · rw [laid_size]; exact hs
  · intro d; unfold laid; simp [hr, hd]
  · intro d; rw [laid_size, laid_size]; exact hs
  · intro d
    have := cor_laid r xs (.slice d m m) st ha Z hs lx
    rw [laid_one, laid_one] at this
    exact this
theorem cpu12 {w : World} {x : Nat} {c : Pl.Cp} {a b e q : Option Addr} {ca cb ce cq : Nat} {ty : TypeId} (h : Blk w x (cpA c a b e q ca cb ce cq) ty) : w.cell? ⟨x, 0, none⟩ = some (.slice a c.r.xs.length ca) ∧ w.cell? ⟨x, 1, none⟩ = some (.slice b c.r.ys.length cb) ∧ w.cell? ⟨x, 2, none⟩ = some (.int .i64 c.r.o) ∧ w.cell? ⟨x, 3, none⟩ = some (.int .i64 c.r.p) ∧ w.cell? ⟨x, 4, none⟩ = some (.int .i64 c.r.f) ∧ w.cell? ⟨x, 5, none⟩ = some (.int .i64 c.r.m) ∧ w.cell? ⟨x, 6, none⟩ = some (.bool c.r.s) ∧ w.cell? ⟨x, 7, none⟩ = some (.bool c.r.t) ∧ w.cell? ⟨x, 8, none⟩ = some (.slice e c.bx.length ce) ∧ w.cell? ⟨x, 9, none⟩ = some (.slice q c.bm cq) ∧ w.cell? ⟨x, 10, none⟩ = some (.bool c.st) ∧ w.cell? ⟨x, 11, none⟩ = some (.bool c.ha) :=
  ⟨h.cell (i := 0) rfl, h.cell (i := 1) rfl, h.cell (i := 2) rfl, h.cell (i := 3) rfl, h.cell (i := 4) rfl, h.cell (i := 5) rfl, h.cell (i := 6) rfl, h.cell (i := 7) rfl, h.cell (i := 8) rfl, h.cell (i := 9) rfl, h.cell (i := 10) rfl, h.cell (i := 11) rfl⟩
set_option maxRecDepth 100000 in
set_option maxHeartbeats 4000000 in
theorem coreOf (w : World) (c : Pl.Cp) (a b e q : Option Addr) (ca cb ce cq : Nat) (ha : IRow w a c.r.xs) (hb : IRow w b c.r.ys) (he : IRow w e c.bx) (hq : IRow w q c.bl) (lx : c.r.xs.length = 4) (ly : c.r.ys.length = 4) (lb : c.bx.length = 512) (ll : c.bl.length = 5 * c.bm) (lm : c.bm ≤ 400) :
    Calls Tryz.prog 60 #[.agg (cpA c a b e q ca cb ce cq)] w fun r w' => ∃ p g : Nat, r = .returned (.pointer (some ⟨p, 0, none⟩)) ∧ CAt w' w.heap.size p g (Pl.Mc.ofC c) ⟨c.ha, tl0⟩ ∧ Kept 0 0 w w' := by
  have K0 := hide (kept_alloc w (.cells (cpA c a b e q ca cb ce cq) 62))
  have HBA := hide (Blk.new w (cpA c a b e q ca cb ce cq) 62)
  obtain ⟨X, hX⟩ : ∃ X : World, w.alloc (.cells (cpA c a b e q ca cb ce cq) 62) = X := ⟨_, rfl⟩
  rw [hX] at K0 HBA
  have HA := hide (ha.keptS K0.out)
  have HB := hide (hb.keptS K0.out)
  have HE := hide (he.keptS K0.out)
  have HQ := hide (hq.keptS K0.out)
  obtain ⟨CZ, L1, L2, bz, z1, z2, z3, z4, z5, z6, z7, z8⟩ := coreFill c.r c.bx c.bm c.st c.ha lb
  have LX := hide lx
  have LY := hide ly
  have LB := hide lb
  have LL := hide ll
  have LM := hide lm
  clear ha hb he hq lx ly lb ll lm
  obtain ⟨i0, i1, i2, i3, i4, i5, i6, i7, i8, i9, i10, i11⟩ := cpu12 HBA.out
  go_enter Tryz.func60, Tryz.ntmps60
  go_wp2_with fail
  clear hX
  go_region_held3 (fun w' => w'.cell? ⟨w.heap.size, 0, none⟩ = some (.slice a c.r.xs.length ca) ∧ w'.cell? ⟨w.heap.size, 1, none⟩ = some (.slice b c.r.ys.length cb) ∧ w'.cell? ⟨w.heap.size, 2, none⟩ = some (.int .i64 c.r.o) ∧ w'.cell? ⟨w.heap.size, 3, none⟩ = some (.int .i64 c.r.p) ∧ w'.cell? ⟨w.heap.size, 4, none⟩ = some (.int .i64 c.r.f) ∧ w'.cell? ⟨w.heap.size, 5, none⟩ = some (.int .i64 c.r.m) ∧ w'.cell? ⟨w.heap.size, 6, none⟩ = some (.bool c.r.s) ∧ w'.cell? ⟨w.heap.size, 7, none⟩ = some (.bool c.r.t) ∧ w'.cell? ⟨w.heap.size, 8, none⟩ = some (.slice e c.bx.length ce) ∧ w'.cell? ⟨w.heap.size, 9, none⟩ = some (.slice q c.bm cq) ∧ w'.cell? ⟨w.heap.size, 10, none⟩ = some (.bool c.st) ∧ w'.cell? ⟨w.heap.size, 11, none⟩ = some (.bool c.ha)) (first | exact cpu12 B4.out | exact cpu12 B3.out | exact cpu12 (show Blk _ _ _ _ from HBA.out) | exact cpu12 (B4.out.alloc _))
    (first | (go_at_call 93; have z9 := B3; refine (boardOf _ e q ce cq c.bm c.bx c.bl (HE.out.keptS K3.out) (HQ.out.keptS K3.out) LB.out LL.out LM.out).mono ?_; rintro e9 w4 ⟨g, rfl, hb4, hg4, k4⟩; have B4 := hide (B3.out.kept0 k4); have G4 := hide hb4; have L4 := hide hg4; have K4 := hide (K3.out.trans k4); clear hb4 hg4 k4) | (go_at_call 92; refine (bankOf _ c.r a b ca cb (HA.out.keptS (kept_drew (Kept.refl _ _ _))) (HB.out.keptS (kept_drew (Kept.refl _ _ _))) LX.out LY.out).mono ?_; rintro e9 w3 ⟨rfl, kd⟩; have k3 := undrewK kd; have B3 := hide (HBA.out.kept0 k3); have K3 := hide k3; clear kd k3))
  go_wp2_with fail
  go_ret
  have s0 := K0.out.size
  have s3 := K3.out.size
  have l4 := L4.out
  have g4 := G4.out.lt
  refine ⟨w4.heap.size, g, rfl, ⟨c.bm, Blk.new w4 _ _, ⟨own5_of_blk (G4.out.alloc _) LL.out (by omega) (show c.bm ≤ 2000000 by have := LM.out; omega), ?_, ?_⟩⟩, K0.out.trans (kept_new K4.out _)⟩
  · have := K4.out.size; omega
  · omega
end Go.Proofs.YtbppfbkkphhjnaaGreat

namespace Go.Proofs.YtbppfbkkphhjnaaGreat
open Go.RowKit
set_option linter.unusedVariables false
theorem cRuns (w : World) (lo b g : Nat) (c : Pl.Mc) (h : Hl) (hC : CAt w lo b g c h) (l : c.bx.length = 512) : Calls Tryz.prog 94 #[.pointer (some ⟨b, 0, none⟩)] w fun e' w' => e' = .returned (.bool (!c.st && !h.a)) ∧ w' = w := by
  have q1 := hC.cSt l
  have q2 := hC.cH l
  rcases Bool.eq_false_or_eq_true c.st with hst | hst <;> rw [hst] at q1 ⊢
  · go_enter Tryz.func94, Tryz.ntmps94
    go_wp2
    go_ret
    exact ⟨rfl, rfl⟩
  · go_enter Tryz.func94, Tryz.ntmps94
    go_wp2
    go_ret
    exact ⟨rfl, rfl⟩
end Go.Proofs.YtbppfbkkphhjnaaGreat

