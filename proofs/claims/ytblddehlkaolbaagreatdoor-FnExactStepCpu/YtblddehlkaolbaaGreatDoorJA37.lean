/- What the program's functions over a board answer: a bus opened onto it and shut again. A processor opened to be worked on, and shut again. What the program's GoodCpu answers, for every processor. What the program's StepCpu answers, for every processor, where the tables hold what the program's text lays. -/
import Derived.Test.YtblddehlkaolbaaGreatDoorJA36
import Derived.Test.YtblddehlkaolbaaGreatDoorJA3
import Derived.Test.YtblddehlkaolbaaGreatDoorJA1
import Derived.Test.YtblddehlkaolbaaGreatDoorJA25
import Derived.Test.YtblddehlkaolbaaGreatDoorJA33
import Derived.Test.YtblddehlkaolbaaGreatDoorJA22
import Derived.Test.YtblddehlkaolbaaGreatDoorJA23
import Derived.Test.YtblddehlkaolbaaGreatDoorJA24
import Derived.Test.YtblddehlkaolbaaGreatDoorJA2
namespace Go.Proofs.YtblddehlkaolbaaGreatDoor
open Go.RowKit
set_option linter.unusedVariables false

theorem fold_set (off : Nat) : ∀ (l : List Value) (k : Nat) (A : Array Value) (i : Nat), off + k + l.length ≤ A.size →
    ((l.zipIdx k).foldl (fun a (x : Value × Nat) => a.setIfInBounds (off + x.2) x.1) A)[i]? = if off + k ≤ i ∧ i < off + k + l.length then l[i - (off + k)]? else A[i]?
  | [], k, A, i, h => by
    simp only [List.zipIdx_nil, List.foldl_nil, List.length_nil]
    rw [if_neg (by omega)]
  | v :: r, k, A, i, h => by
    simp only [List.length_cons] at h
    simp only [List.zipIdx_cons, List.foldl_cons, List.length_cons]
    rw [fold_set off r (k + 1) _ i (by simp; omega)]
    by_cases h1 : off + (k + 1) ≤ i ∧ i < off + (k + 1) + r.length
    · rw [if_pos h1, if_pos (by omega), show i - (off + k) = (i - (off + (k + 1))) + 1 by omega, List.getElem?_cons_succ]
    · rw [if_neg h1, Array.getElem?_setIfInBounds]
      by_cases h2 : off + k = i
      · rw [if_pos h2, if_pos (by omega), if_pos (by omega), show i - (off + k) = 0 by omega]; rfl
      · rw [if_neg h2, if_neg (by omega)]
theorem Tryz.infoBoard : (Tryz.prog.info? 94).map (fun i => (i.zero, i.size)) = some (some (.agg (brd zeros (.slice none 0 0))), 513) := by kernel_rfl
theorem Tryz.boardZero : ∀ w, (zeroValue 94).run Tryz.prog w = .ok (.agg (brd zeros (.slice none 0 0))) w := (zero_of_info Tryz.infoBoard).1
theorem Tryz.boardSize : (Tryz.prog.info? 94).map (·.size) = some 513 := (zero_of_info Tryz.infoBoard).2
theorem brd_size (xs : List Int) (u : Value) : (brd xs u).size = xs.length + 1 := by simp [brd, cellsOf]
theorem fold_size (off : Nat) : ∀ (l : List (Value × Nat)) (A : Array Value), (l.foldl (fun a (x : Value × Nat) => a.setIfInBounds (off + x.2) x.1) A).size = A.size
  | [], A => rfl
  | v :: r, A => by rw [List.foldl_cons, fold_size off r]; simp
/-- what 'fill' lays, of a part that fits -/
def laid (off : Nat) (cs A : Array Value) : Array Value := cs.zipIdx.foldl (fun a (x : Value × Nat) => a.setIfInBounds (off + x.2) x.1) A
theorem laid_size (off : Nat) (cs A : Array Value) : (laid off cs A).size = A.size := by
  unfold laid
  rw [← Array.foldl_toList]
  exact fold_size off _ A
theorem laid_at (off : Nat) (cs A : Array Value) (h : off + cs.size ≤ A.size) (i : Nat) : (laid off cs A)[i]? = if off ≤ i ∧ i < off + cs.size then cs[i - off]? else A[i]? := by
  unfold laid
  rw [← Array.foldl_toList, Array.toList_zipIdx]
  have := fold_set off cs.toList 0 A i (by simpa using h)
  simpa using this
theorem fill_two (cs A : Array Value) (u : Value) (hu : u.cells = #[u]) (hc : cs.size = 512) (hA : A.size = 513) :
    Instr.fill (#[(0, 512), (512, 1)][·]?) A [(0, .agg cs), (1, u)] = some (laid 512 #[u] (laid 0 cs A)) := by
  have h1 : ((laid 0 cs A)).size = 513 := by rw [laid_size, hA]
  have e1 : cs.zipIdx.foldl (fun a (x : Value × Nat) => a.setIfInBounds (0 + x.2) x.1) A = laid 0 cs A := rfl
  unfold Instr.fill
  simp only [Value.cells, List.getElem?_toArray, List.getElem?_cons_zero]
  rw [if_neg (by simp [hc, hA])]
  rw [e1]
  unfold Instr.fill
  simp only [hu, List.getElem?_cons_succ, List.getElem?_cons_zero]
  rw [if_neg (by simp [h1])]
  unfold Instr.fill
  rfl
theorem brd_one (xs : List Int) (u : Value) (h : u.oneCell' = true) : (brd xs u).all (·.oneCell') = true := by
  rw [Array.all_eq_true_iff_forall_mem]
  intro v hv
  simp only [brd, Array.mem_push] at hv
  rcases hv with hv | rfl
  · exact Array.all_eq_true_iff_forall_mem.1 (cellsOf_one xs) v hv
  · exact h
theorem build_two {P : Program} {ops : Array Oper} {rest : List Oper} {o : Oper} {a : Act} {w : World} {Q : Exit → Act → World → Prop} (hg : o.guard = none) (t : TypeId) (x y : Operand) (ho : o.op = .build t #[(0, x), (1, y)])
    (v u : Value) (hx : a.eval x = v) (hy : a.eval y = u) (cells : Array Value) (hf : P.built t [(0, v), (1, u)] = some cells)
    (h : wpList P ops Q rest (a.put o.dst (.agg cells)) w) : wpList P ops Q (o :: rest) a w := by
  have e : P.built t (#[(0, x), (1, y)].map fun (p : Nat × Operand) => (p.1, a.eval p.2)).toList = some cells := by
    simp [hx, hy, hf]
  refine wpList_build hg t #[(0, x), (1, y)] ho (by rw [e]; rfl) ?_
  rw [e]
  exact h
theorem boardBuilt (xs : List Int) (b : Option Addr) (n c : Nat) (lx : xs.length = 512) :
    Tryz.prog.built 94 [(0, .agg (cellsOf xs)), (1, .slice b n c)] = some (brd xs (.slice b n c)) := by
  have hp : (match Tryz.prog.underlying 94 with | some (.struct fields) => fields.toList.mapM (fun f => (Tryz.prog.info? f.type).map fun i => (f.offset, i.size)) | _ => none) = some [(0, 512), (512, 1)] := by kernel_rfl
  have e : Tryz.prog.built 94 [(0, .agg (cellsOf xs)), (1, .slice b n c)] = Instr.fill (#[(0, 512), (512, 1)][·]?) (brd zeros (.slice none 0 0)) [(0, .agg (cellsOf xs)), (1, .slice b n c)] := by
    have hi := Tryz.infoBoard
    unfold Program.built
    cases h1 : Tryz.prog.info? 94 with
    | none => rw [h1] at hi; cases hi
    | some it =>
      rw [h1] at hi
      have hz : it.zero = some (.agg (brd zeros (.slice none 0 0))) := congrArg (fun o => (o.map Prod.fst).getD none) hi
      cases h2 : Tryz.prog.underlying 94 with
      | none => rw [h2] at hp; cases hp
      | some d =>
        rw [h2] at hp
        cases d
        case struct fields =>
          have hp' : fields.toList.mapM (fun f => (Tryz.prog.info? f.type).map fun i => (f.offset, i.size)) = some [(0, 512), (512, 1)] := hp
          simp only [hz, hp']
          rfl
        all_goals cases hp
  rw [e, fill_two (cellsOf xs) (brd zeros (.slice none 0 0)) (.slice b n c) rfl (by rw [cellsOf_size, lx]) (by rw [brd_size, zeros_len])]
  refine congrArg some ?_
  apply Array.ext_getElem?
  intro i
  rw [laid_at 512 #[.slice b n c] _ (by rw [laid_size, brd_size, zeros_len]; simp), laid_at 0 _ _ (by rw [brd_size, zeros_len, cellsOf_size, lx]; decide), cellsOf_size, lx]
  simp only [brd, Array.getElem?_push, cellsOf_size, lx]
  by_cases h : i < 512
  · rw [if_neg (by simp; omega), if_pos (by omega), if_neg (by omega)]
    rfl
  · by_cases h2 : i = 512
    · subst h2
      rfl
    · have h3 : ¬ i < 513 := by omega
      rw [if_neg (by simp; omega), if_neg (by omega)]
      simp only [zeros_len]
      rw [if_neg h2, if_neg h2]
      rw [Array.getElem?_eq_none (by rw [cellsOf_size, zeros_len]; omega), Array.getElem?_eq_none (by rw [cellsOf_size, lx]; omega)]

/-- a row of accesses copied into a block as long -/
theorem copy5_at (W : World) (g m sCap : Nat) (sp : Option Addr) (ys : List Int) (cur : List Value) (t : TypeId) (hB : Blk W g cur.toArray t) (hr : IRow W sp ys) (hl : ys.length = 5 * m) (hc : cur.length = 5 * m) :
    ∃ W', (Builtin.copy_ #[32, 32] 3 #[.slice (some ⟨g, 0, none⟩) m m, .slice sp m sCap]).run Tryz.prog W = .ok (.int .i64 m) W' ∧ Blk W' g (cellsOf ys) t ∧ Kept g (g + 1) W W' := by
  obtain ⟨i, hi, hz0, hz1, hz2⟩ := info_parts Tryz.infoAcc
  have hmin : Nat.min m m = m := Nat.min_self m
  by_cases h0 : m = 0
  · subst h0
    obtain rfl : ys = [] := List.eq_nil_of_length_eq_zero (by omega)
    obtain rfl : cur = [] := List.eq_nil_of_length_eq_zero (by omega)
    refine ⟨W, ?_, hB, Kept.refl _ _ _⟩
    have hl0 : ∀ (x : Addr), (loadCells x 0).run Tryz.prog W = .ok #[] W := fun x => by simpa using run_loadCells_list (P := Tryz.prog) W x [] (by simp)
    cases sp <;> simp [Builtin.copy_, run_underlying Tryz.underlying32, Builtin.lenOf, Builtin.firstCells, sizeOf, typeInfo, hi, storeCells, hl0] <;> rfl
  · obtain ⟨ga, oa, rfl, _⟩ := hr 0 (by omega)
    have hld := run_loadCells_list (P := Tryz.prog) W ⟨ga, oa, none⟩ (ys.map (Value.int .i64)) (news_of hr)
    have hst := run_storeCells_at Tryz.prog g 0 t (ys.map (Value.int .i64)) 0 cur.toArray W hB (by simp [hl, hc]) news_one
    have e5 : (ys.map (Value.int .i64)).length = m * 5 := by rw [List.length_map, hl]; omega
    rw [e5] at hld
    have e : (List.take (0 + 0) cur.toArray.toList ++ ys.map (Value.int .i64) ++ List.drop (0 + 0 + (ys.map (Value.int .i64)).length) cur.toArray.toList) = ys.map (Value.int .i64) := by
      rw [List.drop_eq_nil_of_le (by simp [hl, hc])]; simp
    rw [e] at hst
    refine ⟨W.setRow g (cellsOf ys), ?_, hB.setRow, ⟨rfl, rfl, rfl, by simp, fun k hk hn => setRow_other W g k _ (by omega)⟩⟩
    simp [Builtin.copy_, run_underlying Tryz.underlying32, Builtin.lenOf, Builtin.firstCells, sizeOf, typeInfo, hi, hz1, hmin, hld]
    have hst' : (storeCells ⟨g, 0, none⟩ (ys.map (Value.int .i64))).run Tryz.prog W = .ok () (W.setRow g (cellsOf ys)) := hst
    rw [hst']
    rfl
theorem own5_of_blk {w : World} {base g m : Nat} {ys : List Int} (h : Blk w g (cellsOf ys) 110) (hl : ys.length = 5 * m) (hb : base ≤ g) (bm : m ≤ 2000000) : w.ownsRow base 110 5 (.slice (some ⟨g, 0, none⟩) m m) m (ys.map (Value.int .i64)) := by
  refine ⟨by simp [hl]; omega, .inr ⟨g, m, cellsOf ys, rfl, hb, h, Nat.le_refl _, by unfold maxLen; omega, by rw [cellsOf_size, hl]; omega, ?_⟩⟩
  rw [List.take_of_length_le (by simp [cellsOf, hl]; omega)]
  simp [cellsOf]

set_option maxHeartbeats 4000000 in
theorem boardOf (w : World) (a b : Option Addr) (ca cb m : Nat) (xs ys : List Int) (ha : IRow w a xs) (hb : IRow w b ys) (lx : xs.length = 512) (ly : ys.length = 5 * m) (bm : m ≤ 400) :
    Calls Tryz.prog 51 #[.agg #[.slice a xs.length ca, .slice b m cb]] w fun e w' => ∃ g : Nat, e = .returned (.agg (brd xs (.slice (some ⟨g, 0, none⟩) m m))) ∧ Blk w' g (cellsOf ys) 110 ∧ w.heap.size ≤ g ∧ Kept 0 0 w w' := by
  obtain ⟨i, hi, hz0, hz1, hz2⟩ := info_parts Tryz.infoAcc
  have HA := hide ha
  have HB := hide hb
  have HX := hide lx
  have HY := hide ly
  have bz := Tryz.boardZero
  have hbuilt := hide (boardBuilt xs (some ⟨w.heap.size + 1 + 1, 0, none⟩) m m lx)
  have K0 := hide (kept_new (kept_alloc w (.cells #[.slice a xs.length ca, .slice b m cb] 34)) (.cells (brd zeros (.slice none 0 0)) 94))
  have B0 := hide ((Blk.new w #[.slice a xs.length ca, .slice b m cb] 34).alloc (.cells (brd zeros (.slice none 0 0)) 94))
  have B1 := Blk.new (w.alloc (.cells #[.slice a xs.length ca, .slice b m cb] 34)) (brd zeros (.slice none 0 0)) 94
  simp only [World.size_alloc] at B1
  replace B1 := hide B1
  clear ha hb lx ly
  go_enter Tryz.func51, Tryz.ntmps51
  go_wp2_with (at_make; refine wpList_make_full _ rfl _ _ 32 rfl w.heap.size 110 i (.agg #[.int .i64 0, .int .i64 0, .int .i64 0, .int .i64 0, .int .i64 0]) 5 Tryz.underlying32 hi hz0 hz1 _ _ _ _ m rfl rfl rfl rfl ?c1 ?c2 ?c3 ?_)
  case c1 => rw [hz2]; omega
  case c2 => unfold maxLen; omega
  case c3 => simp; omega
  intro w1 hown hg
  have k1 := kept_grown hg
  have C0 := B0.out.kept0 k1
  have C1 := B1.out.kept0 k1
  have K1 := K0.out.trans k1
  obtain ⟨W2, hcopy, E2, k2⟩ := copy5_at w1 (w.heap.size + 1 + 1) m cb b ys _ _ (blk_of_row hown) (HB.out.keptS K1) HY.out (by rw [hown.1]; omega)
  have D0 := hide (C0.kept k2 (by omega))
  have D1 := hide (C1.kept k2 (by omega))
  have K2 := hide (kept_over K1 k2 (by omega))
  have H2 := hide E2
  have HZ : ∀ u, Hid ((Tryz.prog.info? 94).map (·.size) = some (brd xs u).size) := fun u => hide (by rw [brd_size, HX.out]; exact Tryz.boardSize)
  have HZ2 : ∀ u, Hid ((brd zeros (.slice none 0 0)).size = (brd xs u).size) := fun u => hide (by rw [brd_size, brd_size, HX.out, zeros_len])
  have p1 := C0.cell (i := 1) rfl
  have d0 := D0.out.cell (i := 0) rfl
  have d1 := D0.out.cell (i := 1) rfl
  clear hown hg k1 C0 C1 K1 E2 k2
  go_wp2_with (first
    | (go_at_call 93; refine (memoryOf _ a b ca cb m xs (HA.out.keptS K2.out) HX.out).mono ?_; rintro e w3 ⟨rfl, k3⟩; have D3 := hide (D1.out.kept0 k3); have H3 := hide (H2.out.kept0 k3); have K3 := hide (K2.out.trans k3); clear k3)
    | (refine build_two rfl 94 (.tmp 13) (.tmp 14) rfl (.agg (cellsOf xs)) (.slice (some ⟨w.heap.size + 1 + 1, 0, none⟩) m m) rfl rfl (brd xs (.slice (some ⟨w.heap.size + 1 + 1, 0, none⟩) m m)) hbuilt.out ?_)
    | (refine wpList_store_row rfl 94 (.tmp 2) (.tmp 15) rfl (w.heap.size + 1) (brd xs (.slice (some ⟨w.heap.size + 1 + 1, 0, none⟩) m m)) rfl rfl 94 (brd zeros (.slice none 0 0)) D3.out (HZ _).out (HZ2 _).out (brd_one _ _ rfl) ?_))
  refine bodyPost_ret (v := .agg (brd xs (.slice (some ⟨w.heap.size + 1 + 1, 0, none⟩) m m))) ?_ rfl ⟨w.heap.size + 1 + 1, rfl, H3.out.setRowOther (by omega), by omega, kept_setRow K3.out _ _ (by omega)⟩
  exact results_cell_row rfl _ _ _ _ _ (0, 0) _ rfl D3.out.setRow Tryz.underlying94 rfl (HZ _).out

end Go.Proofs.YtblddehlkaolbaaGreatDoor

namespace Go.Proofs.YtblddehlkaolbaaGreatDoor
open Go.RowKit
set_option linter.unusedVariables false
theorem Tryz.infoCore : (Tryz.prog.info? 97).map (fun i => (i.zero, i.size)) = some (some (.agg (cor ⟨[0, 0, 0, 0], [0, 0, 0, 0], 0, 0, 0, 0, false, false⟩ zeros (.slice none 0 0) false false)), 529) := by kernel_rfl
theorem cor_laid (r : Pl.Rg) (xs : List Int) (u : Value) (st ha : Bool) (A : Array Value) (hA : A.size = 529) (lx : xs.length = 512) : laid 528 #[.bool ha] (laid 527 #[.bool st] (laid 14 (brd xs u) (laid 0 (bkR r) A))) = cor r xs u st ha := by
  have hb : (brd xs u).size = 513 := by rw [brd_size, lx]
  have hr : (bkR r).size = 14 := rfl
  apply Array.ext_getElem?
  intro i
  rw [laid_at 528 _ _ (by simp only [laid_size, hA]; exact Nat.le_refl 529), laid_at 527 _ _ (by simp only [laid_size, hA]; exact Nat.le_succ 528), laid_at 14 _ _ (by rw [laid_size, hA, hb]; decide), laid_at 0 _ _ (by rw [hA, hr]; decide), hb, hr]
  by_cases h1 : i < 14
  · rw [if_neg (by simp; omega), if_neg (by simp; omega), if_neg (by omega), if_pos (by omega), cor_lo h1]; rfl
  · by_cases h2 : i < 526
    · rw [if_neg (by simp; omega), if_neg (by simp; omega), if_pos (by omega)]
      obtain ⟨n, rfl⟩ : ∃ n, i = 14 + n := ⟨i - 14, by omega⟩
      rw [cor_at (by omega), Nat.add_sub_cancel_left, brd_at (by omega)]
    · by_cases h3 : i < 529
      · have : i = 526 ∨ i = 527 ∨ i = 528 := by omega
        rcases this with rfl | rfl | rfl
        · rw [if_neg (by simp), if_neg (by simp), if_pos (by omega), cor_log lx]; exact brd_log lx
        · rw [if_neg (by simp), if_pos (by simp), cor_st lx]; rfl
        · rw [if_pos (by simp), cor_ha lx]; rfl
      · rw [if_neg (by simp; omega), if_neg (by simp; omega), if_neg (by omega), if_neg (by omega), Array.getElem?_eq_none (by omega), Array.getElem?_eq_none (by rw [cor_size lx]; omega)]
theorem laid_one (k : Nat) (v : Value) (A : Array Value) : laid k #[v] A = A.setIfInBounds k v := rfl
/-- what the walk's own rules want of a processor that is laid down part by part -/
theorem coreFill (r : Pl.Rg) (xs : List Int) (m : Nat) (st ha : Bool) (lx : xs.length = 512) : ∃ (Z L : Array Value) (M : Option Addr → Array Value), (∀ w, (zeroValue 97).run Tryz.prog w = .ok (.agg Z) w) ∧ Z.size = 529 ∧ (bkR r).size = 14 ∧ (∀ d, (brd xs (.slice d m m)).size = 513) ∧
    (bkR r).zipIdx.foldl (fun cs x => cs.setIfInBounds x.2 x.1) Z 0 14 = L ∧ L.size = 529 ∧ (∀ d, (brd xs (.slice d m m)).zipIdx.foldl (fun cs x => cs.setIfInBounds (14 + x.2) x.1) L 0 513 = M d) ∧ (∀ d, (M d).size = 529) ∧
    ∀ d, ((M d).setIfInBounds 527 (.bool st)).setIfInBounds 528 (.bool ha) = cor r xs (.slice d m m) st ha := by
  have hr : (bkR r).size = 14 := rfl
  have hd : ∀ d, (brd xs (.slice d m m)).size = 513 := fun d => by rw [brd_size, lx]
  obtain ⟨Z, hz, hs⟩ : ∃ Z : Array Value, (∀ w, (zeroValue 97).run Tryz.prog w = .ok (.agg Z) w) ∧ Z.size = 529 := ⟨_, (zero_of_info Tryz.infoCore).1, cor_size zeros_len⟩
  refine ⟨Z, laid 0 (bkR r) Z, fun d => laid 14 (brd xs (.slice d m m)) (laid 0 (bkR r) Z), hz, hs, hr, hd, ?_, ?_, ?_, ?_, ?_⟩
  · unfold laid; simp [hr]
  · rw [laid_size]; exact hs
  · intro d; unfold laid; simp [hr, hd]
  · intro d; rw [laid_size, laid_size]; exact hs
  · intro d
    have := cor_laid r xs (.slice d m m) st ha Z hs lx
    rw [laid_one, laid_one] at this
    exact this
theorem cpu12 {w : World} {x : Nat} {c : Pl.Cp} {a b e q : Option Addr} {ca cb ce cq : Nat} {ty : TypeId} (h : Blk w x #[.slice a c.r.xs.length ca, .slice b c.r.ys.length cb, .int .i64 c.r.o, .int .i64 c.r.p, .int .i64 c.r.f, .int .i64 c.r.m, .bool c.r.s, .bool c.r.t, .slice e c.bx.length ce, .slice q c.bm cq, .bool c.st, .bool c.ha] ty) : w.cell? ⟨x, 0, none⟩ = some (.slice a c.r.xs.length ca) ∧ w.cell? ⟨x, 1, none⟩ = some (.slice b c.r.ys.length cb) ∧ w.cell? ⟨x, 2, none⟩ = some (.int .i64 c.r.o) ∧ w.cell? ⟨x, 3, none⟩ = some (.int .i64 c.r.p) ∧ w.cell? ⟨x, 4, none⟩ = some (.int .i64 c.r.f) ∧ w.cell? ⟨x, 5, none⟩ = some (.int .i64 c.r.m) ∧ w.cell? ⟨x, 6, none⟩ = some (.bool c.r.s) ∧ w.cell? ⟨x, 7, none⟩ = some (.bool c.r.t) ∧ w.cell? ⟨x, 8, none⟩ = some (.slice e c.bx.length ce) ∧ w.cell? ⟨x, 9, none⟩ = some (.slice q c.bm cq) ∧ w.cell? ⟨x, 10, none⟩ = some (.bool c.st) ∧ w.cell? ⟨x, 11, none⟩ = some (.bool c.ha) :=
  ⟨h.cell (i := 0) rfl, h.cell (i := 1) rfl, h.cell (i := 2) rfl, h.cell (i := 3) rfl, h.cell (i := 4) rfl, h.cell (i := 5) rfl, h.cell (i := 6) rfl, h.cell (i := 7) rfl, h.cell (i := 8) rfl, h.cell (i := 9) rfl, h.cell (i := 10) rfl, h.cell (i := 11) rfl⟩
set_option maxRecDepth 100000 in
set_option maxHeartbeats 4000000 in
theorem coreOf (w : World) (c : Pl.Cp) (a b e q : Option Addr) (ca cb ce cq : Nat) (ha : IRow w a c.r.xs) (hb : IRow w b c.r.ys) (he : IRow w e c.bx) (hq : IRow w q c.bl) (lx : c.r.xs.length = 4) (ly : c.r.ys.length = 4) (lb : c.bx.length = 512) (ll : c.bl.length = 5 * c.bm) (lm : c.bm ≤ 400) :
    Calls Tryz.prog 22 #[.agg #[.slice a c.r.xs.length ca, .slice b c.r.ys.length cb, .int .i64 c.r.o, .int .i64 c.r.p, .int .i64 c.r.f, .int .i64 c.r.m, .bool c.r.s, .bool c.r.t, .slice e c.bx.length ce, .slice q c.bm cq, .bool c.st, .bool c.ha]] w fun r w' => ∃ p g : Nat, r = .returned (.pointer (some ⟨p, 0, none⟩)) ∧ CAt w' w.heap.size p g (Pl.Mc.ofC c) c.ha ∧ Kept 0 0 w w' := by
  have K0 := hide (kept_alloc w (.cells #[.slice a c.r.xs.length ca, .slice b c.r.ys.length cb, .int .i64 c.r.o, .int .i64 c.r.p, .int .i64 c.r.f, .int .i64 c.r.m, .bool c.r.s, .bool c.r.t, .slice e c.bx.length ce, .slice q c.bm cq, .bool c.st, .bool c.ha] 36))
  have HBA := hide (Blk.new w #[.slice a c.r.xs.length ca, .slice b c.r.ys.length cb, .int .i64 c.r.o, .int .i64 c.r.p, .int .i64 c.r.f, .int .i64 c.r.m, .bool c.r.s, .bool c.r.t, .slice e c.bx.length ce, .slice q c.bm cq, .bool c.st, .bool c.ha] 36)
  obtain ⟨X, hX⟩ : ∃ X : World, w.alloc (.cells #[.slice a c.r.xs.length ca, .slice b c.r.ys.length cb, .int .i64 c.r.o, .int .i64 c.r.p, .int .i64 c.r.f, .int .i64 c.r.m, .bool c.r.s, .bool c.r.t, .slice e c.bx.length ce, .slice q c.bm cq, .bool c.st, .bool c.ha] 36) = X := ⟨_, rfl⟩
  rw [hX] at K0 HBA
  have HA := hide (ha.keptS K0.out)
  have HB := hide (hb.keptS K0.out)
  have HE := hide (he.keptS K0.out)
  have HQ := hide (hq.keptS K0.out)
  obtain ⟨CZ, L1, L2, bz, z1, z2, z3, z4, z5, z6, z7, z8⟩ := coreFill c.r c.bx c.bm c.st c.ha lb
  have LX := hide lx
  have LY := hide ly
  have LB := hide lb
  have LL := hide ll
  have LM := hide lm
  clear ha hb he hq lx ly lb ll lm
  obtain ⟨i0, i1, i2, i3, i4, i5, i6, i7, i8, i9, i10, i11⟩ := cpu12 HBA.out
  go_enter Tryz.func22, Tryz.ntmps22
  go_wp2_with fail
  clear hX
  go_region_held3 (fun w' => w'.cell? ⟨w.heap.size, 0, none⟩ = some (.slice a c.r.xs.length ca) ∧ w'.cell? ⟨w.heap.size, 1, none⟩ = some (.slice b c.r.ys.length cb) ∧ w'.cell? ⟨w.heap.size, 2, none⟩ = some (.int .i64 c.r.o) ∧ w'.cell? ⟨w.heap.size, 3, none⟩ = some (.int .i64 c.r.p) ∧ w'.cell? ⟨w.heap.size, 4, none⟩ = some (.int .i64 c.r.f) ∧ w'.cell? ⟨w.heap.size, 5, none⟩ = some (.int .i64 c.r.m) ∧ w'.cell? ⟨w.heap.size, 6, none⟩ = some (.bool c.r.s) ∧ w'.cell? ⟨w.heap.size, 7, none⟩ = some (.bool c.r.t) ∧ w'.cell? ⟨w.heap.size, 8, none⟩ = some (.slice e c.bx.length ce) ∧ w'.cell? ⟨w.heap.size, 9, none⟩ = some (.slice q c.bm cq) ∧ w'.cell? ⟨w.heap.size, 10, none⟩ = some (.bool c.st) ∧ w'.cell? ⟨w.heap.size, 11, none⟩ = some (.bool c.ha)) (first | exact cpu12 B4.out | exact cpu12 B3.out | exact cpu12 (show Blk _ _ _ _ from HBA.out) | exact cpu12 (B4.out.alloc _))
    (first | (go_at_call 51; have z9 := B3; refine (boardOf _ e q ce cq c.bm c.bx c.bl (HE.out.keptS K3.out) (HQ.out.keptS K3.out) LB.out LL.out LM.out).mono ?_; rintro e9 w4 ⟨g, rfl, hb4, hg4, k4⟩; have B4 := hide (B3.out.kept0 k4); have G4 := hide hb4; have L4 := hide hg4; have K4 := hide (K3.out.trans k4); clear hb4 hg4 k4) | (go_at_call 50; refine (bankOf _ c.r a b ca cb (HA.out.keptS (kept_drew (Kept.refl _ _ _))) (HB.out.keptS (kept_drew (Kept.refl _ _ _))) LX.out LY.out).mono ?_; rintro e9 w3 ⟨rfl, kd⟩; have k3 := undrewK kd; have B3 := hide (HBA.out.kept0 k3); have K3 := hide k3; clear kd k3))
  go_wp2_with fail
  go_ret
  have s0 := K0.out.size
  have s3 := K3.out.size
  have l4 := L4.out
  have g4 := G4.out.lt
  refine ⟨w4.heap.size, g, rfl, ⟨c.bm, Blk.new w4 _ _, ⟨own5_of_blk (G4.out.alloc _) LL.out (by omega) (show c.bm ≤ 2000000 by have := LM.out; omega), ?_, ?_⟩⟩, K0.out.trans (kept_new K4.out _)⟩
  · have := K4.out.size; omega
  · omega
theorem CAt.all16 {w : World} {lo b g : Nat} {c : Pl.Mc} {h : Bool} (a : CAt w lo b g c h) (l : c.bx.length = 512) : w.cell? ⟨b, 0, none⟩ = some (.int .i64 (el c.r.xs 0)) ∧ w.cell? ⟨b, 1, none⟩ = some (.int .i64 (el c.r.xs 1)) ∧ w.cell? ⟨b, 2, none⟩ = some (.int .i64 (el c.r.xs 2)) ∧ w.cell? ⟨b, 3, none⟩ = some (.int .i64 (el c.r.xs 3)) ∧ w.cell? ⟨b, 4, none⟩ = some (.int .i64 (el c.r.ys 0)) ∧ w.cell? ⟨b, 5, none⟩ = some (.int .i64 (el c.r.ys 1)) ∧ w.cell? ⟨b, 6, none⟩ = some (.int .i64 (el c.r.ys 2)) ∧ w.cell? ⟨b, 7, none⟩ = some (.int .i64 (el c.r.ys 3)) ∧ w.cell? ⟨b, 8, none⟩ = some (.int .i64 c.r.o) ∧ w.cell? ⟨b, 9, none⟩ = some (.int .i64 c.r.p) ∧ w.cell? ⟨b, 10, none⟩ = some (.int .i64 c.r.f) ∧ w.cell? ⟨b, 11, none⟩ = some (.int .i64 c.r.m) ∧ w.cell? ⟨b, 12, none⟩ = some (.bool c.r.s) ∧ w.cell? ⟨b, 13, none⟩ = some (.bool c.r.t) ∧ w.cell? ⟨b, 527, none⟩ = some (.bool c.st) ∧ w.cell? ⟨b, 528, none⟩ = some (.bool h) :=
  ⟨a.cX (by omega), a.cX (by omega), a.cX (by omega), a.cX (by omega), a.cY (k := 0) (by omega), a.cY (k := 1) (by omega), a.cY (k := 2) (by omega), a.cY (k := 3) (by omega), a.cO, a.cP, a.cF, a.cM, a.cS, a.cT, a.cSt l, a.cH l⟩
set_option maxRecDepth 100000 in
set_option maxHeartbeats 4000000 in
theorem cBus (w : World) {r : Pl.Rg} {st ha : Bool} (b : Nat) (xs : List Int) (d : Option Addr) (n c : Nat) (hB : Blk w b (cor r xs (.slice d n c) st ha) 97) (lx : xs.length = 512) :
    Calls Tryz.prog 55 #[.pointer (some ⟨b, 14, none⟩)] w fun e w' => ∃ g : Nat, e = .returned (.agg #[.slice (some ⟨g, 0, none⟩) 512 512, .slice d n c]) ∧ Blk w' g (cellsOf xs) 3 ∧ w.heap.size ≤ g ∧ Kept 0 0 w w' := by
  have HX := hide lx
  have HB := hide hB
  have hu := Tryz.underlying92
  have hcs : (xs.map (Value.int .i64)).length = 512 := by rw [List.length_map, lx]
  have hi : (Tryz.prog.info? 92).map (·.size) = some (xs.map (Value.int .i64)).length := by rw [hcs]; exact Tryz.memSize
  have h1 : ∀ v ∈ xs.map (Value.int .i64), v.oneCell' = true := news_one
  have hlt := hB.lt
  have HR := hide ((Blk.new w #[.slice none 0 0, .slice none 0 0] 34))
  have K0 := hide (kept_alloc w (.cells #[.slice none 0 0, .slice none 0 0] 34))
  have B0 := hide (hB.alloc (.cells #[.slice none 0 0, .slice none 0 0] 34))
  clear hB lx
  go_enter Tryz.func55, Tryz.ntmps55
  go_wp2_with fail
  obtain ⟨W, hW⟩ : ∃ W : World, W = w.alloc (.cells #[.slice none 0 0, .slice none 0 0] 34) := ⟨_, rfl⟩
  rw [← hW] at HR K0 B0 ⊢
  clear hW
  obtain ⟨r1, r2⟩ := corS B0.out HX.out
  go_region_held3 (fun w' => w'.rangeAt b 14 (xs.map (Value.int .i64)) ∧ w'.cell? ⟨b, 526, none⟩ = some (.slice d n c)) (first | exact corS B3.out HX.out | exact corS ((B3.out.other _ _ _ (by omega)).other _ _ _ (by omega)) HX.out | go_keep_ranges | go_keep)
    (first | (go_at_call 103; refine (memList _ xs HX.out).mono ?_; rintro e w3 ⟨g, rfl, hb3, hg3, kd⟩; have k3 := undrewK kd; have B3 := hide (B0.out.kept0 k3); have R3 := hide (HR.out.kept0 k3); have q0 := R3.out.cell (i := 0) rfl; have q1 := R3.out.cell (i := 1) rfl; have f0 := R3.out.frozen 0; have f1 := R3.out.frozen 1; have G3 := hide hb3; have L3 := hide hg3; have K3 := hide (K0.out.trans k3); clear hb3 hg3 kd k3))
  go_wp2_with fail
  have l3 : W.heap.size ≤ g := L3.out
  have k0 := K0.out.size
  have k1 := HR.out.lt
  refine bodyPost_ret (v := .agg #[.slice (some ⟨g, 0, none⟩) 512 512, .slice d n c]) ?_ rfl ⟨g, rfl, ?_, by omega, ?_⟩
  · rw [results_one rfl]; go_simp
  · exact (G3.out.other _ _ _ (by omega)).other _ _ _ (by omega)
  · exact kept_set (kept_set K3.out _ _ _ (.inr (by omega))) _ _ _ (.inr (by omega))
set_option maxRecDepth 100000 in
set_option maxHeartbeats 4000000 in
theorem cCpu (w : World) (lo b g : Nat) (c : Pl.Mc) (h : Bool) (hC : CAt w lo b g c h) (G : Pl.GM c) :
    Calls Tryz.prog 24 #[.pointer (some ⟨b, 0, none⟩)] w fun r w' => ∃ (a' b' e' q' : Option Addr) (ca' cb' ce' cq' : Nat), r = .returned (.agg (cpuV (c.cpu h) a' b' e' q' ca' cb' ce' cq')) ∧ CpuIn w' lo (c.cpu h) a' b' e' q' ∧ Kept 0 0 w w' := by
  obtain ⟨l0, l1, l2, l3, l4⟩ := hC.lt
  have K0 := hide (kept_alloc w (.cells #[.slice none 0 0, .slice none 0 0, .int .i64 0, .int .i64 0, .int .i64 0, .int .i64 0, .bool false, .bool false, .slice none 0 0, .slice none 0 0, .bool false, .bool false] 36))
  have R0 := hide (Blk.new w #[.slice none 0 0, .slice none 0 0, .int .i64 0, .int .i64 0, .int .i64 0, .int .i64 0, .bool false, .bool false, .slice none 0 0, .slice none 0 0, .bool false, .bool false] 36)
  have C0 := hide (hC.alloc (.cells #[.slice none 0 0, .slice none 0 0, .int .i64 0, .int .i64 0, .int .i64 0, .int .i64 0, .bool false, .bool false, .slice none 0 0, .slice none 0 0, .bool false, .bool false] 36))
  have LX := hide G.g.d4
  have LY := hide G.g.a4
  have LB := hide G.bx
  clear hC G
  obtain ⟨X, hX⟩ : ∃ X : World, w.alloc (.cells #[.slice none 0 0, .slice none 0 0, .int .i64 0, .int .i64 0, .int .i64 0, .int .i64 0, .bool false, .bool false, .slice none 0 0, .slice none 0 0, .bool false, .bool false] 36) = X := ⟨_, rfl⟩
  rw [hX] at K0 R0 C0
  obtain ⟨i0, i1, i2, i3, i4, i5, i6, i7, i8, i9, i10, i11, i12, i13, j1, j2⟩ := C0.out.all16 LB.out
  go_enter Tryz.func24, Tryz.ntmps24
  go_wp2_with fail
  clear hX
  go_region_held3 (fun w' => w'.cell? ⟨b, 0, none⟩ = some (.int .i64 (el c.r.xs 0)) ∧ w'.cell? ⟨b, 1, none⟩ = some (.int .i64 (el c.r.xs 1)) ∧ w'.cell? ⟨b, 2, none⟩ = some (.int .i64 (el c.r.xs 2)) ∧ w'.cell? ⟨b, 3, none⟩ = some (.int .i64 (el c.r.xs 3)) ∧ w'.cell? ⟨b, 4, none⟩ = some (.int .i64 (el c.r.ys 0)) ∧ w'.cell? ⟨b, 5, none⟩ = some (.int .i64 (el c.r.ys 1)) ∧ w'.cell? ⟨b, 6, none⟩ = some (.int .i64 (el c.r.ys 2)) ∧ w'.cell? ⟨b, 7, none⟩ = some (.int .i64 (el c.r.ys 3)) ∧ w'.cell? ⟨b, 8, none⟩ = some (.int .i64 c.r.o) ∧ w'.cell? ⟨b, 9, none⟩ = some (.int .i64 c.r.p) ∧ w'.cell? ⟨b, 10, none⟩ = some (.int .i64 c.r.f) ∧ w'.cell? ⟨b, 11, none⟩ = some (.int .i64 c.r.m) ∧ w'.cell? ⟨b, 12, none⟩ = some (.bool c.r.s) ∧ w'.cell? ⟨b, 13, none⟩ = some (.bool c.r.t) ∧ w'.cell? ⟨b, 527, none⟩ = some (.bool c.st) ∧ w'.cell? ⟨b, 528, none⟩ = some (.bool h)) (first | with_reducible exact C4.out.all16 LB.out | with_reducible exact C3.out.all16 LB.out | with_reducible exact C0.out.drew.all16 LB.out | exact (C4.out.kept (((((((((((( kept_one _ w.heap.size _ _).one _ _).one _ _).one _ _).one _ _).one _ _).one _ _).one _ _).one _ _).one _ _).one _ _).one _ _) (by omega) (by omega)).all16 LB.out)
    (first | (go_at_call 55; have z9 := C3; obtain ⟨cu, hb9, ho9⟩ := C3.out; refine (cBus _ b c.bx _ _ _ hb9 LB.out).mono ?_; rintro e9 w4 ⟨gb, rfl, hb4, hg4, k4⟩; have C4 := hide (C3.out.any k4); have B4 := hide hb4; have L4 := hide hg4; have RI4 := hide (RI3.out.kept k4); have R4 := hide (R3.out.kept0 k4); have p := R4.out.all; have pf := R4.out.fz; have O4 := hide (ho9.any k4); have K4 := hide (K3.out.trans k4); clear hb4 hg4 k4 hb9 ho9) | (go_at_call 54; refine (bankRegs c.r _ LX.out LY.out).mono ?_; rintro e9 w3 ⟨a', b', ca', cb', rfl, hr3, kd⟩; have k3 := undrewK kd; have C3 := hide (C0.out.any k3); have R3 := hide (R0.out.kept0 k3); have RI3 := hide hr3; have K3 := hide k3; clear kd k3 hr3))
  go_wp2_with fail
  have K5 := ((((((((((((kept_one w4 w.heap.size 0 (.slice a' c.r.xs.length ca')).one 1 (.slice b' c.r.ys.length cb')).one 2 (.int .i64 c.r.o)).one 3 (.int .i64 c.r.p)).one 4 (.int .i64 c.r.f)).one 5 (.int .i64 c.r.m)).one 6 (.bool c.r.s)).one 7 (.bool c.r.t)).one 8 (.slice (some ⟨gb, 0, none⟩) 512 512)).one 9 (.slice (some ⟨g, 0, none⟩) c.bm cu)).one 10 (.bool c.st)).one 11 (.bool h))
  have s0 : w.heap.size < X.heap.size := R0.out.lt
  have s3 : X.heap.size ≤ w3.heap.size := K3.out.size
  have s4 : w3.heap.size ≤ w4.heap.size := by have := K4.out.size; have := L4.out; have := B4.out.lt; omega
  have l4 := L4.out
  have b4 := B4.out.lt
  have s5 := K5.size
  have ra : ∀ x, blk a' = some x → X.heap.size ≤ x ∧ x < w3.heap.size := by
    intro x hx
    rcases RI3.out.1 with ⟨e1, _⟩ | ⟨y, e1, y0, y1, _⟩
    · rw [e1] at hx; cases hx
    · rw [e1] at hx; have hx' : y = x := Option.some.inj hx; subst hx'; exact ⟨y0, y1⟩
  have rb : ∀ x, blk b' = some x → X.heap.size ≤ x ∧ x < w3.heap.size := by
    intro x hx
    rcases RI3.out.2.1 with ⟨e1, _⟩ | ⟨y, e1, y0, y1, _⟩
    · rw [e1] at hx; cases hx
    · rw [e1] at hx; have hx' : y = x := Option.some.inj hx; subst hx'; exact ⟨y0, y1⟩
  refine bodyPost_ret (v := .agg #[.slice a' c.r.xs.length ca', .slice b' c.r.ys.length cb', .int .i64 c.r.o, .int .i64 c.r.p, .int .i64 c.r.f, .int .i64 c.r.m, .bool c.r.s, .bool c.r.t, .slice (some ⟨gb, 0, none⟩) 512 512, .slice (some ⟨g, 0, none⟩) c.bm cu, .bool c.st, .bool h]) ?_ rfl ⟨a', b', some ⟨gb, 0, none⟩, some ⟨g, 0, none⟩, ca', cb', 512, cu, ?_, ⟨?_, ?_, ?_, ?_, RI3.out.2.2, ?_, ?_, ?_, ?_, ?_⟩, ?_⟩
  · rw [results_one rfl]; go_simp
  · unfold cpuV Pl.Mc.cpu; dsimp only; rw [LB.out]
  · exact (SlotIn.kept RI4.out.1 K5 (.inr (.inl (show w.heap.size + 1 ≤ X.heap.size by omega)))).wide (show lo ≤ X.heap.size by omega) s5
  · exact (SlotIn.kept RI4.out.2.1 K5 (.inr (.inl (show w.heap.size + 1 ≤ X.heap.size by omega)))).wide (show lo ≤ X.heap.size by omega) s5
  · exact .inr ⟨gb, rfl, by omega, by omega, own_of_blk (B4.out.kept K5 (by omega))⟩
  · exact .inr ⟨g, rfl, l2, by omega, own_of_row5 (ownsRow_keptS O4.out.l K5 (by omega))⟩
  · intro x h1 h2; have h3 : gb = x := Option.some.inj h2; have := ra x h1; omega
  · intro x h1 h2; have h3 : g = x := Option.some.inj h2; have := ra x h1; omega
  · intro x h1 h2; have h3 : gb = x := Option.some.inj h2; have := rb x h1; omega
  · intro x h1 h2; have h3 : g = x := Option.some.inj h2; have := rb x h1; omega
  · intro x h1 h2; have h3 : gb = x := Option.some.inj h1; have h4 : g = x := Option.some.inj h2; omega
  · exact kept_over (K0.out.trans K4.out) K5 (by omega)
end Go.Proofs.YtblddehlkaolbaaGreatDoor

namespace Go.Proofs.YtblddehlkaolbaaGreatDoor
open Go.RowKit
set_option linter.unusedVariables false
set_option maxHeartbeats 1000000 in
theorem implGoodCpu (w : World) (c : Pl.Cp) (a b e q : Option Addr) (ca cb ce cq : Nat) (ha : Came w a c.r.xs) (hb : Came w b c.r.ys) (he : Came w e c.bx) (hq : Came w q c.bl) (lx : c.r.xs.length ≤ 2000000) (ly : c.r.ys.length ≤ 2000000) (lb : c.bx.length ≤ 2000000) (ll : c.bl.length = 5 * c.bm) (lm : c.bm ≤ 2000000) (wf : Pl.WfR c.r) :
    Calls Tryz.prog 21 #[.agg #[.slice a c.r.xs.length ca, .slice b c.r.ys.length cb, .int .i64 c.r.o, .int .i64 c.r.p, .int .i64 c.r.f, .int .i64 c.r.m, .bool c.r.s, .bool c.r.t, .slice e c.bx.length ce, .slice q c.bm cq, .bool c.st, .bool c.ha]] w fun r w' => r = .returned (.bool (Pl.cpOk c)) ∧ Kept 0 0 w w' := by
  have K0 := hide (kept_alloc w (.cells #[.slice a c.r.xs.length ca, .slice b c.r.ys.length cb, .int .i64 c.r.o, .int .i64 c.r.p, .int .i64 c.r.f, .int .i64 c.r.m, .bool c.r.s, .bool c.r.t, .slice e c.bx.length ce, .slice q c.bm cq, .bool c.st, .bool c.ha] 36))
  have HBA := hide (Blk.new w #[.slice a c.r.xs.length ca, .slice b c.r.ys.length cb, .int .i64 c.r.o, .int .i64 c.r.p, .int .i64 c.r.f, .int .i64 c.r.m, .bool c.r.s, .bool c.r.t, .slice e c.bx.length ce, .slice q c.bm cq, .bool c.st, .bool c.ha] 36)
  obtain ⟨X, hX⟩ : ∃ X : World, w.alloc (.cells #[.slice a c.r.xs.length ca, .slice b c.r.ys.length cb, .int .i64 c.r.o, .int .i64 c.r.p, .int .i64 c.r.f, .int .i64 c.r.m, .bool c.r.s, .bool c.r.t, .slice e c.bx.length ce, .slice q c.bm cq, .bool c.st, .bool c.ha] 36) = X := ⟨_, rfl⟩
  rw [hX] at K0 HBA
  have HA := hide (ha.keptS K0.out)
  have HB := hide (hb.keptS K0.out)
  have HE := hide (he.keptS K0.out)
  have HQ := hide (hq.keptS K0.out)
  clear ha hb he hq
  have p := HBA.out.all
  cases h1 : Pl.rgOk c.r
  · go_enter Tryz.func21, Tryz.ntmps21
    go_wp2_with (go_at_call 48; refine (implGoodRegs _ c.r a b ca cb HA.out HB.out lx ly wf).mono ?_; rintro e9 W ⟨rfl, k9⟩; rw [h1]; have HK1 := hide k9; have HB1 := hide (HBA.out.kept0 k9); have HE1 := hide (HE.out.keptS k9); have HQ1 := hide (HQ.out.keptS k9); clear k9 p; have p := HB1.out.all)
    go_ret
    exact ⟨rB (by unfold Pl.cpOk; simp [h1]), K0.out.trans HK1.out⟩
  · cases h2 : Pl.goodBus c.bx c.bl c.bm
    · go_enter Tryz.func21, Tryz.ntmps21
      go_wp2_with (first | (go_at_call 49; have z9 := HB1; refine (goodBus _ e q ce cq c.bm c.bx c.bl HE1.out HQ1.out lb ll lm).mono ?_; rintro e9 W2 ⟨rfl, k9⟩; rw [h2]; have HK2 := hide k9; have HB2 := hide (HB1.out.kept0 k9); clear k9 p; have p := HB2.out.all) | (go_at_call 48; refine (implGoodRegs _ c.r a b ca cb HA.out HB.out lx ly wf).mono ?_; rintro e9 W ⟨rfl, k9⟩; rw [h1]; have HK1 := hide k9; have HB1 := hide (HBA.out.kept0 k9); have HE1 := hide (HE.out.keptS k9); have HQ1 := hide (HQ.out.keptS k9); clear k9 p; have p := HB1.out.all))
      go_ret
      exact ⟨rB (by unfold Pl.cpOk; simp [h1, h2]), (K0.out.trans HK1.out).trans HK2.out⟩
    · rcases Bool.eq_false_or_eq_true c.st with h3 | h3
      all_goals
        have H3 := hide h3
        clear h3
        go_enter Tryz.func21, Tryz.ntmps21
        go_wp2_with (first | (go_at_call 49; have z9 := HB1; refine (goodBus _ e q ce cq c.bm c.bx c.bl HE1.out HQ1.out lb ll lm).mono ?_; rintro e9 W2 ⟨rfl, k9⟩; rw [h2]; have HK2 := hide k9; have HB2 := hide (HB1.out.kept0 k9); clear k9 p; have p := HB2.out.all; rw [H3.out] at p) | (go_at_call 48; refine (implGoodRegs _ c.r a b ca cb HA.out HB.out lx ly wf).mono ?_; rintro e9 W ⟨rfl, k9⟩; rw [h1]; have HK1 := hide k9; have HB1 := hide (HBA.out.kept0 k9); have HE1 := hide (HE.out.keptS k9); have HQ1 := hide (HQ.out.keptS k9); clear k9 p; have p := HB1.out.all))
        go_ret
        exact ⟨rB (by unfold Pl.cpOk; simp [h1, h2, H3.out]), (K0.out.trans HK1.out).trans HK2.out⟩
end Go.Proofs.YtblddehlkaolbaaGreatDoor

namespace Go.Proofs.YtblddehlkaolbaaGreatDoor
open Go.RowKit
set_option linter.unusedVariables false
theorem ft5s {w : World} {q : Nat} {F : Pl.Ft} {ty : TypeId} (h : Blk w q (ftC F) ty) : w.cell? ⟨q, 0, none⟩ = some (.int .i64 F.v) ∧ w.cell? ⟨q, 1, none⟩ = some (.int .i64 F.pc) ∧ w.cell? ⟨q, 2, none⟩ = some (.int .i64 F.ad) ∧ w.cell? ⟨q, 3, none⟩ = some (.int .i64 F.wo) ∧ w.cell? ⟨q, 4, none⟩ = some (.bool F.wr) :=
  ⟨h.cell (i := 0) rfl, h.cell (i := 1) rfl, h.cell (i := 2) rfl, h.cell (i := 3) rfl, h.cell (i := 4) rfl⟩
theorem CpuIn.mvs {w w' : World} {base base' x y : Nat} {c : Pl.Cp} {a b e q : Option Addr} (h : CpuIn w base c a b e q) (k : Kept x y w w') (hy : y ≤ base) (hb : base' ≤ base) : CpuIn w' base' c a b e q :=
  ⟨(SlotIn.kept h.d k (.inr (.inl hy))).wide hb k.size, (SlotIn.kept h.a' k (.inr (.inl hy))).wide hb k.size, (SlotIn.kept h.b' k (.inr (.inl hy))).wide hb k.size, (SlotIn.kept h.l k (.inr (.inl hy))).wide hb k.size, h.n1, h.n2, h.n3, h.n4, h.n5, h.n6⟩
theorem kept_since3 {w a b : World} {lo hi g g' : Nat} (k : Kept 0 0 w a) (h : Since a lo hi g b g') (hl : w.heap.size ≤ lo) (hg : w.heap.size ≤ g) : Kept 0 0 w b :=
  ⟨h.2.os.trans k.os, h.2.tape.trans k.tape, h.2.output.trans k.output, Nat.le_trans k.size h.2.size, fun i hi _ => (h.2.block i (Nat.lt_of_lt_of_le hi k.size) (by unfold own; omega)).trans (k.block i hi (by omega))⟩
theorem results_cct {fn : Func} {p q v : Tmp} {ty tz : TypeId} (h : fn.results = #[.cell p ty, .cell q tz, .tmp v]) (tmps : Array Value) (P : Program) (w : World) :
    (results fn tmps).run P w = ((asAddr (tmps.getD p undef)).run P w).andThen fun a w₁ => ((loadVar ty a).run P w₁).andThen fun x w₂ => ((asAddr (tmps.getD q undef)).run P w₂).andThen fun b w₃ => ((loadVar tz b).run P w₃).andThen fun y w₄ => .ok (.tuple #[x, y, tmps.getD v undef]) w₄ := by
  simp only [results, h]
  simp [Sem.run_bind, Result.andThen]
theorem tabsAt_of {w W : World} {lo : Nat} (hs : TabS w) (hn : TabN w) (k : Kept 0 0 w W) (h : w.heap.size ≤ lo) : TabsAt W lo := by
  have h1 := World.block_lt_of_cell? _ _ (hs 0 (by omega))
  have h2 := World.block_lt_of_cell? _ _ (hn 0 (by omega))
  exact ⟨hs.below k.below, hn.below k.below, Nat.lt_of_lt_of_le h1 h, Nat.lt_of_lt_of_le h2 h⟩
theorem Blk.past12 {w : World} {q p : Nat} {cs : Array Value} {ty : TypeId} {v0 v1 v2 v3 v4 v5 v6 v7 v8 v9 v10 v11 : Value} (h : Blk w q cs ty) (hn : q ≠ p) : Blk ((((((((((((w.setCell ⟨p, 0, none⟩ (v0)).setCell ⟨p, 1, none⟩ (v1)).setCell ⟨p, 2, none⟩ (v2)).setCell ⟨p, 3, none⟩ (v3)).setCell ⟨p, 4, none⟩ (v4)).setCell ⟨p, 5, none⟩ (v5)).setCell ⟨p, 6, none⟩ (v6)).setCell ⟨p, 7, none⟩ (v7)).setCell ⟨p, 8, none⟩ (v8)).setCell ⟨p, 9, none⟩ (v9)).setCell ⟨p, 10, none⟩ (v10)).setCell ⟨p, 11, none⟩ (v11)) q cs ty := h.kept ((((((((((((kept_one w p 0 (v0)).one 1 (v1)).one 2 (v2)).one 3 (v3)).one 4 (v4)).one 5 (v5)).one 6 (v6)).one 7 (v7)).one 8 (v8)).one 9 (v9)).one 10 (v10)).one 11 (v11)) (by omega)
theorem Blk.past5 {w : World} {q p : Nat} {cs : Array Value} {ty : TypeId} {v0 v1 v2 v3 v4 : Value} (h : Blk w q cs ty) (hn : q ≠ p) : Blk (((((w.setCell ⟨p, 0, none⟩ (v0)).setCell ⟨p, 1, none⟩ (v1)).setCell ⟨p, 2, none⟩ (v2)).setCell ⟨p, 3, none⟩ (v3)).setCell ⟨p, 4, none⟩ (v4)) q cs ty := h.kept (((((kept_one w p 0 (v0)).one 1 (v1)).one 2 (v2)).one 3 (v3)).one 4 (v4)) (by omega)
set_option maxRecDepth 100000 in
set_option maxHeartbeats 8000000 in
theorem implStepCpu (w : World) (c : Pl.Cp) (a b e q : Option Addr) (ca cb ce cq : Nat) (ha : Came w a c.r.xs) (hb : Came w b c.r.ys) (he : Came w e c.bx) (hq : Came w q c.bl) (lx : c.r.xs.length ≤ 2000000) (ly : c.r.ys.length ≤ 2000000) (lb : c.bx.length ≤ 2000000) (ll : c.bl.length = 5 * c.bm) (lm : c.bm ≤ 2000000) (wf : Pl.WfR c.r) (ht : TabS w) (hn : TabN w) :
    Calls Tryz.prog 8 #[.agg #[.slice a c.r.xs.length ca, .slice b c.r.ys.length cb, .int .i64 c.r.o, .int .i64 c.r.p, .int .i64 c.r.f, .int .i64 c.r.m, .bool c.r.s, .bool c.r.t, .slice e c.bx.length ce, .slice q c.bm cq, .bool c.st, .bool c.ha]] w fun r w' => ∃ (a' b' e' q' : Option Addr) (ca' cb' ce' cq' : Nat), r = .returned (.tuple #[.agg (cpuV (Pl.scC c) a' b' e' q' ca' cb' ce' cq'), .agg (ftC (Pl.scF c)), .bool (Pl.scOk c)]) ∧ CpuIn w' w.heap.size (Pl.scC c) a' b' e' q' ∧ Kept 0 0 w w' := by
  have K0 := hide (kept_new (kept_new (kept_alloc w (.cells #[.slice a c.r.xs.length ca, .slice b c.r.ys.length cb, .int .i64 c.r.o, .int .i64 c.r.p, .int .i64 c.r.f, .int .i64 c.r.m, .bool c.r.s, .bool c.r.t, .slice e c.bx.length ce, .slice q c.bm cq, .bool c.st, .bool c.ha] 36)) (.cells #[.slice none 0 0, .slice none 0 0, .int .i64 0, .int .i64 0, .int .i64 0, .int .i64 0, .bool false, .bool false, .slice none 0 0, .slice none 0 0, .bool false, .bool false] 36)) (.cells #[.int .i64 0, .int .i64 0, .int .i64 0, .int .i64 0, .bool false] 38))
  have BA := hide (((Blk.new w #[.slice a c.r.xs.length ca, .slice b c.r.ys.length cb, .int .i64 c.r.o, .int .i64 c.r.p, .int .i64 c.r.f, .int .i64 c.r.m, .bool c.r.s, .bool c.r.t, .slice e c.bx.length ce, .slice q c.bm cq, .bool c.st, .bool c.ha] 36).alloc (.cells #[.slice none 0 0, .slice none 0 0, .int .i64 0, .int .i64 0, .int .i64 0, .int .i64 0, .bool false, .bool false, .slice none 0 0, .slice none 0 0, .bool false, .bool false] 36)).alloc (.cells #[.int .i64 0, .int .i64 0, .int .i64 0, .int .i64 0, .bool false] 38))
  have R0 := (Blk.new (w.alloc (.cells #[.slice a c.r.xs.length ca, .slice b c.r.ys.length cb, .int .i64 c.r.o, .int .i64 c.r.p, .int .i64 c.r.f, .int .i64 c.r.m, .bool c.r.s, .bool c.r.t, .slice e c.bx.length ce, .slice q c.bm cq, .bool c.st, .bool c.ha] 36)) #[.slice none 0 0, .slice none 0 0, .int .i64 0, .int .i64 0, .int .i64 0, .int .i64 0, .bool false, .bool false, .slice none 0 0, .slice none 0 0, .bool false, .bool false] 36).alloc (.cells #[.int .i64 0, .int .i64 0, .int .i64 0, .int .i64 0, .bool false] 38)
  have Q0 := Blk.new ((w.alloc (.cells #[.slice a c.r.xs.length ca, .slice b c.r.ys.length cb, .int .i64 c.r.o, .int .i64 c.r.p, .int .i64 c.r.f, .int .i64 c.r.m, .bool c.r.s, .bool c.r.t, .slice e c.bx.length ce, .slice q c.bm cq, .bool c.st, .bool c.ha] 36)).alloc (.cells #[.slice none 0 0, .slice none 0 0, .int .i64 0, .int .i64 0, .int .i64 0, .int .i64 0, .bool false, .bool false, .slice none 0 0, .slice none 0 0, .bool false, .bool false] 36)) #[.int .i64 0, .int .i64 0, .int .i64 0, .int .i64 0, .bool false] 38
  simp only [World.size_alloc] at R0 Q0
  replace R0 := hide R0
  replace Q0 := hide Q0
  obtain ⟨X, hX⟩ : ∃ X : World, ((w.alloc (.cells #[.slice a c.r.xs.length ca, .slice b c.r.ys.length cb, .int .i64 c.r.o, .int .i64 c.r.p, .int .i64 c.r.f, .int .i64 c.r.m, .bool c.r.s, .bool c.r.t, .slice e c.bx.length ce, .slice q c.bm cq, .bool c.st, .bool c.ha] 36)).alloc (.cells #[.slice none 0 0, .slice none 0 0, .int .i64 0, .int .i64 0, .int .i64 0, .int .i64 0, .bool false, .bool false, .slice none 0 0, .slice none 0 0, .bool false, .bool false] 36)).alloc (.cells #[.int .i64 0, .int .i64 0, .int .i64 0, .int .i64 0, .bool false] 38) = X := ⟨_, rfl⟩
  rw [hX] at K0 BA R0 Q0
  have HA := hide (ha.keptS K0.out)
  have HB := hide (hb.keptS K0.out)
  have HE := hide (he.keptS K0.out)
  have HQ := hide (hq.keptS K0.out)
  have HS := hide ht
  have HT := hide hn
  have sX : w.heap.size + 1 + 1 < X.heap.size := Q0.out.lt
  clear ha hb he hq ht hn
  have p := BA.out.all
  cases h1 : Pl.cpOk c
  · have EO : Hid (Pl.scOk c = false) := hide (by unfold Pl.scOk; rw [h1]; rfl)
    have EC : Hid (Pl.scC c = Pl.cpNo) := hide (by unfold Pl.scC; rw [EO.out]; rfl)
    have EF : Hid (Pl.scF c = Pl.ftNo) := hide (by unfold Pl.scF; rw [EO.out]; rfl)
    go_enter Tryz.func8, Tryz.ntmps8
    go_wp2_with (go_at_call 21; refine (implGoodCpu _ c a b e q ca cb ce cq HA.out HB.out HE.out HQ.out lx ly lb ll lm wf).mono ?_; rintro e9 W1 ⟨rfl, k9⟩; rw [h1]; have K1 := hide k9; have R1 := hide (R0.out.kept0 k9); have Q1 := hide (Q0.out.kept0 k9); have p1 := (BA.out.kept0 k9).all; have r1 := R1.out.all; have rf1 := R1.out.fz; have q1 := Q1.out.all; have qf1 := Q1.out.fz; clear k9)
    have K5 := ((((((((((((kept_one W1 (w.heap.size + 1) 0 (.slice none 0 0)).one 1 (.slice none 0 0)).one 2 (.int .i64 0)).one 3 (.int .i64 0)).one 4 (.int .i64 0)).one 5 (.int .i64 0)).one 6 (.bool false)).one 7 (.bool false)).one 8 (.slice none 0 0)).one 9 (.slice none 0 0)).one 10 (.bool false)).one 11 (.bool false))
    have K6 := (((((kept_one ((((((((((((W1.setCell ⟨(w.heap.size + 1), 0, none⟩ (.slice none 0 0)).setCell ⟨(w.heap.size + 1), 1, none⟩ (.slice none 0 0)).setCell ⟨(w.heap.size + 1), 2, none⟩ (.int .i64 0)).setCell ⟨(w.heap.size + 1), 3, none⟩ (.int .i64 0)).setCell ⟨(w.heap.size + 1), 4, none⟩ (.int .i64 0)).setCell ⟨(w.heap.size + 1), 5, none⟩ (.int .i64 0)).setCell ⟨(w.heap.size + 1), 6, none⟩ (.bool false)).setCell ⟨(w.heap.size + 1), 7, none⟩ (.bool false)).setCell ⟨(w.heap.size + 1), 8, none⟩ (.slice none 0 0)).setCell ⟨(w.heap.size + 1), 9, none⟩ (.slice none 0 0)).setCell ⟨(w.heap.size + 1), 10, none⟩ (.bool false)).setCell ⟨(w.heap.size + 1), 11, none⟩ (.bool false)) (w.heap.size + 1 + 1) 0 (.int .i64 0)).one 1 (.int .i64 0)).one 2 (.int .i64 0)).one 3 (.int .i64 0)).one 4 (.bool false))
    have s1 := K1.out.size
    refine bodyPost_ret (v := .tuple #[.agg #[.slice none 0 0, .slice none 0 0, .int .i64 0, .int .i64 0, .int .i64 0, .int .i64 0, .bool false, .bool false, .slice none 0 0, .slice none 0 0, .bool false, .bool false], .agg #[.int .i64 0, .int .i64 0, .int .i64 0, .int .i64 0, .bool false], .bool false]) ?_ rfl ⟨none, none, none, none, 0, 0, 0, 0, by rw [EC.out, EF.out, EO.out]; rfl, by rw [EC.out]; exact cpuIn_no _ _, kept_over (kept_over (K0.out.trans K1.out) K5 (by omega)) K6 (by omega)⟩
    rw [results_cct rfl]; go_simp
  · have HG := hide (Pl.GM.of h1 ll c.st)
    rcases Bool.eq_false_or_eq_true c.st with hst | hst
    · have EO : Hid (Pl.scOk c = false) := hide (by unfold Pl.scOk; rw [h1, hst]; rfl)
      have EC : Hid (Pl.scC c = Pl.cpNo) := hide (by unfold Pl.scC; rw [EO.out]; rfl)
      have EF : Hid (Pl.scF c = Pl.ftNo) := hide (by unfold Pl.scF; rw [EO.out]; rfl)
      have HST := hide hst
      clear hst
      go_enter Tryz.func8, Tryz.ntmps8
      go_wp2_with (go_at_call 21; refine (implGoodCpu _ c a b e q ca cb ce cq HA.out HB.out HE.out HQ.out lx ly lb ll lm wf).mono ?_; rintro e9 W1 ⟨rfl, k9⟩; rw [h1]; have K1 := hide k9; have R1 := hide (R0.out.kept0 k9); have Q1 := hide (Q0.out.kept0 k9); have p1 := (BA.out.kept0 k9).all; rw [HST.out] at p1; have r1 := R1.out.all; have rf1 := R1.out.fz; have q1 := Q1.out.all; have qf1 := Q1.out.fz; clear k9)
      have K5 := ((((((((((((kept_one W1 (w.heap.size + 1) 0 (.slice none 0 0)).one 1 (.slice none 0 0)).one 2 (.int .i64 0)).one 3 (.int .i64 0)).one 4 (.int .i64 0)).one 5 (.int .i64 0)).one 6 (.bool false)).one 7 (.bool false)).one 8 (.slice none 0 0)).one 9 (.slice none 0 0)).one 10 (.bool false)).one 11 (.bool false))
      have K6 := (((((kept_one ((((((((((((W1.setCell ⟨(w.heap.size + 1), 0, none⟩ (.slice none 0 0)).setCell ⟨(w.heap.size + 1), 1, none⟩ (.slice none 0 0)).setCell ⟨(w.heap.size + 1), 2, none⟩ (.int .i64 0)).setCell ⟨(w.heap.size + 1), 3, none⟩ (.int .i64 0)).setCell ⟨(w.heap.size + 1), 4, none⟩ (.int .i64 0)).setCell ⟨(w.heap.size + 1), 5, none⟩ (.int .i64 0)).setCell ⟨(w.heap.size + 1), 6, none⟩ (.bool false)).setCell ⟨(w.heap.size + 1), 7, none⟩ (.bool false)).setCell ⟨(w.heap.size + 1), 8, none⟩ (.slice none 0 0)).setCell ⟨(w.heap.size + 1), 9, none⟩ (.slice none 0 0)).setCell ⟨(w.heap.size + 1), 10, none⟩ (.bool false)).setCell ⟨(w.heap.size + 1), 11, none⟩ (.bool false)) (w.heap.size + 1 + 1) 0 (.int .i64 0)).one 1 (.int .i64 0)).one 2 (.int .i64 0)).one 3 (.int .i64 0)).one 4 (.bool false))
      have s1 := K1.out.size
      refine bodyPost_ret (v := .tuple #[.agg #[.slice none 0 0, .slice none 0 0, .int .i64 0, .int .i64 0, .int .i64 0, .int .i64 0, .bool false, .bool false, .slice none 0 0, .slice none 0 0, .bool false, .bool false], .agg #[.int .i64 0, .int .i64 0, .int .i64 0, .int .i64 0, .bool false], .bool false]) ?_ rfl ⟨none, none, none, none, 0, 0, 0, 0, by rw [EC.out, EF.out, EO.out]; rfl, by rw [EC.out]; exact cpuIn_no _ _, kept_over (kept_over (K0.out.trans K1.out) K5 (by omega)) K6 (by omega)⟩
      rw [results_cct rfl]; go_simp
    · rcases Bool.eq_false_or_eq_true c.ha with hh | hh
      · have EO : Hid (Pl.scOk c = false) := hide (by unfold Pl.scOk; rw [h1, hst, hh]; rfl)
        have EC : Hid (Pl.scC c = Pl.cpNo) := hide (by unfold Pl.scC; rw [EO.out]; rfl)
        have EF : Hid (Pl.scF c = Pl.ftNo) := hide (by unfold Pl.scF; rw [EO.out]; rfl)
        have HST := hide hst
        have HH := hide hh
        clear hst hh
        go_enter Tryz.func8, Tryz.ntmps8
        go_wp2_with (go_at_call 21; refine (implGoodCpu _ c a b e q ca cb ce cq HA.out HB.out HE.out HQ.out lx ly lb ll lm wf).mono ?_; rintro e9 W1 ⟨rfl, k9⟩; rw [h1]; have K1 := hide k9; have R1 := hide (R0.out.kept0 k9); have Q1 := hide (Q0.out.kept0 k9); have p1 := (BA.out.kept0 k9).all; rw [HST.out, HH.out] at p1; have r1 := R1.out.all; have rf1 := R1.out.fz; have q1 := Q1.out.all; have qf1 := Q1.out.fz; clear k9)
        have K5 := ((((((((((((kept_one W1 (w.heap.size + 1) 0 (.slice none 0 0)).one 1 (.slice none 0 0)).one 2 (.int .i64 0)).one 3 (.int .i64 0)).one 4 (.int .i64 0)).one 5 (.int .i64 0)).one 6 (.bool false)).one 7 (.bool false)).one 8 (.slice none 0 0)).one 9 (.slice none 0 0)).one 10 (.bool false)).one 11 (.bool false))
        have K6 := (((((kept_one ((((((((((((W1.setCell ⟨(w.heap.size + 1), 0, none⟩ (.slice none 0 0)).setCell ⟨(w.heap.size + 1), 1, none⟩ (.slice none 0 0)).setCell ⟨(w.heap.size + 1), 2, none⟩ (.int .i64 0)).setCell ⟨(w.heap.size + 1), 3, none⟩ (.int .i64 0)).setCell ⟨(w.heap.size + 1), 4, none⟩ (.int .i64 0)).setCell ⟨(w.heap.size + 1), 5, none⟩ (.int .i64 0)).setCell ⟨(w.heap.size + 1), 6, none⟩ (.bool false)).setCell ⟨(w.heap.size + 1), 7, none⟩ (.bool false)).setCell ⟨(w.heap.size + 1), 8, none⟩ (.slice none 0 0)).setCell ⟨(w.heap.size + 1), 9, none⟩ (.slice none 0 0)).setCell ⟨(w.heap.size + 1), 10, none⟩ (.bool false)).setCell ⟨(w.heap.size + 1), 11, none⟩ (.bool false)) (w.heap.size + 1 + 1) 0 (.int .i64 0)).one 1 (.int .i64 0)).one 2 (.int .i64 0)).one 3 (.int .i64 0)).one 4 (.bool false))
        have s1 := K1.out.size
        refine bodyPost_ret (v := .tuple #[.agg #[.slice none 0 0, .slice none 0 0, .int .i64 0, .int .i64 0, .int .i64 0, .int .i64 0, .bool false, .bool false, .slice none 0 0, .slice none 0 0, .bool false, .bool false], .agg #[.int .i64 0, .int .i64 0, .int .i64 0, .int .i64 0, .bool false], .bool false]) ?_ rfl ⟨none, none, none, none, 0, 0, 0, 0, by rw [EC.out, EF.out, EO.out]; rfl, by rw [EC.out]; exact cpuIn_no _ _, kept_over (kept_over (K0.out.trans K1.out) K5 (by omega)) K6 (by omega)⟩
        rw [results_cct rfl]; go_simp
      · have EO : Hid (Pl.scOk c = true) := hide (by unfold Pl.scOk; rw [h1, hst, hh]; rfl)
        obtain ⟨e1, e2, e3⟩ := Pl.sp_step c (show Pl.GM (Pl.Mc.ofC c) from HG.out)
        obtain ⟨M, hM⟩ : ∃ M, M = (Pl.Mc.ofC c).sp := ⟨_, rfl⟩
        obtain ⟨F, hF⟩ : ∃ F, F = M.f := ⟨_, rfl⟩
        obtain ⟨N, hN⟩ : ∃ N, N = M.cpu false := ⟨_, rfl⟩
        have EC : Hid (Pl.scC c = N) := hide (by unfold Pl.scC; rw [EO.out, hN, hM, e2]; rfl)
        have EF : Hid (Pl.scF c = F) := hide (by unfold Pl.scF; rw [EO.out, hF, hM, e1]; rfl)
        have HGM : Hid (Pl.GM M) := hide (by rw [hM]; exact e3)
        have HST := hide hst
        have HH := hide hh
        have HM := hide hM
        have HF := hide hF
        have HN := hide hN
        clear hst hh hM hF hN e1 e2 e3
        go_enter Tryz.func8, Tryz.ntmps8
        go_wp2_with (first | (go_at_call 21; refine (implGoodCpu _ c a b e q ca cb ce cq HA.out HB.out HE.out HQ.out lx ly lb ll lm wf).mono ?_; rintro e9 W1 ⟨rfl, k9⟩; rw [h1]; have K1 := hide k9; have R1 := hide (R0.out.kept0 k9); have Q1 := hide (Q0.out.kept0 k9); have p1 := (BA.out.kept0 k9).all; rw [HST.out, HH.out] at p1; have r1 := R1.out.all; have rf1 := R1.out.fz; have q1 := Q1.out.all; have qf1 := Q1.out.fz; clear k9) | (go_at_call 22; have hr9 := coreOf W1 c a b e q ca cb ce cq (HA.out.keptS K1.out).1 (HB.out.keptS K1.out).1 (HE.out.keptS K1.out).1 (HQ.out.keptS K1.out).1 HG.out.g.d4 HG.out.g.a4 HG.out.bx ll HG.out.bm; rw [HST.out, HH.out] at hr9; refine hr9.mono ?_; rintro e9 W3 ⟨P, g, rfl, hc9, k9⟩; have C3 := hide hc9; have R3 := hide (R1.out.kept0 k9); have Q3 := hide (Q1.out.kept0 k9); have K3 := hide ((K0.out.trans K1.out).trans k9); have s3 : X.heap.size ≤ W1.heap.size := K1.out.size; obtain ⟨y0, y1, y2, y3, y4⟩ := hc9.lt; clear hc9 k9 hr9))
        clear p p1 r1 rf1 q1 qf1 hX
        refine (cStep _ W1.heap.size P g (Pl.Mc.ofC c) false C3.out (show Pl.GM (Pl.Mc.ofC c) from HG.out) rfl (tabsAt_of HS.out HT.out K3.out (by omega))).mono ?_
        rintro e9 W4 ⟨g', rfl, hc4, hs4⟩
        rw [← HM.out] at hc4 ⊢
        rw [← HF.out]
        have C4 := hide (hc4.alloc (.cells (ftC F) 38))
        have R4 := hide ((hs4.2.blk R3.out (by unfold own; omega)).alloc (.cells (ftC F) 38))
        have Q4 := hide ((hs4.2.blk Q3.out (by unfold own; omega)).alloc (.cells (ftC F) 38))
        have L4 := hide (Blk.new W4 (ftC F) 38)
        have S4 := hide hs4
        obtain ⟨x0, x1, x2, x3, x4⟩ := hc4.lt
        have s4 := hs4.size
        unfold ftC
        clear hc4 hs4
        go_wp2_with fail
        obtain ⟨Y, hY⟩ : ∃ Y : World, Y = W4.alloc (.cells #[.int .i64 F.v, .int .i64 F.pc, .int .i64 F.ad, .int .i64 F.wo, .bool F.wr] 38) := ⟨_, rfl⟩
        rw [← hY]
        have C5 : Hid (CAt Y W1.heap.size P g' M false) := hide (by rw [hY]; exact C4.out)
        have R5 : Hid (Blk Y (w.heap.size + 1) #[.slice none 0 0, .slice none 0 0, .int .i64 0, .int .i64 0, .int .i64 0, .int .i64 0, .bool false, .bool false, .slice none 0 0, .slice none 0 0, .bool false, .bool false] 36) := hide (by rw [hY]; exact R4.out)
        have Q5 : Hid (Blk Y (w.heap.size + 1 + 1) #[.int .i64 0, .int .i64 0, .int .i64 0, .int .i64 0, .bool false] 38) := hide (by rw [hY]; exact Q4.out)
        have L5 : Hid (Blk Y W4.heap.size (ftC F) 38) := hide (by rw [hY]; exact L4.out)
        have K5 : Hid (Kept 0 0 w Y) := hide (by rw [hY]; exact kept_new (kept_since3 K3.out S4.out (by omega) (by omega)) _)
        clear hY C4 R4 Q4 L4
        obtain ⟨t0, t1, t2, t3, t4⟩ := ft5s L5.out
        go_region_held3 (fun w' => w'.cell? ⟨W4.heap.size, 0, none⟩ = some (.int .i64 F.v) ∧ w'.cell? ⟨W4.heap.size, 1, none⟩ = some (.int .i64 F.pc) ∧ w'.cell? ⟨W4.heap.size, 2, none⟩ = some (.int .i64 F.ad) ∧ w'.cell? ⟨W4.heap.size, 3, none⟩ = some (.int .i64 F.wo) ∧ w'.cell? ⟨W4.heap.size, 4, none⟩ = some (.bool F.wr)) (first | with_reducible exact ft5s L6.out | with_reducible exact ft5s (Bd' L5.out) | with_reducible exact ft5s (L6.out.past12 (by omega)) | with_reducible exact ft5s ((L6.out.past12 (by omega)).past5 (by omega)))
          (first | (go_at_call 24; refine (cCpu _ W1.heap.size P g' M false C5.out.drew HGM.out).mono ?_; rintro e9 W6 ⟨a', b', e', q', ca', cb', ce', cq', rfl, hi6, kd⟩; have k6 := undrewK kd; rw [← HN.out] at hi6 ⊢; unfold cpuV; have I6 := hide hi6; have L6 := hide (L5.out.kept0 k6); have R6 := hide (R5.out.kept0 k6); have Q6 := hide (Q5.out.kept0 k6); have K6 := hide (K5.out.trans k6); have p6 := R6.out.all; have f6 := R6.out.fz; have q6 := Q6.out.all; have g6 := Q6.out.fz; clear kd k6 hi6))
        go_wp2_with fail
        have K7 := ((((((((((((kept_one W6 (w.heap.size + 1) 0 (.slice a' N.r.xs.length ca')).one 1 (.slice b' N.r.ys.length cb')).one 2 (.int .i64 N.r.o)).one 3 (.int .i64 N.r.p)).one 4 (.int .i64 N.r.f)).one 5 (.int .i64 N.r.m)).one 6 (.bool N.r.s)).one 7 (.bool N.r.t)).one 8 (.slice e' N.bx.length ce')).one 9 (.slice q' N.bm cq')).one 10 (.bool N.st)).one 11 (.bool N.ha))
        have K8 := (((((kept_one ((((((((((((W6.setCell ⟨(w.heap.size + 1), 0, none⟩ (.slice a' N.r.xs.length ca')).setCell ⟨(w.heap.size + 1), 1, none⟩ (.slice b' N.r.ys.length cb')).setCell ⟨(w.heap.size + 1), 2, none⟩ (.int .i64 N.r.o)).setCell ⟨(w.heap.size + 1), 3, none⟩ (.int .i64 N.r.p)).setCell ⟨(w.heap.size + 1), 4, none⟩ (.int .i64 N.r.f)).setCell ⟨(w.heap.size + 1), 5, none⟩ (.int .i64 N.r.m)).setCell ⟨(w.heap.size + 1), 6, none⟩ (.bool N.r.s)).setCell ⟨(w.heap.size + 1), 7, none⟩ (.bool N.r.t)).setCell ⟨(w.heap.size + 1), 8, none⟩ (.slice e' N.bx.length ce')).setCell ⟨(w.heap.size + 1), 9, none⟩ (.slice q' N.bm cq')).setCell ⟨(w.heap.size + 1), 10, none⟩ (.bool N.st)).setCell ⟨(w.heap.size + 1), 11, none⟩ (.bool N.ha)) (w.heap.size + 1 + 1) 0 (.int .i64 F.v)).one 1 (.int .i64 F.pc)).one 2 (.int .i64 F.ad)).one 3 (.int .i64 F.wo)).one 4 (.bool F.wr))
        refine bodyPost_ret (v := .tuple #[.agg #[.slice a' N.r.xs.length ca', .slice b' N.r.ys.length cb', .int .i64 N.r.o, .int .i64 N.r.p, .int .i64 N.r.f, .int .i64 N.r.m, .bool N.r.s, .bool N.r.t, .slice e' N.bx.length ce', .slice q' N.bm cq', .bool N.st, .bool N.ha], .agg #[.int .i64 F.v, .int .i64 F.pc, .int .i64 F.ad, .int .i64 F.wo, .bool F.wr], .bool true]) ?_ rfl ⟨a', b', e', q', ca', cb', ce', cq', by rw [EC.out, EF.out, EO.out]; rfl, by rw [EC.out]; exact (I6.out.mvs K7 (by omega) (Nat.le_refl _)).mvs K8 (by omega) (by omega), kept_over (kept_over K6.out K7 (by omega)) K8 (by omega)⟩
        rw [results_cct rfl]; go_simp
end Go.Proofs.YtblddehlkaolbaaGreatDoor

