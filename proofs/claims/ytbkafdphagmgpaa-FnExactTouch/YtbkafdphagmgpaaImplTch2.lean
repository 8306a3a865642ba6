/- What the program's functions over a board answer: a bus opened onto it and shut again. -/
import Derived.Test.YtbkafdphagmgpaaImplTch1
import Derived.Test.YtbkafdphagmgpaaImplNew
namespace Go.Proofs.Ytbkafdphagmgpaa
open Go.RowKit
set_option linter.unusedVariables false

theorem fold_set (off : Nat) : ∀ (l : List Value) (k : Nat) (A : Array Value) (i : Nat), off + k + l.length ≤ A.size →
    ((l.zipIdx k).foldl (fun a (x : Value × Nat) => a.setIfInBounds (off + x.2) x.1) A)[i]? = if off + k ≤ i ∧ i < off + k + l.length then l[i - (off + k)]? else A[i]?
  | [], k, A, i, h => by
    simp only [List.zipIdx_nil, List.foldl_nil, List.length_nil]
    rw [if_neg (by omega)]
  | v :: r, k, A, i, h => by
    simp only [List.length_cons] at h
    simp only [List.zipIdx_cons, List.foldl_cons, List.length_cons]
    rw [fold_set off r (k + 1) _ i (by simp; omega)]
    by_cases h1 : off + (k + 1) ≤ i ∧ i < off + (k + 1) + r.length
    · rw [if_pos h1, if_pos (by omega), show i - (off + k) = (i - (off + (k + 1))) + 1 by omega, List.getElem?_cons_succ]
    · rw [if_neg h1, Array.getElem?_setIfInBounds]
      by_cases h2 : off + k = i
      · rw [if_pos h2, if_pos (by omega), if_pos (by omega), show i - (off + k) = 0 by omega]; rfl
      · rw [if_neg h2, if_neg (by omega)]
theorem Try.infoBoard : (Try.prog.info? 71).map (fun i => (i.zero, i.size)) = some (some (.agg (brd zeros (.slice none 0 0))), 513) := by kernel_rfl
theorem Try.boardZero : ∀ w, (zeroValue 71).run Try.prog w = .ok (.agg (brd zeros (.slice none 0 0))) w := (zero_of_info Try.infoBoard).1
theorem Try.boardSize : (Try.prog.info? 71).map (·.size) = some 513 := (zero_of_info Try.infoBoard).2
theorem brd_size (xs : List Int) (u : Value) : (brd xs u).size = xs.length + 1 := by simp [brd, cellsOf]
theorem fold_size (off : Nat) : ∀ (l : List (Value × Nat)) (A : Array Value), (l.foldl (fun a (x : Value × Nat) => a.setIfInBounds (off + x.2) x.1) A).size = A.size
  | [], A => rfl
  | v :: r, A => by rw [List.foldl_cons, fold_size off r]; simp
/-- what 'fill' lays, of a part that fits -/
def laid (off : Nat) (cs A : Array Value) : Array Value := cs.zipIdx.foldl (fun a (x : Value × Nat) => a.setIfInBounds (off + x.2) x.1) A
theorem laid_size (off : Nat) (cs A : Array Value) : (laid off cs A).size = A.size := by
  unfold laid
  rw [← Array.foldl_toList]
  exact fold_size off _ A
theorem laid_at (off : Nat) (cs A : Array Value) (h : off + cs.size ≤ A.size) (i : Nat) : (laid off cs A)[i]? = if off ≤ i ∧ i < off + cs.size then cs[i - off]? else A[i]? := by
  unfold laid
  rw [← Array.foldl_toList, Array.toList_zipIdx]
  have := fold_set off cs.toList 0 A i (by simpa using h)
  simpa using this
theorem fill_two (cs A : Array Value) (u : Value) (hu : u.cells = #[u]) (hc : cs.size = 512) (hA : A.size = 513) :
    Instr.fill (#[(0, 512), (512, 1)][·]?) A [(0, .agg cs), (1, u)] = some (laid 512 #[u] (laid 0 cs A)) := by
  have h1 : ((laid 0 cs A)).size = 513 := by rw [laid_size, hA]
  have e1 : cs.zipIdx.foldl (fun a (x : Value × Nat) => a.setIfInBounds (0 + x.2) x.1) A = laid 0 cs A := rfl
  unfold Instr.fill
  simp only [Value.cells, List.getElem?_toArray, List.getElem?_cons_zero]
  rw [if_neg (by simp [hc, hA])]
  rw [e1]
  unfold Instr.fill
  simp only [hu, List.getElem?_cons_succ, List.getElem?_cons_zero]
  rw [if_neg (by simp [h1])]
  unfold Instr.fill
  rfl
theorem brd_one (xs : List Int) (u : Value) (h : u.oneCell' = true) : (brd xs u).all (·.oneCell') = true := by
  rw [Array.all_eq_true_iff_forall_mem]
  intro v hv
  simp only [brd, Array.mem_push] at hv
  rcases hv with hv | rfl
  · exact Array.all_eq_true_iff_forall_mem.1 (cellsOf_one xs) v hv
  · exact h
theorem build_two {P : Program} {ops : Array Oper} {rest : List Oper} {o : Oper} {a : Act} {w : World} {Q : Exit → Act → World → Prop} (hg : o.guard = none) (t : TypeId) (x y : Operand) (ho : o.op = .build t #[(0, x), (1, y)])
    (v u : Value) (hx : a.eval x = v) (hy : a.eval y = u) (cells : Array Value) (hf : P.built t [(0, v), (1, u)] = some cells)
    (h : wpList P ops Q rest (a.put o.dst (.agg cells)) w) : wpList P ops Q (o :: rest) a w := by
  have e : P.built t (#[(0, x), (1, y)].map fun (p : Nat × Operand) => (p.1, a.eval p.2)).toList = some cells := by
    simp [hx, hy, hf]
  refine wpList_build hg t #[(0, x), (1, y)] ho (by rw [e]; rfl) ?_
  rw [e]
  exact h
theorem boardBuilt (xs : List Int) (b : Option Addr) (n c : Nat) (lx : xs.length = 512) :
    Try.prog.built 71 [(0, .agg (cellsOf xs)), (1, .slice b n c)] = some (brd xs (.slice b n c)) := by
  have hp : (match Try.prog.underlying 71 with | some (.struct fields) => fields.toList.mapM (fun f => (Try.prog.info? f.type).map fun i => (f.offset, i.size)) | _ => none) = some [(0, 512), (512, 1)] := by kernel_rfl
  have e : Try.prog.built 71 [(0, .agg (cellsOf xs)), (1, .slice b n c)] = Instr.fill (#[(0, 512), (512, 1)][·]?) (brd zeros (.slice none 0 0)) [(0, .agg (cellsOf xs)), (1, .slice b n c)] := by
    have hi := Try.infoBoard
    unfold Program.built
    cases h1 : Try.prog.info? 71 with
    | none => rw [h1] at hi; cases hi
    | some it =>
      rw [h1] at hi
      have hz : it.zero = some (.agg (brd zeros (.slice none 0 0))) := congrArg (fun o => (o.map Prod.fst).getD none) hi
      cases h2 : Try.prog.underlying 71 with
      | none => rw [h2] at hp; cases hp
      | some d =>
        rw [h2] at hp
        cases d
        case struct fields =>
          have hp' : fields.toList.mapM (fun f => (Try.prog.info? f.type).map fun i => (f.offset, i.size)) = some [(0, 512), (512, 1)] := hp
          simp only [hz, hp']
          rfl
        all_goals cases hp
  rw [e, fill_two (cellsOf xs) (brd zeros (.slice none 0 0)) (.slice b n c) rfl (by rw [cellsOf_size, lx]) (by rw [brd_size, zeros_len])]
  refine congrArg some ?_
  apply Array.ext_getElem?
  intro i
  rw [laid_at 512 #[.slice b n c] _ (by rw [laid_size, brd_size, zeros_len]; simp), laid_at 0 _ _ (by rw [brd_size, zeros_len, cellsOf_size, lx]; decide), cellsOf_size, lx]
  simp only [brd, Array.getElem?_push, cellsOf_size, lx]
  by_cases h : i < 512
  · rw [if_neg (by simp; omega), if_pos (by omega), if_neg (by omega)]
    rfl
  · by_cases h2 : i = 512
    · subst h2
      rfl
    · have h3 : ¬ i < 513 := by omega
      rw [if_neg (by simp; omega), if_neg (by omega)]
      simp only [zeros_len]
      rw [if_neg h2, if_neg h2]
      rw [Array.getElem?_eq_none (by rw [cellsOf_size, zeros_len]; omega), Array.getElem?_eq_none (by rw [cellsOf_size, lx]; omega)]

/-- a row of accesses copied into a block as long -/
theorem copy5_at (W : World) (g m sCap : Nat) (sp : Option Addr) (ys : List Int) (cur : List Value) (t : TypeId) (hB : Blk W g cur.toArray t) (hr : IRow W sp ys) (hl : ys.length = 5 * m) (hc : cur.length = 5 * m) :
    ∃ W', (Builtin.copy_ #[23, 23] 3 #[.slice (some ⟨g, 0, none⟩) m m, .slice sp m sCap]).run Try.prog W = .ok (.int .i64 m) W' ∧ Blk W' g (cellsOf ys) t ∧ Kept g (g + 1) W W' := by
  obtain ⟨i, hi, hz0, hz1, hz2⟩ := info_parts Try.infoAcc
  have hmin : Nat.min m m = m := Nat.min_self m
  by_cases h0 : m = 0
  · subst h0
    obtain rfl : ys = [] := List.eq_nil_of_length_eq_zero (by omega)
    obtain rfl : cur = [] := List.eq_nil_of_length_eq_zero (by omega)
    refine ⟨W, ?_, hB, Kept.refl _ _ _⟩
    have hl0 : ∀ (x : Addr), (loadCells x 0).run Try.prog W = .ok #[] W := fun x => by simpa using run_loadCells_list (P := Try.prog) W x [] (by simp)
    cases sp <;> simp [Builtin.copy_, run_underlying Try.underlying23, Builtin.lenOf, Builtin.firstCells, sizeOf, typeInfo, hi, storeCells, hl0] <;> rfl
  · obtain ⟨ga, oa, rfl, _⟩ := hr 0 (by omega)
    have hld := run_loadCells_list (P := Try.prog) W ⟨ga, oa, none⟩ (ys.map (Value.int .i64)) (news_of hr)
    have hst := run_storeCells_at Try.prog g 0 t (ys.map (Value.int .i64)) 0 cur.toArray W hB (by simp [hl, hc]) news_one
    have e5 : (ys.map (Value.int .i64)).length = m * 5 := by rw [List.length_map, hl]; omega
    rw [e5] at hld
    have e : (List.take (0 + 0) cur.toArray.toList ++ ys.map (Value.int .i64) ++ List.drop (0 + 0 + (ys.map (Value.int .i64)).length) cur.toArray.toList) = ys.map (Value.int .i64) := by
      rw [List.drop_eq_nil_of_le (by simp [hl, hc])]; simp
    rw [e] at hst
    refine ⟨W.setRow g (cellsOf ys), ?_, hB.setRow, ⟨rfl, rfl, rfl, by simp, fun k hk hn => setRow_other W g k _ (by omega)⟩⟩
    simp [Builtin.copy_, run_underlying Try.underlying23, Builtin.lenOf, Builtin.firstCells, sizeOf, typeInfo, hi, hz1, hmin, hld]
    have hst' : (storeCells ⟨g, 0, none⟩ (ys.map (Value.int .i64))).run Try.prog W = .ok () (W.setRow g (cellsOf ys)) := hst
    rw [hst']
    rfl
theorem own5_of_blk {w : World} {base g m : Nat} {ys : List Int} (h : Blk w g (cellsOf ys) 61) (hl : ys.length = 5 * m) (hb : base ≤ g) (bm : m ≤ 2000000) : w.ownsRow base 61 5 (.slice (some ⟨g, 0, none⟩) m m) m (ys.map (Value.int .i64)) := by
  refine ⟨by simp [hl]; omega, .inr ⟨g, m, cellsOf ys, rfl, hb, h, Nat.le_refl _, by unfold maxLen; omega, by rw [cellsOf_size, hl]; omega, ?_⟩⟩
  rw [List.take_of_length_le (by simp [cellsOf, hl]; omega)]
  simp [cellsOf]

set_option maxHeartbeats 4000000 in
theorem boardOf (w : World) (a b : Option Addr) (ca cb m : Nat) (xs ys : List Int) (ha : IRow w a xs) (hb : IRow w b ys) (lx : xs.length = 512) (ly : ys.length = 5 * m) (bm : m ≤ 400) :
    Calls Try.prog 50 #[.agg #[.slice a xs.length ca, .slice b m cb]] w fun e w' => ∃ g : Nat, e = .returned (.agg (brd xs (.slice (some ⟨g, 0, none⟩) m m))) ∧ Blk w' g (cellsOf ys) 61 ∧ w.heap.size ≤ g ∧ Kept 0 0 w w' := by
  obtain ⟨i, hi, hz0, hz1, hz2⟩ := info_parts Try.infoAcc
  have HA := hide ha
  have HB := hide hb
  have HX := hide lx
  have HY := hide ly
  have bz := Try.boardZero
  have hbuilt := hide (boardBuilt xs (some ⟨w.heap.size + 1 + 1, 0, none⟩) m m lx)
  have K0 := hide (kept_new (kept_alloc w (.cells #[.slice a xs.length ca, .slice b m cb] 25)) (.cells (brd zeros (.slice none 0 0)) 71))
  have B0 := hide ((Blk.new w #[.slice a xs.length ca, .slice b m cb] 25).alloc (.cells (brd zeros (.slice none 0 0)) 71))
  have B1 := Blk.new (w.alloc (.cells #[.slice a xs.length ca, .slice b m cb] 25)) (brd zeros (.slice none 0 0)) 71
  simp only [World.size_alloc] at B1
  replace B1 := hide B1
  clear ha hb lx ly
  go_enter Try.func50, Try.ntmps50
  go_wp2_with (at_make; refine wpList_make_full _ rfl _ _ 23 rfl w.heap.size 61 i (.agg #[.int .i64 0, .int .i64 0, .int .i64 0, .int .i64 0, .int .i64 0]) 5 Try.underlying23 hi hz0 hz1 _ _ _ _ m rfl rfl rfl rfl ?c1 ?c2 ?c3 ?_)
  case c1 => rw [hz2]; omega
  case c2 => unfold maxLen; omega
  case c3 => simp; omega
  intro w1 hown hg
  have k1 := kept_grown hg
  have C0 := B0.out.kept0 k1
  have C1 := B1.out.kept0 k1
  have K1 := K0.out.trans k1
  obtain ⟨W2, hcopy, E2, k2⟩ := copy5_at w1 (w.heap.size + 1 + 1) m cb b ys _ _ (blk_of_row hown) (HB.out.keptS K1) HY.out (by rw [hown.1]; omega)
  have D0 := hide (C0.kept k2 (by omega))
  have D1 := hide (C1.kept k2 (by omega))
  have K2 := hide (kept_over K1 k2 (by omega))
  have H2 := hide E2
  have HZ : ∀ u, Hid ((Try.prog.info? 71).map (·.size) = some (brd xs u).size) := fun u => hide (by rw [brd_size, HX.out]; exact Try.boardSize)
  have HZ2 : ∀ u, Hid ((brd zeros (.slice none 0 0)).size = (brd xs u).size) := fun u => hide (by rw [brd_size, brd_size, HX.out, zeros_len])
  have p1 := C0.cell (i := 1) rfl
  have d0 := D0.out.cell (i := 0) rfl
  have d1 := D0.out.cell (i := 1) rfl
  clear hown hg k1 C0 C1 K1 E2 k2
  go_wp2_with (first
    | (go_at_call 57; refine (memoryOf _ a b ca cb m xs (HA.out.keptS K2.out) HX.out).mono ?_; rintro e w3 ⟨rfl, k3⟩; have D3 := hide (D1.out.kept0 k3); have H3 := hide (H2.out.kept0 k3); have K3 := hide (K2.out.trans k3); clear k3)
    | (refine build_two rfl 71 (.tmp 13) (.tmp 14) rfl (.agg (cellsOf xs)) (.slice (some ⟨w.heap.size + 1 + 1, 0, none⟩) m m) rfl rfl (brd xs (.slice (some ⟨w.heap.size + 1 + 1, 0, none⟩) m m)) hbuilt.out ?_)
    | (refine wpList_store_row rfl 71 (.tmp 2) (.tmp 15) rfl (w.heap.size + 1) (brd xs (.slice (some ⟨w.heap.size + 1 + 1, 0, none⟩) m m)) rfl rfl 71 (brd zeros (.slice none 0 0)) D3.out (HZ _).out (HZ2 _).out (brd_one _ _ rfl) ?_))
  refine bodyPost_ret (v := .agg (brd xs (.slice (some ⟨w.heap.size + 1 + 1, 0, none⟩) m m))) ?_ rfl ⟨w.heap.size + 1 + 1, rfl, H3.out.setRowOther (by omega), by omega, kept_setRow K3.out _ _ (by omega)⟩
  exact results_cell_row rfl _ _ _ _ _ (0, 0) _ rfl D3.out.setRow Try.underlying71 rfl (HZ _).out

theorem brdS {w : World} {b : Nat} {xs : List Int} {u : Value} {ty : TypeId} (h : Blk w b (brd xs u) ty) (lx : xs.length = 512) : w.rangeAt b 0 (xs.map (Value.int .i64)) ∧ w.cell? ⟨b, 512, none⟩ = some u := by
  refine ⟨?_, h.cell (brd_log lx)⟩
  intro j v hv
  have hj : j < xs.length := by
    rcases Nat.lt_or_ge j xs.length with h' | h'
    · exact h'
    · rw [List.getElem?_eq_none (by simpa using h')] at hv; cases hv
  rw [Nat.zero_add]
  refine h.cell ?_
  rw [brd_at hj]
  simpa [el, hj] using hv

set_option maxRecDepth 100000 in
set_option maxHeartbeats 4000000 in
theorem boardBus (w : World) (b : Nat) (xs : List Int) (d : Option Addr) (n c : Nat) (hB : Blk w b (brd xs (.slice d n c)) 71) (lx : xs.length = 512) :
    Calls Try.prog 52 #[.pointer (some ⟨b, 0, none⟩)] w fun e w' => ∃ g : Nat, e = .returned (.agg #[.slice (some ⟨g, 0, none⟩) 512 512, .slice d n c]) ∧ Blk w' g (cellsOf xs) 3 ∧ w.heap.size ≤ g ∧ Kept 0 0 w w' := by
  have HX := hide lx
  have HB := hide hB
  have hu := Try.underlying57
  have hcs : (xs.map (Value.int .i64)).length = 512 := by rw [List.length_map, lx]
  have hi : (Try.prog.info? 57).map (·.size) = some (xs.map (Value.int .i64)).length := by rw [hcs]; exact Try.memSize
  have h1 : ∀ v ∈ xs.map (Value.int .i64), v.oneCell' = true := news_one
  have hlt := hB.lt
  have HR := hide ((Blk.new w #[.slice none 0 0, .slice none 0 0] 25))
  have K0 := hide (kept_alloc w (.cells #[.slice none 0 0, .slice none 0 0] 25))
  have B0 := hide (hB.alloc (.cells #[.slice none 0 0, .slice none 0 0] 25))
  clear hB lx
  go_enter Try.func52, Try.ntmps52
  go_wp2_with fail
  obtain ⟨W, hW⟩ : ∃ W : World, W = w.alloc (.cells #[.slice none 0 0, .slice none 0 0] 25) := ⟨_, rfl⟩
  rw [← hW] at HR K0 B0 ⊢
  clear hW
  obtain ⟨r1, r2⟩ := brdS B0.out HX.out
  go_region_held3 (fun w' => w'.rangeAt b 0 (xs.map (Value.int .i64)) ∧ w'.cell? ⟨b, 512, none⟩ = some (.slice d n c)) (first | exact brdS B3.out HX.out | exact brdS ((B3.out.other _ _ _ (by omega)).other _ _ _ (by omega)) HX.out | go_keep_ranges | go_keep)
    (first | (go_at_call 37; refine (memList _ xs HX.out).mono ?_; rintro e w3 ⟨g, rfl, hb3, hg3, kd⟩; have k3 := undrewK kd; have B3 := hide (B0.out.kept0 k3); have R3 := hide (HR.out.kept0 k3); have q0 := R3.out.cell (i := 0) rfl; have q1 := R3.out.cell (i := 1) rfl; have f0 := R3.out.frozen 0; have f1 := R3.out.frozen 1; have G3 := hide hb3; have L3 := hide hg3; have K3 := hide (K0.out.trans k3); clear hb3 hg3 kd k3))
  go_wp2_with fail
  have l3 : W.heap.size ≤ g := L3.out
  have k0 := K0.out.size
  have k1 := HR.out.lt
  refine bodyPost_ret (v := .agg #[.slice (some ⟨g, 0, none⟩) 512 512, .slice d n c]) ?_ rfl ⟨g, rfl, ?_, by omega, ?_⟩
  · rw [results_one rfl]; go_simp
  · exact (G3.out.other _ _ _ (by omega)).other _ _ _ (by omega)
  · exact kept_set (kept_set K3.out _ _ _ (.inr (by omega))) _ _ _ (.inr (by omega))
end Go.Proofs.Ytbkafdphagmgpaa
