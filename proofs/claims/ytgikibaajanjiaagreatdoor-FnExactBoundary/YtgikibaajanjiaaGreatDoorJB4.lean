/- Part 4 of what the last text leans on. -/
import Derived.Test.YtgikibaajanjiaaGreatDoorJB2
set_option maxRecDepth 100000
set_option maxHeartbeats 16000000
namespace Go.Proofs.YtgikibaajanjiaaGreatDoor
open Go.RowKit Go.Proofs.Tryz
set_option linter.unusedVariables false
theorem pW {w:World} {g base size:Nat} {e:TypeId} (h:Blk w g #[] e) (hb:base<=g):w.ownsRow base e size (.slice (some (aaB g 0)) 0 0) 0 []:=
 ⟨by simp,.inr ⟨g,0,#[],rfl,hb,h,Nat.le_refl _,Nat.zero_le _,by simp,by simp⟩⟩
theorem Et {w w1:World} {o p q:Obj} {e:TypeId} (k:Kept 0 0 ((((w.alloc o).alloc p).alloc q).alloc (.cells #[] e)) w1):Blk w1 (w.heap.size+1+1+1) #[] e:=by
 have h:=(Blk.new (((w.alloc o).alloc p).alloc q) #[] e).ae k;simpa only [World.size_alloc] using h
theorem Eu {w w1:World} {o p q:Obj} {e:TypeId} (k:Kept 0 0 ((((w.alloc o).alloc p).alloc (.cells #[] e)).alloc q) w1):Blk w1 (w.heap.size+1+1) #[] e:=by
 have h:=((Blk.new ((w.alloc o).alloc p) #[] e).alloc q).ae k;simpa only [World.size_alloc] using h
theorem F8 (w : World) (ga oa : Nat) (ca cb : Nat) (xs : List Int) (ha : aG w (some ⟨ga, oa, none⟩) xs) (lx : xs.length <= 2000000) (x0 : 0 < xs.length) :
   Calls prog 130 #[.agg #[.slice (some ⟨ga, oa, none⟩) xs.length ca, .slice none 0 cb]] w fun e w' => ∃ (g1 c1 g2 c2 : Nat), e = .returned (.agg #[.slice (some ⟨g1, 0, none⟩) xs.length c1, .slice (some ⟨g2, 0, none⟩) 0 c2]) ∧ w'.ownsRow w.heap.size 3 1 (.slice (some ⟨g1, 0, none⟩) xs.length c1) xs.length (xs.map (Value.int .i64)) ∧ w'.ownsRow w.heap.size 179 5 (.slice (some ⟨g2, 0, none⟩) 0 c2) 0 [] ∧ g1 ≠ g2 ∧ Kept 0 0 w w' := by
  obtain ⟨i, hi, hz0, hz1, hz2⟩ := info_parts Tryz.info3;have HA := aaA ha;have K0 := aaA (ah (kept_alloc w (.cells #[.slice (some ⟨ga, oa, none⟩) xs.length ca, .slice none 0 cb] 38)) (.cells #[.slice none 0 0, .slice none 0 0] 38));have B0 := aaA ((Blk.new w #[.slice (some ⟨ga, oa, none⟩) xs.length ca, .slice none 0 cb] 38).alloc (.cells #[.slice none 0 0, .slice none 0 0] 38));have B1 := Blk.new (w.alloc (.cells #[.slice (some ⟨ga, oa, none⟩) xs.length ca, .slice none 0 cb] 38)) #[.slice none 0 0, .slice none 0 0] 38;simp only [World.size_alloc] at B1;replace B1 := aaA B1;have HX1 : Hid ((xs.map (Value.int .i64)).length = xs.length * 1) := aaA (by simp);have HXM : Hid (0 + xs.length <= maxLen) := aaA (by unfold maxLen; omega);have HXB : Hid ((0 + xs.length) * 8 <= 140737488355328) := aaA (by omega);clear ha;go_enter func130, ntmps130;go_wp2_with fail
  go_region_law (first
    | (refine step_append_grows rfl (.tmp 3) (.tmp 5) 22 rfl 3 i (iv 0) 1 8 underlying22 hi hz0 hz1 hz2 rfl Nat.one_pos _ 0 0 [] rfl ?n1 rfl ?n2 ⟨ga, oa, none⟩ xs.length ca (xs.map (Value.int .i64)) rfl HX1.o ?news iF ?n3 HXM.o HXB.o ?_
       (case n1 => intro h; cases h)
       (case n2 => intro b _ j u h; simp at h)
       (case n3 => omega)
       (case news => first | exact iL (HA.o.ag (ai (ah K0.o _))) | exact iL (HA.o.ag (ai (ah (ah K0.o _) _))))
       intro v1 w1 own1 gr1;obtain ⟨g1, c1, rfl, b1, l1⟩ := qU own1 (by omega);have k1 := aK (bf gr1);have O1 := aaA (own_base (base' := w.heap.size) own1 (by simp <;> omega));have B01 : Hid (Blk w1 w.heap.size #[.slice (some ⟨ga, oa, none⟩) xs.length ca, .slice none 0 cb] 38) := by first | exact aaA (((B0.o.alloc _).ae k1)) | exact aaA ((((B0.o.alloc _).alloc _).ae k1))
       have B11 : Hid (Blk w1 (w.heap.size + 1) #[.slice none 0 0, .slice none 0 0] 38) := by first | exact aaA (((B1.o.alloc _).ae k1)) | exact aaA ((((B1.o.alloc _).alloc _).ae k1))
       have K1 : Hid (Kept 0 0 w w1) := by first | exact aaA ((ah K0.o _).trans k1) | exact aaA ((ah (ah K0.o _) _).trans k1)
       have q1 := B01.o.cell (i := 1) rfl;have q2 : ∀ o, (w1.alloc o).cell? ⟨w.heap.size, 1, none⟩ = some (.slice none 0 cb) := fun o => (B01.o.alloc o).cell (i := 1) rfl
       (first
         | have E := aaA (Eu (e := 179) k1)
         | have E := aaA (Et (e := 179) k1)
         | skip)
       have r0 : ∀ o, (w1.alloc o).cell? ⟨w.heap.size + 1, 0, none⟩ = some (.slice none 0 0) := fun o => (B11.o.alloc o).cell (i := 0) rfl;have r1 : ∀ o, (w1.alloc o).cell? ⟨w.heap.size + 1, 1, none⟩ = some (.slice none 0 0) := fun o => (B11.o.alloc o).cell (i := 1) rfl;have f0 : ∀ o, (w1.alloc o).frozen? ⟨w.heap.size + 1, 0, none⟩ = false := fun o => (B11.o.alloc o).frozen 0;have f1 : ∀ o, (w1.alloc o).frozen? ⟨w.heap.size + 1, 1, none⟩ = false := fun o => (B11.o.alloc o).frozen 1;have r2 := B11.o.cell (i := 0) rfl;have r3 := B11.o.cell (i := 1) rfl;have f2 := B11.o.frozen 0;have f3 := B11.o.frozen 1;simp at b1
       clear own1 gr1 k1))
  all_goals
    have HS := K1.o.size;go_wp2_with fail;first
    | (refine bodyPost_ret (v := .agg #[.slice (some ⟨g1, 0, none⟩) xs.length c1, .slice (some ⟨w1.heap.size, 0, none⟩) 0 0]) ?_ rfl ⟨g1, c1, w1.heap.size, 0, rfl, ?_, ?_, by omega, ?_⟩
       · rw [aj rfl]; go_simp
       · have h := O1.o
         simp only [Nat.zero_add, List.nil_append] at h;exact (((h.alloc _).kept (grownBy_set _ _ _ _) (.inr (fun e => by have h2 : g1 = w.heap.size + 1 := Option.some.inj e; omega))).kept (grownBy_set _ _ _ _) (.inr (fun e => by have h2 : g1 = w.heap.size + 1 := Option.some.inj e; omega)))
       · have h := World.ownsRow_made (base := w.heap.size) (size := 5) (e := 179) w1 #[] 0 (by omega) (Nat.zero_le _) rfl
         exact ((h.kept (grownBy_set _ _ _ _) (.inr (fun e => by have h2 : w1.heap.size = w.heap.size + 1 := Option.some.inj e; omega))).kept (grownBy_set _ _ _ _) (.inr (fun e => by have h2 : w1.heap.size = w.heap.size + 1 := Option.some.inj e; omega)))
       · exact af (af (ah K1.o _) _ _ _ (.inr (by omega))) _ _ _ (.inr (by omega)))
    | (refine bodyPost_ret (v := .agg #[.slice (some ⟨g1, 0, none⟩) xs.length c1, .slice (some ⟨w.heap.size + 1 + 1 + 1, 0, none⟩) 0 0]) ?_ rfl ⟨g1, c1, w.heap.size + 1 + 1 + 1, 0, rfl, ?_, ?_, by omega, ?_⟩
       · rw [aj rfl]; go_simp
       · have h := O1.o
         simp only [Nat.zero_add, List.nil_append] at h;exact ((h.kept (grownBy_set _ _ _ _) (.inr (fun e => by have h2 : g1 = w.heap.size + 1 := Option.some.inj e; omega))).kept (grownBy_set _ _ _ _) (.inr (fun e => by have h2 : g1 = w.heap.size + 1 := Option.some.inj e; omega)))
       · exact pW ((E.o.other _ _ _ (by omega)).other _ _ _ (by omega)) (by omega)
       · exact af (af K1.o _ _ _ (.inr (by omega))) _ _ _ (.inr (by omega)))
    | (refine bodyPost_ret (v := .agg #[.slice (some ⟨g1, 0, none⟩) xs.length c1, .slice (some ⟨w.heap.size + 1 + 1, 0, none⟩) 0 0]) ?_ rfl ⟨g1, c1, w.heap.size + 1 + 1, 0, rfl, ?_, ?_, by omega, ?_⟩
       · rw [aj rfl]; go_simp
       · have h := O1.o
         simp only [Nat.zero_add, List.nil_append] at h;exact ((h.kept (grownBy_set _ _ _ _) (.inr (fun e => by have h2 : g1 = w.heap.size + 1 := Option.some.inj e; omega))).kept (grownBy_set _ _ _ _) (.inr (fun e => by have h2 : g1 = w.heap.size + 1 := Option.some.inj e; omega)))
       · exact pW ((E.o.other _ _ _ (by omega)).other _ _ _ (by omega)) (by omega)
       · exact af (af K1.o _ _ _ (.inr (by omega))) _ _ _ (.inr (by omega)))
theorem Cb (w : World) (ga oa : Nat) (gb ob : Nat) (ub : _) (ca cb : Nat) (xs : List Int) (ha : aG w (some ⟨ga, oa, none⟩) xs) (lx : xs.length <= 2000000) (x0 : 0 < xs.length) :
   Calls prog 130 #[.agg #[.slice (some ⟨ga, oa, none⟩) xs.length ca, .slice (some ⟨gb, ob, ub⟩) 0 cb]] w fun e w' => ∃ (g1 c1 g2 c2 : Nat), e = .returned (.agg #[.slice (some ⟨g1, 0, none⟩) xs.length c1, .slice (some ⟨g2, 0, none⟩) 0 c2]) ∧ w'.ownsRow w.heap.size 3 1 (.slice (some ⟨g1, 0, none⟩) xs.length c1) xs.length (xs.map (Value.int .i64)) ∧ w'.ownsRow w.heap.size 179 5 (.slice (some ⟨g2, 0, none⟩) 0 c2) 0 [] ∧ g1 ≠ g2 ∧ Kept 0 0 w w' := by
  obtain ⟨i, hi, hz0, hz1, hz2⟩ := info_parts Tryz.info3;have HA := aaA ha;have K0 := aaA (ah (kept_alloc w (.cells #[.slice (some ⟨ga, oa, none⟩) xs.length ca, .slice (some ⟨gb, ob, ub⟩) 0 cb] 38)) (.cells #[.slice none 0 0, .slice none 0 0] 38));have B0 := aaA ((Blk.new w #[.slice (some ⟨ga, oa, none⟩) xs.length ca, .slice (some ⟨gb, ob, ub⟩) 0 cb] 38).alloc (.cells #[.slice none 0 0, .slice none 0 0] 38));have B1 := Blk.new (w.alloc (.cells #[.slice (some ⟨ga, oa, none⟩) xs.length ca, .slice (some ⟨gb, ob, ub⟩) 0 cb] 38)) #[.slice none 0 0, .slice none 0 0] 38;simp only [World.size_alloc] at B1;replace B1 := aaA B1;have HX1 : Hid ((xs.map (Value.int .i64)).length = xs.length * 1) := aaA (by simp);have HXM : Hid (0 + xs.length <= maxLen) := aaA (by unfold maxLen; omega);have HXB : Hid ((0 + xs.length) * 8 <= 140737488355328) := aaA (by omega);clear ha;go_enter func130, ntmps130;go_wp2_with fail
  go_region_law (first
    | (refine step_append_grows rfl (.tmp 3) (.tmp 5) 22 rfl 3 i (iv 0) 1 8 underlying22 hi hz0 hz1 hz2 rfl Nat.one_pos _ 0 0 [] rfl ?n1 rfl ?n2 ⟨ga, oa, none⟩ xs.length ca (xs.map (Value.int .i64)) rfl HX1.o ?news iF ?n3 HXM.o HXB.o ?_
       (case n1 => intro h; cases h)
       (case n2 => intro b _ j u h; simp at h)
       (case n3 => omega)
       (case news => first | exact iL (HA.o.ag (ai (ah K0.o _))) | exact iL (HA.o.ag (ai (ah (ah K0.o _) _))))
       intro v1 w1 own1 gr1;obtain ⟨g1, c1, rfl, b1, l1⟩ := qU own1 (by omega);have k1 := aK (bf gr1);have O1 := aaA (own_base (base' := w.heap.size) own1 (by simp <;> omega));have B01 : Hid (Blk w1 w.heap.size #[.slice (some ⟨ga, oa, none⟩) xs.length ca, .slice (some ⟨gb, ob, ub⟩) 0 cb] 38) := by first | exact aaA (((B0.o.alloc _).ae k1)) | exact aaA ((((B0.o.alloc _).alloc _).ae k1))
       have B11 : Hid (Blk w1 (w.heap.size + 1) #[.slice none 0 0, .slice none 0 0] 38) := by first | exact aaA (((B1.o.alloc _).ae k1)) | exact aaA ((((B1.o.alloc _).alloc _).ae k1))
       have K1 : Hid (Kept 0 0 w w1) := by first | exact aaA ((ah K0.o _).trans k1) | exact aaA ((ah (ah K0.o _) _).trans k1)
       have q1 := B01.o.cell (i := 1) rfl;have q2 : ∀ o, (w1.alloc o).cell? ⟨w.heap.size, 1, none⟩ = some (.slice (some ⟨gb, ob, ub⟩) 0 cb) := fun o => (B01.o.alloc o).cell (i := 1) rfl
       (first
         | have E := aaA (Eu (e := 179) k1)
         | have E := aaA (Et (e := 179) k1)
         | skip)
       have r0 : ∀ o, (w1.alloc o).cell? ⟨w.heap.size + 1, 0, none⟩ = some (.slice none 0 0) := fun o => (B11.o.alloc o).cell (i := 0) rfl;have r1 : ∀ o, (w1.alloc o).cell? ⟨w.heap.size + 1, 1, none⟩ = some (.slice none 0 0) := fun o => (B11.o.alloc o).cell (i := 1) rfl;have f0 : ∀ o, (w1.alloc o).frozen? ⟨w.heap.size + 1, 0, none⟩ = false := fun o => (B11.o.alloc o).frozen 0;have f1 : ∀ o, (w1.alloc o).frozen? ⟨w.heap.size + 1, 1, none⟩ = false := fun o => (B11.o.alloc o).frozen 1;have r2 := B11.o.cell (i := 0) rfl;have r3 := B11.o.cell (i := 1) rfl;have f2 := B11.o.frozen 0;have f3 := B11.o.frozen 1;simp at b1
       clear own1 gr1 k1))
  all_goals
    have HS := K1.o.size;go_wp2_with fail;first
    | (refine bodyPost_ret (v := .agg #[.slice (some ⟨g1, 0, none⟩) xs.length c1, .slice (some ⟨w1.heap.size, 0, none⟩) 0 0]) ?_ rfl ⟨g1, c1, w1.heap.size, 0, rfl, ?_, ?_, by omega, ?_⟩
       · rw [aj rfl]; go_simp
       · have h := O1.o
         simp only [Nat.zero_add, List.nil_append] at h;exact (((h.alloc _).kept (grownBy_set _ _ _ _) (.inr (fun e => by have h2 : g1 = w.heap.size + 1 := Option.some.inj e; omega))).kept (grownBy_set _ _ _ _) (.inr (fun e => by have h2 : g1 = w.heap.size + 1 := Option.some.inj e; omega)))
       · have h := World.ownsRow_made (base := w.heap.size) (size := 5) (e := 179) w1 #[] 0 (by omega) (Nat.zero_le _) rfl
         exact ((h.kept (grownBy_set _ _ _ _) (.inr (fun e => by have h2 : w1.heap.size = w.heap.size + 1 := Option.some.inj e; omega))).kept (grownBy_set _ _ _ _) (.inr (fun e => by have h2 : w1.heap.size = w.heap.size + 1 := Option.some.inj e; omega)))
       · exact af (af (ah K1.o _) _ _ _ (.inr (by omega))) _ _ _ (.inr (by omega)))
    | (refine bodyPost_ret (v := .agg #[.slice (some ⟨g1, 0, none⟩) xs.length c1, .slice (some ⟨w.heap.size + 1 + 1 + 1, 0, none⟩) 0 0]) ?_ rfl ⟨g1, c1, w.heap.size + 1 + 1 + 1, 0, rfl, ?_, ?_, by omega, ?_⟩
       · rw [aj rfl]; go_simp
       · have h := O1.o
         simp only [Nat.zero_add, List.nil_append] at h;exact ((h.kept (grownBy_set _ _ _ _) (.inr (fun e => by have h2 : g1 = w.heap.size + 1 := Option.some.inj e; omega))).kept (grownBy_set _ _ _ _) (.inr (fun e => by have h2 : g1 = w.heap.size + 1 := Option.some.inj e; omega)))
       · exact pW ((E.o.other _ _ _ (by omega)).other _ _ _ (by omega)) (by omega)
       · exact af (af K1.o _ _ _ (.inr (by omega))) _ _ _ (.inr (by omega)))
    | (refine bodyPost_ret (v := .agg #[.slice (some ⟨g1, 0, none⟩) xs.length c1, .slice (some ⟨w.heap.size + 1 + 1, 0, none⟩) 0 0]) ?_ rfl ⟨g1, c1, w.heap.size + 1 + 1, 0, rfl, ?_, ?_, by omega, ?_⟩
       · rw [aj rfl]; go_simp
       · have h := O1.o
         simp only [Nat.zero_add, List.nil_append] at h;exact ((h.kept (grownBy_set _ _ _ _) (.inr (fun e => by have h2 : g1 = w.heap.size + 1 := Option.some.inj e; omega))).kept (grownBy_set _ _ _ _) (.inr (fun e => by have h2 : g1 = w.heap.size + 1 := Option.some.inj e; omega)))
       · exact pW ((E.o.other _ _ _ (by omega)).other _ _ _ (by omega)) (by omega)
       · exact af (af K1.o _ _ _ (.inr (by omega))) _ _ _ (.inr (by omega)))
end Go.Proofs.YtgikibaajanjiaaGreatDoor
