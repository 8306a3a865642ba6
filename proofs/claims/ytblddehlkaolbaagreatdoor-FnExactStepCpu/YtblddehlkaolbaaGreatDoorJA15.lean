/- Part 15 of what the last text leans on. -/
import Derived.Test.YtblddehlkaolbaaGreatDoorJA14
import Derived.Test.YtblddehlkaolbaaGreatDoorJA2
import Derived.Test.YtblddehlkaolbaaGreatDoorJA1
import Derived.Test.YtblddehlkaolbaaGreatDoorJA10
import Derived.Test.YtblddehlkaolbaaGreatDoorJA13
import Derived.Test.YtblddehlkaolbaaGreatDoorJA8
import Derived.Test.YtblddehlkaolbaaGreatDoorJA9
import Derived.Deep.DeepCutAuto
import Derived.Test.YtblddehlkaolbaaGreatDoorRows
import Derived.Lib.LaidTab
import Derived.Stop.LaidErr
import Derived.LaidMore
import Derived.Lib.SmallJoins
import Derived.Deep.Slices
import Derived.ProofKit
import Derived.OpenShut
set_option maxRecDepth 100000
set_option maxHeartbeats 16000000
namespace Go.Proofs.YtblddehlkaolbaaGreatDoor
open Go.RowKit Go.Proofs.Tryz
set_option linter.unusedVariables false
theorem zN (off:Nat):∀(l:List Value) (k:Nat) (A:Array Value) (i:Nat),off+k+l.length≤A.size→
  ((l.zipIdx k).foldl (fun a (x:Value × Nat)=>a.setIfInBounds (off+x.2) x.1) A)[i]? = if off+k≤i∧i<off+k+l.length then l[i-(off+k)]? else A[i]?
 | [],k,A,i,h=>by
  simp only [List.zipIdx_nil,List.foldl_nil,List.length_nil]
  rw [if_neg (by omega)]
 | v :: r,k,A,i,h=>by
  simp only [List.length_cons] at h
  simp only [List.zipIdx_cons,List.foldl_cons,List.length_cons]
  rw [zN off r (k+1) _ i (by simp;omega)]
  by_cases h1:off+(k+1)≤i∧i<off+(k+1)+r.length
  ·rw [if_pos h1,if_pos (by omega),show i-(off+k)=(i-(off+(k+1)))+1 by omega,List.getElem?_cons_succ]
  ·rw [if_neg h1,Array.getElem?_setIfInBounds]
   by_cases h2:off+k=i
   ·rw [if_pos h2,if_pos (by omega),if_pos (by omega),show i-(off+k)=0 by omega];rfl
   ·rw [if_neg h2,if_neg (by omega)]
theorem Tryz.sZ:(prog.info? 94).map (fun i=>(i.zero,i.size))=some (some (.agg (brd zeros (.slice none 0 0))),513):=by kernel_rfl
theorem Tryz.Gt:∀w,(zeroValue 94).run prog w=.ok (.agg (brd zeros (.slice none 0 0))) w:=(zero_of_info Tryz.sZ).1
theorem Tryz.Gu:(prog.info? 94).map (·.size)=some 513:=(zero_of_info Tryz.sZ).2
theorem ku (xs:List Int) (u:Value):(brd xs u).size=xs.length+1:=by simp [brd,cellsOf]
theorem fold_size (off:Nat):∀(l:List (Value × Nat)) (A:Array Value),(l.foldl (fun a (x:Value × Nat)=>a.setIfInBounds (off+x.2) x.1) A).size=A.size
 | [],A=>rfl
 | v :: r,A=>by rw [List.foldl_cons,fold_size off r];simp
def laid (off:Nat) (cs A:Array Value):Array Value:=cs.zipIdx.foldl (fun a (x:Value × Nat)=>a.setIfInBounds (off+x.2) x.1) A
theorem jo (off:Nat) (cs A:Array Value):(laid off cs A).size=A.size:=by
 unfold laid
 rw [←Array.foldl_toList]
 exact fold_size off _ A
theorem qA (off:Nat) (cs A:Array Value) (h:off+cs.size≤A.size) (i:Nat):(laid off cs A)[i]? = if off≤i∧i<off+cs.size then cs[i-off]? else A[i]? := by
 unfold laid
 rw [←Array.foldl_toList,Array.toList_zipIdx]
 have:=zN off cs.toList 0 A i (by simpa using h)
 simpa using this
theorem Ky (cs A:Array Value) (u:Value) (hu:u.cells=#[u]) (hc:cs.size=512) (hA:A.size=513) :
  Instr.fill (#[(0,512),(512,1)][·]?) A [(0,.agg cs),(1,u)]=some (laid 512 #[u] (laid 0 cs A)):=by
 have h1:((laid 0 cs A)).size=513:=by rw [jo,hA]
 have e1:cs.zipIdx.foldl (fun a (x:Value × Nat)=>a.setIfInBounds (0+x.2) x.1) A=laid 0 cs A:=rfl
 unfold Instr.fill
 simp only [Value.cells,List.getElem?_toArray,List.getElem?_cons_zero]
 rw [if_neg (by simp [hc,hA])]
 rw [e1]
 unfold Instr.fill
 simp only [hu,List.getElem?_cons_succ,List.getElem?_cons_zero]
 rw [if_neg (by simp [h1])]
 unfold Instr.fill
 rfl
theorem P9 (xs:List Int) (u:Value) (h:u.oneCell'=true):(brd xs u).all (·.oneCell')=true:=by
 rw [Array.all_eq_true_iff_forall_mem]
 intro v hv
 simp only [brd,Array.mem_push] at hv
 rcases hv with hv|rfl
 ·exact Array.all_eq_true_iff_forall_mem.1 (uk xs) v hv
 ·exact h
theorem Gs {P:Program} {ops:Array Oper} {rest:List Oper} {o:Oper} {a:Act} {w:World} {Q:Exit→Act→World→Prop} (hg:o.guard=none) (t:TypeId) (x y:Operand) (ho:o.op=.build t #[(0,x),(1,y)])
  (v u:Value) (hx:a.eval x=v) (hy:a.eval y=u) (cells:Array Value) (hf:P.built t [(0,v),(1,u)]=some cells)
  (h:wpList P ops Q rest (a.put o.dst (.agg cells)) w):wpList P ops Q (o :: rest) a w:=by
 have e:P.built t (#[(0,x),(1,y)].map fun (p:Nat × Operand)=>(p.1,a.eval p.2)).toList=some cells:=by
  simp [hx,hy,hf]
 refine wpList_build hg t #[(0,x),(1,y)] ho (by rw [e];rfl) ?_
 rw [e]
 exact h
theorem Cm (xs:List Int) (b:Option Addr) (n c:Nat) (lx:xs.length=512) :
  prog.built 94 [(0,.agg (cellsOf xs)),(1,.slice b n c)]=some (brd xs (.slice b n c)):=by
 have hp:(match prog.underlying 94 with|some (.struct fields)=>fields.toList.mapM (fun f=>(prog.info? f.type).map fun i=>(f.offset,i.size))|_=>none)=some [(0,512),(512,1)]:=by kernel_rfl
 have e:prog.built 94 [(0,.agg (cellsOf xs)),(1,.slice b n c)]=Instr.fill (#[(0,512),(512,1)][·]?) (brd zeros (.slice none 0 0)) [(0,.agg (cellsOf xs)),(1,.slice b n c)]:=by
  have hi:=Tryz.sZ
  unfold Program.built
  cases h1:prog.info? 94 with
  | none=>rw [h1] at hi;cases hi
  | some it=>
   rw [h1] at hi
   have hz:it.zero=some (.agg (brd zeros (.slice none 0 0))):=congrArg (fun o=>(o.map Prod.fst).getD none) hi
   cases h2:prog.underlying 94 with
   | none=>rw [h2] at hp;cases hp
   | some d=>
    rw [h2] at hp
    cases d
    case struct fields=>
     have hp':fields.toList.mapM (fun f=>(prog.info? f.type).map fun i=>(f.offset,i.size))=some [(0,512),(512,1)]:=hp
     simp only [hz,hp']
     rfl
    all_goals cases hp
 rw [e,Ky (cellsOf xs) (brd zeros (.slice none 0 0)) (.slice b n c) rfl (by rw [cellsOf_size,lx]) (by rw [ku,fK])]
 refine congrArg some ?_
 apply Array.ext_getElem?
 intro i
 rw [qA 512 #[.slice b n c] _ (by rw [jo,ku,fK];simp),qA 0 _ _ (by rw [ku,fK,cellsOf_size,lx];decide),cellsOf_size,lx]
 simp only [brd,Array.getElem?_push,cellsOf_size,lx]
 by_cases h:i<512
 ·rw [if_neg (by simp;omega),if_pos (by omega),if_neg (by omega)]
  rfl
 ·by_cases h2:i=512
  ·subst h2
   rfl
  ·have h3:¬i<513:=by omega
   rw [if_neg (by simp;omega),if_neg (by omega)]
   simp only [fK]
   rw [if_neg h2,if_neg h2]
   rw [Array.getElem?_eq_none (by rw [cellsOf_size,fK];omega),Array.getElem?_eq_none (by rw [cellsOf_size,lx];omega)]
theorem Lh (W:World) (g m sCap:Nat) (sp:Option Addr) (ys:List Int) (cur:List Value) (t:TypeId) (hB:Blk W g cur.toArray t) (hr:aI W sp ys) (hl:ys.length=5*m) (hc:cur.length=5*m) :
  ∃W',(Builtin.copy_ #[32,32] 3 #[.slice (some ⟨g,0,none⟩) m m,.slice sp m sCap]).run prog W=.ok (iv m) W'∧Blk W' g (cellsOf ys) t∧Kept g (g+1) W W':=by
 obtain ⟨i,hi,hz0,hz1,hz2⟩:=info_parts Tryz.jY
 have hmin:Nat.min m m=m:=Nat.min_self m
 by_cases h0:m=0
 ·subst h0
  obtain rfl:ys=[]:=List.eq_nil_of_length_eq_zero (by omega)
  obtain rfl:cur=[]:=List.eq_nil_of_length_eq_zero (by omega)
  refine ⟨W,?_,hB,Kept.refl _ _ _⟩
  have hl0:∀(x:Addr),(loadCells x 0).run prog W=.ok #[] W:=fun x=>by simpa using run_loadCells_list (P:=prog) W x [] (by simp)
  cases sp<;>simp [Builtin.copy_,run_underlying underlying32,Builtin.lenOf,Builtin.firstCells,sizeOf,typeInfo,hi,storeCells,hl0]<;>rfl
 ·obtain ⟨ga,oa,rfl,_⟩:=hr 0 (by omega)
  have hld:=run_loadCells_list (P:=prog) W ⟨ga,oa,none⟩ (ys.map (Value.int .i64)) (iO hr)
  have hst:=run_storeCells_at prog g 0 t (ys.map (Value.int .i64)) 0 cur.toArray W hB (by simp [hl,hc]) iH
  have e5:(ys.map (Value.int .i64)).length=m*5:=by rw [List.length_map,hl];omega
  rw [e5] at hld
  have e:(List.take (0+0) cur.toArray.toList++ys.map (Value.int .i64)++List.drop (0+0+(ys.map (Value.int .i64)).length) cur.toArray.toList)=ys.map (Value.int .i64):=by
   rw [List.drop_eq_nil_of_le (by simp [hl,hc])];simp
  rw [e] at hst
  refine ⟨W.setRow g (cellsOf ys),?_,hB.setRow,⟨rfl,rfl,rfl,by simp,fun k hk hn=>setRow_other W g k _ (by omega)⟩⟩
  simp [Builtin.copy_,run_underlying underlying32,Builtin.lenOf,Builtin.firstCells,sizeOf,typeInfo,hi,hz1,hmin,hld]
  have hst':(storeCells ⟨g,0,none⟩ (ys.map (Value.int .i64))).run prog W=.ok () (W.setRow g (cellsOf ys)):=hst
  rw [hst']
  rfl
theorem zl {w:World} {base g m:Nat} {ys:List Int} (h:Blk w g (cellsOf ys) 110) (hl:ys.length=5*m) (hb:base≤g) (bm:m≤2000000):w.ownsRow base 110 5 (.slice (some ⟨g,0,none⟩) m m) m (ys.map (Value.int .i64)):=by
 refine ⟨by simp [hl];omega,.inr ⟨g,m,cellsOf ys,rfl,hb,h,Nat.le_refl _,by unfold maxLen;omega,by rw [cellsOf_size,hl];omega,?_⟩⟩
 rw [List.take_of_length_le (by simp [cellsOf,hl];omega)]
 simp [cellsOf]
theorem Qb (w:World) (a b:Option Addr) (ca cb m:Nat) (xs ys:List Int) (ha:aI w a xs) (hb:aI w b ys) (lx:xs.length=512) (ly:ys.length=5*m) (bm:m≤400) :
  Calls prog 51 #[.agg #[.slice a xs.length ca,.slice b m cb]] w fun e w'=>∃g:Nat,e=.returned (.agg (brd xs (.slice (some ⟨g,0,none⟩) m m)))∧Blk w' g (cellsOf ys) 110∧w.heap.size≤g∧Kept 0 0 w w':=by
 obtain ⟨i,hi,hz0,hz1,hz2⟩:=info_parts Tryz.jY
 have HA:=hide ha
 have HB:=hide hb
 have HX:=hide lx
 have HY:=hide ly
 have bz:=Tryz.Gt
 have hbuilt:=hide (Cm xs (some ⟨w.heap.size+1+1,0,none⟩) m m lx)
 have K0:=hide (ah (kept_alloc w (.cells #[.slice a xs.length ca,.slice b m cb] 34)) (.cells (brd zeros (.slice none 0 0)) 94))
 have B0:=hide ((Blk.new w #[.slice a xs.length ca,.slice b m cb] 34).alloc (.cells (brd zeros (.slice none 0 0)) 94))
 have B1:=Blk.new (w.alloc (.cells #[.slice a xs.length ca,.slice b m cb] 34)) (brd zeros (.slice none 0 0)) 94
 simp only [World.size_alloc] at B1
 replace B1:=hide B1
 clear ha hb lx ly
 go_enter func51,ntmps51
 go_wp2_with (at_make;refine wpList_make_full _ rfl _ _ 32 rfl w.heap.size 110 i (.agg #[iv 0,iv 0,iv 0,iv 0,iv 0]) 5 underlying32 hi hz0 hz1 _ _ _ _ m rfl rfl rfl rfl ?c1 ?c2 ?c3 ?_)
 case c1=>rw [hz2];omega
 case c2=>unfold maxLen;omega
 case c3=>simp;omega
 intro w1 hown hg
 have k1:=bP hg
 have C0:=B0.o.af k1
 have C1:=B1.o.af k1
 have K1:=K0.o.trans k1
 obtain ⟨W2,hcopy,E2,k2⟩:=Lh w1 (w.heap.size+1+1) m cb b ys _ _ (vZ hown) (HB.o.ai K1) HY.o (by rw [hown.1];omega)
 have D0:=hide (C0.kept k2 (by omega))
 have D1:=hide (C1.kept k2 (by omega))
 have K2:=hide (dD K1 k2 (by omega))
 have H2:=hide E2
 have HZ:∀u,Hid ((prog.info? 94).map (·.size)=some (brd xs u).size):=fun u=>hide (by rw [ku,HX.o];exact Tryz.Gu)
 have HZ2:∀u,Hid ((brd zeros (.slice none 0 0)).size=(brd xs u).size):=fun u=>hide (by rw [ku,ku,HX.o,fK])
 have p1:=C0.cell (i:=1) rfl
 have d0:=D0.o.cell (i:=0) rfl
 have d1:=D0.o.cell (i:=1) rfl
 clear hown hg k1 C0 C1 K1 E2 k2
 go_wp2_with (first
  | (go_at_call 93;refine (IM _ a b ca cb m xs (HA.o.ai K2.o) HX.o).mono ?_;rintro e w3 ⟨rfl,k3⟩;have D3:=hide (D1.o.af k3);have H3:=hide (H2.o.af k3);have K3:=hide (K2.o.trans k3);clear k3)
  | (refine Gs rfl 94 (.tmp 13) (.tmp 14) rfl (.agg (cellsOf xs)) (.slice (some ⟨w.heap.size+1+1,0,none⟩) m m) rfl rfl (brd xs (.slice (some ⟨w.heap.size+1+1,0,none⟩) m m)) hbuilt.o ?_)
  | (refine wpList_store_row rfl 94 (.tmp 2) (.tmp 15) rfl (w.heap.size+1) (brd xs (.slice (some ⟨w.heap.size+1+1,0,none⟩) m m)) rfl rfl 94 (brd zeros (.slice none 0 0)) D3.o (HZ _).o (HZ2 _).o (P9 _ _ rfl) ?_))
 refine bodyPost_ret (v:=.agg (brd xs (.slice (some ⟨w.heap.size+1+1,0,none⟩) m m))) ?_ rfl ⟨w.heap.size+1+1,rfl,H3.o.yZ (by omega),by omega,lK K3.o _ _ (by omega)⟩
 exact results_cell_row rfl _ _ _ _ _ (0,0) _ rfl D3.o.setRow underlying94 rfl (HZ _).o
theorem Tryz.JP:(prog.info? 97).map (fun i=>(i.zero,i.size))=some (some (.agg (cor ⟨[0,0,0,0],[0,0,0,0],0,0,0,0,false,false⟩ zeros (.slice none 0 0) false false)),529):=by kernel_rfl
theorem Lc (r:Pl.Rg) (xs:List Int) (u:Value) (st ha:Bool) (A:Array Value) (hA:A.size=529) (lx:xs.length=512):laid 528 #[.bool ha] (laid 527 #[.bool st] (laid 14 (brd xs u) (laid 0 (bkR r) A)))=cor r xs u st ha:=by
 have hb:(brd xs u).size=513:=by rw [ku,lx]
 have hr:(bkR r).size=14:=rfl
 apply Array.ext_getElem?
 intro i
 rw [qA 528 _ _ (by simp only [jo,hA];exact Nat.le_refl 529),qA 527 _ _ (by simp only [jo,hA];exact Nat.le_succ 528),qA 14 _ _ (by rw [jo,hA,hb];decide),qA 0 _ _ (by rw [hA,hr];decide),hb,hr]
 by_cases h1:i<14
 ·rw [if_neg (by simp;omega),if_neg (by simp;omega),if_neg (by omega),if_pos (by omega),yE h1];rfl
 ·by_cases h2:i<526
  ·rw [if_neg (by simp;omega),if_neg (by simp;omega),if_pos (by omega)]
   obtain ⟨n,rfl⟩:∃n,i=14+n:=⟨i-14,by omega⟩
   rw [vV (by omega),Nat.add_sub_cancel_left,Uf (by omega)]
  ·by_cases h3:i<529
   ·have:i=526∨i=527∨i=528:=by omega
    rcases this with rfl|rfl|rfl
    ·rw [if_neg (by simp),if_neg (by simp),if_pos (by omega),kK lx];exact Qa lx
    ·rw [if_neg (by simp),if_pos (by simp),KN lx];rfl
    ·rw [if_pos (by simp),Le lx];rfl
   ·rw [if_neg (by simp;omega),if_neg (by simp;omega),if_neg (by omega),if_neg (by omega),Array.getElem?_eq_none (by omega),Array.getElem?_eq_none (by rw [zW lx];omega)]
theorem zD (k:Nat) (v:Value) (A:Array Value):laid k #[v] A=A.setIfInBounds k v:=rfl
theorem KL (r:Pl.Rg) (xs:List Int) (m:Nat) (st ha:Bool) (lx:xs.length=512):∃(Z L:Array Value) (M:Option Addr→Array Value),(∀w,(zeroValue 97).run prog w=.ok (.agg Z) w)∧Z.size=529∧(bkR r).size=14∧(∀d,(brd xs (.slice d m m)).size=513)∧
  (bkR r).zipIdx.foldl (fun cs x=>cs.setIfInBounds x.2 x.1) Z 0 14=L∧L.size=529∧(∀d,(brd xs (.slice d m m)).zipIdx.foldl (fun cs x=>cs.setIfInBounds (14+x.2) x.1) L 0 513=M d)∧(∀d,(M d).size=529)∧
  ∀d,((M d).setIfInBounds 527 (.bool st)).setIfInBounds 528 (.bool ha)=cor r xs (.slice d m m) st ha:=by
 have hr:(bkR r).size=14:=rfl
 have hd:∀d,(brd xs (.slice d m m)).size=513:=fun d=>by rw [ku,lx]
 obtain ⟨Z,hz,hs⟩:∃Z:Array Value,(∀w,(zeroValue 97).run prog w=.ok (.agg Z) w)∧Z.size=529:=⟨_,(zero_of_info Tryz.JP).1,zW fK⟩
 refine ⟨Z,laid 0 (bkR r) Z,fun d=>laid 14 (brd xs (.slice d m m)) (laid 0 (bkR r) Z),hz,hs,hr,hd,?_,?_,?_,?_,?_⟩
 ·unfold laid;simp [hr]
 ·rw [jo];exact hs
 ·intro d;unfold laid;simp [hr,hd]
 ·intro d;rw [jo,jo];exact hs
 ·intro d
  have:=Lc r xs (.slice d m m) st ha Z hs lx
  rw [zD,zD] at this
  exact this
theorem zV {w:World} {x:Nat} {c:Pl.Cp} {a b e q:Option Addr} {ca cb ce cq:Nat} {ty:TypeId} (h:Blk w x (cpA c a b e q ca cb ce cq) ty):w.cell? ⟨x,0,none⟩=some (.slice a c.r.xs.length ca)∧w.cell? ⟨x,1,none⟩=some (.slice b c.r.ys.length cb)∧w.cell? ⟨x,2,none⟩=some (.int .i64 c.r.o)∧w.cell? ⟨x,3,none⟩=some (.int .i64 c.r.p)∧w.cell? ⟨x,4,none⟩=some (.int .i64 c.r.f)∧w.cell? ⟨x,5,none⟩=some (.int .i64 c.r.m)∧w.cell? ⟨x,6,none⟩=some (.bool c.r.s)∧w.cell? ⟨x,7,none⟩=some (.bool c.r.t)∧w.cell? ⟨x,8,none⟩=some (.slice e c.bx.length ce)∧w.cell? ⟨x,9,none⟩=some (.slice q c.bm cq)∧w.cell? ⟨x,10,none⟩=some (.bool c.st)∧w.cell? ⟨x,11,none⟩=some (.bool c.ha):=
 ⟨h.cell (i:=0) rfl,h.cell (i:=1) rfl,h.cell (i:=2) rfl,h.cell (i:=3) rfl,h.cell (i:=4) rfl,h.cell (i:=5) rfl,h.cell (i:=6) rfl,h.cell (i:=7) rfl,h.cell (i:=8) rfl,h.cell (i:=9) rfl,h.cell (i:=10) rfl,h.cell (i:=11) rfl⟩
theorem Tz (w:World) (c:Pl.Cp) (a b e q:Option Addr) (ca cb ce cq:Nat) (ha:aI w a c.r.xs) (hb:aI w b c.r.ys) (he:aI w e c.bx) (hq:aI w q c.bl) (lx:c.r.xs.length=4) (ly:c.r.ys.length=4) (lb:c.bx.length=512) (ll:c.bl.length=5*c.bm) (lm:c.bm≤400) :
  Calls prog 22 #[.agg (cpA c a b e q ca cb ce cq)] w fun r w'=>∃p g:Nat,r=.returned (.pointer (some ⟨p,0,none⟩))∧CAt w' w.heap.size p g (Pl.Mc.ofC c) c.ha∧Kept 0 0 w w':=by
 have K0:=hide (kept_alloc w (.cells (cpA c a b e q ca cb ce cq) 36))
 have HBA:=hide (Blk.new w (cpA c a b e q ca cb ce cq) 36)
 obtain ⟨X,hX⟩:∃X:World,w.alloc (.cells (cpA c a b e q ca cb ce cq) 36)=X:=⟨_,rfl⟩
 rw [hX] at K0 HBA
 have HA:=hide (ha.ai K0.o)
 have HB:=hide (hb.ai K0.o)
 have HE:=hide (he.ai K0.o)
 have HQ:=hide (hq.ai K0.o)
 obtain ⟨CZ,L1,L2,bz,z1,z2,z3,z4,z5,z6,z7,z8⟩:=KL c.r c.bx c.bm c.st c.ha lb
 have LX:=hide lx
 have LY:=hide ly
 have LB:=hide lb
 have LL:=hide ll
 have LM:=hide lm
 clear ha hb he hq lx ly lb ll lm
 obtain ⟨i0,i1,i2,i3,i4,i5,i6,i7,i8,i9,i10,i11⟩:=zV HBA.o
 go_enter func22,ntmps22
 go_wp2_with fail
 clear hX
 go_region_held3 (fun w'=>w'.cell? ⟨w.heap.size,0,none⟩=some (.slice a c.r.xs.length ca)∧w'.cell? ⟨w.heap.size,1,none⟩=some (.slice b c.r.ys.length cb)∧w'.cell? ⟨w.heap.size,2,none⟩=some (.int .i64 c.r.o)∧w'.cell? ⟨w.heap.size,3,none⟩=some (.int .i64 c.r.p)∧w'.cell? ⟨w.heap.size,4,none⟩=some (.int .i64 c.r.f)∧w'.cell? ⟨w.heap.size,5,none⟩=some (.int .i64 c.r.m)∧w'.cell? ⟨w.heap.size,6,none⟩=some (.bool c.r.s)∧w'.cell? ⟨w.heap.size,7,none⟩=some (.bool c.r.t)∧w'.cell? ⟨w.heap.size,8,none⟩=some (.slice e c.bx.length ce)∧w'.cell? ⟨w.heap.size,9,none⟩=some (.slice q c.bm cq)∧w'.cell? ⟨w.heap.size,10,none⟩=some (.bool c.st)∧w'.cell? ⟨w.heap.size,11,none⟩=some (.bool c.ha)) (first|exact zV B4.o|exact zV B3.o|exact zV (show Blk _ _ _ _ from HBA.o)|exact zV (B4.o.alloc _))
  (first|(go_at_call 51;have z9:=B3;refine (Qb _ e q ce cq c.bm c.bx c.bl (HE.o.ai K3.o) (HQ.o.ai K3.o) LB.o LL.o LM.o).mono ?_;rintro e9 w4 ⟨g,rfl,hb4,hg4,k4⟩;have B4:=hide (B3.o.af k4);have G4:=hide hb4;have L4:=hide hg4;have K4:=hide (K3.o.trans k4);clear hb4 hg4 k4)|(go_at_call 50;refine (Uj _ c.r a b ca cb (HA.o.ai (ae (Kept.refl _ _ _))) (HB.o.ai (ae (Kept.refl _ _ _))) LX.o LY.o).mono ?_;rintro e9 w3 ⟨rfl,kd⟩;have k3:=bW kd;have B3:=hide (HBA.o.af k3);have K3:=hide k3;clear kd k3))
 go_wp2_with fail
 go_ret
 have s0:=K0.o.size
 have s3:=K3.o.size
 have l4:=L4.o
 have g4:=G4.o.lt
 refine ⟨w4.heap.size,g,rfl,⟨c.bm,Blk.new w4 _ _,⟨zl (G4.o.alloc _) LL.o (by omega) (show c.bm≤2000000 by have:=LM.o;omega),?_,?_⟩⟩,K0.o.trans (ah K4.o _)⟩
 ·have:=K4.o.size;omega
 ·omega
theorem CAt.Ad {w:World} {lo b g:Nat} {c:Pl.Mc} {h:Bool} (a:CAt w lo b g c h) (l:c.bx.length=512):w.cell? ⟨b,0,none⟩=some (.int .i64 (el c.r.xs 0))∧w.cell? ⟨b,1,none⟩=some (.int .i64 (el c.r.xs 1))∧w.cell? ⟨b,2,none⟩=some (.int .i64 (el c.r.xs 2))∧w.cell? ⟨b,3,none⟩=some (.int .i64 (el c.r.xs 3))∧w.cell? ⟨b,4,none⟩=some (.int .i64 (el c.r.ys 0))∧w.cell? ⟨b,5,none⟩=some (.int .i64 (el c.r.ys 1))∧w.cell? ⟨b,6,none⟩=some (.int .i64 (el c.r.ys 2))∧w.cell? ⟨b,7,none⟩=some (.int .i64 (el c.r.ys 3))∧w.cell? ⟨b,8,none⟩=some (.int .i64 c.r.o)∧w.cell? ⟨b,9,none⟩=some (.int .i64 c.r.p)∧w.cell? ⟨b,10,none⟩=some (.int .i64 c.r.f)∧w.cell? ⟨b,11,none⟩=some (.int .i64 c.r.m)∧w.cell? ⟨b,12,none⟩=some (.bool c.r.s)∧w.cell? ⟨b,13,none⟩=some (.bool c.r.t)∧w.cell? ⟨b,527,none⟩=some (.bool c.st)∧w.cell? ⟨b,528,none⟩=some (.bool h):=
 ⟨a.cX (by omega),a.cX (by omega),a.cX (by omega),a.cX (by omega),a.cY (k:=0) (by omega),a.cY (k:=1) (by omega),a.cY (k:=2) (by omega),a.cY (k:=3) (by omega),a.cO,a.cP,a.cF,a.cM,a.cS,a.cT,a.cSt l,a.cH l⟩
theorem X6 (w:World) {r:Pl.Rg} {st ha:Bool} (b:Nat) (xs:List Int) (d:Option Addr) (n c:Nat) (hB:Blk w b (cor r xs (.slice d n c) st ha) 97) (lx:xs.length=512) :
  Calls prog 55 #[.pointer (some ⟨b,14,none⟩)] w fun e w'=>∃g:Nat,e=.returned (.agg #[.slice (some ⟨g,0,none⟩) 512 512,.slice d n c])∧Blk w' g (cellsOf xs) 3∧w.heap.size≤g∧Kept 0 0 w w':=by
 have HX:=hide lx
 have HB:=hide hB
 have hu:=underlying92
 have hcs:(xs.map (Value.int .i64)).length=512:=by rw [List.length_map,lx]
 have hi:(prog.info? 92).map (·.size)=some (xs.map (Value.int .i64)).length:=by rw [hcs];exact Tryz.xP
 have h1:∀v∈xs.map (Value.int .i64),v.oneCell'=true:=iH
 have hlt:=hB.lt
 have HR:=hide ((Blk.new w #[.slice none 0 0,.slice none 0 0] 34))
 have K0:=hide (kept_alloc w (.cells #[.slice none 0 0,.slice none 0 0] 34))
 have B0:=hide (hB.alloc (.cells #[.slice none 0 0,.slice none 0 0] 34))
 clear hB lx
 go_enter func55,ntmps55
 go_wp2_with fail
 obtain ⟨W,hW⟩:∃W:World,W=w.alloc (.cells #[.slice none 0 0,.slice none 0 0] 34):=⟨_,rfl⟩
 rw [←hW] at HR K0 B0 ⊢
 clear hW
 obtain ⟨r1,r2⟩:=F9 B0.o HX.o
 go_region_held3 (fun w'=>w'.rangeAt b 14 (xs.map (Value.int .i64))∧w'.cell? ⟨b,526,none⟩=some (.slice d n c)) (first|exact F9 B3.o HX.o|exact F9 ((B3.o.other _ _ _ (by omega)).other _ _ _ (by omega)) HX.o|go_keep_ranges|go_keep)
  (first|(go_at_call 103;refine (N7 _ xs HX.o).mono ?_;rintro e w3 ⟨g,rfl,hb3,hg3,kd⟩;have k3:=bW kd;have B3:=hide (B0.o.af k3);have R3:=hide (HR.o.af k3);have q0:=R3.o.cell (i:=0) rfl;have q1:=R3.o.cell (i:=1) rfl;have f0:=R3.o.frozen 0;have f1:=R3.o.frozen 1;have G3:=hide hb3;have L3:=hide hg3;have K3:=hide (K0.o.trans k3);clear hb3 hg3 kd k3))
 go_wp2_with fail
 have l3:W.heap.size≤g:=L3.o
 have k0:=K0.o.size
 have k1:=HR.o.lt
 refine bodyPost_ret (v:=.agg #[.slice (some ⟨g,0,none⟩) 512 512,.slice d n c]) ?_ rfl ⟨g,rfl,?_,by omega,?_⟩
 ·rw [aj rfl];go_simp
 ·exact (G3.o.other _ _ _ (by omega)).other _ _ _ (by omega)
 ·exact ag (ag K3.o _ _ _ (.inr (by omega))) _ _ _ (.inr (by omega))
theorem XZ (w:World) (lo b g:Nat) (c:Pl.Mc) (h:Bool) (hC:CAt w lo b g c h) (G:Pl.GM c) :
  Calls prog 24 #[.pointer (some ⟨b,0,none⟩)] w fun r w'=>∃(a' b' e' q':Option Addr) (ca' cb' ce' cq':Nat),r=.returned (.agg (qg (c.cpu h) a' b' e' q' ca' cb' ce' cq'))∧lS w' lo (c.cpu h) a' b' e' q'∧Kept 0 0 w w':=by
 obtain ⟨l0,l1,l2,l3,l4⟩:=hC.lt
 have K0:=hide (kept_alloc w (.cells cpZ 36))
 have R0:=hide (Blk.new w cpZ 36)
 have C0:=hide (hC.alloc (.cells cpZ 36))
 have LX:=hide G.g.d4
 have LY:=hide G.g.a4
 have LB:=hide G.bx
 clear hC G
 obtain ⟨X,hX⟩:∃X:World,w.alloc (.cells cpZ 36)=X:=⟨_,rfl⟩
 rw [hX] at K0 R0 C0
 obtain ⟨i0,i1,i2,i3,i4,i5,i6,i7,i8,i9,i10,i11,i12,i13,j1,j2⟩:=C0.o.Ad LB.o
 go_enter func24,ntmps24
 go_wp2_with fail
 clear hX
 go_region_held3 (fun w'=>w'.cell? ⟨b,0,none⟩=some (.int .i64 (el c.r.xs 0))∧w'.cell? ⟨b,1,none⟩=some (.int .i64 (el c.r.xs 1))∧w'.cell? ⟨b,2,none⟩=some (.int .i64 (el c.r.xs 2))∧w'.cell? ⟨b,3,none⟩=some (.int .i64 (el c.r.xs 3))∧w'.cell? ⟨b,4,none⟩=some (.int .i64 (el c.r.ys 0))∧w'.cell? ⟨b,5,none⟩=some (.int .i64 (el c.r.ys 1))∧w'.cell? ⟨b,6,none⟩=some (.int .i64 (el c.r.ys 2))∧w'.cell? ⟨b,7,none⟩=some (.int .i64 (el c.r.ys 3))∧w'.cell? ⟨b,8,none⟩=some (.int .i64 c.r.o)∧w'.cell? ⟨b,9,none⟩=some (.int .i64 c.r.p)∧w'.cell? ⟨b,10,none⟩=some (.int .i64 c.r.f)∧w'.cell? ⟨b,11,none⟩=some (.int .i64 c.r.m)∧w'.cell? ⟨b,12,none⟩=some (.bool c.r.s)∧w'.cell? ⟨b,13,none⟩=some (.bool c.r.t)∧w'.cell? ⟨b,527,none⟩=some (.bool c.st)∧w'.cell? ⟨b,528,none⟩=some (.bool h)) (first|with_reducible exact C4.o.Ad LB.o|with_reducible exact C3.o.Ad LB.o|with_reducible exact C0.o.drew.Ad LB.o|exact (C4.o.kept ((((((((((((ak _ w.heap.size _ _).one _ _).one _ _).one _ _).one _ _).one _ _).one _ _).one _ _).one _ _).one _ _).one _ _).one _ _) (by omega) (by omega)).Ad LB.o)
  (first|(go_at_call 55;have z9:=C3;obtain ⟨cu,hb9,ho9⟩:=C3.o;refine (X6 _ b c.bx _ _ _ hb9 LB.o).mono ?_;rintro e9 w4 ⟨gb,rfl,hb4,hg4,k4⟩;have C4:=hide (C3.o.any k4);have B4:=hide hb4;have L4:=hide hg4;have RI4:=hide (RI3.o.kept k4);have R4:=hide (R3.o.af k4);have p:=R4.o.all;have pf:=R4.o.fz;have O4:=hide (ho9.any k4);have K4:=hide (K3.o.trans k4);clear hb4 hg4 k4 hb9 ho9)|(go_at_call 54;refine (LU c.r _ LX.o LY.o).mono ?_;rintro e9 w3 ⟨a',b',ca',cb',rfl,hr3,kd⟩;have k3:=bW kd;have C3:=hide (C0.o.any k3);have R3:=hide (R0.o.af k3);have RI3:=hide hr3;have K3:=hide k3;clear kd k3 hr3))
 go_wp2_with fail
 have K5:=((((((((((((ak w4 w.heap.size 0 (.slice a' c.r.xs.length ca')).one 1 (.slice b' c.r.ys.length cb')).one 2 (.int .i64 c.r.o)).one 3 (.int .i64 c.r.p)).one 4 (.int .i64 c.r.f)).one 5 (.int .i64 c.r.m)).one 6 (.bool c.r.s)).one 7 (.bool c.r.t)).one 8 (.slice (some ⟨gb,0,none⟩) 512 512)).one 9 (.slice (some ⟨g,0,none⟩) c.bm cu)).one 10 (.bool c.st)).one 11 (.bool h))
 have s0:w.heap.size<X.heap.size:=R0.o.lt
 have s3:X.heap.size≤w3.heap.size:=K3.o.size
 have s4:w3.heap.size≤w4.heap.size:=by have:=K4.o.size;have:=L4.o;have:=B4.o.lt;omega
 have l4:=L4.o
 have b4:=B4.o.lt
 have s5:=K5.size
 have ra:∀x,blk a'=some x→X.heap.size≤x∧x<w3.heap.size:=by
  intro x hx
  rcases RI3.o.1 with ⟨e1,_⟩|⟨y,e1,y0,y1,_⟩
  ·rw [e1] at hx;cases hx
  ·rw [e1] at hx;have hx':y=x:=Option.some.inj hx;subst hx';exact ⟨y0,y1⟩
 have rb:∀x,blk b'=some x→X.heap.size≤x∧x<w3.heap.size:=by
  intro x hx
  rcases RI3.o.2.1 with ⟨e1,_⟩|⟨y,e1,y0,y1,_⟩
  ·rw [e1] at hx;cases hx
  ·rw [e1] at hx;have hx':y=x:=Option.some.inj hx;subst hx';exact ⟨y0,y1⟩
 refine bodyPost_ret (v:=.agg #[.slice a' c.r.xs.length ca',.slice b' c.r.ys.length cb',.int .i64 c.r.o,.int .i64 c.r.p,.int .i64 c.r.f,.int .i64 c.r.m,.bool c.r.s,.bool c.r.t,.slice (some ⟨gb,0,none⟩) 512 512,.slice (some ⟨g,0,none⟩) c.bm cu,.bool c.st,.bool h]) ?_ rfl ⟨a',b',some ⟨gb,0,none⟩,some ⟨g,0,none⟩,ca',cb',512,cu,?_,⟨?_,?_,?_,?_,RI3.o.2.2,?_,?_,?_,?_,?_⟩,?_⟩
 ·rw [aj rfl];go_simp
 ·unfold qg Pl.Mc.cpu;dsimp only;rw [LB.o]
 ·exact (aZ.kept RI4.o.1 K5 (.inr (.inl (show w.heap.size+1≤X.heap.size by omega)))).wide (show lo≤X.heap.size by omega) s5
 ·exact (aZ.kept RI4.o.2.1 K5 (.inr (.inl (show w.heap.size+1≤X.heap.size by omega)))).wide (show lo≤X.heap.size by omega) s5
 ·exact .inr ⟨gb,rfl,by omega,by omega,jM (B4.o.kept K5 (by omega))⟩
 ·exact .inr ⟨g,rfl,l2,by omega,gQ (dJ O4.o.l K5 (by omega))⟩
 ·intro x h1 h2;have h3:gb=x:=Option.some.inj h2;have:=ra x h1;omega
 ·intro x h1 h2;have h3:g=x:=Option.some.inj h2;have:=ra x h1;omega
 ·intro x h1 h2;have h3:gb=x:=Option.some.inj h2;have:=rb x h1;omega
 ·intro x h1 h2;have h3:g=x:=Option.some.inj h2;have:=rb x h1;omega
 ·intro x h1 h2;have h3:gb=x:=Option.some.inj h1;have h4:g=x:=Option.some.inj h2;omega
 ·exact dD (K0.o.trans K4.o) K5 (by omega)
theorem lL (w:World) (c:Pl.Cp) (a b e q:Option Addr) (ca cb ce cq:Nat) (ha:Came w a c.r.xs) (hb:Came w b c.r.ys) (he:Came w e c.bx) (hq:Came w q c.bl) (lx:c.r.xs.length≤2000000) (ly:c.r.ys.length≤2000000) (lb:c.bx.length≤2000000) (ll:c.bl.length=5*c.bm) (lm:c.bm≤2000000) (wf:Pl.WfR c.r) :
  Calls prog 21 #[.agg #[.slice a c.r.xs.length ca,.slice b c.r.ys.length cb,iv c.r.o,iv c.r.p,iv c.r.f,iv c.r.m,.bool c.r.s,.bool c.r.t,.slice e c.bx.length ce,.slice q c.bm cq,.bool c.st,.bool c.ha]] w fun r w'=>r=.returned (.bool (Pl.iP c))∧Kept 0 0 w w':=by
 have K0:=hide (kept_alloc w (.cells #[.slice a c.r.xs.length ca,.slice b c.r.ys.length cb,iv c.r.o,iv c.r.p,iv c.r.f,iv c.r.m,.bool c.r.s,.bool c.r.t,.slice e c.bx.length ce,.slice q c.bm cq,.bool c.st,.bool c.ha] 36))
 have HBA:=hide (Blk.new w #[.slice a c.r.xs.length ca,.slice b c.r.ys.length cb,iv c.r.o,iv c.r.p,iv c.r.f,iv c.r.m,.bool c.r.s,.bool c.r.t,.slice e c.bx.length ce,.slice q c.bm cq,.bool c.st,.bool c.ha] 36)
 obtain ⟨X,hX⟩:∃X:World,w.alloc (.cells #[.slice a c.r.xs.length ca,.slice b c.r.ys.length cb,iv c.r.o,iv c.r.p,iv c.r.f,iv c.r.m,.bool c.r.s,.bool c.r.t,.slice e c.bx.length ce,.slice q c.bm cq,.bool c.st,.bool c.ha] 36)=X:=⟨_,rfl⟩
 rw [hX] at K0 HBA
 have HA:=hide (ha.ai K0.o)
 have HB:=hide (hb.ai K0.o)
 have HE:=hide (he.ai K0.o)
 have HQ:=hide (hq.ai K0.o)
 clear ha hb he hq
 have p:=HBA.o.all
 cases h1:Pl.sK c.r
 ·go_enter func21,ntmps21
  go_wp2_with (go_at_call 48;refine (nP _ c.r a b ca cb HA.o HB.o lx ly wf).mono ?_;rintro e9 W ⟨rfl,k9⟩;rw [h1];have HK1:=hide k9;have HB1:=hide (HBA.o.af k9);have HE1:=hide (HE.o.ai k9);have HQ1:=hide (HQ.o.ai k9);clear k9 p;have p:=HB1.o.all)
  go_ret
  exact ⟨rB (by unfold Pl.iP;simp [h1]),K0.o.trans HK1.o⟩
 ·cases h2:Pl.fF c.bx c.bl c.bm
  ·go_enter func21,ntmps21
   go_wp2_with (first|(go_at_call 49;have z9:=HB1;refine (fF _ e q ce cq c.bm c.bx c.bl HE1.o HQ1.o lb ll lm).mono ?_;rintro e9 W2 ⟨rfl,k9⟩;rw [h2];have HK2:=hide k9;have HB2:=hide (HB1.o.af k9);clear k9 p;have p:=HB2.o.all)|(go_at_call 48;refine (nP _ c.r a b ca cb HA.o HB.o lx ly wf).mono ?_;rintro e9 W ⟨rfl,k9⟩;rw [h1];have HK1:=hide k9;have HB1:=hide (HBA.o.af k9);have HE1:=hide (HE.o.ai k9);have HQ1:=hide (HQ.o.ai k9);clear k9 p;have p:=HB1.o.all))
   go_ret
   exact ⟨rB (by unfold Pl.iP;simp [h1,h2]),(K0.o.trans HK1.o).trans HK2.o⟩
  ·rcases Bool.eq_false_or_eq_true c.st with h3|h3
   all_goals
    have H3:=hide h3
    clear h3
    go_enter func21,ntmps21
    go_wp2_with (first|(go_at_call 49;have z9:=HB1;refine (fF _ e q ce cq c.bm c.bx c.bl HE1.o HQ1.o lb ll lm).mono ?_;rintro e9 W2 ⟨rfl,k9⟩;rw [h2];have HK2:=hide k9;have HB2:=hide (HB1.o.af k9);clear k9 p;have p:=HB2.o.all;rw [H3.o] at p)|(go_at_call 48;refine (nP _ c.r a b ca cb HA.o HB.o lx ly wf).mono ?_;rintro e9 W ⟨rfl,k9⟩;rw [h1];have HK1:=hide k9;have HB1:=hide (HBA.o.af k9);have HE1:=hide (HE.o.ai k9);have HQ1:=hide (HQ.o.ai k9);clear k9 p;have p:=HB1.o.all))
    go_ret
    exact ⟨rB (by unfold Pl.iP;simp [h1,h2,H3.o]),(K0.o.trans HK1.o).trans HK2.o⟩
theorem JU {w:World} {q:Nat} {F:Pl.Ft} {ty:TypeId} (h:Blk w q (ftC F) ty):w.cell? ⟨q,0,none⟩=some (iv F.v)∧w.cell? ⟨q,1,none⟩=some (iv F.pc)∧w.cell? ⟨q,2,none⟩=some (iv F.ad)∧w.cell? ⟨q,3,none⟩=some (iv F.wo)∧w.cell? ⟨q,4,none⟩=some (.bool F.wr):=
 ⟨h.cell (i:=0) rfl,h.cell (i:=1) rfl,h.cell (i:=2) rfl,h.cell (i:=3) rfl,h.cell (i:=4) rfl⟩
theorem lS.mvs {w w':World} {base base' x y:Nat} {c:Pl.Cp} {a b e q:Option Addr} (h:lS w base c a b e q) (k:Kept x y w w') (hy:y≤base) (hb:base'≤base):lS w' base' c a b e q:=
 ⟨(aZ.kept h.d k (.inr (.inl hy))).wide hb k.size,(aZ.kept h.a' k (.inr (.inl hy))).wide hb k.size,(aZ.kept h.b' k (.inr (.inl hy))).wide hb k.size,(aZ.kept h.l k (.inr (.inl hy))).wide hb k.size,h.n1,h.n2,h.n3,h.n4,h.n5,h.n6⟩
theorem zH {w a b:World} {lo hi g g':Nat} (k:Kept 0 0 w a) (h:Since a lo hi g b g') (hl:w.heap.size≤lo) (hg:w.heap.size≤g):Kept 0 0 w b:=
 ⟨h.2.os.trans k.os,h.2.tape.trans k.tape,h.2.output.trans k.output,Nat.le_trans k.size h.2.size,fun i hi _=>(h.2.block i (Nat.lt_of_lt_of_le hi k.size) (by unfold own;omega)).trans (k.block i hi (by omega))⟩
theorem lJ {fn:Func} {p q v:Tmp} {ty tz:TypeId} (h:fn.results=#[.cell p ty,.cell q tz,.tmp v]) (tmps:Array Value) (P:Program) (w:World) :
  (results fn tmps).run P w=((asAddr (tmps.getD p undef)).run P w).andThen fun a w₁=>((loadVar ty a).run P w₁).andThen fun x w₂=>((asAddr (tmps.getD q undef)).run P w₂).andThen fun b w₃=>((loadVar tz b).run P w₃).andThen fun y w₄=>.ok (.tuple #[x,y,tmps.getD v undef]) w₄:=by
 simp only [results,h]
 simp [Sem.run_bind,Result.andThen]
theorem Et {w W:World} {lo:Nat} (hs:oJ w) (hn:rW w) (k:Kept 0 0 w W) (h:w.heap.size≤lo):jF W lo:=by
 have h1:=World.block_lt_of_cell? _ _ (hs 0 (by omega))
 have h2:=World.block_lt_of_cell? _ _ (hn 0 (by omega))
 exact ⟨hs.below k.below,hn.below k.below,Nat.lt_of_lt_of_le h1 h,Nat.lt_of_lt_of_le h2 h⟩
theorem rE {w:World} {p:Nat} {v0 v1 v2 v3 v4 v5 v6 v7 v8 v9 v10 v11:Value}:Kept p (p+1) w ((((((((((((w.setCell ⟨p,0,none⟩ (v0)).setCell ⟨p,1,none⟩ (v1)).setCell ⟨p,2,none⟩ (v2)).setCell ⟨p,3,none⟩ (v3)).setCell ⟨p,4,none⟩ (v4)).setCell ⟨p,5,none⟩ (v5)).setCell ⟨p,6,none⟩ (v6)).setCell ⟨p,7,none⟩ (v7)).setCell ⟨p,8,none⟩ (v8)).setCell ⟨p,9,none⟩ (v9)).setCell ⟨p,10,none⟩ (v10)).setCell ⟨p,11,none⟩ (v11)):=((((((((((((ak w p 0 (v0)).one 1 (v1)).one 2 (v2)).one 3 (v3)).one 4 (v4)).one 5 (v5)).one 6 (v6)).one 7 (v7)).one 8 (v8)).one 9 (v9)).one 10 (v10)).one 11 (v11))
theorem Blk.Ij {w:World} {q p:Nat} {cs:Array Value} {ty:TypeId} {v0 v1 v2 v3 v4 v5 v6 v7 v8 v9 v10 v11:Value} (h:Blk w q cs ty) (hn:q≠p):Blk ((((((((((((w.setCell ⟨p,0,none⟩ (v0)).setCell ⟨p,1,none⟩ (v1)).setCell ⟨p,2,none⟩ (v2)).setCell ⟨p,3,none⟩ (v3)).setCell ⟨p,4,none⟩ (v4)).setCell ⟨p,5,none⟩ (v5)).setCell ⟨p,6,none⟩ (v6)).setCell ⟨p,7,none⟩ (v7)).setCell ⟨p,8,none⟩ (v8)).setCell ⟨p,9,none⟩ (v9)).setCell ⟨p,10,none⟩ (v10)).setCell ⟨p,11,none⟩ (v11)) q cs ty:=h.kept ((((((((((((ak w p 0 (v0)).one 1 (v1)).one 2 (v2)).one 3 (v3)).one 4 (v4)).one 5 (v5)).one 6 (v6)).one 7 (v7)).one 8 (v8)).one 9 (v9)).one 10 (v10)).one 11 (v11)) (by omega)
theorem vH {w:World} {p:Nat} {v0 v1 v2 v3 v4:Value}:Kept p (p+1) w (((((w.setCell ⟨p,0,none⟩ (v0)).setCell ⟨p,1,none⟩ (v1)).setCell ⟨p,2,none⟩ (v2)).setCell ⟨p,3,none⟩ (v3)).setCell ⟨p,4,none⟩ (v4)):=(((((ak w p 0 (v0)).one 1 (v1)).one 2 (v2)).one 3 (v3)).one 4 (v4))
theorem Blk.Ve {w:World} {q p:Nat} {cs:Array Value} {ty:TypeId} {v0 v1 v2 v3 v4:Value} (h:Blk w q cs ty) (hn:q≠p):Blk (((((w.setCell ⟨p,0,none⟩ (v0)).setCell ⟨p,1,none⟩ (v1)).setCell ⟨p,2,none⟩ (v2)).setCell ⟨p,3,none⟩ (v3)).setCell ⟨p,4,none⟩ (v4)) q cs ty:=h.kept (((((ak w p 0 (v0)).one 1 (v1)).one 2 (v2)).one 3 (v3)).one 4 (v4)) (by omega)
theorem uh (w:World) (c:Pl.Cp) (a b e q:Option Addr) (ca cb ce cq:Nat) (ha:Came w a c.r.xs) (hb:Came w b c.r.ys) (he:Came w e c.bx) (hq:Came w q c.bl) (lx:c.r.xs.length≤2000000) (ly:c.r.ys.length≤2000000) (lb:c.bx.length≤2000000) (ll:c.bl.length=5*c.bm) (lm:c.bm≤2000000) (wf:Pl.WfR c.r) (ht:oJ w) (hn:rW w) :
  Calls prog 8 #[.agg (cpA c a b e q ca cb ce cq)] w fun r w'=>∃(a' b' e' q':Option Addr) (ca' cb' ce' cq':Nat),r=.returned (.tuple #[.agg (qg (Pl.scC c) a' b' e' q' ca' cb' ce' cq'),.agg (ftC (Pl.scF c)),.bool (Pl.je c)])∧lS w' w.heap.size (Pl.scC c) a' b' e' q'∧Kept 0 0 w w':=by
 have K0:=hide (ah (ah (kept_alloc w (.cells (cpA c a b e q ca cb ce cq) 36)) (.cells cpZ 36)) (.cells ftZ 38))
 have BA:=hide (((Blk.new w (cpA c a b e q ca cb ce cq) 36).alloc (.cells cpZ 36)).alloc (.cells ftZ 38))
 have R0:=(Blk.new (w.alloc (.cells (cpA c a b e q ca cb ce cq) 36)) cpZ 36).alloc (.cells ftZ 38)
 have Q0:=Blk.new ((w.alloc (.cells (cpA c a b e q ca cb ce cq) 36)).alloc (.cells cpZ 36)) ftZ 38
 simp only [World.size_alloc] at R0 Q0
 replace R0:=hide R0
 replace Q0:=hide Q0
 obtain ⟨X,hX⟩:∃X:World,((w.alloc (.cells (cpA c a b e q ca cb ce cq) 36)).alloc (.cells cpZ 36)).alloc (.cells ftZ 38)=X:=⟨_,rfl⟩
 rw [hX] at K0 BA R0 Q0
 have HA:=hide (ha.ai K0.o)
 have HB:=hide (hb.ai K0.o)
 have HE:=hide (he.ai K0.o)
 have HQ:=hide (hq.ai K0.o)
 have HS:=hide ht
 have HT:=hide hn
 have sX:w.heap.size+1+1<X.heap.size:=Q0.o.lt
 clear ha hb he hq ht hn
 have p:=BA.o.all
 cases h1:Pl.iP c
 ·have EO:Hid (Pl.je c=false):=hide (by unfold Pl.je;rw [h1];rfl)
  have EC:Hid (Pl.scC c=Pl.yD):=hide (by unfold Pl.scC;rw [EO.o];rfl)
  have EF:Hid (Pl.scF c=Pl.aH):=hide (by unfold Pl.scF;rw [EO.o];rfl)
  go_enter func8,ntmps8
  go_wp2_with (go_at_call 21;refine (lL _ c a b e q ca cb ce cq HA.o HB.o HE.o HQ.o lx ly lb ll lm wf).mono ?_;rintro e9 W1 ⟨rfl,k9⟩;rw [h1];have K1:=hide k9;have R1:=hide (R0.o.af k9);have Q1:=hide (Q0.o.af k9);have p1:=(BA.o.af k9).all;have r1:=R1.o.all;have rf1:=R1.o.fz;have q1:=Q1.o.all;have qf1:=Q1.o.fz;clear k9)
  have s1:=K1.o.size
  refine bodyPost_ret (v:=.tuple #[.agg cpZ,.agg ftZ,.bool false]) ?_ rfl ⟨none,none,none,none,0,0,0,0,by rw [EC.o,EF.o,EO.o];rfl,by rw [EC.o];exact ni _ _,dD (dD (K0.o.trans K1.o) rE (by omega)) vH (by omega)⟩
  rw [lJ rfl];go_simp
 ·have HG:=hide (Pl.GM.of h1 ll c.st)
  rcases Bool.eq_false_or_eq_true c.st with hst|hst
  ·have EO:Hid (Pl.je c=false):=hide (by unfold Pl.je;rw [h1,hst];rfl)
   have EC:Hid (Pl.scC c=Pl.yD):=hide (by unfold Pl.scC;rw [EO.o];rfl)
   have EF:Hid (Pl.scF c=Pl.aH):=hide (by unfold Pl.scF;rw [EO.o];rfl)
   have HST:=hide hst
   clear hst
   go_enter func8,ntmps8
   go_wp2_with (go_at_call 21;refine (lL _ c a b e q ca cb ce cq HA.o HB.o HE.o HQ.o lx ly lb ll lm wf).mono ?_;rintro e9 W1 ⟨rfl,k9⟩;rw [h1];have K1:=hide k9;have R1:=hide (R0.o.af k9);have Q1:=hide (Q0.o.af k9);have p1:=(BA.o.af k9).all;(try unfold cpA at p1);rw [HST.o] at p1;have r1:=R1.o.all;have rf1:=R1.o.fz;have q1:=Q1.o.all;have qf1:=Q1.o.fz;clear k9)
   have s1:=K1.o.size
   refine bodyPost_ret (v:=.tuple #[.agg cpZ,.agg ftZ,.bool false]) ?_ rfl ⟨none,none,none,none,0,0,0,0,by rw [EC.o,EF.o,EO.o];rfl,by rw [EC.o];exact ni _ _,dD (dD (K0.o.trans K1.o) rE (by omega)) vH (by omega)⟩
   rw [lJ rfl];go_simp
  ·rcases Bool.eq_false_or_eq_true c.ha with hh|hh
   ·have EO:Hid (Pl.je c=false):=hide (by unfold Pl.je;rw [h1,hst,hh];rfl)
    have EC:Hid (Pl.scC c=Pl.yD):=hide (by unfold Pl.scC;rw [EO.o];rfl)
    have EF:Hid (Pl.scF c=Pl.aH):=hide (by unfold Pl.scF;rw [EO.o];rfl)
    have HST:=hide hst
    have HH:=hide hh
    clear hst hh
    go_enter func8,ntmps8
    go_wp2_with (go_at_call 21;refine (lL _ c a b e q ca cb ce cq HA.o HB.o HE.o HQ.o lx ly lb ll lm wf).mono ?_;rintro e9 W1 ⟨rfl,k9⟩;rw [h1];have K1:=hide k9;have R1:=hide (R0.o.af k9);have Q1:=hide (Q0.o.af k9);have p1:=(BA.o.af k9).all;(try unfold cpA at p1);rw [HST.o,HH.o] at p1;have r1:=R1.o.all;have rf1:=R1.o.fz;have q1:=Q1.o.all;have qf1:=Q1.o.fz;clear k9)
    have s1:=K1.o.size
    refine bodyPost_ret (v:=.tuple #[.agg cpZ,.agg ftZ,.bool false]) ?_ rfl ⟨none,none,none,none,0,0,0,0,by rw [EC.o,EF.o,EO.o];rfl,by rw [EC.o];exact ni _ _,dD (dD (K0.o.trans K1.o) rE (by omega)) vH (by omega)⟩
    rw [lJ rfl];go_simp
   ·have EO:Hid (Pl.je c=true):=hide (by unfold Pl.je;rw [h1,hst,hh];rfl)
    obtain ⟨e1,e2,e3⟩:=Pl.Nv c (show Pl.GM (Pl.Mc.ofC c) from HG.o)
    obtain ⟨M,hM⟩:∃M,M=(Pl.Mc.ofC c).sp:=⟨_,rfl⟩
    obtain ⟨F,hF⟩:∃F,F=M.f:=⟨_,rfl⟩
    obtain ⟨N,hN⟩:∃N,N=M.cpu false:=⟨_,rfl⟩
    have EC:Hid (Pl.scC c=N):=hide (by unfold Pl.scC;rw [EO.o,hN,hM,e2];rfl)
    have EF:Hid (Pl.scF c=F):=hide (by unfold Pl.scF;rw [EO.o,hF,hM,e1];rfl)
    have HGM:Hid (Pl.GM M):=hide (by rw [hM];exact e3)
    have HST:=hide hst
    have HH:=hide hh
    have HM:=hide hM
    have HF:=hide hF
    have HN:=hide hN
    clear hst hh hM hF hN e1 e2 e3
    go_enter func8,ntmps8
    go_wp2_with (first|(go_at_call 21;refine (lL _ c a b e q ca cb ce cq HA.o HB.o HE.o HQ.o lx ly lb ll lm wf).mono ?_;rintro e9 W1 ⟨rfl,k9⟩;rw [h1];have K1:=hide k9;have R1:=hide (R0.o.af k9);have Q1:=hide (Q0.o.af k9);have p1:=(BA.o.af k9).all;(try unfold cpA at p1);rw [HST.o,HH.o] at p1;have r1:=R1.o.all;have rf1:=R1.o.fz;have q1:=Q1.o.all;have qf1:=Q1.o.fz;clear k9)|(go_at_call 22;have hr9:=Tz W1 c a b e q ca cb ce cq (HA.o.ai K1.o).1 (HB.o.ai K1.o).1 (HE.o.ai K1.o).1 (HQ.o.ai K1.o).1 HG.o.g.d4 HG.o.g.a4 HG.o.bx ll HG.o.bm;(try unfold cpA at hr9);rw [HST.o,HH.o] at hr9;refine hr9.mono ?_;rintro e9 W3 ⟨P,g,rfl,hc9,k9⟩;have C3:=hide hc9;have R3:=hide (R1.o.af k9);have Q3:=hide (Q1.o.af k9);have K3:=hide ((K0.o.trans K1.o).trans k9);have s3:X.heap.size≤W1.heap.size:=K1.o.size;obtain ⟨y0,y1,y2,y3,y4⟩:=hc9.lt;clear hc9 k9 hr9))
    clear p p1 r1 rf1 q1 qf1 hX
    refine (V5 _ W1.heap.size P g (Pl.Mc.ofC c) false C3.o (show Pl.GM (Pl.Mc.ofC c) from HG.o) rfl (Et HS.o HT.o K3.o (by omega))).mono ?_
    rintro e9 W4 ⟨g',rfl,hc4,hs4⟩
    rw [←HM.o] at hc4 ⊢
    rw [←HF.o]
    have C4:=hide (hc4.alloc (.cells (ftC F) 38))
    have R4:=hide ((hs4.2.blk R3.o (by unfold own;omega)).alloc (.cells (ftC F) 38))
    have Q4:=hide ((hs4.2.blk Q3.o (by unfold own;omega)).alloc (.cells (ftC F) 38))
    have L4:=hide (Blk.new W4 (ftC F) 38)
    have S4:=hide hs4
    obtain ⟨x0,x1,x2,x3,x4⟩:=hc4.lt
    have s4:=hs4.size
    unfold ftC
    clear hc4 hs4
    go_wp2_with fail
    obtain ⟨Y,hY⟩:∃Y:World,Y=W4.alloc (.cells (ftA F) 38):=⟨_,rfl⟩
    rw [←hY]
    have C5:Hid (CAt Y W1.heap.size P g' M false):=hide (by rw [hY];exact C4.o)
    have R5:Hid (Blk Y (w.heap.size+1) cpZ 36):=hide (by rw [hY];exact R4.o)
    have Q5:Hid (Blk Y (w.heap.size+1+1) ftZ 38):=hide (by rw [hY];exact Q4.o)
    have L5:Hid (Blk Y W4.heap.size (ftC F) 38):=hide (by rw [hY];exact L4.o)
    have K5:Hid (Kept 0 0 w Y):=hide (by rw [hY];exact ah (zH K3.o S4.o (by omega) (by omega)) _)
    clear hY C4 R4 Q4 L4
    obtain ⟨t0,t1,t2,t3,t4⟩:=JU L5.o
    go_region_held3 (fun w'=>w'.cell? ⟨W4.heap.size,0,none⟩=some (iv F.v)∧w'.cell? ⟨W4.heap.size,1,none⟩=some (iv F.pc)∧w'.cell? ⟨W4.heap.size,2,none⟩=some (iv F.ad)∧w'.cell? ⟨W4.heap.size,3,none⟩=some (iv F.wo)∧w'.cell? ⟨W4.heap.size,4,none⟩=some (.bool F.wr)) (first|with_reducible exact JU L6.o|with_reducible exact JU (Bd' L5.o)|with_reducible exact JU (L6.o.Ij (by omega))|with_reducible exact JU ((L6.o.Ij (by omega)).Ve (by omega)))
     (first|(go_at_call 24;refine (XZ _ W1.heap.size P g' M false C5.o.drew HGM.o).mono ?_;rintro e9 W6 ⟨a',b',e',q',ca',cb',ce',cq',rfl,hi6,kd⟩;have k6:=bW kd;rw [←HN.o] at hi6 ⊢;unfold qg;have I6:=hide hi6;have L6:=hide (L5.o.af k6);have R6:=hide (R5.o.af k6);have Q6:=hide (Q5.o.af k6);have K6:=hide (K5.o.trans k6);have p6:=R6.o.all;have f6:=R6.o.fz;have q6:=Q6.o.all;have g6:=Q6.o.fz;clear kd k6 hi6))
    go_wp2_with fail
    refine bodyPost_ret (v:=.tuple #[.agg (cpA N a' b' e' q' ca' cb' ce' cq'),.agg (ftA F),.bool true]) ?_ rfl ⟨a',b',e',q',ca',cb',ce',cq',by rw [EC.o,EF.o,EO.o];rfl,by rw [EC.o];exact (I6.o.mvs rE (by omega) (Nat.le_refl _)).mvs vH (by omega) (by omega),dD (dD K6.o rE (by omega)) vH (by omega)⟩
    rw [lJ rfl];go_simp
theorem BG (d:Pl.Cp) (a b e q:Option Addr) (ca cb ce cq:Nat) (w:World) (ht:oJ w) (hn:rW w) (hx:Came w a d.r.xs) (hy:Came w b d.r.ys) (hz:Came w e d.bx) (hq:Came w q d.bl) (lx:d.r.xs.length≤9223372036854775807) (ly:d.r.ys.length≤9223372036854775807) (lz:d.bx.length≤9223372036854775807) (lm:d.bm≤9223372036854775807) (ll:d.bl.length=5*d.bm) (wfd:Pl.WfR d.r) :
  Calls prog 3 #[.agg (cpA d a b e q ca cb ce cq)] w fun e w'=>e=.returned (.bool true)∧Below w.heap.size w w':=by
 have HS:=hide ht
 have HT:=hide hn
 have HX:=hide hx
 have HY:=hide hy
 have HZ:=hide hz
 have HQ:=hide hq
 have HWF:=hide wfd
 have HLL:=hide ll
 have Bel:=hide (kept_alloc w (.cells (cpA d a b e q ca cb ce cq) 29)).below
 have WA:=hide (Blk.new w (cpA d a b e q ca cb ce cq) 29)
 obtain ⟨X0,hX0⟩:∃X:World,w.alloc (.cells (cpA d a b e q ca cb ce cq) 29)=X:=⟨_,rfl⟩
 have nX0:X0.heap.size=w.heap.size+1:=by simp [←hX0]
 rw [hX0] at Bel WA
 have hln:=Pl.Rl d ll
 clear ht hn hx hy hz hq wfd ll
 by_cases hs:szC d.r.xs.length d.r.ys.length d.bx.length d.bm 1048576<0
 ·go_enter func3,ntmps3
  have ja:=WA.o.all
  go_wp2_with fail
  refine (Qp _ d a b e q ca cb ce cq 1048576 lx ly lz lm (by decide) (by decide)).mono ?_
  rintro e9 w1 ⟨rfl,k⟩
  have Bn:=hide (bi Bel.o k (by omega))
  clear k
  go_wp2_with fail
  go_ret
  exact ⟨rfl,Bn.o⟩
 ·have hb:=Nk hs
  have bx:d.r.xs.length≤2000000:=by omega
  have by_:d.r.ys.length≤2000000:=by omega
  have bz:d.bx.length≤2000000:=by omega
  have bm:d.bm≤2000000:=by omega
  have ds:decide (szC d.r.xs.length d.r.ys.length d.bx.length d.bm 1048576<0)=false:=by simpa using hs
  clear hs hb
  generalize hDD:Pl.scC d=D at hln
  generalize hFF:Pl.scF d=F
  generalize hKK:Pl.je d=K
  obtain ⟨bD,bE,bF,bL,bM⟩:=hln
  have HDL:=hide bL
  have HDD:=hide hDD
  have HFF:=hide hFF
  have HKK:=hide hKK
  clear bL hDD hFF hKK
  go_enter func3,ntmps3
  have ja:=WA.o.all
  go_wp2_with fail
  clear ja
  refine (Qp _ d a b e q ca cb ce cq 1048576 lx ly lz lm (by decide) (by decide)).mono ?_
  rintro e9 w1 ⟨rfl,k⟩
  have Beln:=hide (bi Bel.o k (by omega))
  have WAn:=hide (WA.o.kept k (by omega))
  clear Bel WA
  have Bel:=Beln
  have WA:=WAn
  clear Beln WAn
  have nw1:=k.size
  clear k
  clear hX0
  have ja:=WA.o.all
  go_wp2_with fail
  clear ja ds
  refine (CW _ d a b e q ca cb ce cq (HX.o.below Bel.o).1 (HY.o.below Bel.o).1 (HZ.o.below Bel.o).1 (HQ.o.below Bel.o).1 bx by_ bz HLL.o bm).mono ?_
  rintro e9 w2 ⟨g1,g2,g3,g4,rfl,hs9,k⟩
  have Beln:=hide (bi Bel.o k (by omega))
  have WAn:=hide (WA.o.kept k (by omega))
  clear Bel WA
  have Bel:=Beln
  have WA:=WAn
  clear Beln WAn
  have nw2:=k.size
  have O1:=hide hs9
  clear k hs9
  go_wp2_with fail
  refine (yX _ d _ _ _ _ _ _ _ _ O1.o.d.row O1.o.a'.row O1.o.b'.row O1.o.l.row bx by_ bz HLL.o bm).mono ?_
  rw [HDD.o,HFF.o,HKK.o]
  unfold qg ftC
  rintro e9 w3 ⟨a0,b0,e0,q0,ca0,cb0,ce0,cq0,rfl,hin,k⟩
  have hsl:=hin.sl
  have Beln:=hide (bi Bel.o k (by omega))
  have WAn:=hide (WA.o.kept k (by omega))
  have O1n:=hide (O1.o.kept k (by omega))
  clear Bel WA O1
  have Bel:=Beln
  have WA:=WAn
  have O1:=O1n
  clear Beln WAn O1n
  have nw3:=k.size
  have S0:=hide hsl
  clear k hin hsl
  clear O1
  have ka:Kept 0 0 w3 ((w3.alloc (.cells (cpA D a0 b0 e0 q0 ca0 cb0 ce0 cq0) 36)).alloc (.cells (ftA F) 38)):=ah (kept_alloc w3 _) _
  have Beln:=hide (bi Bel.o ka (by omega))
  have WAn:=hide (WA.o.kept ka (by omega))
  have S0n:=hide (S0.o.kept ka (by omega))
  clear Bel WA S0
  have Bel:=Beln
  have WA:=WAn
  have S0:=S0n
  clear Beln WAn S0n
  have B0:=((Blk.new w3 (cpA D a0 b0 e0 q0 ca0 cb0 ce0 cq0) 36).alloc (.cells (ftA F) 38))
  have B1:=(Blk.new (w3.alloc (.cells (cpA D a0 b0 e0 q0 ca0 cb0 ce0 cq0) 36)) (ftA F) 38)
  simp only [World.size_alloc] at B1
  obtain ⟨X3,hX3⟩:∃X:World,((w3.alloc (.cells (cpA D a0 b0 e0 q0 ca0 cb0 ce0 cq0) 36)).alloc (.cells (ftA F) 38))=X:=⟨_,rfl⟩
  have nX3:X3.heap.size=w3.heap.size+2:=by simp [←hX3]
  rw [hX3] at Bel WA S0 B0 B1
  have W0:=hide B0
  have F0:=hide B1
  clear ka B0 B1
  have ja:=WA.o.all
  go_wp2_with fail
  clear ja hX3
  refine (CW _ d a b e q ca cb ce cq (HX.o.below Bel.o).1 (HY.o.below Bel.o).1 (HZ.o.below Bel.o).1 (HQ.o.below Bel.o).1 bx by_ bz HLL.o bm).mono ?_
  rintro e9 w4 ⟨g5,g6,g7,g8,rfl,hs9,k⟩
  have Beln:=hide (bi Bel.o k (by omega))
  have WAn:=hide (WA.o.kept k (by omega))
  have S0n:=hide (S0.o.kept k (by omega))
  have W0n:=hide (W0.o.kept k (by omega))
  have F0n:=hide (F0.o.kept k (by omega))
  clear Bel WA S0 W0 F0
  have Bel:=Beln
  have WA:=WAn
  have S0:=S0n
  have W0:=W0n
  have F0:=F0n
  clear Beln WAn S0n W0n F0n
  have nw4:=k.size
  have O3:=hide hs9
  clear k hs9
  have ka:Kept 0 0 w4 (w4.alloc (.cells (cpA d (some ⟨g5,0,none⟩) (some ⟨g6,0,none⟩) (some ⟨g7,0,none⟩) (some ⟨g8,0,none⟩) d.r.xs.length d.r.ys.length d.bx.length d.bm) 36)):=kept_alloc w4 _
  have Beln:=hide (bi Bel.o ka (by omega))
  have WAn:=hide (WA.o.kept ka (by omega))
  have S0n:=hide (S0.o.kept ka (by omega))
  have W0n:=hide (W0.o.kept ka (by omega))
  have F0n:=hide (F0.o.kept ka (by omega))
  have O3n:=hide (O3.o.kept ka (by omega))
  clear Bel WA S0 W0 F0 O3
  have Bel:=Beln
  have WA:=WAn
  have S0:=S0n
  have W0:=W0n
  have F0:=F0n
  have O3:=O3n
  clear Beln WAn S0n W0n F0n O3n
  have B0:=(Blk.new w4 (cpA d (some ⟨g5,0,none⟩) (some ⟨g6,0,none⟩) (some ⟨g7,0,none⟩) (some ⟨g8,0,none⟩) d.r.xs.length d.r.ys.length d.bx.length d.bm) 36)
  obtain ⟨X4,hX4⟩:∃X:World,(w4.alloc (.cells (cpA d (some ⟨g5,0,none⟩) (some ⟨g6,0,none⟩) (some ⟨g7,0,none⟩) (some ⟨g8,0,none⟩) d.r.xs.length d.r.ys.length d.bx.length d.bm) 36))=X:=⟨_,rfl⟩
  have nX4:X4.heap.size=w4.heap.size+1:=by simp [←hX4]
  rw [hX4] at Bel WA S0 W0 F0 O3 B0
  have VA:=hide B0
  clear ka B0
  have ja:=VA.o.all
  go_wp2_with fail
  clear ja hX4
  refine (uh _ d _ _ _ _ _ _ _ _ ⟨O3.o.d.row,HX.o.2⟩ ⟨O3.o.a'.row,HY.o.2⟩ ⟨O3.o.b'.row,HZ.o.2⟩ ⟨O3.o.l.row,HQ.o.2⟩ bx by_ bz HLL.o bm HWF.o (HS.o.below Bel.o) (HT.o.below Bel.o)).mono ?_
  rw [HDD.o,HFF.o,HKK.o]
  unfold qg ftC
  rintro e9 w5 ⟨a1,b1,e1,q1,ca1,cb1,ce1,cq1,rfl,hin,k⟩
  have hsl:=hin.sl
  have Beln:=hide (bi Bel.o k (by omega))
  have WAn:=hide (WA.o.kept k (by omega))
  have S0n:=hide (S0.o.kept k (by omega))
  have W0n:=hide (W0.o.kept k (by omega))
  have F0n:=hide (F0.o.kept k (by omega))
  have O3n:=hide (O3.o.kept k (by omega))
  have VAn:=hide (VA.o.kept k (by omega))
  clear Bel WA S0 W0 F0 O3 VA
  have Bel:=Beln
  have WA:=WAn
  have S0:=S0n
  have W0:=W0n
  have F0:=F0n
  have O3:=O3n
  have VA:=VAn
  clear Beln WAn S0n W0n F0n O3n VAn
  have nw5:=k.size
  have S1:=hide hsl
  clear k hin hsl
  have ka:Kept 0 0 w5 ((w5.alloc (.cells (cpA D a1 b1 e1 q1 ca1 cb1 ce1 cq1) 36)).alloc (.cells (ftA F) 38)):=ah (kept_alloc w5 _) _
  have Beln:=hide (bi Bel.o ka (by omega))
  have WAn:=hide (WA.o.kept ka (by omega))
  have S0n:=hide (S0.o.kept ka (by omega))
  have W0n:=hide (W0.o.kept ka (by omega))
  have F0n:=hide (F0.o.kept ka (by omega))
  have O3n:=hide (O3.o.kept ka (by omega))
  have VAn:=hide (VA.o.kept ka (by omega))
  have S1n:=hide (S1.o.kept ka (by omega))
  clear Bel WA S0 W0 F0 O3 VA S1
  have Bel:=Beln
  have WA:=WAn
  have S0:=S0n
  have W0:=W0n
  have F0:=F0n
  have O3:=O3n
  have VA:=VAn
  have S1:=S1n
  clear Beln WAn S0n W0n F0n O3n VAn S1n
  have B0:=((Blk.new w5 (cpA D a1 b1 e1 q1 ca1 cb1 ce1 cq1) 36).alloc (.cells (ftA F) 38))
  have B1:=(Blk.new (w5.alloc (.cells (cpA D a1 b1 e1 q1 ca1 cb1 ce1 cq1) 36)) (ftA F) 38)
  simp only [World.size_alloc] at B1
  obtain ⟨X5,hX5⟩:∃X:World,((w5.alloc (.cells (cpA D a1 b1 e1 q1 ca1 cb1 ce1 cq1) 36)).alloc (.cells (ftA F) 38))=X:=⟨_,rfl⟩
  have nX5:X5.heap.size=w5.heap.size+2:=by simp [←hX5]
  rw [hX5] at Bel WA S0 W0 F0 O3 VA S1 B0 B1
  have W1:=hide B0
  have F1:=hide B1
  clear ka B0 B1
  have ja:=W1.o.all
  have sN:=W0.o.all
  go_wp2_with fail
  clear ja sN hX5
  refine (DV _ D a1 b1 e1 q1 a0 b0 e0 q0 _ _ _ _ _ _ _ _ S1.o.d.row S1.o.a'.row S1.o.b'.row S1.o.l.row S0.o.d.row S0.o.a'.row S0.o.b'.row S0.o.l.row (by omega) (by omega) (by omega) HDL.o (by omega)).mono ?_
  rintro e9 w6 ⟨rfl,k⟩
  have Beln:=hide (bi Bel.o k (by omega))
  have WAn:=hide (WA.o.kept k (by omega))
  have S0n:=hide (S0.o.kept k (by omega))
  have W0n:=hide (W0.o.kept k (by omega))
  have F0n:=hide (F0.o.kept k (by omega))
  have O3n:=hide (O3.o.kept k (by omega))
  have VAn:=hide (VA.o.kept k (by omega))
  have S1n:=hide (S1.o.kept k (by omega))
  have W1n:=hide (W1.o.kept k (by omega))
  have F1n:=hide (F1.o.kept k (by omega))
  clear Bel WA S0 W0 F0 O3 VA S1 W1 F1
  have Bel:=Beln
  have WA:=WAn
  have S0:=S0n
  have W0:=W0n
  have F0:=F0n
  have O3:=O3n
  have VA:=VAn
  have S1:=S1n
  have W1:=W1n
  have F1:=F1n
  clear Beln WAn S0n W0n F0n O3n VAn S1n W1n F1n
  have nw6:=k.size
  clear k
  have ja:=F1.o.all
  have sN:=F0.o.all
  go_wp2_with fail
  clear ja sN
  refine (yB _ F).mono ?_
  rintro e9 w6f ⟨rfl,k⟩
  have Beln:=hide (bi Bel.o k (by omega))
  have WAn:=hide (WA.o.kept k (by omega))
  have S0n:=hide (S0.o.kept k (by omega))
  have W0n:=hide (W0.o.kept k (by omega))
  have F0n:=hide (F0.o.kept k (by omega))
  have O3n:=hide (O3.o.kept k (by omega))
  have VAn:=hide (VA.o.kept k (by omega))
  have S1n:=hide (S1.o.kept k (by omega))
  have W1n:=hide (W1.o.kept k (by omega))
  have F1n:=hide (F1.o.kept k (by omega))
  clear Bel WA S0 W0 F0 O3 VA S1 W1 F1
  have Bel:=Beln
  have WA:=WAn
  have S0:=S0n
  have W0:=W0n
  have F0:=F0n
  have O3:=O3n
  have VA:=VAn
  have S1:=S1n
  have W1:=W1n
  have F1:=F1n
  clear Beln WAn S0n W0n F0n O3n VAn S1n W1n F1n
  have nw6f:=k.size
  clear k
  have ja:=WA.o.all
  have sN:=VA.o.all
  go_upto_region 10 with fail
  go_cut [52,53,54,55,56] (fun _ _ _ _ t wx=>t=.bool false∧Kept 0 0 w6f wx)
  case first=>
   go_region_with (first|(go_at_call 7;refine (CW _ d a b e q ca cb ce cq (HX.o.below Bel.o.drew).1 (HY.o.below Bel.o.drew).1 (HZ.o.below Bel.o.drew).1 (HQ.o.below Bel.o.drew).1 bx by_ bz HLL.o bm).mono ?_;rintro e9 w7 ⟨g9,g10,g11,g12,rfl,hs9,kd⟩;have k:=bW kd;have VN:=hide (VA.o.af k);have u0:=VN.o.cell (i:=0) rfl;have u1:=VN.o.cell (i:=1) rfl;have u2:=VN.o.cell (i:=2) rfl;have u3:=VN.o.cell (i:=3) rfl;have u4:=VN.o.cell (i:=4) rfl;have u5:=VN.o.cell (i:=5) rfl;have u6:=VN.o.cell (i:=6) rfl;have u7:=VN.o.cell (i:=7) rfl;have u8:=VN.o.cell (i:=8) rfl;have u9:=VN.o.cell (i:=9) rfl;have u10:=VN.o.cell (i:=10) rfl;have u11:=VN.o.cell (i:=11) rfl;have P3:=hide (O3.o.kept k (by omega));have P5:=hide hs9;have K7:=hide k;clear k kd hs9)|(go_at_call 9;refine (DV _ d _ _ _ _ _ _ _ _ _ _ _ _ _ _ _ _ P3.o.d.row P3.o.a'.row P3.o.b'.row P3.o.l.row P5.o.d.row P5.o.a'.row P5.o.b'.row P5.o.l.row bx by_ bz HLL.o bm).mono ?_;rintro e9 w8 ⟨rfl,k⟩;have K8:=hide (K7.o.trans k);clear k))
   all_goals
    go_wp2_with fail
    go_meet
    case rel=>exact ⟨rfl,K8.o⟩
  case rest=>
   clear ja sN
   rename_i wx
   obtain ⟨rfl,k⟩:=hcut
   have Beln:=hide (bi Bel.o k (by omega))
   have WAn:=hide (WA.o.kept k (by omega))
   have S0n:=hide (S0.o.kept k (by omega))
   have W0n:=hide (W0.o.kept k (by omega))
   have F0n:=hide (F0.o.kept k (by omega))
   have O3n:=hide (O3.o.kept k (by omega))
   have VAn:=hide (VA.o.kept k (by omega))
   have S1n:=hide (S1.o.kept k (by omega))
   have W1n:=hide (W1.o.kept k (by omega))
   have F1n:=hide (F1.o.kept k (by omega))
   clear Bel WA S0 W0 F0 O3 VA S1 W1 F1
   have Bel:=Beln
   have WA:=WAn
   have S0:=S0n
   have W0:=W0n
   have F0:=F0n
   have O3:=O3n
   have VA:=VAn
   have S1:=S1n
   have W1:=W1n
   have F1:=F1n
   clear Beln WAn S0n W0n F0n O3n VAn S1n W1n F1n
   have nwx:=k.size
   clear k
   have ja:=VA.o.all
   go_wp2_with fail
   clear ja
   refine (Dv _ X3.heap.size w4.heap.size d _ _ _ _ _ _ _ _ O3.o (by omega) bx by_ bz HLL.o bm).mono ?_
   rintro e9 w9 ⟨rfl,_,k⟩
   clear O3
   have Beln:=hide (bi Bel.o k (by omega))
   have WAn:=hide (WA.o.kept k (by omega))
   have S0n:=hide (S0.o.kept k (by omega))
   have W0n:=hide (W0.o.kept k (by omega))
   have F0n:=hide (F0.o.kept k (by omega))
   have VAn:=hide (VA.o.kept k (by omega))
   have S1n:=hide (S1.o.kept k (by omega))
   have W1n:=hide (W1.o.kept k (by omega))
   have F1n:=hide (F1.o.kept k (by omega))
   clear Bel WA S0 W0 F0 VA S1 W1 F1
   have Bel:=Beln
   have WA:=WAn
   have S0:=S0n
   have W0:=W0n
   have F0:=F0n
   have VA:=VAn
   have S1:=S1n
   have W1:=W1n
   have F1:=F1n
   clear Beln WAn S0n W0n F0n VAn S1n W1n F1n
   have nw9:=k.size
   clear k
   have hmk:¬(Pl.mkN d 1<0):=by unfold Pl.mkN;omega
   have ja:=W1.o.all
   have sN:=W0.o.all
   go_wp2_with fail
   clear ja sN
   refine (DV _ D a1 b1 e1 q1 a0 b0 e0 q0 _ _ _ _ _ _ _ _ S1.o.d.row S1.o.a'.row S1.o.b'.row S1.o.l.row S0.o.d.row S0.o.a'.row S0.o.b'.row S0.o.l.row (by omega) (by omega) (by omega) HDL.o (by omega)).mono ?_
   rintro e9 w10 ⟨rfl,k⟩
   have Beln:=hide (bi Bel.o k (by omega))
   have WAn:=hide (WA.o.kept k (by omega))
   have S0n:=hide (S0.o.kept k (by omega))
   have W0n:=hide (W0.o.kept k (by omega))
   have F0n:=hide (F0.o.kept k (by omega))
   have VAn:=hide (VA.o.kept k (by omega))
   have S1n:=hide (S1.o.kept k (by omega))
   have W1n:=hide (W1.o.kept k (by omega))
   have F1n:=hide (F1.o.kept k (by omega))
   clear Bel WA S0 W0 F0 VA S1 W1 F1
   have Bel:=Beln
   have WA:=WAn
   have S0:=S0n
   have W0:=W0n
   have F0:=F0n
   have VA:=VAn
   have S1:=S1n
   have W1:=W1n
   have F1:=F1n
   clear Beln WAn S0n W0n F0n VAn S1n W1n F1n
   have nw10:=k.size
   clear k
   have ja:=F1.o.all
   have sN:=F0.o.all
   go_wp2_with fail
   clear ja sN
   refine (yB _ F).mono ?_
   rintro e9 w10f ⟨rfl,k⟩
   have Beln:=hide (bi Bel.o k (by omega))
   have WAn:=hide (WA.o.kept k (by omega))
   have S0n:=hide (S0.o.kept k (by omega))
   have W0n:=hide (W0.o.kept k (by omega))
   have F0n:=hide (F0.o.kept k (by omega))
   have VAn:=hide (VA.o.kept k (by omega))
   have S1n:=hide (S1.o.kept k (by omega))
   have W1n:=hide (W1.o.kept k (by omega))
   have F1n:=hide (F1.o.kept k (by omega))
   clear Bel WA S0 W0 F0 VA S1 W1 F1
   have Bel:=Beln
   have WA:=WAn
   have S0:=S0n
   have W0:=W0n
   have F0:=F0n
   have VA:=VAn
   have S1:=S1n
   have W1:=W1n
   have F1:=F1n
   clear Beln WAn S0n W0n F0n VAn S1n W1n F1n
   have nw10f:=k.size
   clear k
   have ja:=W1.o.all
   go_wp2_with fail
   clear ja
   refine (Dv _ X4.heap.size w5.heap.size D a1 b1 e1 q1 _ _ _ _ S1.o (by omega) (by omega) (by omega) (by omega) HDL.o (by omega)).mono ?_
   rintro e9 w11 ⟨rfl,hm9,k⟩
   clear S1
   have Beln:=hide (bi Bel.o k (by omega))
   have WAn:=hide (WA.o.kept k (by omega))
   have S0n:=hide (S0.o.kept k (by omega))
   have W0n:=hide (W0.o.kept k (by omega))
   have F0n:=hide (F0.o.kept k (by omega))
   have VAn:=hide (VA.o.kept k (by omega))
   have W1n:=hide (W1.o.kept k (by omega))
   have F1n:=hide (F1.o.kept k (by omega))
   clear Bel WA S0 W0 F0 VA W1 F1
   have Bel:=Beln
   have WA:=WAn
   have S0:=S0n
   have W0:=W0n
   have F0:=F0n
   have VA:=VAn
   have W1:=W1n
   have F1:=F1n
   clear Beln WAn S0n W0n F0n VAn W1n F1n
   have M1:=hide hm9
   have nw11:=k.size
   clear k hm9
   have ja:=W1.o.all
   go_wp2_with fail
   clear ja
   have hmD:¬(Pl.mkN D 1<0):=by unfold Pl.mkN;omega
   refine (DL _ D a1 b1 e1 q1 _ _ _ _ M1.o.d.row M1.o.a'.row M1.o.b'.row M1.o.l.row (by omega) (by omega) (by omega) (by omega)).mono ?_
   rintro e9 w12 ⟨rfl,k⟩
   have Beln:=hide (bi Bel.o k (by omega))
   have WAn:=hide (WA.o.kept k (by omega))
   have S0n:=hide (S0.o.kept k (by omega))
   have W0n:=hide (W0.o.kept k (by omega))
   have F0n:=hide (F0.o.kept k (by omega))
   have VAn:=hide (VA.o.kept k (by omega))
   have W1n:=hide (W1.o.kept k (by omega))
   have F1n:=hide (F1.o.kept k (by omega))
   have M1n:=hide (M1.o.kept k (by omega))
   clear Bel WA S0 W0 F0 VA W1 F1 M1
   have Bel:=Beln
   have WA:=WAn
   have S0:=S0n
   have W0:=W0n
   have F0:=F0n
   have VA:=VAn
   have W1:=W1n
   have F1:=F1n
   have M1:=M1n
   clear Beln WAn S0n W0n F0n VAn W1n F1n M1n
   have nw12:=k.size
   clear k
   have ja:=WA.o.all
   go_wp2_with fail
   clear ja
   refine (CW _ d a b e q ca cb ce cq (HX.o.below Bel.o).1 (HY.o.below Bel.o).1 (HZ.o.below Bel.o).1 (HQ.o.below Bel.o).1 bx by_ bz HLL.o bm).mono ?_
   rintro e9 w13 ⟨h1,h2,h3,h4,rfl,hs9,k⟩
   have Beln:=hide (bi Bel.o k (by omega))
   have WAn:=hide (WA.o.kept k (by omega))
   have S0n:=hide (S0.o.kept k (by omega))
   have W0n:=hide (W0.o.kept k (by omega))
   have F0n:=hide (F0.o.kept k (by omega))
   have VAn:=hide (VA.o.kept k (by omega))
   have W1n:=hide (W1.o.kept k (by omega))
   have F1n:=hide (F1.o.kept k (by omega))
   have M1n:=hide (M1.o.kept k (by omega))
   clear Bel WA S0 W0 F0 VA W1 F1 M1
   have Bel:=Beln
   have WA:=WAn
   have S0:=S0n
   have W0:=W0n
   have F0:=F0n
   have VA:=VAn
   have W1:=W1n
   have F1:=F1n
   have M1:=M1n
   clear Beln WAn S0n W0n F0n VAn W1n F1n M1n
   have nw13:=k.size
   have O5:=hide hs9
   clear k hs9
   go_wp2_with fail
   refine (uh _ d _ _ _ _ _ _ _ _ ⟨O5.o.d.row,HX.o.2⟩ ⟨O5.o.a'.row,HY.o.2⟩ ⟨O5.o.b'.row,HZ.o.2⟩ ⟨O5.o.l.row,HQ.o.2⟩ bx by_ bz HLL.o bm HWF.o (HS.o.below Bel.o) (HT.o.below Bel.o)).mono ?_
   rw [HDD.o,HFF.o,HKK.o]
   unfold qg ftC
   rintro e9 w14 ⟨a2,b2,e2,q2,ca2,cb2,ce2,cq2,rfl,hin,k⟩
   have hsl:=hin.sl
   have Beln:=hide (bi Bel.o k (by omega))
   have WAn:=hide (WA.o.kept k (by omega))
   have S0n:=hide (S0.o.kept k (by omega))
   have W0n:=hide (W0.o.kept k (by omega))
   have F0n:=hide (F0.o.kept k (by omega))
   have VAn:=hide (VA.o.kept k (by omega))
   have W1n:=hide (W1.o.kept k (by omega))
   have F1n:=hide (F1.o.kept k (by omega))
   have M1n:=hide (M1.o.kept k (by omega))
   have O5n:=hide (O5.o.kept k (by omega))
   clear Bel WA S0 W0 F0 VA W1 F1 M1 O5
   have Bel:=Beln
   have WA:=WAn
   have S0:=S0n
   have W0:=W0n
   have F0:=F0n
   have VA:=VAn
   have W1:=W1n
   have F1:=F1n
   have M1:=M1n
   have O5:=O5n
   clear Beln WAn S0n W0n F0n VAn W1n F1n M1n O5n
   have nw14:=k.size
   have S2:=hide hsl
   clear k hin hsl
   clear O5
   have ka:Kept 0 0 w14 ((w14.alloc (.cells (cpA D a2 b2 e2 q2 ca2 cb2 ce2 cq2) 36)).alloc (.cells (ftA F) 38)):=ah (kept_alloc w14 _) _
   have Beln:=hide (bi Bel.o ka (by omega))
   have WAn:=hide (WA.o.kept ka (by omega))
   have S0n:=hide (S0.o.kept ka (by omega))
   have W0n:=hide (W0.o.kept ka (by omega))
   have F0n:=hide (F0.o.kept ka (by omega))
   have VAn:=hide (VA.o.kept ka (by omega))
   have W1n:=hide (W1.o.kept ka (by omega))
   have F1n:=hide (F1.o.kept ka (by omega))
   have M1n:=hide (M1.o.kept ka (by omega))
   have S2n:=hide (S2.o.kept ka (by omega))
   clear Bel WA S0 W0 F0 VA W1 F1 M1 S2
   have Bel:=Beln
   have WA:=WAn
   have S0:=S0n
   have W0:=W0n
   have F0:=F0n
   have VA:=VAn
   have W1:=W1n
   have F1:=F1n
   have M1:=M1n
   have S2:=S2n
   clear Beln WAn S0n W0n F0n VAn W1n F1n M1n S2n
   have B0:=((Blk.new w14 (cpA D a2 b2 e2 q2 ca2 cb2 ce2 cq2) 36).alloc (.cells (ftA F) 38))
   have B1:=(Blk.new (w14.alloc (.cells (cpA D a2 b2 e2 q2 ca2 cb2 ce2 cq2) 36)) (ftA F) 38)
   simp only [World.size_alloc] at B1
   obtain ⟨X14,hX14⟩:∃X:World,((w14.alloc (.cells (cpA D a2 b2 e2 q2 ca2 cb2 ce2 cq2) 36)).alloc (.cells (ftA F) 38))=X:=⟨_,rfl⟩
   have nX14:X14.heap.size=w14.heap.size+2:=by simp [←hX14]
   rw [hX14] at Bel WA S0 W0 F0 VA W1 F1 M1 S2 B0 B1
   have W2:=hide B0
   have F2:=hide B1
   clear ka B0 B1
   have ja:=W2.o.all
   have sN:=W0.o.all
   go_wp2_with fail
   clear ja sN hX14
   refine (DV _ D a2 b2 e2 q2 a0 b0 e0 q0 _ _ _ _ _ _ _ _ S2.o.d.row S2.o.a'.row S2.o.b'.row S2.o.l.row S0.o.d.row S0.o.a'.row S0.o.b'.row S0.o.l.row (by omega) (by omega) (by omega) HDL.o (by omega)).mono ?_
   rintro e9 w15 ⟨rfl,k⟩
   have Beln:=hide (bi Bel.o k (by omega))
   have WAn:=hide (WA.o.kept k (by omega))
   have S0n:=hide (S0.o.kept k (by omega))
   have W0n:=hide (W0.o.kept k (by omega))
   have F0n:=hide (F0.o.kept k (by omega))
   have VAn:=hide (VA.o.kept k (by omega))
   have W1n:=hide (W1.o.kept k (by omega))
   have F1n:=hide (F1.o.kept k (by omega))
   have M1n:=hide (M1.o.kept k (by omega))
   have S2n:=hide (S2.o.kept k (by omega))
   have W2n:=hide (W2.o.kept k (by omega))
   have F2n:=hide (F2.o.kept k (by omega))
   clear Bel WA S0 W0 F0 VA W1 F1 M1 S2 W2 F2
   have Bel:=Beln
   have WA:=WAn
   have S0:=S0n
   have W0:=W0n
   have F0:=F0n
   have VA:=VAn
   have W1:=W1n
   have F1:=F1n
   have M1:=M1n
   have S2:=S2n
   have W2:=W2n
   have F2:=F2n
   clear Beln WAn S0n W0n F0n VAn W1n F1n M1n S2n W2n F2n
   have nw15:=k.size
   clear k
   have ja:=F2.o.all
   have sN:=F0.o.all
   go_wp2_with fail
   clear ja sN
   refine (yB _ F).mono ?_
   rintro e9 w15f ⟨rfl,k⟩
   have Beln:=hide (bi Bel.o k (by omega))
   have WAn:=hide (WA.o.kept k (by omega))
   have S0n:=hide (S0.o.kept k (by omega))
   have W0n:=hide (W0.o.kept k (by omega))
   have F0n:=hide (F0.o.kept k (by omega))
   have VAn:=hide (VA.o.kept k (by omega))
   have W1n:=hide (W1.o.kept k (by omega))
   have F1n:=hide (F1.o.kept k (by omega))
   have M1n:=hide (M1.o.kept k (by omega))
   have S2n:=hide (S2.o.kept k (by omega))
   have W2n:=hide (W2.o.kept k (by omega))
   have F2n:=hide (F2.o.kept k (by omega))
   clear Bel WA S0 W0 F0 VA W1 F1 M1 S2 W2 F2
   have Bel:=Beln
   have WA:=WAn
   have S0:=S0n
   have W0:=W0n
   have F0:=F0n
   have VA:=VAn
   have W1:=W1n
   have F1:=F1n
   have M1:=M1n
   have S2:=S2n
   have W2:=W2n
   have F2:=F2n
   clear Beln WAn S0n W0n F0n VAn W1n F1n M1n S2n W2n F2n
   have nw15f:=k.size
   clear k
   have ja:=W1.o.all
   go_wp2_with fail
   clear ja
   refine (DL _ D a1 b1 e1 q1 _ _ _ _ M1.o.d.row M1.o.a'.row M1.o.b'.row M1.o.l.row (by omega) (by omega) (by omega) (by omega)).mono ?_
   rintro e9 w16 ⟨rfl,k⟩
   have Beln:=hide (bi Bel.o k (by omega))
   have WAn:=hide (WA.o.kept k (by omega))
   have S0n:=hide (S0.o.kept k (by omega))
   have W0n:=hide (W0.o.kept k (by omega))
   have F0n:=hide (F0.o.kept k (by omega))
   have VAn:=hide (VA.o.kept k (by omega))
   have W1n:=hide (W1.o.kept k (by omega))
   have F1n:=hide (F1.o.kept k (by omega))
   have M1n:=hide (M1.o.kept k (by omega))
   have S2n:=hide (S2.o.kept k (by omega))
   have W2n:=hide (W2.o.kept k (by omega))
   have F2n:=hide (F2.o.kept k (by omega))
   clear Bel WA S0 W0 F0 VA W1 F1 M1 S2 W2 F2
   have Bel:=Beln
   have WA:=WAn
   have S0:=S0n
   have W0:=W0n
   have F0:=F0n
   have VA:=VAn
   have W1:=W1n
   have F1:=F1n
   have M1:=M1n
   have S2:=S2n
   have W2:=W2n
   have F2:=F2n
   clear Beln WAn S0n W0n F0n VAn W1n F1n M1n S2n W2n F2n
   have nw16:=k.size
   clear k
   go_wp2_with fail
   go_ret
   exact ⟨rfl,Bel.o⟩
theorem QH:prog.globalNamed "loop.example/g00389/impl.digitSums" = some 0:=by kernel_rfl
theorem JS:prog.globalNamed "loop.example/g00389/impl.ninesLess" = some 1:=by kernel_rfl
theorem UW:(prog.globals[0]?).map (·.type)=some 227:=by kernel_rfl
theorem Rh:(prog.globals[1]?).map (·.type)=some 228:=by kernel_rfl
theorem V7:prog.cellsOf 3=1:=by kernel_rfl
theorem V4:prog.cellsOf 227=20:=by kernel_rfl
theorem TJ:prog.cellsOf 228=10:=by kernel_rfl
def G8:List Int:=[0,1,2,3,4,5,6,7,8,9,16,17,18,19,20,21,22,23,24,25]
def Be:List Int:=[9,8,7,6,5,4,3,2,1,0]
theorem G7:∀i:Nat,i<20→G8.getD i 0=(i:Int)/10*16+(i:Int)%10:=by decide
theorem EK:∀i:Nat,i<10→Be.getD i 0=9-(i:Int):=by decide
theorem Nh {W:World} {rest:List (String × DataW Unit)} (h:laidMet prog (("loop.example/g00389/impl.digitSums",Rows.laid_loop_example_g00389_impl_digitSums) :: rest) W):oJ W:=by
 have hT:Lib.TabIs prog W "loop.example/g00389/impl.digitSums" .i64 G8:=Lib.tabIs_of_head (rest:=rest) QH UW underlying227 underlying3 V7 V4 h
 intro i hi
 rw [hT.cell QH i (by simpa [G8] using hi),G7 i hi]
theorem Nj {W:World} {rest:List (String × DataW Unit)} (h:laidMet prog (("loop.example/g00389/impl.ninesLess",Rows.laid_loop_example_g00389_impl_ninesLess) :: rest) W):rW W:=by
 have hT:Lib.TabIs prog W "loop.example/g00389/impl.ninesLess" .i64 Be:=Lib.tabIs_of_head (rest:=rest) JS Rh underlying228 underlying3 V7 TJ h
 intro i hi
 rw [hT.cell JS i (by simpa [Be] using hi),EK i hi]
theorem Nc {W:World} (h:laidMetH prog [("loop.example/g00389/impl.digitSums",Rows.laid_loop_example_g00389_impl_digitSums),("loop.example/g00389/impl.ninesLess",Rows.laid_loop_example_g00389_impl_ninesLess)] W):oJ W∧rW W:=by
 rw [MakeChecks.laidMetH_plain _ _ _ (by kernel_rfl)] at h
 exact ⟨Nh h,Nj h.tail⟩
open Go.RowKit Go.WideShapes Go.ChangeShapes Go.ChangeAt
set_option linter.unusedSimpArgs false
theorem Tryz.vW:prog.cellsOf 3=1:=by kernel_rfl
theorem Tryz.Lr:prog.cellsOf 127=5:=by kernel_rfl
theorem Tryz.Lp:prog.cellsOf 27=2:=by kernel_rfl
theorem Tryz.xm:prog.cellsOf 4=1:=by kernel_rfl
theorem Tryz.xk:prog.cellsOf 22=1:=by kernel_rfl
theorem Tryz.Gj:prog.cellsOf 25=1:=by kernel_rfl
theorem Tryz.Gi:prog.cellsOf 24=8:=by kernel_rfl
theorem Tryz.Lm:prog.cellsOf 29=12:=by kernel_rfl
theorem Addr.Af (a:Addr) (i j:Nat):(a.add i).add j=a.add (i+j):=by
 unfold Addr.add
 by_cases hi:i=0<;>by_cases hj:j=0<;>simp [hi,hj,Nat.add_assoc]
theorem Ea {w:World} {x:Addr} {n:Nat} (h:∀i,i<n→∃z:Int,w.cell? (x.add i)=some (iv z)∧(Lit.int .i64 z).wf=true):∃xs:List Int,xs.length=n∧Came w (some x) xs:=by
 obtain ⟨f,hf⟩:=Go.Deep.choose_lt h
 refine ⟨(List.range n).map f,by simp,?_,?_⟩
 ·intro i hi
  have hi':i<n:=by simpa using hi
  obtain ⟨g,off,spot⟩:=x
  have hspot:spot=none:=by simpa [Addr.add] using World.cell?_spot (hf 0 (by omega)).1
  subst hspot
  refine ⟨g,off,rfl,?_⟩
  have hc:=(hf i hi').1
  by_cases h0:i=0
  ·subst h0;simpa [Addr.add,hi'] using hc
  ·simpa [Addr.add,h0,hi'] using hc
 ·intro i hi
  have hi':i<n:=by simpa using hi
  have:=bounds_i64 (hf i hi').2
  simpa [hi'] using this
section
variable {H:Type} {enc:TypeId × Value→H} {w:World} {base:Nat} {spare:Nat→Bool} {held:Bool}
theorem pR {fuel:Nat} {v:Value} {y:DataW H × List MemPlace} (h:DataW.trod enc prog w base spare held fuel 22 [v]=some y) :
  ∃(a:Option Addr) (cap:Nat) (xs:List Int),v=.slice a xs.length cap∧Came w a xs∧xs.length≤maxLen:=by
 rcases open_ints underlying22 underlying3 Tryz.vW h with ⟨hc,_⟩|⟨x,len,cap,zs,hc,_,hl,hm,hz,_,hcell,hwz⟩
 ·simp at hc
  exact ⟨none,0,[],hc,⟨fun i hi=>absurd hi (Nat.not_lt_zero i),fun i hi=>absurd hi (Nat.not_lt_zero i)⟩,Nat.zero_le _⟩
 ·simp at hc
  have hlen:len≤zs.length:=by rw [hz];split<;>omega
  obtain ⟨xs,rfl,hx⟩:=Ea (w:=w) (x:=x) (n:=len) (fun i hi=>⟨zs.getD i 0,hcell i (by omega),hwz _ (by
   have:i<zs.length:=by omega
   simp [List.getD,this])⟩)
  exact ⟨some x,cap,xs,hc,hx,by omega⟩
theorem zo {fuel:Nat} {v:Value} {y:DataW H × List MemPlace} (h:DataW.trod enc prog w base spare held fuel 25 [v]=some y) :
  ∃(a:Option Addr) (m cap:Nat) (ys:List Int),v=.slice a m cap∧Came w a ys∧ys.length=5*m∧m≤maxLen:=by
 rcases Go.Deep.open_slice underlying25 h with ⟨hc,_⟩|⟨x,len,cap,m,n,D,Pl,hc,_,hl,hm,hmm,_,hel⟩
 ·simp at hc
  exact ⟨none,0,0,[],hc,⟨fun i hi=>absurd hi (Nat.not_lt_zero i),fun i hi=>absurd hi (Nat.not_lt_zero i)⟩,rfl,Nat.zero_le _⟩
 ·simp at hc
  have hlen:len≤m:=by rw [hmm];split<;>omega
  obtain ⟨ys,hy,hx⟩:=Ea (w:=w) (x:=x) (n:=5*len) (by
   intro i hi
   obtain ⟨cs',h1,h2⟩:=hel (i/5) (by omega)
   rw [Tryz.Lr] at h1
   obtain ⟨_,hl5,hcs⟩:=World.cells?_some h1
   obtain ⟨zs,k,_,_,_,hzl,hf⟩:=DataW.trod_struct underlying127 h2
   have hget:=hcs (i%5) (by omega)
   rw [Addr.Af,show i/5*5+i%5=i from by omega] at hget
   rw [hget]
   obtain ⟨c0,c1,c2,c3,c4,rfl⟩:∃c0 c1 c2 c3 c4,cs'=[c0,c1,c2,c3,c4]:=by
    match cs',hl5 with
    | [c0,c1,c2,c3,c4],_=>exact ⟨c0,c1,c2,c3,c4,rfl⟩
   obtain ⟨z0,z1,z2,z3,z4,rfl⟩:∃z0 z1 z2 z3 z4,zs=[z0,z1,z2,z3,z4]:=by
    match zs,hzl with
    | [z0,z1,z2,z3,z4],_=>exact ⟨z0,z1,z2,z3,z4,rfl⟩
   have t0:=hf 0 _ rfl
   have t1:=hf 1 _ rfl
   have t2:=hf 2 _ rfl
   have t3:=hf 3 _ rfl
   have t4:=hf 4 _ rfl
   simp [Tryz.vW] at t0 t1 t2 t3 t4
   obtain ⟨n0,e0,_,b0⟩:=DataW.trod_int underlying3 t0
   obtain ⟨n1,e1,_,b1⟩:=DataW.trod_int underlying3 t1
   obtain ⟨n2,e2,_,b2⟩:=DataW.trod_int underlying3 t2
   obtain ⟨n3,e3,_,b3⟩:=DataW.trod_int underlying3 t3
   obtain ⟨n4,e4,_,b4⟩:=DataW.trod_int underlying3 t4
   simp at e0 e1 e2 e3 e4
   subst e0 e1 e2 e3 e4
   obtain h|h|h|h|h:i%5=0∨i%5=1∨i%5=2∨i%5=3∨i%5=4:=by omega
   all_goals rw [h]
   ·exact ⟨n0,rfl,b0⟩
   ·exact ⟨n1,rfl,b1⟩
   ·exact ⟨n2,rfl,b2⟩
   ·exact ⟨n3,rfl,b3⟩
   ·exact ⟨n4,rfl,b4⟩)
  exact ⟨some x,len,cap,ys,hc,hx,hy,by omega⟩
theorem IA {r:Reach} {b0:Nat} {v:Value} {d:DataW H} {p:List MemPlace} (hv:Value.okWide prog w r b0 29 v) (h:DataW.Trod enc prog w base spare held 29 v d p) :
  ∃(a0:Option Addr) (c0:Nat) (x0:List Int) (a1:Option Addr) (c1:Nat) (x1:List Int) (i2 i3 i4 i5:Int) (i6 i7:Bool) (a8:Option Addr) (c8:Nat) (x8:List Int) (a9:Option Addr) (m9 c9:Nat) (x9:List Int) (i10 i11:Bool),v=.agg #[.slice a0 x0.length c0,.slice a1 x1.length c1,iv i2,iv i3,iv i4,iv i5,.bool i6,.bool i7,.slice a8 x8.length c8,.slice a9 m9 c9,.bool i10,.bool i11]∧(Came w a0 x0∧x0.length≤maxLen)∧(Came w a1 x1∧x1.length≤maxLen)∧(Lit.int .i64 i2).wf=true∧(Lit.int .i64 i3).wf=true∧(Lit.int .i64 i4).wf=true∧(Lit.int .i64 i5).wf=true∧(Came w a8 x8∧x8.length≤maxLen)∧(Came w a9 x9∧x9.length=5*m9∧m9≤maxLen):=by
 obtain ⟨cs,rfl,hsz⟩:=okWide_struct underlying29 hv
 rw [Tryz.Lm] at hsz
 obtain ⟨cl⟩:=cs
 obtain ⟨c_0,c_1,c_2,c_3,c_4,c_5,c_6,c_7,c_8,c_9,Po,Pn,rfl⟩:∃c_0 c_1 c_2 c_3 c_4 c_5 c_6 c_7 c_8 c_9 Po Pn,cl=[c_0,c_1,c_2,c_3,c_4,c_5,c_6,c_7,c_8,c_9,Po,Pn]:=by
  match cl,hsz with
  | [c_0,c_1,c_2,c_3,c_4,c_5,c_6,c_7,c_8,c_9,Po,Pn],_=>exact ⟨c_0,c_1,c_2,c_3,c_4,c_5,c_6,c_7,c_8,c_9,Po,Pn,rfl⟩
 obtain ⟨fuel,hf0⟩:=h
 obtain ⟨zs,k,_,_,_,hzl,hf⟩:=DataW.trod_struct underlying29 hf0
 obtain ⟨y_0,y_1,y_2,y_3,rfl⟩:∃y_0 y_1 y_2 y_3,zs=[y_0,y_1,y_2,y_3]:=by
  match zs,hzl with
  | [y_0,y_1,y_2,y_3],_=>exact ⟨y_0,y_1,y_2,y_3,rfl⟩
 have s0:=hf 0 _ rfl
 have s1:=hf 1 _ rfl
 have s2:=hf 2 _ rfl
 have s3:=hf 3 _ rfl
 simp [Value.cells,Tryz.Gi,Tryz.Lp,Tryz.xm] at s0 s1 s2 s3
 obtain ⟨zs,k2,_,_,_,hzl,hr⟩:=DataW.trod_struct underlying24 s0
 obtain ⟨z_0,z_1,z_2,z_3,z_4,z_5,z_6,z_7,rfl⟩:∃z_0 z_1 z_2 z_3 z_4 z_5 z_6 z_7,zs=[z_0,z_1,z_2,z_3,z_4,z_5,z_6,z_7]:=by
  match zs,hzl with
  | [z_0,z_1,z_2,z_3,z_4,z_5,z_6,z_7],_=>exact ⟨z_0,z_1,z_2,z_3,z_4,z_5,z_6,z_7,rfl⟩
 have t0:=hr 0 _ rfl
 have t1:=hr 1 _ rfl
 have t2:=hr 2 _ rfl
 have t3:=hr 3 _ rfl
 have t4:=hr 4 _ rfl
 have t5:=hr 5 _ rfl
 have t6:=hr 6 _ rfl
 have t7:=hr 7 _ rfl
 simp [Value.cells,Tryz.vW,Tryz.xm,Tryz.xk] at t0 t1 t2 t3 t4 t5 t6 t7
 obtain ⟨zs,k3,_,_,_,hzl,hb⟩:=DataW.trod_struct underlying27 s1
 obtain ⟨x_0,x_1,rfl⟩:∃x_0 x_1,zs=[x_0,x_1]:=by
  match zs,hzl with
  | [x_0,x_1],_=>exact ⟨x_0,x_1,rfl⟩
 have t8:=hb 0 _ rfl
 have t9:=hb 1 _ rfl
 simp [Value.cells,Tryz.xk,Tryz.Gj] at t8 t9
 obtain ⟨a0,c0,x0,q0,hx0,lx0⟩:=pR t0
 obtain ⟨a1,c1,x1,q1,hx1,lx1⟩:=pR t1
 obtain ⟨i2,q2,_,wf2⟩:=DataW.trod_int underlying3 t2
 obtain ⟨i3,q3,_,wf3⟩:=DataW.trod_int underlying3 t3
 obtain ⟨i4,q4,_,wf4⟩:=DataW.trod_int underlying3 t4
 obtain ⟨i5,q5,_,wf5⟩:=DataW.trod_int underlying3 t5
 obtain ⟨i6,q6,_⟩:=DataW.trod_bool underlying4 t6
 obtain ⟨i7,q7,_⟩:=DataW.trod_bool underlying4 t7
 obtain ⟨a8,c8,x8,q8,hx8,lx8⟩:=pR t8
 obtain ⟨a9,m9,c9,x9,q9,hx9,ly9,lm9⟩:=zo t9
 obtain ⟨i10,q10,_⟩:=DataW.trod_bool underlying4 s2
 obtain ⟨i11,q11,_⟩:=DataW.trod_bool underlying4 s3
 simp at q0 q1 q2 q3 q4 q5 q6 q7 q8 q9 q10 q11
 subst q0 q1 q2 q3 q4 q5 q6 q7 q8 q9 q10 q11
 exact ⟨a0,c0,x0,a1,c1,x1,i2,i3,i4,i5,i6,i7,a8,c8,x8,a9,m9,c9,x9,i10,i11,rfl,⟨hx0,lx0⟩,⟨hx1,lx1⟩,wf2,wf3,wf4,wf5,⟨hx8,lx8⟩,⟨hx9,ly9,lm9⟩⟩
end
end Go.Proofs.YtblddehlkaolbaaGreatDoor
