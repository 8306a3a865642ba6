/- Part 20 of what the last text leans on. -/
import Derived.Test.YtkkmnnhaailkcaaGreatDoorJB19
import Derived.Test.YtkkmnnhaailkcaaGreatDoorJB13
import Derived.Test.YtkkmnnhaailkcaaGreatDoorJB2
import Derived.Test.YtkkmnnhaailkcaaGreatDoorJB1
import Derived.Test.YtkkmnnhaailkcaaGreatDoorJB14
import Derived.Test.YtkkmnnhaailkcaaGreatDoorJB18
import Derived.Test.YtkkmnnhaailkcaaGreatDoorJB12
import Derived.Deep.DeepCutAuto
import Derived.Test.YtkkmnnhaailkcaaGreatDoorRows
import Derived.Lib.LaidTab
import Derived.Stop.LaidErr
import Derived.LaidMore
import Derived.Lib.SmallJoins
import Derived.Deep.Slices
import Derived.ProofKit
import Derived.OpenShut
set_option maxRecDepth 100000
set_option maxHeartbeats 16000000
namespace Go.Proofs.YtkkmnnhaailkcaaGreatDoor
open Go.RowKit Go.Proofs.Tryz
set_option linter.unusedVariables false
theorem Pl.Py {c:Pl.Mc} (h:(c.lF.v==0)=true):Pl.dH c.az=true:=by
 cases hf:c.fetch.fine
 ·have e:c.lF=c.fetch.f:=by unfold Pl.Mc.lF;rw [hf];rfl
  rw [e] at h
  unfold Pl.Mc.fine at hf
  rw [h] at hf;cases hf
 ·exact (Pl.ng hf).1
theorem WI (w:World) (lo b g:Nat) (c:Pl.Mc) (h:Bool) (hC:CAt w lo b g c h) (G:Pl.GM c) (hf:c.f=Pl.aI) (ht:jJ w lo) :
  Calls prog 44 #[.pointer (some ⟨b,0,none⟩)] w fun e' w'=>∃g',e'=.returned (.agg (ftC c.sp.f))∧CAt w' lo b g' (c.sp) h∧Since w b (b+1) g w' g':=by
 obtain ⟨l0,l1,l2,l3,l4⟩:=hC.lt
 obtain ⟨F,hF⟩:∃F,F=c.lF:=⟨_,rfl⟩
 obtain ⟨x,hx⟩:∃x,x=c.az:=⟨_,rfl⟩
 obtain ⟨N,hN⟩:∃N,N=c.bH:=⟨_,rfl⟩
 obtain ⟨E,hE⟩:∃E,E=c.fetch:=⟨_,rfl⟩
 have ES:Hid (c.sp=bif F.v==0 then E.nf.dn x c.r.p else {E with f:=F}):=hide (by unfold Pl.Mc.sp;rw [hF,hx,hE])
 have XO:Hid ((F.v==0)=true→Pl.dH x=true):=hide (by rw [hF,hx];exact Pl.Py)
 have GE:Hid (Pl.GM E):=hide (by rw [hE];exact G.fetch)
 have ER:Hid (E.r=c.r):=hide (by rw [hE];exact Pl.Ea.1)
 have HG:=hide G
 have HF:=hide hF
 have HX:=hide hx
 have HN:=hide hN
 have HE:=hide hE
 have TB:=hide ht
 have K0:=hide (kept_alloc w (.cells ftZ 49))
 have C0:=hide (hC.alloc (.cells ftZ 49))
 have R0:=hide (Blk.new w ftZ 49)
 obtain ⟨X,hX⟩:∃X:World,w.alloc (.cells ftZ 49)=X:=⟨_,rfl⟩
 rw [hX] at K0 C0 R0
 have sX:w.heap.size<X.heap.size:=R0.o.lt
 clear hC G hF hx hN hE ht
 go_enter func44,ntmps44
 go_wp2_with fail
 refine (UA _ lo b g c h C0.o HG.o hf).mono ?_
 rintro e9 W1 ⟨g1,rfl,hc,hs⟩
 rw [←HE.o] at hc
 rw [←HX.o,←HN.o,←HF.o]
 unfold ftC mi
 have n1:=hs.ne (b:=w.heap.size) R0.o.lt (by omega)
 have z1:=hs.size
 obtain ⟨y0,y1,y2,y3,y4⟩:=hc.lt
 have C1:=hide ((hc.alloc (.cells (inX x) 109)).alloc (.cells (ftA F) 49))
 have R1:=hide (((hs.blk R0.o (by omega) (by omega)).alloc (.cells (inX x) 109)).alloc (.cells (ftA F) 49))
 have S1:=hide (((((Since.refl w b (b+1) g).any K0.o).trans hs).alloc (.cells (inX x) 109)).alloc (.cells (ftA F) 49))
 have A1:=hide ((Blk.new W1 (inX x) 109).alloc (.cells (ftA F) 49))
 have L1:=Blk.new (W1.alloc (.cells (inX x) 109)) (ftA F) 49
 simp only [World.size_alloc] at L1
 replace L1:=hide L1
 clear hc hs hX
 go_wp2_with fail
 refine (fV F _).mono ?_
 rintro e9 W2 ⟨rfl,kf⟩
 have C2:=hide (C1.o.any kf)
 have R2:=hide (R1.o.af kf)
 have A2:=hide (A1.o.af kf)
 have L2:=hide (L1.o.af kf)
 have S2:=hide (S1.o.any kf)
 clear kf C1 R1 A1 L1 S1
 cases hv:(F.v != 0)
 ·have h0:(F.v==0)=true:=by simpa using hv
  have XK:=hide (XO.o h0)
  have E1:Hid (c.sp=E.nf.dn x c.r.p):=hide (by rw [ES.o,h0];rfl)
  clear h0
  go_wp2_with fail
  refine wp_region_still_tail 7 (by kernel_rfl) (by kernel_rfl) ?_
  simp only [List.take_succ_cons,List.take_zero,List.drop_succ_cons,List.drop_zero]
  obtain ⟨Y,hY⟩:∃Y:World,Y={W2 with drawn:=W2.drawn+1}:=⟨_,rfl⟩
  rw [←hY]
  have kY:Kept 0 0 W2 Y:=by rw [hY];exact ae (Kept.refl _ _ _)
  have C3:=hide (C2.o.any kY)
  have R3:=hide (R2.o.af kY)
  have A3:=hide (A2.o.af kY)
  have S3:=hide (S2.o.any kY)
  clear hY kY C2 R2 A2 L2 S2
  have p9:=C3.o.cP
  rw [ER.o] at p9
  have q:=A3.o.all
  iterate 7 still_step
  refine wpStill_nil ?_
  have C4:Hid (CAt Y lo b g1 E.nf h):=hide (C3.o.fx rfl rfl rfl rfl rfl)
  clear p9 q
  go_wp2_with (go_at_call 73;refine (cDo _ lo b g1 E.nf h x.op x.z x.r x.m x.k x.e x.s c.r.p C4.o (GE.o.ft Pl.aI) rfl XK.o (TB.o.since S3.o (by omega) (by omega)) HG.o.p0 HG.o.p1).mono ?_;rintro e9 W5 ⟨g',rfl,hc,hs⟩;rw [←show _=E.nf.dn x c.r.p from E1.o] at hc ⊢;obtain ⟨Q,hQ⟩:∃Q,Q=c.sp.f:=⟨_,rfl⟩;rw [←hQ];unfold ftC;have HQ:=hide hQ;clear hQ;have C5:=hide hc;have n5:=hs.ne (b:=w.heap.size) R3.o.lt (by omega);have R5:=hide (hs.blk R3.o (by omega) (by omega));have S5:=hide (S3.o.trans hs);have r5:=R5.o.all;have rf5:=R5.o.fz;clear hc hs)
  have KR:=(((((ak W5 w.heap.size 0 (iv Q.v)).one 1 (iv Q.pc)).one 2 (iv Q.ad)).one 3 (iv Q.wo)).one 4 (.bool Q.wr))
  refine bodyPost_ret (v:=.agg (ftA Q)) ?_ rfl ⟨g',?_,(C5.o).kept KR (by omega) (by omega),(S5.o).mine KR (by omega)⟩
  ·rw [aj rfl];go_simp
  ·rw [←HQ.o];rfl
 ·have E1:Hid (c.sp={E with f:=F}):=hide (by rw [ES.o,show (F.v==0)=false from by simpa using hv];rfl)
  have l2:=L2.o.all
  have r2:=R2.o.all
  have rf2:=R2.o.fz
  go_wp2_with fail
  have KR:=(((((ak W2 w.heap.size 0 (iv F.v)).one 1 (iv F.pc)).one 2 (iv F.ad)).one 3 (iv F.wo)).one 4 (.bool F.wr))
  refine bodyPost_ret (v:=.agg (ftA F)) ?_ rfl ⟨g1,?_,?_,(S2.o).mine KR (by omega)⟩
  ·rw [aj rfl];go_simp
  ·rw [E1.o];rfl
  ·rw [E1.o];exact ((C2.o).kept KR (by omega) (by omega)).fx rfl rfl rfl rfl rfl
theorem Q7 (w:World) (lo b g:Nat) (c:Pl.Mc) (h:Bool) (hC:CAt w lo b g c h) (l:c.bx.length=512):Calls prog 42 #[.pointer (some ⟨b,0,none⟩)] w fun e' w'=>e'=.returned (.bool (!c.st && !h))∧w'=w:=by
 have q1:=hC.cSt l
 have q2:=hC.cH l
 rcases Bool.eq_false_or_eq_true c.st with hst|hst<;>rw [hst] at q1 ⊢
 ·go_enter func42,ntmps42
  go_wp2
  go_ret
  exact ⟨rfl,rfl⟩
 ·go_enter func42,ntmps42
  go_wp2
  go_ret
  exact ⟨rfl,rfl⟩
def brd (xs:List Int) (u:Value):Array Value:=(cellsOf xs).push u
theorem UG {xs:List Int} {u:Value} {i:Nat} (hi:i<xs.length):(brd xs u)[i]? = some (iv (el xs i)):=by
 simp [brd,cellsOf,el,hi]
 rw [List.getElem?_append_left (by simpa using hi)]
 simp [hi]
theorem Qm {xs:List Int} {u:Value} (hl:xs.length=512):(brd xs u)[512]? = some u:=by
 simp [brd,cellsOf,hl]
theorem zW (off:Nat):∀(l:List Value) (k:Nat) (A:Array Value) (i:Nat),off+k+l.length≤A.size→
  ((l.zipIdx k).foldl (fun a (x:Value × Nat)=>a.setIfInBounds (off+x.2) x.1) A)[i]? = if off+k≤i∧i<off+k+l.length then l[i-(off+k)]? else A[i]?
 | [],k,A,i,h=>by
  simp only [List.zipIdx_nil,List.foldl_nil,List.length_nil]
  rw [if_neg (by omega)]
 | v :: r,k,A,i,h=>by
  simp only [List.length_cons] at h
  simp only [List.zipIdx_cons,List.foldl_cons,List.length_cons]
  rw [zW off r (k+1) _ i (by simp;omega)]
  by_cases h1:off+(k+1)≤i∧i<off+(k+1)+r.length
  ·rw [if_pos h1,if_pos (by omega),show i-(off+k)=(i-(off+(k+1)))+1 by omega,List.getElem?_cons_succ]
  ·rw [if_neg h1,Array.getElem?_setIfInBounds]
   by_cases h2:off+k=i
   ·rw [if_pos h2,if_pos (by omega),if_pos (by omega),show i-(off+k)=0 by omega];rfl
   ·rw [if_neg h2,if_neg (by omega)]
theorem Tryz.tV:(prog.info? 90).map (fun i=>(i.zero,i.size))=some (some (.agg (brd zeros (.slice none 0 0))),513):=by kernel_rfl
theorem Tryz.GI:∀w,(zeroValue 90).run prog w=.ok (.agg (brd zeros (.slice none 0 0))) w:=(zero_of_info Tryz.tV).1
theorem Tryz.GK:(prog.info? 90).map (·.size)=some 513:=(zero_of_info Tryz.tV).2
theorem kD (xs:List Int) (u:Value):(brd xs u).size=xs.length+1:=by simp [brd,cellsOf]
theorem fold_size (off:Nat):∀(l:List (Value × Nat)) (A:Array Value),(l.foldl (fun a (x:Value × Nat)=>a.setIfInBounds (off+x.2) x.1) A).size=A.size
 | [],A=>rfl
 | v :: r,A=>by rw [List.foldl_cons,fold_size off r];simp
def laid (off:Nat) (cs A:Array Value):Array Value:=cs.zipIdx.foldl (fun a (x:Value × Nat)=>a.setIfInBounds (off+x.2) x.1) A
theorem jv (off:Nat) (cs A:Array Value):(laid off cs A).size=A.size:=by
 unfold laid
 rw [←Array.foldl_toList]
 exact fold_size off _ A
theorem qE (off:Nat) (cs A:Array Value) (h:off+cs.size≤A.size) (i:Nat):(laid off cs A)[i]? = if off≤i∧i<off+cs.size then cs[i-off]? else A[i]? := by
 unfold laid
 rw [←Array.foldl_toList,Array.toList_zipIdx]
 have:=zW off cs.toList 0 A i (by simpa using h)
 simpa using this
theorem KT (cs A:Array Value) (u:Value) (hu:u.cells=#[u]) (hc:cs.size=512) (hA:A.size=513) :
  Instr.fill (#[(0,512),(512,1)][·]?) A [(0,.agg cs),(1,u)]=some (laid 512 #[u] (laid 0 cs A)):=by
 have h1:((laid 0 cs A)).size=513:=by rw [jv,hA]
 have e1:cs.zipIdx.foldl (fun a (x:Value × Nat)=>a.setIfInBounds (0+x.2) x.1) A=laid 0 cs A:=rfl
 unfold Instr.fill
 simp only [Value.cells,List.getElem?_toArray,List.getElem?_cons_zero]
 rw [if_neg (by simp [hc,hA])]
 rw [e1]
 unfold Instr.fill
 simp only [hu,List.getElem?_cons_succ,List.getElem?_cons_zero]
 rw [if_neg (by simp [h1])]
 unfold Instr.fill
 rfl
theorem Ql (xs:List Int) (u:Value) (h:u.oneCell'=true):(brd xs u).all (·.oneCell')=true:=by
 rw [Array.all_eq_true_iff_forall_mem]
 intro v hv
 simp only [brd,Array.mem_push] at hv
 rcases hv with hv|rfl
 ·exact Array.all_eq_true_iff_forall_mem.1 (uu xs) v hv
 ·exact h
theorem GH {P:Program} {ops:Array Oper} {rest:List Oper} {o:Oper} {a:Act} {w:World} {Q:Exit→Act→World→Prop} (hg:o.guard=none) (t:TypeId) (x y:Operand) (ho:o.op=.build t #[(0,x),(1,y)])
  (v u:Value) (hx:a.eval x=v) (hy:a.eval y=u) (cells:Array Value) (hf:P.built t [(0,v),(1,u)]=some cells)
  (h:wpList P ops Q rest (a.put o.dst (.agg cells)) w):wpList P ops Q (o :: rest) a w:=by
 have e:P.built t (#[(0,x),(1,y)].map fun (p:Nat × Operand)=>(p.1,a.eval p.2)).toList=some cells:=by
  simp [hx,hy,hf]
 refine wpList_build hg t #[(0,x),(1,y)] ho (by rw [e];rfl) ?_
 rw [e]
 exact h
theorem CV (xs:List Int) (b:Option Addr) (n c:Nat) (lx:xs.length=512) :
  prog.built 90 [(0,.agg (cellsOf xs)),(1,.slice b n c)]=some (brd xs (.slice b n c)):=by
 have hp:(match prog.underlying 90 with|some (.struct fields)=>fields.toList.mapM (fun f=>(prog.info? f.type).map fun i=>(f.offset,i.size))|_=>none)=some [(0,512),(512,1)]:=by kernel_rfl
 have e:prog.built 90 [(0,.agg (cellsOf xs)),(1,.slice b n c)]=Instr.fill (#[(0,512),(512,1)][·]?) (brd zeros (.slice none 0 0)) [(0,.agg (cellsOf xs)),(1,.slice b n c)]:=by
  have hi:=Tryz.tV
  unfold Program.built
  cases h1:prog.info? 90 with
  | none=>rw [h1] at hi;cases hi
  | some it=>
   rw [h1] at hi
   have hz:it.zero=some (.agg (brd zeros (.slice none 0 0))):=congrArg (fun o=>(o.map Prod.fst).getD none) hi
   cases h2:prog.underlying 90 with
   | none=>rw [h2] at hp;cases hp
   | some d=>
    rw [h2] at hp
    cases d
    case struct fields=>
     have hp':fields.toList.mapM (fun f=>(prog.info? f.type).map fun i=>(f.offset,i.size))=some [(0,512),(512,1)]:=hp
     simp only [hz,hp']
     rfl
    all_goals cases hp
 rw [e,KT (cellsOf xs) (brd zeros (.slice none 0 0)) (.slice b n c) rfl (by rw [cellsOf_size,lx]) (by rw [kD,fQ])]
 refine congrArg some ?_
 apply Array.ext_getElem?
 intro i
 rw [qE 512 #[.slice b n c] _ (by rw [jv,kD,fQ];simp),qE 0 _ _ (by rw [kD,fQ,cellsOf_size,lx];decide),cellsOf_size,lx]
 simp only [brd,Array.getElem?_push,cellsOf_size,lx]
 by_cases h:i<512
 ·rw [if_neg (by simp;omega),if_pos (by omega),if_neg (by omega)]
  rfl
 ·by_cases h2:i=512
  ·subst h2
   rfl
  ·have h3:¬i<513:=by omega
   rw [if_neg (by simp;omega),if_neg (by omega)]
   simp only [fQ]
   rw [if_neg h2,if_neg h2]
   rw [Array.getElem?_eq_none (by rw [cellsOf_size,fQ];omega),Array.getElem?_eq_none (by rw [cellsOf_size,lx];omega)]
theorem LD (W:World) (g m sCap:Nat) (sp:Option Addr) (ys:List Int) (cur:List Value) (t:TypeId) (hB:Blk W g cur.toArray t) (hr:aJ W sp ys) (hl:ys.length=5*m) (hc:cur.length=5*m) :
  ∃W',(Builtin.copy_ #[32,32] 3 #[.slice (some ⟨g,0,none⟩) m m,.slice sp m sCap]).run prog W=.ok (iv m) W'∧Blk W' g (cellsOf ys) t∧Kept g (g+1) W W':=by
 obtain ⟨i,hi,hz0,hz1,hz2⟩:=info_parts Tryz.kz
 have hmin:Nat.min m m=m:=Nat.min_self m
 by_cases h0:m=0
 ·subst h0
  obtain rfl:ys=[]:=List.eq_nil_of_length_eq_zero (by omega)
  obtain rfl:cur=[]:=List.eq_nil_of_length_eq_zero (by omega)
  refine ⟨W,?_,hB,Kept.refl _ _ _⟩
  have hl0:∀(x:Addr),(loadCells x 0).run prog W=.ok #[] W:=fun x=>by simpa using run_loadCells_list (P:=prog) W x [] (by simp)
  cases sp<;>simp [Builtin.copy_,run_underlying underlying32,Builtin.lenOf,Builtin.firstCells,sizeOf,typeInfo,hi,storeCells,hl0]<;>rfl
 ·obtain ⟨ga,oa,rfl,_⟩:=hr 0 (by omega)
  have hld:=run_loadCells_list (P:=prog) W ⟨ga,oa,none⟩ (ys.map (Value.int .i64)) (iU hr)
  have hst:=run_storeCells_at prog g 0 t (ys.map (Value.int .i64)) 0 cur.toArray W hB (by simp [hl,hc]) iL
  have e5:(ys.map (Value.int .i64)).length=m*5:=by rw [List.length_map,hl];omega
  rw [e5] at hld
  have e:(List.take (0+0) cur.toArray.toList++ys.map (Value.int .i64)++List.drop (0+0+(ys.map (Value.int .i64)).length) cur.toArray.toList)=ys.map (Value.int .i64):=by
   rw [List.drop_eq_nil_of_le (by simp [hl,hc])];simp
  rw [e] at hst
  refine ⟨W.setRow g (cellsOf ys),?_,hB.setRow,⟨rfl,rfl,rfl,by simp,fun k hk hn=>setRow_other W g k _ (by omega)⟩⟩
  simp [Builtin.copy_,run_underlying underlying32,Builtin.lenOf,Builtin.firstCells,sizeOf,typeInfo,hi,hz1,hmin,hld]
  have hst':(storeCells ⟨g,0,none⟩ (ys.map (Value.int .i64))).run prog W=.ok () (W.setRow g (cellsOf ys)):=hst
  rw [hst']
  rfl
theorem zy {w:World} {base g m:Nat} {ys:List Int} (h:Blk w g (cellsOf ys) 119) (hl:ys.length=5*m) (hb:base≤g) (bm:m≤2000000):w.ownsRow base 119 5 (.slice (some ⟨g,0,none⟩) m m) m (ys.map (Value.int .i64)):=by
 refine ⟨by simp [hl];omega,.inr ⟨g,m,cellsOf ys,rfl,hb,h,Nat.le_refl _,by unfold maxLen;omega,by rw [cellsOf_size,hl];omega,?_⟩⟩
 rw [List.take_of_length_le (by simp [cellsOf,hl];omega)]
 simp [cellsOf]
theorem Qn (w:World) (a b:Option Addr) (ca cb m:Nat) (xs ys:List Int) (ha:aJ w a xs) (hb:aJ w b ys) (lx:xs.length=512) (ly:ys.length=5*m) (bm:m≤400) :
  Calls prog 56 #[.agg #[.slice a xs.length ca,.slice b m cb]] w fun e w'=>∃g:Nat,e=.returned (.agg (brd xs (.slice (some ⟨g,0,none⟩) m m)))∧Blk w' g (cellsOf ys) 119∧w.heap.size≤g∧Kept 0 0 w w':=by
 obtain ⟨i,hi,hz0,hz1,hz2⟩:=info_parts Tryz.kz
 have HA:=hide ha
 have HB:=hide hb
 have HX:=hide lx
 have HY:=hide ly
 have bz:=Tryz.GI
 have hbuilt:=hide (CV xs (some ⟨w.heap.size+1+1,0,none⟩) m m lx)
 have K0:=hide (ah (kept_alloc w (.cells #[.slice a xs.length ca,.slice b m cb] 34)) (.cells (brd zeros (.slice none 0 0)) 90))
 have B0:=hide ((Blk.new w #[.slice a xs.length ca,.slice b m cb] 34).alloc (.cells (brd zeros (.slice none 0 0)) 90))
 have B1:=Blk.new (w.alloc (.cells #[.slice a xs.length ca,.slice b m cb] 34)) (brd zeros (.slice none 0 0)) 90
 simp only [World.size_alloc] at B1
 replace B1:=hide B1
 clear ha hb lx ly
 go_enter func56,ntmps56
 go_wp2_with (at_make;refine wpList_make_full _ rfl _ _ 32 rfl w.heap.size 119 i (.agg #[iv 0,iv 0,iv 0,iv 0,iv 0]) 5 underlying32 hi hz0 hz1 _ _ _ _ m rfl rfl rfl rfl ?c1 ?c2 ?c3 ?_)
 case c1=>rw [hz2];omega
 case c2=>unfold maxLen;omega
 case c3=>simp;omega
 intro w1 hown hg
 have k1:=bU hg
 have C0:=B0.o.af k1
 have C1:=B1.o.af k1
 have K1:=K0.o.trans k1
 obtain ⟨W2,hcopy,E2,k2⟩:=LD w1 (w.heap.size+1+1) m cb b ys _ _ (wE hown) (HB.o.ai K1) HY.o (by rw [hown.1];omega)
 have D0:=hide (C0.kept k2 (by omega))
 have D1:=hide (C1.kept k2 (by omega))
 have K2:=hide (bP K1 k2 (by omega))
 have H2:=hide E2
 have HZ:∀u,Hid ((prog.info? 90).map (·.size)=some (brd xs u).size):=fun u=>hide (by rw [kD,HX.o];exact Tryz.GK)
 have HZ2:∀u,Hid ((brd zeros (.slice none 0 0)).size=(brd xs u).size):=fun u=>hide (by rw [kD,kD,HX.o,fQ])
 have p1:=C0.cell (i:=1) rfl
 have d0:=D0.o.cell (i:=0) rfl
 have d1:=D0.o.cell (i:=1) rfl
 clear hown hg k1 C0 C1 K1 E2 k2
 go_wp2_with (first
  | (go_at_call 89;refine (Ja _ a b ca cb m xs (HA.o.ai K2.o) HX.o).mono ?_;rintro e w3 ⟨rfl,k3⟩;have D3:=hide (D1.o.af k3);have H3:=hide (H2.o.af k3);have K3:=hide (K2.o.trans k3);clear k3)
  | (refine GH rfl 90 (.tmp 13) (.tmp 14) rfl (.agg (cellsOf xs)) (.slice (some ⟨w.heap.size+1+1,0,none⟩) m m) rfl rfl (brd xs (.slice (some ⟨w.heap.size+1+1,0,none⟩) m m)) hbuilt.o ?_)
  | (refine wpList_store_row rfl 90 (.tmp 2) (.tmp 15) rfl (w.heap.size+1) (brd xs (.slice (some ⟨w.heap.size+1+1,0,none⟩) m m)) rfl rfl 90 (brd zeros (.slice none 0 0)) D3.o (HZ _).o (HZ2 _).o (Ql _ _ rfl) ?_))
 refine bodyPost_ret (v:=.agg (brd xs (.slice (some ⟨w.heap.size+1+1,0,none⟩) m m))) ?_ rfl ⟨w.heap.size+1+1,rfl,H3.o.zl (by omega),by omega,lN K3.o _ _ (by omega)⟩
 exact results_cell_row rfl _ _ _ _ _ (0,0) _ rfl D3.o.setRow underlying90 rfl (HZ _).o
theorem Tryz.J3:(prog.info? 93).map (fun i=>(i.zero,i.size))=some (some (.agg (cor ⟨[0,0,0,0],[0,0,0,0],0,0,0,0,false,false⟩ zeros (.slice none 0 0) false false)),529):=by kernel_rfl
theorem Lt (r:Pl.Rg) (xs:List Int) (u:Value) (st ha:Bool) (A:Array Value) (hA:A.size=529) (lx:xs.length=512):laid 528 #[.bool ha] (laid 527 #[.bool st] (laid 14 (brd xs u) (laid 0 (bkR r) A)))=cor r xs u st ha:=by
 have hb:(brd xs u).size=513:=by rw [kD,lx]
 have hr:(bkR r).size=14:=rfl
 apply Array.ext_getElem?
 intro i
 rw [qE 528 _ _ (by simp only [jv,hA];exact Nat.le_refl 529),qE 527 _ _ (by simp only [jv,hA];exact Nat.le_succ 528),qE 14 _ _ (by rw [jv,hA,hb];decide),qE 0 _ _ (by rw [hA,hr];decide),hb,hr]
 by_cases h1:i<14
 ·rw [if_neg (by simp;omega),if_neg (by simp;omega),if_neg (by omega),if_pos (by omega),yL h1];rfl
 ·by_cases h2:i<526
  ·rw [if_neg (by simp;omega),if_neg (by simp;omega),if_pos (by omega)]
   obtain ⟨n,rfl⟩:∃n,i=14+n:=⟨i-14,by omega⟩
   rw [ww (by omega),Nat.add_sub_cancel_left,UG (by omega)]
  ·by_cases h3:i<529
   ·have:i=526∨i=527∨i=528:=by omega
    rcases this with rfl|rfl|rfl
    ·rw [if_neg (by simp),if_neg (by simp),if_pos (by omega),kQ lx];exact Qm lx
    ·rw [if_neg (by simp),if_pos (by simp),Ll lx];rfl
    ·rw [if_pos (by simp),LC lx];rfl
   ·rw [if_neg (by simp;omega),if_neg (by simp;omega),if_neg (by omega),if_neg (by omega),Array.getElem?_eq_none (by omega),Array.getElem?_eq_none (by rw [Af lx];omega)]
theorem zM (k:Nat) (v:Value) (A:Array Value):laid k #[v] A=A.setIfInBounds k v:=rfl
theorem Lj (r:Pl.Rg) (xs:List Int) (m:Nat) (st ha:Bool) (lx:xs.length=512):∃(Z L:Array Value) (M:Option Addr→Array Value),(∀w,(zeroValue 93).run prog w=.ok (.agg Z) w)∧Z.size=529∧(bkR r).size=14∧(∀d,(brd xs (.slice d m m)).size=513)∧
  (bkR r).zipIdx.foldl (fun cs x=>cs.setIfInBounds x.2 x.1) Z 0 14=L∧L.size=529∧(∀d,(brd xs (.slice d m m)).zipIdx.foldl (fun cs x=>cs.setIfInBounds (14+x.2) x.1) L 0 513=M d)∧(∀d,(M d).size=529)∧
  ∀d,((M d).setIfInBounds 527 (.bool st)).setIfInBounds 528 (.bool ha)=cor r xs (.slice d m m) st ha:=by
 have hr:(bkR r).size=14:=rfl
 have hd:∀d,(brd xs (.slice d m m)).size=513:=fun d=>by rw [kD,lx]
 obtain ⟨Z,hz,hs⟩:∃Z:Array Value,(∀w,(zeroValue 93).run prog w=.ok (.agg Z) w)∧Z.size=529:=⟨_,(zero_of_info Tryz.J3).1,Af fQ⟩
 refine ⟨Z,laid 0 (bkR r) Z,fun d=>laid 14 (brd xs (.slice d m m)) (laid 0 (bkR r) Z),hz,hs,hr,hd,?_,?_,?_,?_,?_⟩
 ·unfold laid;simp [hr]
 ·rw [jv];exact hs
 ·intro d;unfold laid;simp [hr,hd]
 ·intro d;rw [jv,jv];exact hs
 ·intro d
  have:=Lt r xs (.slice d m m) st ha Z hs lx
  rw [zM,zM] at this
  exact this
theorem Ad {w:World} {x:Nat} {c:Pl.Cp} {a b e q:Option Addr} {ca cb ce cq:Nat} {ty:TypeId} (h:Blk w x (cpA c a b e q ca cb ce cq) ty):w.cell? ⟨x,0,none⟩=some (.slice a c.r.xs.length ca)∧w.cell? ⟨x,1,none⟩=some (.slice b c.r.ys.length cb)∧w.cell? ⟨x,2,none⟩=some (.int .i64 c.r.o)∧w.cell? ⟨x,3,none⟩=some (.int .i64 c.r.p)∧w.cell? ⟨x,4,none⟩=some (.int .i64 c.r.f)∧w.cell? ⟨x,5,none⟩=some (.int .i64 c.r.m)∧w.cell? ⟨x,6,none⟩=some (.bool c.r.s)∧w.cell? ⟨x,7,none⟩=some (.bool c.r.t)∧w.cell? ⟨x,8,none⟩=some (.slice e c.bx.length ce)∧w.cell? ⟨x,9,none⟩=some (.slice q c.bm cq)∧w.cell? ⟨x,10,none⟩=some (.bool c.st)∧w.cell? ⟨x,11,none⟩=some (.bool c.ha):=
 ⟨h.cell (i:=0) rfl,h.cell (i:=1) rfl,h.cell (i:=2) rfl,h.cell (i:=3) rfl,h.cell (i:=4) rfl,h.cell (i:=5) rfl,h.cell (i:=6) rfl,h.cell (i:=7) rfl,h.cell (i:=8) rfl,h.cell (i:=9) rfl,h.cell (i:=10) rfl,h.cell (i:=11) rfl⟩
theorem Ua (w:World) (c:Pl.Cp) (a b e q:Option Addr) (ca cb ce cq:Nat) (ha:aJ w a c.r.xs) (hb:aJ w b c.r.ys) (he:aJ w e c.bx) (hq:aJ w q c.bl) (lx:c.r.xs.length=4) (ly:c.r.ys.length=4) (lb:c.bx.length=512) (ll:c.bl.length=5*c.bm) (lm:c.bm≤400) :
  Calls prog 31 #[.agg (cpA c a b e q ca cb ce cq)] w fun r w'=>∃p g:Nat,r=.returned (.pointer (some ⟨p,0,none⟩))∧CAt w' w.heap.size p g (Pl.Mc.ofC c) c.ha∧Kept 0 0 w w':=by
 have K0:=hide (kept_alloc w (.cells (cpA c a b e q ca cb ce cq) 36))
 have HBA:=hide (Blk.new w (cpA c a b e q ca cb ce cq) 36)
 obtain ⟨X,hX⟩:∃X:World,w.alloc (.cells (cpA c a b e q ca cb ce cq) 36)=X:=⟨_,rfl⟩
 rw [hX] at K0 HBA
 have HA:=hide (ha.ai K0.o)
 have HB:=hide (hb.ai K0.o)
 have HE:=hide (he.ai K0.o)
 have HQ:=hide (hq.ai K0.o)
 obtain ⟨CZ,L1,L2,bz,z1,z2,z3,z4,z5,z6,z7,z8⟩:=Lj c.r c.bx c.bm c.st c.ha lb
 have LX:=hide lx
 have LY:=hide ly
 have LB:=hide lb
 have LL:=hide ll
 have LM:=hide lm
 clear ha hb he hq lx ly lb ll lm
 obtain ⟨i0,i1,i2,i3,i4,i5,i6,i7,i8,i9,i10,i11⟩:=Ad HBA.o
 go_enter func31,ntmps31
 go_wp2_with fail
 clear hX
 go_region_held3 (fun w'=>w'.cell? ⟨w.heap.size,0,none⟩=some (.slice a c.r.xs.length ca)∧w'.cell? ⟨w.heap.size,1,none⟩=some (.slice b c.r.ys.length cb)∧w'.cell? ⟨w.heap.size,2,none⟩=some (.int .i64 c.r.o)∧w'.cell? ⟨w.heap.size,3,none⟩=some (.int .i64 c.r.p)∧w'.cell? ⟨w.heap.size,4,none⟩=some (.int .i64 c.r.f)∧w'.cell? ⟨w.heap.size,5,none⟩=some (.int .i64 c.r.m)∧w'.cell? ⟨w.heap.size,6,none⟩=some (.bool c.r.s)∧w'.cell? ⟨w.heap.size,7,none⟩=some (.bool c.r.t)∧w'.cell? ⟨w.heap.size,8,none⟩=some (.slice e c.bx.length ce)∧w'.cell? ⟨w.heap.size,9,none⟩=some (.slice q c.bm cq)∧w'.cell? ⟨w.heap.size,10,none⟩=some (.bool c.st)∧w'.cell? ⟨w.heap.size,11,none⟩=some (.bool c.ha)) (first|exact Ad B4.o|exact Ad B3.o|exact Ad (show Blk _ _ _ _ from HBA.o)|exact Ad (B4.o.alloc _))
  (first|(go_at_call 56;have z9:=B3;refine (Qn _ e q ce cq c.bm c.bx c.bl (HE.o.ai K3.o) (HQ.o.ai K3.o) LB.o LL.o LM.o).mono ?_;rintro e9 w4 ⟨g,rfl,hb4,hg4,k4⟩;have B4:=hide (B3.o.af k4);have G4:=hide hb4;have L4:=hide hg4;have K4:=hide (K3.o.trans k4);clear hb4 hg4 k4)|(go_at_call 55;refine (UK _ c.r a b ca cb (HA.o.ai (ae (Kept.refl _ _ _))) (HB.o.ai (ae (Kept.refl _ _ _))) LX.o LY.o).mono ?_;rintro e9 w3 ⟨rfl,kd⟩;have k3:=cZ kd;have B3:=hide (HBA.o.af k3);have K3:=hide k3;clear kd k3))
 go_wp2_with fail
 go_ret
 have s0:=K0.o.size
 have s3:=K3.o.size
 have l4:=L4.o
 have g4:=G4.o.lt
 refine ⟨w4.heap.size,g,rfl,⟨c.bm,Blk.new w4 _ _,⟨zy (G4.o.alloc _) LL.o (by omega) (show c.bm≤2000000 by have:=LM.o;omega),?_,?_⟩⟩,K0.o.trans (ah K4.o _)⟩
 ·have:=K4.o.size;omega
 ·omega
theorem CAt.Am {w:World} {lo b g:Nat} {c:Pl.Mc} {h:Bool} (a:CAt w lo b g c h) (l:c.bx.length=512):w.cell? ⟨b,0,none⟩=some (.int .i64 (el c.r.xs 0))∧w.cell? ⟨b,1,none⟩=some (.int .i64 (el c.r.xs 1))∧w.cell? ⟨b,2,none⟩=some (.int .i64 (el c.r.xs 2))∧w.cell? ⟨b,3,none⟩=some (.int .i64 (el c.r.xs 3))∧w.cell? ⟨b,4,none⟩=some (.int .i64 (el c.r.ys 0))∧w.cell? ⟨b,5,none⟩=some (.int .i64 (el c.r.ys 1))∧w.cell? ⟨b,6,none⟩=some (.int .i64 (el c.r.ys 2))∧w.cell? ⟨b,7,none⟩=some (.int .i64 (el c.r.ys 3))∧w.cell? ⟨b,8,none⟩=some (.int .i64 c.r.o)∧w.cell? ⟨b,9,none⟩=some (.int .i64 c.r.p)∧w.cell? ⟨b,10,none⟩=some (.int .i64 c.r.f)∧w.cell? ⟨b,11,none⟩=some (.int .i64 c.r.m)∧w.cell? ⟨b,12,none⟩=some (.bool c.r.s)∧w.cell? ⟨b,13,none⟩=some (.bool c.r.t)∧w.cell? ⟨b,527,none⟩=some (.bool c.st)∧w.cell? ⟨b,528,none⟩=some (.bool h):=
 ⟨a.cX (by omega),a.cX (by omega),a.cX (by omega),a.cX (by omega),a.cY (k:=0) (by omega),a.cY (k:=1) (by omega),a.cY (k:=2) (by omega),a.cY (k:=3) (by omega),a.cO,a.cP,a.cF,a.cM,a.cS,a.cT,a.cSt l,a.cH l⟩
theorem Yx (w:World) {r:Pl.Rg} {st ha:Bool} (b:Nat) (xs:List Int) (d:Option Addr) (n c:Nat) (hB:Blk w b (cor r xs (.slice d n c) st ha) 93) (lx:xs.length=512) :
  Calls prog 60 #[.pointer (some ⟨b,14,none⟩)] w fun e w'=>∃g:Nat,e=.returned (.agg #[.slice (some ⟨g,0,none⟩) 512 512,.slice d n c])∧Blk w' g (cellsOf xs) 3∧w.heap.size≤g∧Kept 0 0 w w':=by
 have HX:=hide lx
 have HB:=hide hB
 have hu:=underlying88
 have hcs:(xs.map (Value.int .i64)).length=512:=by rw [List.length_map,lx]
 have hi:(prog.info? 88).map (·.size)=some (xs.map (Value.int .i64)).length:=by rw [hcs];exact Tryz.yc
 have h1:∀v∈xs.map (Value.int .i64),v.oneCell'=true:=iL
 have hlt:=hB.lt
 have HR:=hide ((Blk.new w #[.slice none 0 0,.slice none 0 0] 34))
 have K0:=hide (kept_alloc w (.cells #[.slice none 0 0,.slice none 0 0] 34))
 have B0:=hide (hB.alloc (.cells #[.slice none 0 0,.slice none 0 0] 34))
 clear hB lx
 go_enter func60,ntmps60
 go_wp2_with fail
 obtain ⟨W,hW⟩:∃W:World,W=w.alloc (.cells #[.slice none 0 0,.slice none 0 0] 34):=⟨_,rfl⟩
 rw [←hW] at HR K0 B0 ⊢
 clear hW
 obtain ⟨r1,r2⟩:=Gp B0.o HX.o
 go_region_held3 (fun w'=>w'.rangeAt b 14 (xs.map (Value.int .i64))∧w'.cell? ⟨b,526,none⟩=some (.slice d n c)) (first|exact Gp B3.o HX.o|exact Gp ((B3.o.other _ _ _ (by omega)).other _ _ _ (by omega)) HX.o|go_keep_ranges|go_keep)
  (first|(go_at_call 98;refine (Ol _ xs HX.o).mono ?_;rintro e w3 ⟨g,rfl,hb3,hg3,kd⟩;have k3:=cZ kd;have B3:=hide (B0.o.af k3);have R3:=hide (HR.o.af k3);have q0:=R3.o.cell (i:=0) rfl;have q1:=R3.o.cell (i:=1) rfl;have f0:=R3.o.frozen 0;have f1:=R3.o.frozen 1;have G3:=hide hb3;have L3:=hide hg3;have K3:=hide (K0.o.trans k3);clear hb3 hg3 kd k3))
 go_wp2_with fail
 have l3:W.heap.size≤g:=L3.o
 have k0:=K0.o.size
 have k1:=HR.o.lt
 refine bodyPost_ret (v:=.agg #[.slice (some ⟨g,0,none⟩) 512 512,.slice d n c]) ?_ rfl ⟨g,rfl,?_,by omega,?_⟩
 ·rw [aj rfl];go_simp
 ·exact (G3.o.other _ _ _ (by omega)).other _ _ _ (by omega)
 ·exact ag (ag K3.o _ _ _ (.inr (by omega))) _ _ _ (.inr (by omega))
theorem UB (w:World) (lo b g:Nat) (c:Pl.Mc) (h:Bool) (hC:CAt w lo b g c h) (G:Pl.GM c) :
  Calls prog 33 #[.pointer (some ⟨b,0,none⟩)] w fun r w'=>∃(a' b' e' q':Option Addr) (ca' cb' ce' cq':Nat),r=.returned (.agg (kJ (c.cpu h) a' b' e' q' ca' cb' ce' cq'))∧lC w' lo (c.cpu h) a' b' e' q'∧Kept 0 0 w w':=by
 obtain ⟨l0,l1,l2,l3,l4⟩:=hC.lt
 have K0:=hide (kept_alloc w (.cells cpZ 36))
 have R0:=hide (Blk.new w cpZ 36)
 have C0:=hide (hC.alloc (.cells cpZ 36))
 have LX:=hide G.g.d4
 have LY:=hide G.g.a4
 have LB:=hide G.bx
 clear hC G
 obtain ⟨X,hX⟩:∃X:World,w.alloc (.cells cpZ 36)=X:=⟨_,rfl⟩
 rw [hX] at K0 R0 C0
 obtain ⟨i0,i1,i2,i3,i4,i5,i6,i7,i8,i9,i10,i11,i12,i13,j1,j2⟩:=C0.o.Am LB.o
 go_enter func33,ntmps33
 go_wp2_with fail
 clear hX
 go_region_held3 (fun w'=>w'.cell? ⟨b,0,none⟩=some (.int .i64 (el c.r.xs 0))∧w'.cell? ⟨b,1,none⟩=some (.int .i64 (el c.r.xs 1))∧w'.cell? ⟨b,2,none⟩=some (.int .i64 (el c.r.xs 2))∧w'.cell? ⟨b,3,none⟩=some (.int .i64 (el c.r.xs 3))∧w'.cell? ⟨b,4,none⟩=some (.int .i64 (el c.r.ys 0))∧w'.cell? ⟨b,5,none⟩=some (.int .i64 (el c.r.ys 1))∧w'.cell? ⟨b,6,none⟩=some (.int .i64 (el c.r.ys 2))∧w'.cell? ⟨b,7,none⟩=some (.int .i64 (el c.r.ys 3))∧w'.cell? ⟨b,8,none⟩=some (.int .i64 c.r.o)∧w'.cell? ⟨b,9,none⟩=some (.int .i64 c.r.p)∧w'.cell? ⟨b,10,none⟩=some (.int .i64 c.r.f)∧w'.cell? ⟨b,11,none⟩=some (.int .i64 c.r.m)∧w'.cell? ⟨b,12,none⟩=some (.bool c.r.s)∧w'.cell? ⟨b,13,none⟩=some (.bool c.r.t)∧w'.cell? ⟨b,527,none⟩=some (.bool c.st)∧w'.cell? ⟨b,528,none⟩=some (.bool h)) (first|with_reducible exact C4.o.Am LB.o|with_reducible exact C3.o.Am LB.o|with_reducible exact C0.o.drew.Am LB.o|exact (C4.o.kept ((((((((((((ak _ w.heap.size _ _).one _ _).one _ _).one _ _).one _ _).one _ _).one _ _).one _ _).one _ _).one _ _).one _ _).one _ _) (by omega) (by omega)).Am LB.o)
  (first|(go_at_call 60;have z9:=C3;obtain ⟨cu,hb9,ho9⟩:=C3.o;refine (Yx _ b c.bx _ _ _ hb9 LB.o).mono ?_;rintro e9 w4 ⟨gb,rfl,hb4,hg4,k4⟩;have C4:=hide (C3.o.any k4);have B4:=hide hb4;have L4:=hide hg4;have RI4:=hide (RI3.o.kept k4);have R4:=hide (R3.o.af k4);have p:=R4.o.all;have pf:=R4.o.fz;have O4:=hide (ho9.any k4);have K4:=hide (K3.o.trans k4);clear hb4 hg4 k4 hb9 ho9)|(go_at_call 59;refine (MI c.r _ LX.o LY.o).mono ?_;rintro e9 w3 ⟨a',b',ca',cb',rfl,hr3,kd⟩;have k3:=cZ kd;have C3:=hide (C0.o.any k3);have R3:=hide (R0.o.af k3);have RI3:=hide hr3;have K3:=hide k3;clear kd k3 hr3))
 go_wp2_with fail
 have K5:=((((((((((((ak w4 w.heap.size 0 (.slice a' c.r.xs.length ca')).one 1 (.slice b' c.r.ys.length cb')).one 2 (.int .i64 c.r.o)).one 3 (.int .i64 c.r.p)).one 4 (.int .i64 c.r.f)).one 5 (.int .i64 c.r.m)).one 6 (.bool c.r.s)).one 7 (.bool c.r.t)).one 8 (.slice (some ⟨gb,0,none⟩) 512 512)).one 9 (.slice (some ⟨g,0,none⟩) c.bm cu)).one 10 (.bool c.st)).one 11 (.bool h))
 have s0:w.heap.size<X.heap.size:=R0.o.lt
 have s3:X.heap.size≤w3.heap.size:=K3.o.size
 have s4:w3.heap.size≤w4.heap.size:=by have:=K4.o.size;have:=L4.o;have:=B4.o.lt;omega
 have l4:=L4.o
 have b4:=B4.o.lt
 have s5:=K5.size
 have ra:∀x,blk a'=some x→X.heap.size≤x∧x<w3.heap.size:=by
  intro x hx
  rcases RI3.o.1 with ⟨e1,_⟩|⟨y,e1,y0,y1,_⟩
  ·rw [e1] at hx;cases hx
  ·rw [e1] at hx;have hx':y=x:=Option.some.inj hx;subst hx';exact ⟨y0,y1⟩
 have rb:∀x,blk b'=some x→X.heap.size≤x∧x<w3.heap.size:=by
  intro x hx
  rcases RI3.o.2.1 with ⟨e1,_⟩|⟨y,e1,y0,y1,_⟩
  ·rw [e1] at hx;cases hx
  ·rw [e1] at hx;have hx':y=x:=Option.some.inj hx;subst hx';exact ⟨y0,y1⟩
 refine bodyPost_ret (v:=.agg #[.slice a' c.r.xs.length ca',.slice b' c.r.ys.length cb',.int .i64 c.r.o,.int .i64 c.r.p,.int .i64 c.r.f,.int .i64 c.r.m,.bool c.r.s,.bool c.r.t,.slice (some ⟨gb,0,none⟩) 512 512,.slice (some ⟨g,0,none⟩) c.bm cu,.bool c.st,.bool h]) ?_ rfl ⟨a',b',some ⟨gb,0,none⟩,some ⟨g,0,none⟩,ca',cb',512,cu,?_,⟨?_,?_,?_,?_,RI3.o.2.2,?_,?_,?_,?_,?_⟩,?_⟩
 ·rw [aj rfl];go_simp
 ·unfold kJ Pl.Mc.cpu;dsimp only;rw [LB.o]
 ·exact (bg.kept RI4.o.1 K5 (.inr (.inl (show w.heap.size+1≤X.heap.size by omega)))).wide (show lo≤X.heap.size by omega) s5
 ·exact (bg.kept RI4.o.2.1 K5 (.inr (.inl (show w.heap.size+1≤X.heap.size by omega)))).wide (show lo≤X.heap.size by omega) s5
 ·exact .inr ⟨gb,rfl,by omega,by omega,jQ (B4.o.kept K5 (by omega))⟩
 ·exact .inr ⟨g,rfl,l2,by omega,gX (dL O4.o.l K5 (by omega))⟩
 ·intro x h1 h2;have h3:gb=x:=Option.some.inj h2;have:=ra x h1;omega
 ·intro x h1 h2;have h3:g=x:=Option.some.inj h2;have:=ra x h1;omega
 ·intro x h1 h2;have h3:gb=x:=Option.some.inj h2;have:=rb x h1;omega
 ·intro x h1 h2;have h3:g=x:=Option.some.inj h2;have:=rb x h1;omega
 ·intro x h1 h2;have h3:gb=x:=Option.some.inj h1;have h4:g=x:=Option.some.inj h2;omega
 ·exact bP (K0.o.trans K4.o) K5 (by omega)
theorem lQ (w:World) (c:Pl.Cp) (a b e q:Option Addr) (ca cb ce cq:Nat) (ha:Came w a c.r.xs) (hb:Came w b c.r.ys) (he:Came w e c.bx) (hq:Came w q c.bl) (lx:c.r.xs.length≤2000000) (ly:c.r.ys.length≤2000000) (lb:c.bx.length≤2000000) (ll:c.bl.length=5*c.bm) (lm:c.bm≤2000000) (wf:Pl.WfR c.r) :
  Calls prog 30 #[.agg #[.slice a c.r.xs.length ca,.slice b c.r.ys.length cb,iv c.r.o,iv c.r.p,iv c.r.f,iv c.r.m,.bool c.r.s,.bool c.r.t,.slice e c.bx.length ce,.slice q c.bm cq,.bool c.st,.bool c.ha]] w fun r w'=>r=.returned (.bool (Pl.ik c))∧Kept 0 0 w w':=by
 have K0:=hide (kept_alloc w (.cells #[.slice a c.r.xs.length ca,.slice b c.r.ys.length cb,iv c.r.o,iv c.r.p,iv c.r.f,iv c.r.m,.bool c.r.s,.bool c.r.t,.slice e c.bx.length ce,.slice q c.bm cq,.bool c.st,.bool c.ha] 36))
 have HBA:=hide (Blk.new w #[.slice a c.r.xs.length ca,.slice b c.r.ys.length cb,iv c.r.o,iv c.r.p,iv c.r.f,iv c.r.m,.bool c.r.s,.bool c.r.t,.slice e c.bx.length ce,.slice q c.bm cq,.bool c.st,.bool c.ha] 36)
 obtain ⟨X,hX⟩:∃X:World,w.alloc (.cells #[.slice a c.r.xs.length ca,.slice b c.r.ys.length cb,iv c.r.o,iv c.r.p,iv c.r.f,iv c.r.m,.bool c.r.s,.bool c.r.t,.slice e c.bx.length ce,.slice q c.bm cq,.bool c.st,.bool c.ha] 36)=X:=⟨_,rfl⟩
 rw [hX] at K0 HBA
 have HA:=hide (ha.ai K0.o)
 have HB:=hide (hb.ai K0.o)
 have HE:=hide (he.ai K0.o)
 have HQ:=hide (hq.ai K0.o)
 clear ha hb he hq
 have p:=HBA.o.all
 cases h1:Pl.sW c.r
 ·go_enter func30,ntmps30
  go_wp2_with (go_at_call 53;refine (nU _ c.r a b ca cb HA.o HB.o lx ly wf).mono ?_;rintro e9 W ⟨rfl,k9⟩;rw [h1];have HK1:=hide k9;have HB1:=hide (HBA.o.af k9);have HE1:=hide (HE.o.ai k9);have HQ1:=hide (HQ.o.ai k9);clear k9 p;have p:=HB1.o.all)
  go_ret
  exact ⟨rB (by unfold Pl.ik;simp [h1]),K0.o.trans HK1.o⟩
 ·cases h2:Pl.fK c.bx c.bl c.bm
  ·go_enter func30,ntmps30
   go_wp2_with (first|(go_at_call 54;have z9:=HB1;refine (fK _ e q ce cq c.bm c.bx c.bl HE1.o HQ1.o lb ll lm).mono ?_;rintro e9 W2 ⟨rfl,k9⟩;rw [h2];have HK2:=hide k9;have HB2:=hide (HB1.o.af k9);clear k9 p;have p:=HB2.o.all)|(go_at_call 53;refine (nU _ c.r a b ca cb HA.o HB.o lx ly wf).mono ?_;rintro e9 W ⟨rfl,k9⟩;rw [h1];have HK1:=hide k9;have HB1:=hide (HBA.o.af k9);have HE1:=hide (HE.o.ai k9);have HQ1:=hide (HQ.o.ai k9);clear k9 p;have p:=HB1.o.all))
   go_ret
   exact ⟨rB (by unfold Pl.ik;simp [h1,h2]),(K0.o.trans HK1.o).trans HK2.o⟩
  ·rcases Bool.eq_false_or_eq_true c.st with h3|h3
   all_goals
    have H3:=hide h3
    clear h3
    go_enter func30,ntmps30
    go_wp2_with (first|(go_at_call 54;have z9:=HB1;refine (fK _ e q ce cq c.bm c.bx c.bl HE1.o HQ1.o lb ll lm).mono ?_;rintro e9 W2 ⟨rfl,k9⟩;rw [h2];have HK2:=hide k9;have HB2:=hide (HB1.o.af k9);clear k9 p;have p:=HB2.o.all;rw [H3.o] at p)|(go_at_call 53;refine (nU _ c.r a b ca cb HA.o HB.o lx ly wf).mono ?_;rintro e9 W ⟨rfl,k9⟩;rw [h1];have HK1:=hide k9;have HB1:=hide (HBA.o.af k9);have HE1:=hide (HE.o.ai k9);have HQ1:=hide (HQ.o.ai k9);clear k9 p;have p:=HB1.o.all))
    go_ret
    exact ⟨rB (by unfold Pl.ik;simp [h1,h2,H3.o]),(K0.o.trans HK1.o).trans HK2.o⟩
theorem J9 {w:World} {q:Nat} {F:Pl.Ft} {ty:TypeId} (h:Blk w q (ftC F) ty):w.cell? ⟨q,0,none⟩=some (iv F.v)∧w.cell? ⟨q,1,none⟩=some (iv F.pc)∧w.cell? ⟨q,2,none⟩=some (iv F.ad)∧w.cell? ⟨q,3,none⟩=some (iv F.wo)∧w.cell? ⟨q,4,none⟩=some (.bool F.wr):=
 ⟨h.cell (i:=0) rfl,h.cell (i:=1) rfl,h.cell (i:=2) rfl,h.cell (i:=3) rfl,h.cell (i:=4) rfl⟩
theorem lC.mvs {w w':World} {base base' x y:Nat} {c:Pl.Cp} {a b e q:Option Addr} (h:lC w base c a b e q) (k:Kept x y w w') (hy:y≤base) (hb:base'≤base):lC w' base' c a b e q:=
 ⟨(bg.kept h.d k (.inr (.inl hy))).wide hb k.size,(bg.kept h.a' k (.inr (.inl hy))).wide hb k.size,(bg.kept h.b' k (.inr (.inl hy))).wide hb k.size,(bg.kept h.l k (.inr (.inl hy))).wide hb k.size,h.n1,h.n2,h.n3,h.n4,h.n5,h.n6⟩
theorem zO {w a b:World} {lo hi g g':Nat} (k:Kept 0 0 w a) (h:Since a lo hi g b g') (hl:w.heap.size≤lo) (hg:w.heap.size≤g):Kept 0 0 w b:=
 ⟨h.2.os.trans k.os,h.2.tape.trans k.tape,h.2.output.trans k.output,Nat.le_trans k.size h.2.size,fun i hi _=>(h.2.block i (Nat.lt_of_lt_of_le hi k.size) (by unfold own;omega)).trans (k.block i hi (by omega))⟩
theorem EL {w W:World} {lo:Nat} (hs:nH w) (hn:qN w) (k:Kept 0 0 w W) (h:w.heap.size≤lo):jJ W lo:=by
 have h1:=World.block_lt_of_cell? _ _ (hs 0 (by omega))
 have h2:=World.block_lt_of_cell? _ _ (hn 0 (by omega))
 exact ⟨hs.below k.below,hn.below k.below,Nat.lt_of_lt_of_le h1 h,Nat.lt_of_lt_of_le h2 h⟩
theorem kN {w:World} {p:Nat} {v0 v1 v2 v3 v4 v5 v6 v7 v8 v9 v10 v11:Value}:Kept p (p+1) w ((((((((((((w.setCell ⟨p,0,none⟩ (v0)).setCell ⟨p,1,none⟩ (v1)).setCell ⟨p,2,none⟩ (v2)).setCell ⟨p,3,none⟩ (v3)).setCell ⟨p,4,none⟩ (v4)).setCell ⟨p,5,none⟩ (v5)).setCell ⟨p,6,none⟩ (v6)).setCell ⟨p,7,none⟩ (v7)).setCell ⟨p,8,none⟩ (v8)).setCell ⟨p,9,none⟩ (v9)).setCell ⟨p,10,none⟩ (v10)).setCell ⟨p,11,none⟩ (v11)):=((((((((((((ak w p 0 (v0)).one 1 (v1)).one 2 (v2)).one 3 (v3)).one 4 (v4)).one 5 (v5)).one 6 (v6)).one 7 (v7)).one 8 (v8)).one 9 (v9)).one 10 (v10)).one 11 (v11))
theorem Blk.Iz {w:World} {q p:Nat} {cs:Array Value} {ty:TypeId} {v0 v1 v2 v3 v4 v5 v6 v7 v8 v9 v10 v11:Value} (h:Blk w q cs ty) (hn:q≠p):Blk ((((((((((((w.setCell ⟨p,0,none⟩ (v0)).setCell ⟨p,1,none⟩ (v1)).setCell ⟨p,2,none⟩ (v2)).setCell ⟨p,3,none⟩ (v3)).setCell ⟨p,4,none⟩ (v4)).setCell ⟨p,5,none⟩ (v5)).setCell ⟨p,6,none⟩ (v6)).setCell ⟨p,7,none⟩ (v7)).setCell ⟨p,8,none⟩ (v8)).setCell ⟨p,9,none⟩ (v9)).setCell ⟨p,10,none⟩ (v10)).setCell ⟨p,11,none⟩ (v11)) q cs ty:=h.kept ((((((((((((ak w p 0 (v0)).one 1 (v1)).one 2 (v2)).one 3 (v3)).one 4 (v4)).one 5 (v5)).one 6 (v6)).one 7 (v7)).one 8 (v8)).one 9 (v9)).one 10 (v10)).one 11 (v11)) (by omega)
theorem nT {w:World} {p:Nat} {v0 v1 v2 v3 v4:Value}:Kept p (p+1) w (((((w.setCell ⟨p,0,none⟩ (v0)).setCell ⟨p,1,none⟩ (v1)).setCell ⟨p,2,none⟩ (v2)).setCell ⟨p,3,none⟩ (v3)).setCell ⟨p,4,none⟩ (v4)):=(((((ak w p 0 (v0)).one 1 (v1)).one 2 (v2)).one 3 (v3)).one 4 (v4))
theorem Blk.VI {w:World} {q p:Nat} {cs:Array Value} {ty:TypeId} {v0 v1 v2 v3 v4:Value} (h:Blk w q cs ty) (hn:q≠p):Blk (((((w.setCell ⟨p,0,none⟩ (v0)).setCell ⟨p,1,none⟩ (v1)).setCell ⟨p,2,none⟩ (v2)).setCell ⟨p,3,none⟩ (v3)).setCell ⟨p,4,none⟩ (v4)) q cs ty:=h.kept (((((ak w p 0 (v0)).one 1 (v1)).one 2 (v2)).one 3 (v3)).one 4 (v4)) (by omega)
theorem tX (w:World) (c:Pl.Cp) (n:Int) (a b e q:Option Addr) (ca cb ce cq:Nat) (ha:Came w a c.r.xs) (hb:Came w b c.r.ys) (he:Came w e c.bx) (hq:Came w q c.bl) (lx:c.r.xs.length≤2000000) (ly:c.r.ys.length≤2000000) (lb:c.bx.length≤2000000) (ll:c.bl.length=5*c.bm) (lm:c.bm≤2000000) (wf:Pl.WfR c.r) (wfn:(Lit.int .i64 n).wf=true) (ht:nH w) (hn:qN w) (hbad:Pl.iP c n=false) :
  Calls prog 23 #[.agg (cpA c a b e q ca cb ce cq),iv n] w fun r w'=>∃(a' b' e' q':Option Addr) (ca' cb' ce' cq':Nat),r=.returned (.tuple #[.agg (kJ (Pl.ssC c n) a' b' e' q' ca' cb' ce' cq'),iv (Pl.ssN c n),.agg (ftC (Pl.ssF c n)),.bool (Pl.iP c n)])∧lC w' w.heap.size (Pl.ssC c n) a' b' e' q'∧Kept 0 0 w w':=by
 have K0:=hide (ah (ah (kept_alloc w (.cells (cpA c a b e q ca cb ce cq) 36)) (.cells cpZ 36)) (.cells ftZ 49))
 have BA:=hide (((Blk.new w (cpA c a b e q ca cb ce cq) 36).alloc (.cells cpZ 36)).alloc (.cells ftZ 49))
 have R0:=(Blk.new (w.alloc (.cells (cpA c a b e q ca cb ce cq) 36)) cpZ 36).alloc (.cells ftZ 49)
 have Q0:=Blk.new ((w.alloc (.cells (cpA c a b e q ca cb ce cq) 36)).alloc (.cells cpZ 36)) ftZ 49
 simp only [World.size_alloc] at R0 Q0
 replace R0:=hide R0
 replace Q0:=hide Q0
 obtain ⟨X,hX⟩:∃X:World,((w.alloc (.cells (cpA c a b e q ca cb ce cq) 36)).alloc (.cells cpZ 36)).alloc (.cells ftZ 49)=X:=⟨_,rfl⟩
 rw [hX] at K0 BA R0 Q0
 have HA:=hide (ha.ai K0.o)
 have HB:=hide (hb.ai K0.o)
 have HE:=hide (he.ai K0.o)
 have HQ:=hide (hq.ai K0.o)
 have HS:=hide ht
 have HT:=hide hn
 have sX:w.heap.size+1+1<X.heap.size:=Q0.o.lt
 clear ha hb he hq ht hn
 have p:=BA.o.all
 cases h1:Pl.ik c
 ·have EO:Hid (Pl.iP c n=false):=hide (by exact hbad)
  have EC:Hid (Pl.ssC c n=Pl.Ae):=hide (by unfold Pl.ssC;rw [EO.o];rfl)
  have EN:Hid (Pl.ssN c n=0):=hide (by unfold Pl.ssN;rw [EO.o];rfl)
  have EF:Hid (Pl.ssF c n=Pl.aI):=hide (by unfold Pl.ssF;rw [EO.o];rfl)
  go_enter func23,ntmps23
  go_wp2_with (go_at_call 30;refine (lQ _ c a b e q ca cb ce cq HA.o HB.o HE.o HQ.o lx ly lb ll lm wf).mono ?_;rintro e9 W1 ⟨rfl,k9⟩;rw [h1];have K1:=hide k9;have R1:=hide (R0.o.af k9);have Q1:=hide (Q0.o.af k9);have p1:=(BA.o.af k9).all;have r1:=R1.o.all;have rf1:=R1.o.fz;have q1:=Q1.o.all;have qf1:=Q1.o.fz;clear k9)
  have s1:=K1.o.size
  refine bodyPost_ret (v:=.tuple #[.agg cpZ,iv 0,.agg ftZ,.bool false]) ?_ rfl ⟨none,none,none,none,0,0,0,0,by rw [EC.o,EN.o,EF.o,EO.o];rfl,by rw [EC.o];exact qj _ _,bP (bP (K0.o.trans K1.o) kN (by omega)) nT (by omega)⟩
  rw [aU rfl];go_simp
 ·by_cases hn0:n<0
  ·have EO:Hid (Pl.iP c n=false):=hide (by exact hbad)
   have EC:Hid (Pl.ssC c n=Pl.Ae):=hide (by unfold Pl.ssC;rw [EO.o];rfl)
   have EN:Hid (Pl.ssN c n=0):=hide (by unfold Pl.ssN;rw [EO.o];rfl)
   have EF:Hid (Pl.ssF c n=Pl.aI):=hide (by unfold Pl.ssF;rw [EO.o];rfl)
   go_enter func23,ntmps23
   go_wp2_with (go_at_call 30;refine (lQ _ c a b e q ca cb ce cq HA.o HB.o HE.o HQ.o lx ly lb ll lm wf).mono ?_;rintro e9 W1 ⟨rfl,k9⟩;rw [h1];have K1:=hide k9;have R1:=hide (R0.o.af k9);have Q1:=hide (Q0.o.af k9);have p1:=(BA.o.af k9).all;have r1:=R1.o.all;have rf1:=R1.o.fz;have q1:=Q1.o.all;have qf1:=Q1.o.fz;clear k9)
   have s1:=K1.o.size
   refine bodyPost_ret (v:=.tuple #[.agg cpZ,iv 0,.agg ftZ,.bool false]) ?_ rfl ⟨none,none,none,none,0,0,0,0,by rw [EC.o,EN.o,EF.o,EO.o];rfl,by rw [EC.o];exact qj _ _,bP (bP (K0.o.trans K1.o) kN (by omega)) nT (by omega)⟩
   rw [aU rfl];go_simp
  ·have hn6:60<n:=by
    have:¬(0≤n∧n≤60):=by
     intro q
     unfold Pl.iP at hbad
     rw [h1] at hbad
     simp [Pl.within] at hbad
     omega
    omega
   have EO:Hid (Pl.iP c n=false):=hide (by exact hbad)
   have EC:Hid (Pl.ssC c n=Pl.Ae):=hide (by unfold Pl.ssC;rw [EO.o];rfl)
   have EN:Hid (Pl.ssN c n=0):=hide (by unfold Pl.ssN;rw [EO.o];rfl)
   have EF:Hid (Pl.ssF c n=Pl.aI):=hide (by unfold Pl.ssF;rw [EO.o];rfl)
   go_enter func23,ntmps23
   go_wp2_with (go_at_call 30;refine (lQ _ c a b e q ca cb ce cq HA.o HB.o HE.o HQ.o lx ly lb ll lm wf).mono ?_;rintro e9 W1 ⟨rfl,k9⟩;rw [h1];have K1:=hide k9;have R1:=hide (R0.o.af k9);have Q1:=hide (Q0.o.af k9);have p1:=(BA.o.af k9).all;have r1:=R1.o.all;have rf1:=R1.o.fz;have q1:=Q1.o.all;have qf1:=Q1.o.fz;clear k9)
   have s1:=K1.o.size
   refine bodyPost_ret (v:=.tuple #[.agg cpZ,iv 0,.agg ftZ,.bool false]) ?_ rfl ⟨none,none,none,none,0,0,0,0,by rw [EC.o,EN.o,EF.o,EO.o];rfl,by rw [EC.o];exact qj _ _,bP (bP (K0.o.trans K1.o) kN (by omega)) nT (by omega)⟩
   rw [aU rfl];go_simp
theorem uy (w:World) (c:Pl.Cp) (n:Int) (a b e q:Option Addr) (ca cb ce cq:Nat) (ha:Came w a c.r.xs) (hb:Came w b c.r.ys) (he:Came w e c.bx) (hq:Came w q c.bl) (lx:c.r.xs.length≤2000000) (ly:c.r.ys.length≤2000000) (lb:c.bx.length≤2000000) (ll:c.bl.length=5*c.bm) (lm:c.bm≤2000000) (wf:Pl.WfR c.r) (wfn:(Lit.int .i64 n).wf=true) (ht:nH w) (hn:qN w) (h1:Pl.ik c=true) (n0:0≤n) (n1:n≤60) :
  Calls prog 23 #[.agg (cpA c a b e q ca cb ce cq),iv n] w fun r w'=>∃(a' b' e' q':Option Addr) (ca' cb' ce' cq':Nat),r=.returned (.tuple #[.agg (kJ (Pl.ssC c n) a' b' e' q' ca' cb' ce' cq'),iv (Pl.ssN c n),.agg (ftC (Pl.ssF c n)),.bool (Pl.iP c n)])∧lC w' w.heap.size (Pl.ssC c n) a' b' e' q'∧Kept 0 0 w w':=by
 obtain ⟨m,rfl⟩:∃m:Nat,n=(m:Int):=⟨n.toNat,by omega⟩
 have d0:¬((m:Int)<0):=by omega
 have d1:¬((60:Int)<(m:Int)):=by omega
 have EO:Hid (Pl.iP c (m:Int)=true):=hide (by unfold Pl.iP;rw [h1];simp [Pl.within];omega)
 have EC:Hid (Pl.ssC c (m:Int)=(Pl.dM m 0 c).1):=hide (by unfold Pl.ssC;rw [EO.o];rfl)
 have EN:Hid (Pl.ssN c (m:Int)=((Pl.dM m 0 c).2.1:Int)):=hide (by unfold Pl.ssN;rw [EO.o];rfl)
 have EF:Hid (Pl.ssF c (m:Int)=(Pl.dM m 0 c).2.2):=hide (by unfold Pl.ssF;rw [EO.o];rfl)
 have K0:=hide (ah (ah (kept_alloc w (.cells (cpA c a b e q ca cb ce cq) 36)) (.cells cpZ 36)) (.cells ftZ 49))
 have BA:=hide (((Blk.new w (cpA c a b e q ca cb ce cq) 36).alloc (.cells cpZ 36)).alloc (.cells ftZ 49))
 have R0:=(Blk.new (w.alloc (.cells (cpA c a b e q ca cb ce cq) 36)) cpZ 36).alloc (.cells ftZ 49)
 have Q0:=Blk.new ((w.alloc (.cells (cpA c a b e q ca cb ce cq) 36)).alloc (.cells cpZ 36)) ftZ 49
 simp only [World.size_alloc] at R0 Q0
 replace R0:=hide R0
 replace Q0:=hide Q0
 obtain ⟨X,hX⟩:∃X:World,((w.alloc (.cells (cpA c a b e q ca cb ce cq) 36)).alloc (.cells cpZ 36)).alloc (.cells ftZ 49)=X:=⟨_,rfl⟩
 rw [hX] at K0 BA R0 Q0
 have HA:=hide (ha.ai K0.o)
 have HB:=hide (hb.ai K0.o)
 have HE:=hide (he.ai K0.o)
 have HQ:=hide (hq.ai K0.o)
 have HS:=hide ht
 have HT:=hide hn
 have sX:w.heap.size+1+1<X.heap.size:=Q0.o.lt
 clear ha hb he hq ht hn
 have p:=BA.o.all
 have HG:=hide (Pl.GM.of h1 ll c.st)
 go_enter func23,ntmps23
 go_wp2_with (first|(go_at_call 30;refine (lQ _ c a b e q ca cb ce cq HA.o HB.o HE.o HQ.o lx ly lb ll lm wf).mono ?_;rintro e9 W1 ⟨rfl,k9⟩;rw [h1];have K1:=hide k9;have R1:=hide (R0.o.af k9);have Q1:=hide (Q0.o.af k9);have p1:=(BA.o.af k9).all;have r1:=R1.o.all;have rf1:=R1.o.fz;have q1:=Q1.o.all;have qf1:=Q1.o.fz;clear k9)|(go_at_call 31;refine (Ua _ c a b e q ca cb ce cq (HA.o.ai K1.o).1 (HB.o.ai K1.o).1 (HE.o.ai K1.o).1 (HQ.o.ai K1.o).1 HG.o.g.d4 HG.o.g.a4 HG.o.bx ll HG.o.bm).mono ?_;rintro e9 W3 ⟨P,g,rfl,hc9,k9⟩;have C3:=hide hc9;have R3:=hide (R1.o.af k9);have Q3:=hide (Q1.o.af k9);have K3:=hide ((K0.o.trans K1.o).trans k9);have s3:X.heap.size≤W1.heap.size:=K1.o.size;obtain ⟨y0,y1,y2,y3,y4⟩:=hc9.lt;clear hc9 k9))
 clear p p1 r1 rf1 q1 qf1 hX d0 d1
 go_loopw [9] (fun j wr=>∃(k:Nat) (X:Pl.Cp) (g:Nat),k≤m∧j=iv (k:Int)∧Pl.ik X=true∧X.bl.length=5*X.bm∧Pl.dM m 0 c=Pl.dM (m-k) k X∧CAt wr W1.heap.size P g (Pl.Mc.ofC X) X.ha∧Blk wr (w.heap.size+1) cpZ 36∧Blk wr (w.heap.size+1+1) ftZ 49∧Kept 0 0 w wr) (fun j _=>m-(intOf j).toNat)
 case atStart=>exact ⟨0,c,g,Nat.zero_le _,rfl,h1,ll,rfl,C3.o,R3.o,Q3.o,K3.o⟩
 case round=>
  obtain ⟨k,X,g,hk,rfl,hok,hbl,hrec,hc,hR,hQ,hK⟩:=hrel
  have CC:=hide hc
  have RR:=hide hR
  have QQ:=hide hQ
  have KK:=hide hK
  have wX:=hide hrec
  have GX:Hid (Pl.GM (Pl.Mc.ofC X)):=hide (Pl.GM.of hok hbl X.st)
  have HOK:=hide hok
  have HBL:=hide hbl
  obtain ⟨z0,z1,z2,z3,z4⟩:=hc.lt
  clear hc hR hQ hK hrec hok hbl C3 R3 Q3 K3
  by_cases hlt:k<m
  ·have hj:m-k=(m-k-1)+1:=by omega
   have dk:(k:Int)<(m:Int):=by omega
   cases hr:(!X.st && !X.ha)
   ·have hsh:X.st=true∨X.ha=true:=by cases q1:X.st<;>cases q2:X.ha<;>simp [q1,q2] at hr ⊢
    have RES:Hid (Pl.ssC c (m:Int)=X∧Pl.ssN c (m:Int)=(k:Int)∧Pl.ssF c (m:Int)=Pl.aI):=hide (by rw [EC.o,EN.o,EF.o,wX.o];rw [hj];unfold Pl.dM;rw [if_pos hsh];exact ⟨rfl,rfl,rfl⟩)
    clear hsh hj
    go_wp2_with (first|(go_at_call 33;refine (UB _ W1.heap.size P g (Pl.Mc.ofC X) X.ha CC.o GX.o).mono ?_;rintro e9 W6 ⟨a',b',e',q',ca',cb',ce',cq',rfl,hi6,k6⟩;rw [show (Pl.Mc.ofC X).cpu X.ha=X from rfl] at hi6 ⊢;unfold kJ;have I6:=hide hi6;have R6:=hide (RR.o.af k6);have Q6:=hide (QQ.o.af k6);have K6:=hide (KK.o.trans k6);have p6:=R6.o.all;have f6:=R6.o.fz;have q6:=Q6.o.all;have g6:=Q6.o.fz;clear k6 hi6)|(go_at_call 42;refine st (Q7 _ W1.heap.size P g (Pl.Mc.ofC X) X.ha CC.o GX.o.bx) ?_;rw [show (!(Pl.Mc.ofC X).st && !X.ha)=false from hr]))
    refine bodyPost_ret (v:=.tuple #[.agg (cpA X a' b' e' q' ca' cb' ce' cq'),iv (k:Int),.agg ftZ,.bool true]) ?_ rfl ⟨a',b',e',q',ca',cb',ce',cq',by rw [RES.o.1,RES.o.2.1,RES.o.2.2,EO.o];rfl,by rw [RES.o.1];exact (I6.o.mvs kN (by omega) (Nat.le_refl _)).mvs nT (by omega) (by omega),bP (bP K6.o kN (by omega)) nT (by omega)⟩
    rw [aU rfl];go_simp
   ·have hst:X.st=false∧X.ha=false:=by cases q1:X.st<;>cases q2:X.ha<;>simp [q1,q2] at hr ⊢
    obtain ⟨e1,e2,e3⟩:=Pl.NJ X GX.o
    obtain ⟨M,hM⟩:∃M,M=(Pl.Mc.ofC X).sp:=⟨_,rfl⟩
    obtain ⟨F,hF⟩:∃F,F=M.f:=⟨_,rfl⟩
    obtain ⟨N,hN⟩:∃N,N=M.cpu X.ha:=⟨_,rfl⟩
    have SC:Hid (Pl.au X=N):=hide (by rw [hN,hst.2,hM,e2])
    have SF:Hid (Pl.dh X=F):=hide (by rw [hF,hM,e1])
    have HGM:Hid (Pl.GM M):=hide (by rw [hM];exact e3)
    have SR:Hid (Pl.dM (m-k) k X=if F.v≠0 then (N,k,F) else Pl.dM (m-k-1) (k+1) N):=hide (by
     have e9:Pl.dM (m-k) k X=Pl.dM ((m-k-1)+1) k X:=by rw [←hj]
     rw [e9]
     show (if X.st=true∨X.ha=true then _ else if (Pl.dh X).v≠0 then (Pl.au X,k,Pl.dh X) else Pl.dM (m-k-1) (k+1) (Pl.au X))=_
     rw [if_neg (by rw [hst.1,hst.2];simp),SC.o,SF.o])
    have HNA:Hid (N.ha=X.ha):=hide (by rw [hN];rfl)
    have HM:=hide hM
    have HF:=hide hF
    have HN:=hide hN
    clear hst hM hF hN e1 e2 e3 hj
    go_wp2_with (go_at_call 42;refine st (Q7 _ W1.heap.size P g (Pl.Mc.ofC X) X.ha CC.o GX.o.bx) ?_;rw [show (!(Pl.Mc.ofC X).st && !X.ha)=true from hr])
    refine (WI _ W1.heap.size P g (Pl.Mc.ofC X) X.ha CC.o GX.o rfl (EL HS.o HT.o KK.o (by omega))).mono ?_
    rintro e9 W4 ⟨g',rfl,hc4,hs4⟩
    rw [←HM.o] at hc4 ⊢
    rw [←HF.o]
    have C4:=hide (hc4.alloc (.cells (ftC F) 49))
    have R4:=hide ((hs4.2.blk RR.o (by unfold own;omega)).alloc (.cells (ftC F) 49))
    have Q4:=hide ((hs4.2.blk QQ.o (by unfold own;omega)).alloc (.cells (ftC F) 49))
    have L4:=hide (Blk.new W4 (ftC F) 49)
    have K4:Hid (Kept 0 0 w (W4.alloc (.cells (ftC F) 49))):=hide (ah (zO KK.o hs4 (by omega) (by omega)) _)
    obtain ⟨x0,x1,x2,x3,x4⟩:=hc4.lt
    have s4:=hs4.size
    unfold ftC
    clear hc4 hs4 CC RR QQ KK
    go_wp2_with fail
    refine (fV F _).mono ?_
    rintro e9 W5 ⟨rfl,kf⟩
    have C5:=hide (C4.o.any kf)
    have R5:=hide (R4.o.af kf)
    have Q5:=hide (Q4.o.af kf)
    have L5:=hide (L4.o.af kf)
    have K5:=hide (K4.o.trans kf)
    clear kf C4 R4 Q4 L4 K4
    cases hv:(F.v != 0)
    ·have SR2:Hid (Pl.dM m 0 c=Pl.dM (m-(k+1)) (k+1) N):=hide (by rw [wX.o,SR.o,if_neg (by simpa using hv)];rfl)
     have OKN:Hid (Pl.ik N=true∧N.bl.length=5*N.bm):=hide (by rw [←SC.o];exact Pl.sO HOK.o HBL.o)
     go_wp2_with fail
     go_roundw
     case rel=>
      refine ⟨k+1,N,g',by omega,by go_num,OKN.o.1,OKN.o.2,SR2.o,?_,R5.o,Q5.o,K5.o⟩
      rw [HNA.o,HN.o]
      exact C5.o.fx rfl rfl rfl rfl rfl
     case measure=>simp [intOf];omega
    ·have RES:Hid (Pl.ssC c (m:Int)=N∧Pl.ssN c (m:Int)=(k:Int)∧Pl.ssF c (m:Int)=F):=hide (by rw [EC.o,EN.o,EF.o,wX.o,SR.o,if_pos (by simpa using hv)];exact ⟨rfl,rfl,rfl⟩)
     obtain ⟨t0,t1,t2,t3,t4⟩:=J9 L5.o
     go_wp2_with fail
     go_region_held3 (fun w'=>w'.cell? ⟨W4.heap.size,0,none⟩=some (iv F.v)∧w'.cell? ⟨W4.heap.size,1,none⟩=some (iv F.pc)∧w'.cell? ⟨W4.heap.size,2,none⟩=some (iv F.ad)∧w'.cell? ⟨W4.heap.size,3,none⟩=some (iv F.wo)∧w'.cell? ⟨W4.heap.size,4,none⟩=some (.bool F.wr)) (first|with_reducible exact J9 L6.o|with_reducible exact J9 (Bd' L5.o)|with_reducible exact J9 (L6.o.Iz (by omega))|with_reducible exact J9 ((L6.o.Iz (by omega)).VI (by omega)))
      (first|(go_at_call 33;refine (UB _ W1.heap.size P g' M X.ha C5.o.drew HGM.o).mono ?_;rintro e9 W6 ⟨a',b',e',q',ca',cb',ce',cq',rfl,hi6,kd⟩;have k6:=cZ kd;rw [←HN.o] at hi6 ⊢;unfold kJ;have I6:=hide hi6;have L6:=hide (L5.o.af k6);have R6:=hide (R5.o.af k6);have Q6:=hide (Q5.o.af k6);have K6:=hide (K5.o.trans k6);have p6:=R6.o.all;have f6:=R6.o.fz;have q6:=Q6.o.all;have g6:=Q6.o.fz;clear kd k6 hi6))
     go_wp2_with fail
     refine bodyPost_ret (v:=.tuple #[.agg (cpA N a' b' e' q' ca' cb' ce' cq'),iv (k:Int),.agg (ftA F),.bool true]) ?_ rfl ⟨a',b',e',q',ca',cb',ce',cq',by rw [RES.o.1,RES.o.2.1,RES.o.2.2,EO.o];rfl,by rw [RES.o.1];exact (I6.o.mvs kN (by omega) (Nat.le_refl _)).mvs nT (by omega) (by omega),bP (bP K6.o kN (by omega)) nT (by omega)⟩
     rw [aU rfl];go_simp
  ·have dk:¬((k:Int)<(m:Int)):=by omega
   have hkm:k=m:=by omega
   have RES:Hid (Pl.ssC c (m:Int)=X∧Pl.ssN c (m:Int)=(k:Int)∧Pl.ssF c (m:Int)=Pl.aI):=hide (by rw [EC.o,EN.o,EF.o,wX.o];rw [hkm,Nat.sub_self];exact ⟨rfl,rfl,rfl⟩)
   clear hkm
   go_wp2_with (go_at_call 33;refine (UB _ W1.heap.size P g (Pl.Mc.ofC X) X.ha CC.o GX.o).mono ?_;rintro e9 W6 ⟨a',b',e',q',ca',cb',ce',cq',rfl,hi6,k6⟩;rw [show (Pl.Mc.ofC X).cpu X.ha=X from rfl] at hi6 ⊢;unfold kJ;have I6:=hide hi6;have R6:=hide (RR.o.af k6);have Q6:=hide (QQ.o.af k6);have K6:=hide (KK.o.trans k6);have p6:=R6.o.all;have f6:=R6.o.fz;have q6:=Q6.o.all;have g6:=Q6.o.fz;clear k6 hi6)
   refine bodyPost_ret (v:=.tuple #[.agg (cpA X a' b' e' q' ca' cb' ce' cq'),iv (k:Int),.agg ftZ,.bool true]) ?_ rfl ⟨a',b',e',q',ca',cb',ce',cq',by rw [RES.o.1,RES.o.2.1,RES.o.2.2,EO.o];rfl,by rw [RES.o.1];exact (I6.o.mvs kN (by omega) (Nat.le_refl _)).mvs nT (by omega) (by omega),bP (bP K6.o kN (by omega)) nT (by omega)⟩
   rw [aU rfl];go_simp
theorem rQ (w:World) (c:Pl.Cp) (n:Int) (a b e q:Option Addr) (ca cb ce cq:Nat) (ha:Came w a c.r.xs) (hb:Came w b c.r.ys) (he:Came w e c.bx) (hq:Came w q c.bl) (lx:c.r.xs.length≤2000000) (ly:c.r.ys.length≤2000000) (lb:c.bx.length≤2000000) (ll:c.bl.length=5*c.bm) (lm:c.bm≤2000000) (wf:Pl.WfR c.r) (wfn:(Lit.int .i64 n).wf=true) (ht:nH w) (hn:qN w) :
  Calls prog 23 #[.agg (cpA c a b e q ca cb ce cq),iv n] w fun r w'=>∃(a' b' e' q':Option Addr) (ca' cb' ce' cq':Nat),r=.returned (.tuple #[.agg (kJ (Pl.ssC c n) a' b' e' q' ca' cb' ce' cq'),iv (Pl.ssN c n),.agg (ftC (Pl.ssF c n)),.bool (Pl.iP c n)])∧lC w' w.heap.size (Pl.ssC c n) a' b' e' q'∧Kept 0 0 w w':=by
 rcases Bool.eq_false_or_eq_true (Pl.iP c n) with h|h
 rotate_left
 ·exact tX w c n a b e q ca cb ce cq ha hb he hq lx ly lb ll lm wf wfn ht hn h
 ·have q9:Pl.ik c=true∧(0≤n∧n≤60):=by simpa [Pl.iP,Pl.within] using h
  exact uy w c n a b e q ca cb ce cq ha hb he hq lx ly lb ll lm wf wfn ht hn q9.1 q9.2.1 q9.2.2
theorem zL (d:Pl.Cp) (a b e q:Option Addr) (ca cb ce cq:Nat) (n:Int) (w:World) (ht:nH w) (hn:qN w) (hx:Came w a d.r.xs) (hy:Came w b d.r.ys) (hz:Came w e d.bx) (hq:Came w q d.bl) (lx:d.r.xs.length≤9223372036854775807) (ly:d.r.ys.length≤9223372036854775807) (lz:d.bx.length≤9223372036854775807) (lm:d.bm≤9223372036854775807) (ll:d.bl.length=5*d.bm) (wfd:Pl.WfR d.r) (wfn:(Lit.int .i64 n).wf=true) :
  Calls prog 6 #[.agg (cpA d a b e q ca cb ce cq),iv n] w fun e w'=>e=.returned (.bool true)∧Below w.heap.size w w':=by
 have HS:=hide ht
 have HT:=hide hn
 have HX:=hide hx
 have HY:=hide hy
 have HZ:=hide hz
 have HQ:=hide hq
 have HWF:=hide wfd
 have HLL:=hide ll
 have Bel:=hide (kept_alloc w (.cells (cpA d a b e q ca cb ce cq) 29)).below
 have WA:=hide (Blk.new w (cpA d a b e q ca cb ce cq) 29)
 obtain ⟨X0,hX0⟩:∃X:World,w.alloc (.cells (cpA d a b e q ca cb ce cq) 29)=X:=⟨_,rfl⟩
 have nX0:X0.heap.size=w.heap.size+1:=by simp [←hX0]
 rw [hX0] at Bel WA
 have hln:=Pl.RV d n ll
 clear ht hn hx hy hz hq wfd ll
 by_cases hs:szC d.r.xs.length d.r.ys.length d.bx.length d.bm 1048576<0
 ·go_enter func6,ntmps6
  have je:=WA.o.all
  go_wp2_with fail
  refine (QA _ d a b e q ca cb ce cq 1048576 lx ly lz lm (by decide) (by decide)).mono ?_
  rintro e9 w1 ⟨rfl,k⟩
  have Bn:=hide (bC Bel.o k (by omega))
  clear k
  go_wp2_with fail
  go_ret
  exact ⟨rfl,Bn.o⟩
 ·have hb:=NC hs
  have bx:d.r.xs.length≤2000000:=by omega
  have by_:d.r.ys.length≤2000000:=by omega
  have bz:d.bx.length≤2000000:=by omega
  have bm:d.bm≤2000000:=by omega
  have ds:decide (szC d.r.xs.length d.r.ys.length d.bx.length d.bm 1048576<0)=false:=by simpa using hs
  clear hs hb
  generalize hDD:Pl.ssC d n=D at hln
  generalize hNN:Pl.ssN d n=N
  generalize hFF:Pl.ssF d n=F
  generalize hKK:Pl.iP d n=K
  obtain ⟨bD,bE,bF,bL,bM⟩:=hln
  have HDL:=hide bL
  have HDD:=hide hDD
  have HNN:=hide hNN
  have HFF:=hide hFF
  have HKK:=hide hKK
  clear bL hDD hNN hFF hKK
  go_enter func6,ntmps6
  have je:=WA.o.all
  go_wp2_with fail
  clear je
  refine (QA _ d a b e q ca cb ce cq 1048576 lx ly lz lm (by decide) (by decide)).mono ?_
  rintro e9 w1 ⟨rfl,k⟩
  have Beln:=hide (bC Bel.o k (by omega))
  have WAn:=hide (WA.o.kept k (by omega))
  clear Bel WA
  have Bel:=Beln
  have WA:=WAn
  clear Beln WAn
  have nw1:=k.size
  clear k
  clear hX0
  have je:=WA.o.all
  go_wp2_with fail
  clear je ds
  refine (Dl _ d a b e q ca cb ce cq (HX.o.below Bel.o).1 (HY.o.below Bel.o).1 (HZ.o.below Bel.o).1 (HQ.o.below Bel.o).1 bx by_ bz HLL.o bm).mono ?_
  rintro e9 w2 ⟨g1,g2,g3,g4,rfl,hs9,k⟩
  have Beln:=hide (bC Bel.o k (by omega))
  have WAn:=hide (WA.o.kept k (by omega))
  clear Bel WA
  have Bel:=Beln
  have WA:=WAn
  clear Beln WAn
  have nw2:=k.size
  have O1:=hide hs9
  clear k hs9
  go_wp2_with fail
  refine (xM _ d n _ _ _ _ _ _ _ _ O1.o.d.row O1.o.a'.row O1.o.b'.row O1.o.l.row bx by_ bz HLL.o bm).mono ?_
  rw [HDD.o,HNN.o,HFF.o,HKK.o]
  unfold kJ ftC
  rintro e9 w3 ⟨a0,b0,e0,q0,ca0,cb0,ce0,cq0,rfl,hin,k⟩
  have hsl:=hin.sl
  have Beln:=hide (bC Bel.o k (by omega))
  have WAn:=hide (WA.o.kept k (by omega))
  have O1n:=hide (O1.o.kept k (by omega))
  clear Bel WA O1
  have Bel:=Beln
  have WA:=WAn
  have O1:=O1n
  clear Beln WAn O1n
  have nw3:=k.size
  have S0:=hide hsl
  clear k hin hsl
  clear O1
  have ka:Kept 0 0 w3 ((w3.alloc (.cells (cpA D a0 b0 e0 q0 ca0 cb0 ce0 cq0) 36)).alloc (.cells (ftA F) 49)):=ah (kept_alloc w3 _) _
  have Beln:=hide (bC Bel.o ka (by omega))
  have WAn:=hide (WA.o.kept ka (by omega))
  have S0n:=hide (S0.o.kept ka (by omega))
  clear Bel WA S0
  have Bel:=Beln
  have WA:=WAn
  have S0:=S0n
  clear Beln WAn S0n
  have B0:=((Blk.new w3 (cpA D a0 b0 e0 q0 ca0 cb0 ce0 cq0) 36).alloc (.cells (ftA F) 49))
  have B1:=(Blk.new (w3.alloc (.cells (cpA D a0 b0 e0 q0 ca0 cb0 ce0 cq0) 36)) (ftA F) 49)
  simp only [World.size_alloc] at B1
  obtain ⟨X3,hX3⟩:∃X:World,((w3.alloc (.cells (cpA D a0 b0 e0 q0 ca0 cb0 ce0 cq0) 36)).alloc (.cells (ftA F) 49))=X:=⟨_,rfl⟩
  have nX3:X3.heap.size=w3.heap.size+2:=by simp [←hX3]
  rw [hX3] at Bel WA S0 B0 B1
  have W0:=hide B0
  have F0:=hide B1
  clear ka B0 B1
  have je:=WA.o.all
  go_wp2_with fail
  clear je hX3
  refine (Dl _ d a b e q ca cb ce cq (HX.o.below Bel.o).1 (HY.o.below Bel.o).1 (HZ.o.below Bel.o).1 (HQ.o.below Bel.o).1 bx by_ bz HLL.o bm).mono ?_
  rintro e9 w4 ⟨g5,g6,g7,g8,rfl,hs9,k⟩
  have Beln:=hide (bC Bel.o k (by omega))
  have WAn:=hide (WA.o.kept k (by omega))
  have S0n:=hide (S0.o.kept k (by omega))
  have W0n:=hide (W0.o.kept k (by omega))
  have F0n:=hide (F0.o.kept k (by omega))
  clear Bel WA S0 W0 F0
  have Bel:=Beln
  have WA:=WAn
  have S0:=S0n
  have W0:=W0n
  have F0:=F0n
  clear Beln WAn S0n W0n F0n
  have nw4:=k.size
  have O3:=hide hs9
  clear k hs9
  have ka:Kept 0 0 w4 (w4.alloc (.cells (cpA d (some ⟨g5,0,none⟩) (some ⟨g6,0,none⟩) (some ⟨g7,0,none⟩) (some ⟨g8,0,none⟩) d.r.xs.length d.r.ys.length d.bx.length d.bm) 36)):=kept_alloc w4 _
  have Beln:=hide (bC Bel.o ka (by omega))
  have WAn:=hide (WA.o.kept ka (by omega))
  have S0n:=hide (S0.o.kept ka (by omega))
  have W0n:=hide (W0.o.kept ka (by omega))
  have F0n:=hide (F0.o.kept ka (by omega))
  have O3n:=hide (O3.o.kept ka (by omega))
  clear Bel WA S0 W0 F0 O3
  have Bel:=Beln
  have WA:=WAn
  have S0:=S0n
  have W0:=W0n
  have F0:=F0n
  have O3:=O3n
  clear Beln WAn S0n W0n F0n O3n
  have B0:=(Blk.new w4 (cpA d (some ⟨g5,0,none⟩) (some ⟨g6,0,none⟩) (some ⟨g7,0,none⟩) (some ⟨g8,0,none⟩) d.r.xs.length d.r.ys.length d.bx.length d.bm) 36)
  obtain ⟨X4,hX4⟩:∃X:World,(w4.alloc (.cells (cpA d (some ⟨g5,0,none⟩) (some ⟨g6,0,none⟩) (some ⟨g7,0,none⟩) (some ⟨g8,0,none⟩) d.r.xs.length d.r.ys.length d.bx.length d.bm) 36))=X:=⟨_,rfl⟩
  have nX4:X4.heap.size=w4.heap.size+1:=by simp [←hX4]
  rw [hX4] at Bel WA S0 W0 F0 O3 B0
  have VA:=hide B0
  clear ka B0
  have je:=VA.o.all
  go_wp2_with fail
  clear je hX4
  refine (rQ _ d n _ _ _ _ _ _ _ _ ⟨O3.o.d.row,HX.o.2⟩ ⟨O3.o.a'.row,HY.o.2⟩ ⟨O3.o.b'.row,HZ.o.2⟩ ⟨O3.o.l.row,HQ.o.2⟩ bx by_ bz HLL.o bm HWF.o wfn (HS.o.below Bel.o) (HT.o.below Bel.o)).mono ?_
  rw [HDD.o,HNN.o,HFF.o,HKK.o]
  unfold kJ ftC
  rintro e9 w5 ⟨a1,b1,e1,q1,ca1,cb1,ce1,cq1,rfl,hin,k⟩
  have hsl:=hin.sl
  have Beln:=hide (bC Bel.o k (by omega))
  have WAn:=hide (WA.o.kept k (by omega))
  have S0n:=hide (S0.o.kept k (by omega))
  have W0n:=hide (W0.o.kept k (by omega))
  have F0n:=hide (F0.o.kept k (by omega))
  have O3n:=hide (O3.o.kept k (by omega))
  have VAn:=hide (VA.o.kept k (by omega))
  clear Bel WA S0 W0 F0 O3 VA
  have Bel:=Beln
  have WA:=WAn
  have S0:=S0n
  have W0:=W0n
  have F0:=F0n
  have O3:=O3n
  have VA:=VAn
  clear Beln WAn S0n W0n F0n O3n VAn
  have nw5:=k.size
  have S1:=hide hsl
  clear k hin hsl
  have ka:Kept 0 0 w5 ((w5.alloc (.cells (cpA D a1 b1 e1 q1 ca1 cb1 ce1 cq1) 36)).alloc (.cells (ftA F) 49)):=ah (kept_alloc w5 _) _
  have Beln:=hide (bC Bel.o ka (by omega))
  have WAn:=hide (WA.o.kept ka (by omega))
  have S0n:=hide (S0.o.kept ka (by omega))
  have W0n:=hide (W0.o.kept ka (by omega))
  have F0n:=hide (F0.o.kept ka (by omega))
  have O3n:=hide (O3.o.kept ka (by omega))
  have VAn:=hide (VA.o.kept ka (by omega))
  have S1n:=hide (S1.o.kept ka (by omega))
  clear Bel WA S0 W0 F0 O3 VA S1
  have Bel:=Beln
  have WA:=WAn
  have S0:=S0n
  have W0:=W0n
  have F0:=F0n
  have O3:=O3n
  have VA:=VAn
  have S1:=S1n
  clear Beln WAn S0n W0n F0n O3n VAn S1n
  have B0:=((Blk.new w5 (cpA D a1 b1 e1 q1 ca1 cb1 ce1 cq1) 36).alloc (.cells (ftA F) 49))
  have B1:=(Blk.new (w5.alloc (.cells (cpA D a1 b1 e1 q1 ca1 cb1 ce1 cq1) 36)) (ftA F) 49)
  simp only [World.size_alloc] at B1
  obtain ⟨X5,hX5⟩:∃X:World,((w5.alloc (.cells (cpA D a1 b1 e1 q1 ca1 cb1 ce1 cq1) 36)).alloc (.cells (ftA F) 49))=X:=⟨_,rfl⟩
  have nX5:X5.heap.size=w5.heap.size+2:=by simp [←hX5]
  rw [hX5] at Bel WA S0 W0 F0 O3 VA S1 B0 B1
  have W1:=hide B0
  have F1:=hide B1
  clear ka B0 B1
  have je:=W1.o.all
  have sZ:=W0.o.all
  go_wp2_with fail
  clear je sZ hX5
  refine (Ed _ D a1 b1 e1 q1 a0 b0 e0 q0 _ _ _ _ _ _ _ _ S1.o.d.row S1.o.a'.row S1.o.b'.row S1.o.l.row S0.o.d.row S0.o.a'.row S0.o.b'.row S0.o.l.row (by omega) (by omega) (by omega) HDL.o (by omega)).mono ?_
  rintro e9 w6 ⟨rfl,k⟩
  have Beln:=hide (bC Bel.o k (by omega))
  have WAn:=hide (WA.o.kept k (by omega))
  have S0n:=hide (S0.o.kept k (by omega))
  have W0n:=hide (W0.o.kept k (by omega))
  have F0n:=hide (F0.o.kept k (by omega))
  have O3n:=hide (O3.o.kept k (by omega))
  have VAn:=hide (VA.o.kept k (by omega))
  have S1n:=hide (S1.o.kept k (by omega))
  have W1n:=hide (W1.o.kept k (by omega))
  have F1n:=hide (F1.o.kept k (by omega))
  clear Bel WA S0 W0 F0 O3 VA S1 W1 F1
  have Bel:=Beln
  have WA:=WAn
  have S0:=S0n
  have W0:=W0n
  have F0:=F0n
  have O3:=O3n
  have VA:=VAn
  have S1:=S1n
  have W1:=W1n
  have F1:=F1n
  clear Beln WAn S0n W0n F0n O3n VAn S1n W1n F1n
  have nw6:=k.size
  clear k
  have je:=F1.o.all
  have sZ:=F0.o.all
  go_wp2_with fail
  clear je sZ
  refine (yJ _ F).mono ?_
  rintro e9 w6f ⟨rfl,k⟩
  have Beln:=hide (bC Bel.o k (by omega))
  have WAn:=hide (WA.o.kept k (by omega))
  have S0n:=hide (S0.o.kept k (by omega))
  have W0n:=hide (W0.o.kept k (by omega))
  have F0n:=hide (F0.o.kept k (by omega))
  have O3n:=hide (O3.o.kept k (by omega))
  have VAn:=hide (VA.o.kept k (by omega))
  have S1n:=hide (S1.o.kept k (by omega))
  have W1n:=hide (W1.o.kept k (by omega))
  have F1n:=hide (F1.o.kept k (by omega))
  clear Bel WA S0 W0 F0 O3 VA S1 W1 F1
  have Bel:=Beln
  have WA:=WAn
  have S0:=S0n
  have W0:=W0n
  have F0:=F0n
  have O3:=O3n
  have VA:=VAn
  have S1:=S1n
  have W1:=W1n
  have F1:=F1n
  clear Beln WAn S0n W0n F0n O3n VAn S1n W1n F1n
  have nw6f:=k.size
  clear k
  have je:=WA.o.all
  have sZ:=VA.o.all
  go_upto_region 10 with fail
  go_cut [66,67,68,69,70] (fun _ _ _ _ t wx=>t=.bool false∧Kept 0 0 w6f wx)
  case first=>
   go_region_with (first|(go_at_call 9;refine (Dl _ d a b e q ca cb ce cq (HX.o.below Bel.o.drew).1 (HY.o.below Bel.o.drew).1 (HZ.o.below Bel.o.drew).1 (HQ.o.below Bel.o.drew).1 bx by_ bz HLL.o bm).mono ?_;rintro e9 w7 ⟨g9,g10,g11,g12,rfl,hs9,kd⟩;have k:=cZ kd;have VN:=hide (VA.o.af k);have u0:=VN.o.cell (i:=0) rfl;have u1:=VN.o.cell (i:=1) rfl;have u2:=VN.o.cell (i:=2) rfl;have u3:=VN.o.cell (i:=3) rfl;have u4:=VN.o.cell (i:=4) rfl;have u5:=VN.o.cell (i:=5) rfl;have u6:=VN.o.cell (i:=6) rfl;have u7:=VN.o.cell (i:=7) rfl;have u8:=VN.o.cell (i:=8) rfl;have u9:=VN.o.cell (i:=9) rfl;have u10:=VN.o.cell (i:=10) rfl;have u11:=VN.o.cell (i:=11) rfl;have P3:=hide (O3.o.kept k (by omega));have P5:=hide hs9;have K7:=hide k;clear k kd hs9)|(go_at_call 11;refine (Ed _ d _ _ _ _ _ _ _ _ _ _ _ _ _ _ _ _ P3.o.d.row P3.o.a'.row P3.o.b'.row P3.o.l.row P5.o.d.row P5.o.a'.row P5.o.b'.row P5.o.l.row bx by_ bz HLL.o bm).mono ?_;rintro e9 w8 ⟨rfl,k⟩;have K8:=hide (K7.o.trans k);clear k))
   all_goals
    go_wp2_with fail
    go_meet
    case rel=>exact ⟨rfl,K8.o⟩
  case rest=>
   clear je sZ
   rename_i wx
   obtain ⟨rfl,k⟩:=hcut
   have Beln:=hide (bC Bel.o k (by omega))
   have WAn:=hide (WA.o.kept k (by omega))
   have S0n:=hide (S0.o.kept k (by omega))
   have W0n:=hide (W0.o.kept k (by omega))
   have F0n:=hide (F0.o.kept k (by omega))
   have O3n:=hide (O3.o.kept k (by omega))
   have VAn:=hide (VA.o.kept k (by omega))
   have S1n:=hide (S1.o.kept k (by omega))
   have W1n:=hide (W1.o.kept k (by omega))
   have F1n:=hide (F1.o.kept k (by omega))
   clear Bel WA S0 W0 F0 O3 VA S1 W1 F1
   have Bel:=Beln
   have WA:=WAn
   have S0:=S0n
   have W0:=W0n
   have F0:=F0n
   have O3:=O3n
   have VA:=VAn
   have S1:=S1n
   have W1:=W1n
   have F1:=F1n
   clear Beln WAn S0n W0n F0n O3n VAn S1n W1n F1n
   have nwx:=k.size
   clear k
   have je:=VA.o.all
   go_wp2_with fail
   clear je
   refine (DJ _ X3.heap.size w4.heap.size d _ _ _ _ _ _ _ _ O3.o (by omega) bx by_ bz HLL.o bm).mono ?_
   rintro e9 w9 ⟨rfl,_,k⟩
   clear O3
   have Beln:=hide (bC Bel.o k (by omega))
   have WAn:=hide (WA.o.kept k (by omega))
   have S0n:=hide (S0.o.kept k (by omega))
   have W0n:=hide (W0.o.kept k (by omega))
   have F0n:=hide (F0.o.kept k (by omega))
   have VAn:=hide (VA.o.kept k (by omega))
   have S1n:=hide (S1.o.kept k (by omega))
   have W1n:=hide (W1.o.kept k (by omega))
   have F1n:=hide (F1.o.kept k (by omega))
   clear Bel WA S0 W0 F0 VA S1 W1 F1
   have Bel:=Beln
   have WA:=WAn
   have S0:=S0n
   have W0:=W0n
   have F0:=F0n
   have VA:=VAn
   have S1:=S1n
   have W1:=W1n
   have F1:=F1n
   clear Beln WAn S0n W0n F0n VAn S1n W1n F1n
   have nw9:=k.size
   clear k
   have hmk:¬(Pl.mkN d 1<0):=by unfold Pl.mkN;omega
   have je:=W1.o.all
   have sZ:=W0.o.all
   go_wp2_with fail
   clear je sZ
   refine (Ed _ D a1 b1 e1 q1 a0 b0 e0 q0 _ _ _ _ _ _ _ _ S1.o.d.row S1.o.a'.row S1.o.b'.row S1.o.l.row S0.o.d.row S0.o.a'.row S0.o.b'.row S0.o.l.row (by omega) (by omega) (by omega) HDL.o (by omega)).mono ?_
   rintro e9 w10 ⟨rfl,k⟩
   have Beln:=hide (bC Bel.o k (by omega))
   have WAn:=hide (WA.o.kept k (by omega))
   have S0n:=hide (S0.o.kept k (by omega))
   have W0n:=hide (W0.o.kept k (by omega))
   have F0n:=hide (F0.o.kept k (by omega))
   have VAn:=hide (VA.o.kept k (by omega))
   have S1n:=hide (S1.o.kept k (by omega))
   have W1n:=hide (W1.o.kept k (by omega))
   have F1n:=hide (F1.o.kept k (by omega))
   clear Bel WA S0 W0 F0 VA S1 W1 F1
   have Bel:=Beln
   have WA:=WAn
   have S0:=S0n
   have W0:=W0n
   have F0:=F0n
   have VA:=VAn
   have S1:=S1n
   have W1:=W1n
   have F1:=F1n
   clear Beln WAn S0n W0n F0n VAn S1n W1n F1n
   have nw10:=k.size
   clear k
   have je:=F1.o.all
   have sZ:=F0.o.all
   go_wp2_with fail
   clear je sZ
   refine (yJ _ F).mono ?_
   rintro e9 w10f ⟨rfl,k⟩
   have Beln:=hide (bC Bel.o k (by omega))
   have WAn:=hide (WA.o.kept k (by omega))
   have S0n:=hide (S0.o.kept k (by omega))
   have W0n:=hide (W0.o.kept k (by omega))
   have F0n:=hide (F0.o.kept k (by omega))
   have VAn:=hide (VA.o.kept k (by omega))
   have S1n:=hide (S1.o.kept k (by omega))
   have W1n:=hide (W1.o.kept k (by omega))
   have F1n:=hide (F1.o.kept k (by omega))
   clear Bel WA S0 W0 F0 VA S1 W1 F1
   have Bel:=Beln
   have WA:=WAn
   have S0:=S0n
   have W0:=W0n
   have F0:=F0n
   have VA:=VAn
   have S1:=S1n
   have W1:=W1n
   have F1:=F1n
   clear Beln WAn S0n W0n F0n VAn S1n W1n F1n
   have nw10f:=k.size
   clear k
   have je:=W1.o.all
   go_wp2_with fail
   clear je
   refine (DJ _ X4.heap.size w5.heap.size D a1 b1 e1 q1 _ _ _ _ S1.o (by omega) (by omega) (by omega) (by omega) HDL.o (by omega)).mono ?_
   rintro e9 w11 ⟨rfl,hm9,k⟩
   clear S1
   have Beln:=hide (bC Bel.o k (by omega))
   have WAn:=hide (WA.o.kept k (by omega))
   have S0n:=hide (S0.o.kept k (by omega))
   have W0n:=hide (W0.o.kept k (by omega))
   have F0n:=hide (F0.o.kept k (by omega))
   have VAn:=hide (VA.o.kept k (by omega))
   have W1n:=hide (W1.o.kept k (by omega))
   have F1n:=hide (F1.o.kept k (by omega))
   clear Bel WA S0 W0 F0 VA W1 F1
   have Bel:=Beln
   have WA:=WAn
   have S0:=S0n
   have W0:=W0n
   have F0:=F0n
   have VA:=VAn
   have W1:=W1n
   have F1:=F1n
   clear Beln WAn S0n W0n F0n VAn W1n F1n
   have M1:=hide hm9
   have nw11:=k.size
   clear k hm9
   have je:=W1.o.all
   go_wp2_with fail
   clear je
   have hmD:¬(Pl.mkN D 1<0):=by unfold Pl.mkN;omega
   refine (DY _ D a1 b1 e1 q1 _ _ _ _ M1.o.d.row M1.o.a'.row M1.o.b'.row M1.o.l.row (by omega) (by omega) (by omega) (by omega)).mono ?_
   rintro e9 w12 ⟨rfl,k⟩
   have Beln:=hide (bC Bel.o k (by omega))
   have WAn:=hide (WA.o.kept k (by omega))
   have S0n:=hide (S0.o.kept k (by omega))
   have W0n:=hide (W0.o.kept k (by omega))
   have F0n:=hide (F0.o.kept k (by omega))
   have VAn:=hide (VA.o.kept k (by omega))
   have W1n:=hide (W1.o.kept k (by omega))
   have F1n:=hide (F1.o.kept k (by omega))
   have M1n:=hide (M1.o.kept k (by omega))
   clear Bel WA S0 W0 F0 VA W1 F1 M1
   have Bel:=Beln
   have WA:=WAn
   have S0:=S0n
   have W0:=W0n
   have F0:=F0n
   have VA:=VAn
   have W1:=W1n
   have F1:=F1n
   have M1:=M1n
   clear Beln WAn S0n W0n F0n VAn W1n F1n M1n
   have nw12:=k.size
   clear k
   have je:=WA.o.all
   go_wp2_with fail
   clear je
   refine (Dl _ d a b e q ca cb ce cq (HX.o.below Bel.o).1 (HY.o.below Bel.o).1 (HZ.o.below Bel.o).1 (HQ.o.below Bel.o).1 bx by_ bz HLL.o bm).mono ?_
   rintro e9 w13 ⟨h1,h2,h3,h4,rfl,hs9,k⟩
   have Beln:=hide (bC Bel.o k (by omega))
   have WAn:=hide (WA.o.kept k (by omega))
   have S0n:=hide (S0.o.kept k (by omega))
   have W0n:=hide (W0.o.kept k (by omega))
   have F0n:=hide (F0.o.kept k (by omega))
   have VAn:=hide (VA.o.kept k (by omega))
   have W1n:=hide (W1.o.kept k (by omega))
   have F1n:=hide (F1.o.kept k (by omega))
   have M1n:=hide (M1.o.kept k (by omega))
   clear Bel WA S0 W0 F0 VA W1 F1 M1
   have Bel:=Beln
   have WA:=WAn
   have S0:=S0n
   have W0:=W0n
   have F0:=F0n
   have VA:=VAn
   have W1:=W1n
   have F1:=F1n
   have M1:=M1n
   clear Beln WAn S0n W0n F0n VAn W1n F1n M1n
   have nw13:=k.size
   have O5:=hide hs9
   clear k hs9
   go_wp2_with fail
   refine (rQ _ d n _ _ _ _ _ _ _ _ ⟨O5.o.d.row,HX.o.2⟩ ⟨O5.o.a'.row,HY.o.2⟩ ⟨O5.o.b'.row,HZ.o.2⟩ ⟨O5.o.l.row,HQ.o.2⟩ bx by_ bz HLL.o bm HWF.o wfn (HS.o.below Bel.o) (HT.o.below Bel.o)).mono ?_
   rw [HDD.o,HNN.o,HFF.o,HKK.o]
   unfold kJ ftC
   rintro e9 w14 ⟨a2,b2,e2,q2,ca2,cb2,ce2,cq2,rfl,hin,k⟩
   have hsl:=hin.sl
   have Beln:=hide (bC Bel.o k (by omega))
   have WAn:=hide (WA.o.kept k (by omega))
   have S0n:=hide (S0.o.kept k (by omega))
   have W0n:=hide (W0.o.kept k (by omega))
   have F0n:=hide (F0.o.kept k (by omega))
   have VAn:=hide (VA.o.kept k (by omega))
   have W1n:=hide (W1.o.kept k (by omega))
   have F1n:=hide (F1.o.kept k (by omega))
   have M1n:=hide (M1.o.kept k (by omega))
   have O5n:=hide (O5.o.kept k (by omega))
   clear Bel WA S0 W0 F0 VA W1 F1 M1 O5
   have Bel:=Beln
   have WA:=WAn
   have S0:=S0n
   have W0:=W0n
   have F0:=F0n
   have VA:=VAn
   have W1:=W1n
   have F1:=F1n
   have M1:=M1n
   have O5:=O5n
   clear Beln WAn S0n W0n F0n VAn W1n F1n M1n O5n
   have nw14:=k.size
   have S2:=hide hsl
   clear k hin hsl
   clear O5
   have ka:Kept 0 0 w14 ((w14.alloc (.cells (cpA D a2 b2 e2 q2 ca2 cb2 ce2 cq2) 36)).alloc (.cells (ftA F) 49)):=ah (kept_alloc w14 _) _
   have Beln:=hide (bC Bel.o ka (by omega))
   have WAn:=hide (WA.o.kept ka (by omega))
   have S0n:=hide (S0.o.kept ka (by omega))
   have W0n:=hide (W0.o.kept ka (by omega))
   have F0n:=hide (F0.o.kept ka (by omega))
   have VAn:=hide (VA.o.kept ka (by omega))
   have W1n:=hide (W1.o.kept ka (by omega))
   have F1n:=hide (F1.o.kept ka (by omega))
   have M1n:=hide (M1.o.kept ka (by omega))
   have S2n:=hide (S2.o.kept ka (by omega))
   clear Bel WA S0 W0 F0 VA W1 F1 M1 S2
   have Bel:=Beln
   have WA:=WAn
   have S0:=S0n
   have W0:=W0n
   have F0:=F0n
   have VA:=VAn
   have W1:=W1n
   have F1:=F1n
   have M1:=M1n
   have S2:=S2n
   clear Beln WAn S0n W0n F0n VAn W1n F1n M1n S2n
   have B0:=((Blk.new w14 (cpA D a2 b2 e2 q2 ca2 cb2 ce2 cq2) 36).alloc (.cells (ftA F) 49))
   have B1:=(Blk.new (w14.alloc (.cells (cpA D a2 b2 e2 q2 ca2 cb2 ce2 cq2) 36)) (ftA F) 49)
   simp only [World.size_alloc] at B1
   obtain ⟨X14,hX14⟩:∃X:World,((w14.alloc (.cells (cpA D a2 b2 e2 q2 ca2 cb2 ce2 cq2) 36)).alloc (.cells (ftA F) 49))=X:=⟨_,rfl⟩
   have nX14:X14.heap.size=w14.heap.size+2:=by simp [←hX14]
   rw [hX14] at Bel WA S0 W0 F0 VA W1 F1 M1 S2 B0 B1
   have W2:=hide B0
   have F2:=hide B1
   clear ka B0 B1
   have je:=W2.o.all
   have sZ:=W0.o.all
   go_wp2_with fail
   clear je sZ hX14
   refine (Ed _ D a2 b2 e2 q2 a0 b0 e0 q0 _ _ _ _ _ _ _ _ S2.o.d.row S2.o.a'.row S2.o.b'.row S2.o.l.row S0.o.d.row S0.o.a'.row S0.o.b'.row S0.o.l.row (by omega) (by omega) (by omega) HDL.o (by omega)).mono ?_
   rintro e9 w15 ⟨rfl,k⟩
   have Beln:=hide (bC Bel.o k (by omega))
   have WAn:=hide (WA.o.kept k (by omega))
   have S0n:=hide (S0.o.kept k (by omega))
   have W0n:=hide (W0.o.kept k (by omega))
   have F0n:=hide (F0.o.kept k (by omega))
   have VAn:=hide (VA.o.kept k (by omega))
   have W1n:=hide (W1.o.kept k (by omega))
   have F1n:=hide (F1.o.kept k (by omega))
   have M1n:=hide (M1.o.kept k (by omega))
   have S2n:=hide (S2.o.kept k (by omega))
   have W2n:=hide (W2.o.kept k (by omega))
   have F2n:=hide (F2.o.kept k (by omega))
   clear Bel WA S0 W0 F0 VA W1 F1 M1 S2 W2 F2
   have Bel:=Beln
   have WA:=WAn
   have S0:=S0n
   have W0:=W0n
   have F0:=F0n
   have VA:=VAn
   have W1:=W1n
   have F1:=F1n
   have M1:=M1n
   have S2:=S2n
   have W2:=W2n
   have F2:=F2n
   clear Beln WAn S0n W0n F0n VAn W1n F1n M1n S2n W2n F2n
   have nw15:=k.size
   clear k
   have je:=F2.o.all
   have sZ:=F0.o.all
   go_wp2_with fail
   clear je sZ
   refine (yJ _ F).mono ?_
   rintro e9 w15f ⟨rfl,k⟩
   have Beln:=hide (bC Bel.o k (by omega))
   have WAn:=hide (WA.o.kept k (by omega))
   have S0n:=hide (S0.o.kept k (by omega))
   have W0n:=hide (W0.o.kept k (by omega))
   have F0n:=hide (F0.o.kept k (by omega))
   have VAn:=hide (VA.o.kept k (by omega))
   have W1n:=hide (W1.o.kept k (by omega))
   have F1n:=hide (F1.o.kept k (by omega))
   have M1n:=hide (M1.o.kept k (by omega))
   have S2n:=hide (S2.o.kept k (by omega))
   have W2n:=hide (W2.o.kept k (by omega))
   have F2n:=hide (F2.o.kept k (by omega))
   clear Bel WA S0 W0 F0 VA W1 F1 M1 S2 W2 F2
   have Bel:=Beln
   have WA:=WAn
   have S0:=S0n
   have W0:=W0n
   have F0:=F0n
   have VA:=VAn
   have W1:=W1n
   have F1:=F1n
   have M1:=M1n
   have S2:=S2n
   have W2:=W2n
   have F2:=F2n
   clear Beln WAn S0n W0n F0n VAn W1n F1n M1n S2n W2n F2n
   have nw15f:=k.size
   clear k
   have je:=W1.o.all
   go_wp2_with fail
   clear je
   refine (DY _ D a1 b1 e1 q1 _ _ _ _ M1.o.d.row M1.o.a'.row M1.o.b'.row M1.o.l.row (by omega) (by omega) (by omega) (by omega)).mono ?_
   rintro e9 w16 ⟨rfl,k⟩
   have Beln:=hide (bC Bel.o k (by omega))
   have WAn:=hide (WA.o.kept k (by omega))
   have S0n:=hide (S0.o.kept k (by omega))
   have W0n:=hide (W0.o.kept k (by omega))
   have F0n:=hide (F0.o.kept k (by omega))
   have VAn:=hide (VA.o.kept k (by omega))
   have W1n:=hide (W1.o.kept k (by omega))
   have F1n:=hide (F1.o.kept k (by omega))
   have M1n:=hide (M1.o.kept k (by omega))
   have S2n:=hide (S2.o.kept k (by omega))
   have W2n:=hide (W2.o.kept k (by omega))
   have F2n:=hide (F2.o.kept k (by omega))
   clear Bel WA S0 W0 F0 VA W1 F1 M1 S2 W2 F2
   have Bel:=Beln
   have WA:=WAn
   have S0:=S0n
   have W0:=W0n
   have F0:=F0n
   have VA:=VAn
   have W1:=W1n
   have F1:=F1n
   have M1:=M1n
   have S2:=S2n
   have W2:=W2n
   have F2:=F2n
   clear Beln WAn S0n W0n F0n VAn W1n F1n M1n S2n W2n F2n
   have nw16:=k.size
   clear k
   go_wp2_with fail
   go_ret
   exact ⟨rfl,Bel.o⟩
theorem QT:prog.globalNamed "loop.example/g00389/impl.digitSums" = some 0:=by kernel_rfl
theorem J8:prog.globalNamed "loop.example/g00389/impl.ninesLess" = some 1:=by kernel_rfl
theorem Vp:(prog.globals[0]?).map (·.type)=some 239:=by kernel_rfl
theorem RQ:(prog.globals[1]?).map (·.type)=some 240:=by kernel_rfl
theorem WL:prog.cellsOf 3=1:=by kernel_rfl
theorem WH:prog.cellsOf 239=20:=by kernel_rfl
theorem Ui:prog.cellsOf 240=10:=by kernel_rfl
def Hr:List Int:=[0,1,2,3,4,5,6,7,8,9,16,17,18,19,20,21,22,23,24,25]
def Bq:List Int:=[9,8,7,6,5,4,3,2,1,0]
theorem Hq:∀i:Nat,i<20→Hr.getD i 0=(i:Int)/10*16+(i:Int)%10:=by decide
theorem E8:∀i:Nat,i<10→Bq.getD i 0=9-(i:Int):=by decide
theorem Ny {W:World} {rest:List (String × DataW Unit)} (h:laidMet prog (("loop.example/g00389/impl.digitSums",Rows.laid_loop_example_g00389_impl_digitSums) :: rest) W):nH W:=by
 have hT:Lib.TabIs prog W "loop.example/g00389/impl.digitSums" .i64 Hr:=Lib.tabIs_of_head (rest:=rest) QT Vp underlying239 underlying3 WL WH h
 intro i hi
 rw [hT.cell QT i (by simpa [Hr] using hi),Hq i hi]
theorem Nz {W:World} {rest:List (String × DataW Unit)} (h:laidMet prog (("loop.example/g00389/impl.ninesLess",Rows.laid_loop_example_g00389_impl_ninesLess) :: rest) W):qN W:=by
 have hT:Lib.TabIs prog W "loop.example/g00389/impl.ninesLess" .i64 Bq:=Lib.tabIs_of_head (rest:=rest) J8 RQ underlying240 underlying3 WL Ui h
 intro i hi
 rw [hT.cell J8 i (by simpa [Bq] using hi),E8 i hi]
theorem Nw {W:World} (h:laidMetH prog [("loop.example/g00389/impl.digitSums",Rows.laid_loop_example_g00389_impl_digitSums),("loop.example/g00389/impl.ninesLess",Rows.laid_loop_example_g00389_impl_ninesLess)] W):nH W∧qN W:=by
 rw [MakeChecks.laidMetH_plain _ _ _ (by kernel_rfl)] at h
 exact ⟨Ny h,Nz h.tail⟩
open Go.RowKit Go.WideShapes Go.ChangeShapes Go.ChangeAt
set_option linter.unusedSimpArgs false
theorem Tryz.wz:prog.cellsOf 3=1:=by kernel_rfl
theorem Tryz.LP:prog.cellsOf 126=5:=by kernel_rfl
theorem Tryz.LK:prog.cellsOf 27=2:=by kernel_rfl
theorem Tryz.xA:prog.cellsOf 4=1:=by kernel_rfl
theorem Tryz.xy:prog.cellsOf 22=1:=by kernel_rfl
theorem Tryz.Gv:prog.cellsOf 25=1:=by kernel_rfl
theorem Tryz.Gu:prog.cellsOf 24=8:=by kernel_rfl
theorem Tryz.LJ:prog.cellsOf 29=12:=by kernel_rfl
theorem Addr.Aq (a:Addr) (i j:Nat):(a.add i).add j=a.add (i+j):=by
 unfold Addr.add
 by_cases hi:i=0<;>by_cases hj:j=0<;>simp [hi,hj,Nat.add_assoc]
theorem Ej {w:World} {x:Addr} {n:Nat} (h:∀i,i<n→∃z:Int,w.cell? (x.add i)=some (iv z)∧(Lit.int .i64 z).wf=true):∃xs:List Int,xs.length=n∧Came w (some x) xs:=by
 obtain ⟨f,hf⟩:=Go.Deep.choose_lt h
 refine ⟨(List.range n).map f,by simp,?_,?_⟩
 ·intro i hi
  have hi':i<n:=by simpa using hi
  obtain ⟨g,off,spot⟩:=x
  have hspot:spot=none:=by simpa [Addr.add] using World.cell?_spot (hf 0 (by omega)).1
  subst hspot
  refine ⟨g,off,rfl,?_⟩
  have hc:=(hf i hi').1
  by_cases h0:i=0
  ·subst h0;simpa [Addr.add,hi'] using hc
  ·simpa [Addr.add,h0,hi'] using hc
 ·intro i hi
  have hi':i<n:=by simpa using hi
  have:=bounds_i64 (hf i hi').2
  simpa [hi'] using this
section
variable {H:Type} {enc:TypeId × Value→H} {w:World} {base:Nat} {spare:Nat→Bool} {held:Bool}
theorem pW {fuel:Nat} {v:Value} {y:DataW H × List MemPlace} (h:DataW.trod enc prog w base spare held fuel 22 [v]=some y) :
  ∃(a:Option Addr) (cap:Nat) (xs:List Int),v=.slice a xs.length cap∧Came w a xs∧xs.length≤maxLen:=by
 rcases open_ints underlying22 underlying3 Tryz.wz h with ⟨hc,_⟩|⟨x,len,cap,zs,hc,_,hl,hm,hz,_,hcell,hwz⟩
 ·simp at hc
  exact ⟨none,0,[],hc,⟨fun i hi=>absurd hi (Nat.not_lt_zero i),fun i hi=>absurd hi (Nat.not_lt_zero i)⟩,Nat.zero_le _⟩
 ·simp at hc
  have hlen:len≤zs.length:=by rw [hz];split<;>omega
  obtain ⟨xs,rfl,hx⟩:=Ej (w:=w) (x:=x) (n:=len) (fun i hi=>⟨zs.getD i 0,hcell i (by omega),hwz _ (by
   have:i<zs.length:=by omega
   simp [List.getD,this])⟩)
  exact ⟨some x,cap,xs,hc,hx,by omega⟩
theorem zA {fuel:Nat} {v:Value} {y:DataW H × List MemPlace} (h:DataW.trod enc prog w base spare held fuel 25 [v]=some y) :
  ∃(a:Option Addr) (m cap:Nat) (ys:List Int),v=.slice a m cap∧Came w a ys∧ys.length=5*m∧m≤maxLen:=by
 rcases Go.Deep.open_slice underlying25 h with ⟨hc,_⟩|⟨x,len,cap,m,n,D,Pl,hc,_,hl,hm,hmm,_,hel⟩
 ·simp at hc
  exact ⟨none,0,0,[],hc,⟨fun i hi=>absurd hi (Nat.not_lt_zero i),fun i hi=>absurd hi (Nat.not_lt_zero i)⟩,rfl,Nat.zero_le _⟩
 ·simp at hc
  have hlen:len≤m:=by rw [hmm];split<;>omega
  obtain ⟨ys,hy,hx⟩:=Ej (w:=w) (x:=x) (n:=5*len) (by
   intro i hi
   obtain ⟨cs',h1,h2⟩:=hel (i/5) (by omega)
   rw [Tryz.LP] at h1
   obtain ⟨_,hl5,hcs⟩:=World.cells?_some h1
   obtain ⟨zs,k,_,_,_,hzl,hf⟩:=DataW.trod_struct underlying126 h2
   have hget:=hcs (i%5) (by omega)
   rw [Addr.Aq,show i/5*5+i%5=i from by omega] at hget
   rw [hget]
   obtain ⟨c0,c1,c2,c3,c4,rfl⟩:∃c0 c1 c2 c3 c4,cs'=[c0,c1,c2,c3,c4]:=by
    match cs',hl5 with
    | [c0,c1,c2,c3,c4],_=>exact ⟨c0,c1,c2,c3,c4,rfl⟩
   obtain ⟨z0,z1,z2,z3,z4,rfl⟩:∃z0 z1 z2 z3 z4,zs=[z0,z1,z2,z3,z4]:=by
    match zs,hzl with
    | [z0,z1,z2,z3,z4],_=>exact ⟨z0,z1,z2,z3,z4,rfl⟩
   have t0:=hf 0 _ rfl
   have t1:=hf 1 _ rfl
   have t2:=hf 2 _ rfl
   have t3:=hf 3 _ rfl
   have t4:=hf 4 _ rfl
   simp [Tryz.wz] at t0 t1 t2 t3 t4
   obtain ⟨n0,e0,_,b0⟩:=DataW.trod_int underlying3 t0
   obtain ⟨n1,e1,_,b1⟩:=DataW.trod_int underlying3 t1
   obtain ⟨n2,e2,_,b2⟩:=DataW.trod_int underlying3 t2
   obtain ⟨n3,e3,_,b3⟩:=DataW.trod_int underlying3 t3
   obtain ⟨n4,e4,_,b4⟩:=DataW.trod_int underlying3 t4
   simp at e0 e1 e2 e3 e4
   subst e0 e1 e2 e3 e4
   obtain h|h|h|h|h:i%5=0∨i%5=1∨i%5=2∨i%5=3∨i%5=4:=by omega
   all_goals rw [h]
   ·exact ⟨n0,rfl,b0⟩
   ·exact ⟨n1,rfl,b1⟩
   ·exact ⟨n2,rfl,b2⟩
   ·exact ⟨n3,rfl,b3⟩
   ·exact ⟨n4,rfl,b4⟩)
  exact ⟨some x,len,cap,ys,hc,hx,hy,by omega⟩
theorem IP {r:Reach} {b0:Nat} {v:Value} {d:DataW H} {p:List MemPlace} (hv:Value.okWide prog w r b0 29 v) (h:DataW.Trod enc prog w base spare held 29 v d p) :
  ∃(a0:Option Addr) (c0:Nat) (x0:List Int) (a1:Option Addr) (c1:Nat) (x1:List Int) (i2 i3 i4 i5:Int) (i6 i7:Bool) (a8:Option Addr) (c8:Nat) (x8:List Int) (a9:Option Addr) (m9 c9:Nat) (x9:List Int) (i10 i11:Bool),v=.agg #[.slice a0 x0.length c0,.slice a1 x1.length c1,iv i2,iv i3,iv i4,iv i5,.bool i6,.bool i7,.slice a8 x8.length c8,.slice a9 m9 c9,.bool i10,.bool i11]∧(Came w a0 x0∧x0.length≤maxLen)∧(Came w a1 x1∧x1.length≤maxLen)∧(Lit.int .i64 i2).wf=true∧(Lit.int .i64 i3).wf=true∧(Lit.int .i64 i4).wf=true∧(Lit.int .i64 i5).wf=true∧(Came w a8 x8∧x8.length≤maxLen)∧(Came w a9 x9∧x9.length=5*m9∧m9≤maxLen):=by
 obtain ⟨cs,rfl,hsz⟩:=okWide_struct underlying29 hv
 rw [Tryz.LJ] at hsz
 obtain ⟨cl⟩:=cs
 obtain ⟨c_0,c_1,c_2,c_3,c_4,c_5,c_6,c_7,c_8,c_9,PK,PI,rfl⟩:∃c_0 c_1 c_2 c_3 c_4 c_5 c_6 c_7 c_8 c_9 PK PI,cl=[c_0,c_1,c_2,c_3,c_4,c_5,c_6,c_7,c_8,c_9,PK,PI]:=by
  match cl,hsz with
  | [c_0,c_1,c_2,c_3,c_4,c_5,c_6,c_7,c_8,c_9,PK,PI],_=>exact ⟨c_0,c_1,c_2,c_3,c_4,c_5,c_6,c_7,c_8,c_9,PK,PI,rfl⟩
 obtain ⟨fuel,hf0⟩:=h
 obtain ⟨zs,k,_,_,_,hzl,hf⟩:=DataW.trod_struct underlying29 hf0
 obtain ⟨y_0,y_1,y_2,y_3,rfl⟩:∃y_0 y_1 y_2 y_3,zs=[y_0,y_1,y_2,y_3]:=by
  match zs,hzl with
  | [y_0,y_1,y_2,y_3],_=>exact ⟨y_0,y_1,y_2,y_3,rfl⟩
 have s0:=hf 0 _ rfl
 have s1:=hf 1 _ rfl
 have s2:=hf 2 _ rfl
 have s3:=hf 3 _ rfl
 simp [Value.cells,Tryz.Gu,Tryz.LK,Tryz.xA] at s0 s1 s2 s3
 obtain ⟨zs,k2,_,_,_,hzl,hr⟩:=DataW.trod_struct underlying24 s0
 obtain ⟨z_0,z_1,z_2,z_3,z_4,z_5,z_6,z_7,rfl⟩:∃z_0 z_1 z_2 z_3 z_4 z_5 z_6 z_7,zs=[z_0,z_1,z_2,z_3,z_4,z_5,z_6,z_7]:=by
  match zs,hzl with
  | [z_0,z_1,z_2,z_3,z_4,z_5,z_6,z_7],_=>exact ⟨z_0,z_1,z_2,z_3,z_4,z_5,z_6,z_7,rfl⟩
 have t0:=hr 0 _ rfl
 have t1:=hr 1 _ rfl
 have t2:=hr 2 _ rfl
 have t3:=hr 3 _ rfl
 have t4:=hr 4 _ rfl
 have t5:=hr 5 _ rfl
 have t6:=hr 6 _ rfl
 have t7:=hr 7 _ rfl
 simp [Value.cells,Tryz.wz,Tryz.xA,Tryz.xy] at t0 t1 t2 t3 t4 t5 t6 t7
 obtain ⟨zs,k3,_,_,_,hzl,hb⟩:=DataW.trod_struct underlying27 s1
 obtain ⟨x_0,x_1,rfl⟩:∃x_0 x_1,zs=[x_0,x_1]:=by
  match zs,hzl with
  | [x_0,x_1],_=>exact ⟨x_0,x_1,rfl⟩
 have t8:=hb 0 _ rfl
 have t9:=hb 1 _ rfl
 simp [Value.cells,Tryz.xy,Tryz.Gv] at t8 t9
 obtain ⟨a0,c0,x0,q0,hx0,lx0⟩:=pW t0
 obtain ⟨a1,c1,x1,q1,hx1,lx1⟩:=pW t1
 obtain ⟨i2,q2,_,wf2⟩:=DataW.trod_int underlying3 t2
 obtain ⟨i3,q3,_,wf3⟩:=DataW.trod_int underlying3 t3
 obtain ⟨i4,q4,_,wf4⟩:=DataW.trod_int underlying3 t4
 obtain ⟨i5,q5,_,wf5⟩:=DataW.trod_int underlying3 t5
 obtain ⟨i6,q6,_⟩:=DataW.trod_bool underlying4 t6
 obtain ⟨i7,q7,_⟩:=DataW.trod_bool underlying4 t7
 obtain ⟨a8,c8,x8,q8,hx8,lx8⟩:=pW t8
 obtain ⟨a9,m9,c9,x9,q9,hx9,ly9,lm9⟩:=zA t9
 obtain ⟨i10,q10,_⟩:=DataW.trod_bool underlying4 s2
 obtain ⟨i11,q11,_⟩:=DataW.trod_bool underlying4 s3
 simp at q0 q1 q2 q3 q4 q5 q6 q7 q8 q9 q10 q11
 subst q0 q1 q2 q3 q4 q5 q6 q7 q8 q9 q10 q11
 exact ⟨a0,c0,x0,a1,c1,x1,i2,i3,i4,i5,i6,i7,a8,c8,x8,a9,m9,c9,x9,i10,i11,rfl,⟨hx0,lx0⟩,⟨hx1,lx1⟩,wf2,wf3,wf4,wf5,⟨hx8,lx8⟩,⟨hx9,ly9,lm9⟩⟩
end
end Go.Proofs.YtkkmnnhaailkcaaGreatDoor
