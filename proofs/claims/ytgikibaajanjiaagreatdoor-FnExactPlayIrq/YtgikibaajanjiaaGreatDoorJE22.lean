/- Part 22 of what the last text leans on. -/
import Derived.Test.YtgikibaajanjiaaGreatDoorJE21
set_option maxRecDepth 100000
set_option maxHeartbeats 16000000
namespace Go.Proofs.YtgikibaajanjiaaGreatDoor
open Pl
open Go.RowKit Go.Proofs.Tryz
set_option linter.unusedVariables false
theorem Pl.QK {c:Mc} (h:(c.lH.v==0)=true):bQ c.aG=true:=by
 cases hf:c.fetch.fine
 ·have e:c.lH=c.fetch.f:=by unfold Mc.lH;rw[hf];rfl
  rw[e]at h;unfold Mc.fine at hf;rw[h]at hf;cases hf
 ·exact(pX hf).1
theorem xQ (w:World) (lo b g:Nat) (c:Mc) (h:Hl) (hC:CAt w lo b g c h) (G:GM c) (hf:c.f=aI) (ht:jf w lo) :
  Calls prog 83 #[.pointer (some (abb b 0))] w fun e' w'=>∃g',e'=.returned (.agg (ftC c.sp.f))/\CAt w' lo b g' (c.sp) h/\Since w b (b+1) g w' g':=by
 obtain⟨l0,l1,l2,l3,l4⟩:=hC.lt;obtain⟨F,hF⟩:∃F,F=c.lH:=⟨_,rfl⟩
 obtain⟨x,hx⟩:∃x,x=c.aG:=⟨_,rfl⟩
 obtain⟨N,hN⟩:∃N,N=c.di:=⟨_,rfl⟩
 obtain⟨E,hE⟩:∃E,E=c.fetch:=⟨_,rfl⟩
 have ES:Hid (c.sp=bif F.v==0 then E.nf.dn x c.r.p else {E with f:=F}):=aba (by unfold Mc.sp;rw[hF,hx,hE]);have XO:Hid ((F.v==0)=true->bQ x=true):=aba (by rw[hF,hx];exact QK);have GE:Hid (GM E):=aba (by rw[hE];exact G.fetch);have ER:Hid (E.r=c.r):=aba (by rw[hE];exact Fa.1);have HG:=aba G;have HF:=aba hF;have HX:=aba hx;have HN:=aba hN;have HE:=aba hE;have TB:=aba ht;have K0:=aba (kept_alloc w (.cells ftZ 42));have C0:=aba (hC.alloc (.cells ftZ 42));have R0:=aba (Blk.new w ftZ 42);obtain⟨X,hX⟩:∃X:World,w.alloc (.cells ftZ 42)=X:=⟨_,rfl⟩
 rw[hX]at K0 C0 R0;have sX:w.heap.size<X.heap.size:=R0.o.lt;clear hC G hF hx hN hE ht;go_enter func83,ntmps83;go_wp2_with fail;refine(VS _ lo b g c h C0.o HG.o hf).mono ?_;rintro e9 W1⟨g1,rfl,hc,hs⟩;rw[<-HE.o]at hc;rw[<-HX.o,<-HN.o,<-HF.o];unfold ftC nM;have n1:=hs.ne (b:=w.heap.size) R0.o.lt (by omega);have z1:=hs.size;obtain⟨y0,y1,y2,y3,y4⟩:=hc.lt;have C1:=aba ((hc.alloc (.cells (inX x) 48)).alloc (.cells (ftA F) 42));have R1:=aba (((hs.blk R0.o (by omega) (by omega)).alloc (.cells (inX x) 48)).alloc (.cells (ftA F) 42));have S1:=aba (((((Since.refl w b (b+1) g).any K0.o).trans hs).alloc (.cells (inX x) 48)).alloc (.cells (ftA F) 42));have A1:=aba ((Blk.new W1 (inX x) 48).alloc (.cells (ftA F) 42));have L1:=Blk.new (W1.alloc (.cells (inX x) 48)) (ftA F) 42;simp only[World.size_alloc]at L1;replace L1:=aba L1;clear hc hs hX;go_wp2_with fail;refine(bW F _).mono ?_;rintro e9 W2⟨rfl,kf⟩;have C2:=aba (C1.o.any kf);have R2:=aba (R1.o.ae kf);have A2:=aba (A1.o.ae kf);have L2:=aba (L1.o.ae kf);have S2:=aba (S1.o.any kf);clear kf C1 R1 A1 L1 S1;cases hv:(F.v != 0)
 ·have h0:(F.v==0)=true:=by simpa using hv
  have XK:=aba (XO.o h0);have E1:Hid (c.sp=E.nf.dn x c.r.p):=aba (by rw[ES.o,h0];rfl);clear h0;go_wp2_with fail;refine wp_region_still_tail 7 (by kernel_rfl) (by kernel_rfl) ?_;simp only[List.take_succ_cons,List.take_zero,List.drop_succ_cons,List.drop_zero];obtain⟨Y,hY⟩:∃Y:World,Y={W2 with drawn:=W2.drawn+1}:=⟨_,rfl⟩
  rw[<-hY];have kY:Kept 0 0 W2 Y:=by rw[hY];exact ai (Kept.refl _ _ _)
  have C3:=aba (C2.o.any kY);have R3:=aba (R2.o.ae kY);have A3:=aba (A2.o.ae kY);have S3:=aba (S2.o.any kY);clear hY kY C2 R2 A2 L2 S2;have p9:=C3.o.cP;rw[ER.o]at p9;have q:=A3.o.all
  iterate 7 still_step
  refine wpStill_nil ?_;have C4:Hid (CAt Y lo b g1 E.nf h):=aba (C3.o.fx rfl rfl rfl rfl rfl);clear p9 q;go_wp2_with (go_at_call 123;refine(cDo _ lo b g1 E.nf h x.op x.z x.r x.m x.k x.e x.s c.r.p C4.o (GE.o.ft aI) rfl XK.o (TB.o.since S3.o (by omega) (by omega)) HG.o.p0 HG.o.p1).mono ?_;rintro e9 W5⟨g',rfl,hc,hs⟩;rw[<-show _=E.nf.dn x c.r.p from E1.o]at hc ⊢;obtain⟨Q,hQ⟩:∃Q,Q=c.sp.f:=⟨_,rfl⟩;rw[<-hQ];unfold ftC;have HQ:=aba hQ;clear hQ;have C5:=aba hc;have n5:=hs.ne (b:=w.heap.size) R3.o.lt (by omega);have R5:=aba (hs.blk R3.o (by omega) (by omega));have S5:=aba (S3.o.trans hs);have r5:=R5.o.all;have rf5:=R5.o.fz;clear hc hs);have KR:=(((((ak W5 w.heap.size 0 (iv Q.v)).one 1 (iv Q.pc)).one 2 (iv Q.ad)).one 3 (iv Q.wo)).one 4 (.bool Q.wr))
  refine bodyPost_ret (v:=.agg (ftA Q)) ?_ rfl ⟨g',?_,(C5.o).kept KR (by omega) (by omega),(S5.o).mine KR (by omega)⟩
  ·rw[aj rfl];go_simp
  ·rw[<-HQ.o];rfl
 ·have E1:Hid (c.sp={E with f:=F}):=aba (by rw[ES.o,show(F.v==0)=false from by simpa using hv];rfl);have l2:=L2.o.all;have r2:=R2.o.all;have rf2:=R2.o.fz;go_wp2_with fail;have KR:=(((((ak W2 w.heap.size 0 (iv F.v)).one 1 (iv F.pc)).one 2 (iv F.ad)).one 3 (iv F.wo)).one 4 (.bool F.wr))
  refine bodyPost_ret (v:=.agg (ftA F)) ?_ rfl ⟨g1,?_,?_,(S2.o).mine KR (by omega)⟩
  ·rw[aj rfl];go_simp
  ·rw[E1.o];rfl
  ·rw[E1.o];exact((C2.o).kept KR (by omega) (by omega)).fx rfl rfl rfl rfl rfl
def brd (xs:List Int) (u:Value):Array Value:=(cellsOf xs).push u
theorem VY {xs:List Int} {u:Value} {i:Nat} (hi:i<xs.length):(brd xs u)[i]? = some (iv (el xs i)):=by
 simp[brd,cellsOf,el,hi];rw[List.getElem?_append_left (by simpa using hi)];simp[hi]
theorem RY {xs:List Int} {u:Value} (hl:xs.length=512):(brd xs u)[512]? = some u:=by
 simp[brd,cellsOf,hl]
theorem Az (off:Nat):∀(l:List Value) (k:Nat) (A:Array Value) (i:Nat),off+k+l.length<=A.size->
  ((l.zipIdx k).foldl (fun a (x:Value × Nat)=>a.setIfInBounds (off+x.2) x.1) A)[i]? = if off+k<=i/\i<off+k+l.length then l[i-(off+k)]? else A[i]?
 | [],k,A,i,h=>by
  simp only[List.zipIdx_nil,List.foldl_nil,List.length_nil];rw[if_neg (by omega)]
 | v :: r,k,A,i,h=>by
  simp only[List.length_cons]at h;simp only[List.zipIdx_cons,List.foldl_cons,List.length_cons];rw[Az off r (k+1) _ i (by simp;omega)];by_cases h1:off+(k+1)<=i/\i<off+(k+1)+r.length
  ·rw[if_pos h1,if_pos (by omega),show i-(off+k)=(i-(off+(k+1)))+1 by omega,List.getElem?_cons_succ]
  ·rw[if_neg h1,Array.getElem?_setIfInBounds];by_cases h2:off+k=i
   ·rw[if_pos h2,if_pos (by omega),if_pos (by omega),show i-(off+k)=0 by omega];rfl
   ·rw[if_neg h2,if_neg (by omega)]
theorem Tryz.tV:(prog.info? 156).map (fun i=>(i.zero,i.size))=some (some (.agg (brd zeros (.slice none 0 0))),513):=by kernel_rfl
theorem Tryz.Ib:∀w,(zeroValue 156).run prog w=.ok (.agg (brd zeros (.slice none 0 0))) w:=(zero_of_info Tryz.tV).1
theorem Tryz.Ic:(prog.info? 156).map (·.size)=some 513:=(zero_of_info Tryz.tV).2
theorem kE (xs:List Int) (u:Value):(brd xs u).size=xs.length+1:=by simp[brd,cellsOf]
theorem fold_size (off:Nat):∀(l:List (Value × Nat)) (A:Array Value),(l.foldl (fun a (x:Value × Nat)=>a.setIfInBounds (off+x.2) x.1) A).size=A.size
 | [],A=>rfl
 | v :: r,A=>by rw[List.foldl_cons,fold_size off r];simp
def laid (off:Nat) (cs A:Array Value):Array Value:=cs.zipIdx.foldl (fun a (x:Value × Nat)=>a.setIfInBounds (off+x.2) x.1) A
theorem fG (off:Nat) (cs A:Array Value):(laid off cs A).size=A.size:=by
 unfold laid;rw[<-Array.foldl_toList];exact fold_size off _ A
theorem kN (off:Nat) (cs A:Array Value) (h:off+cs.size<=A.size) (i:Nat):(laid off cs A)[i]? = if off<=i/\i<off+cs.size then cs[i-off]? else A[i]? := by
 unfold laid;rw[<-Array.foldl_toList,Array.toList_zipIdx];have:=Az off cs.toList 0 A i (by simpa using h);simpa using this
theorem MH (cs A:Array Value) (u:Value) (hu:u.cells=#[u]) (hc:cs.size=512) (hA:A.size=513) :
  Instr.fill (#[(0,512),(512,1)][·]?) A [(0,.agg cs),(1,u)]=some (laid 512 #[u] (laid 0 cs A)):=by
 have h1:((laid 0 cs A)).size=513:=by rw[fG,hA]
 have e1:cs.zipIdx.foldl (fun a (x:Value × Nat)=>a.setIfInBounds (0+x.2) x.1) A=laid 0 cs A:=rfl;unfold Instr.fill;simp only[Value.cells,List.getElem?_toArray,List.getElem?_cons_zero];rw[if_neg (by simp[hc,hA])];rw[e1];unfold Instr.fill;simp only[hu,List.getElem?_cons_succ,List.getElem?_cons_zero];rw[if_neg (by simp[h1])];unfold Instr.fill;rfl
theorem RX (xs:List Int) (u:Value) (h:u.oneCell'=true):(brd xs u).all (·.oneCell')=true:=by
 rw[Array.all_eq_true_iff_forall_mem];intro v hv;simp only[brd,Array.mem_push]at hv;rcases hv with hv|rfl
 ·exact Array.all_eq_true_iff_forall_mem.1 (uB xs) v hv
 ·exact h
theorem Ia {P:Program} {ops:Array Oper} {rest:List Oper} {o:Oper} {a:Act} {w:World} {Q:Exit->Act->World->Prop} (hg:o.guard=none) (t:TypeId) (x y:Operand) (ho:o.op=.build t #[(0,x),(1,y)])
  (v u:Value) (hx:a.eval x=v) (hy:a.eval y=u) (cells:Array Value) (hf:P.built t [(0,v),(1,u)]=some cells)
  (h:wpList P ops Q rest (a.put o.dst (.agg cells)) w):wpList P ops Q (o :: rest) a w:=by
 have e:P.built t (#[(0,x),(1,y)].map fun (p:Nat × Operand)=>(p.1,a.eval p.2)).toList=some cells:=by
  simp[hx,hy,hf]
 refine wpList_build hg t #[(0,x),(1,y)] ho (by rw[e];rfl) ?_;rw[e];exact h
theorem DK (xs:List Int) (b:Option Addr) (n c:Nat) (lx:xs.length=512) :
  prog.built 156 [(0,.agg (cellsOf xs)),(1,.slice b n c)]=some (brd xs (.slice b n c)):=by
 have hp:(match prog.underlying 156 with|some (.struct fields)=>fields.toList.mapM (fun f=>(prog.info? f.type).map fun i=>(f.offset,i.size))|_=>none)=some [(0,512),(512,1)]:=by kernel_rfl
 have e:prog.built 156 [(0,.agg (cellsOf xs)),(1,.slice b n c)]=Instr.fill (#[(0,512),(512,1)][·]?) (brd zeros (.slice none 0 0)) [(0,.agg (cellsOf xs)),(1,.slice b n c)]:=by
  have hi:=Tryz.tV;unfold Program.built;cases h1:prog.info? 156 with
  | none=>rw[h1]at hi;cases hi
  | some it=>
   rw[h1]at hi;have hz:it.zero=some (.agg (brd zeros (.slice none 0 0))):=congrArg (fun o=>(o.map Prod.fst).getD none) hi;cases h2:prog.underlying 156 with
   | none=>rw[h2]at hp;cases hp
   | some d=>
    rw[h2]at hp;cases d
    case struct fields=>
     have hp':fields.toList.mapM (fun f=>(prog.info? f.type).map fun i=>(f.offset,i.size))=some [(0,512),(512,1)]:=hp;simp only[hz,hp'];rfl
    all_goals cases hp
 rw[e,MH (cellsOf xs) (brd zeros (.slice none 0 0)) (.slice b n c) rfl (by rw[cellsOf_size,lx]) (by rw[kE,eX])];refine congrArg some ?_;apply Array.ext_getElem?;intro i;rw[kN 512 #[.slice b n c] _ (by rw[fG,kE,eX];simp),kN 0 _ _ (by rw[kE,eX,cellsOf_size,lx];decide),cellsOf_size,lx];simp only[brd,Array.getElem?_push,cellsOf_size,lx];by_cases h:i<512
 ·rw[if_neg (by simp;omega),if_pos (by omega),if_neg (by omega)];rfl
 ·by_cases h2:i=512
  ·subst h2;rfl
  ·have h3:¬i<513:=by omega
   rw[if_neg (by simp;omega),if_neg (by omega)];simp only[eX];rw[if_neg h2,if_neg h2];rw[Array.getElem?_eq_none (by rw[cellsOf_size,eX];omega),Array.getElem?_eq_none (by rw[cellsOf_size,lx];omega)]
theorem Nz (W:World) (g m sCap:Nat) (sp:Option Addr) (ys:List Int) (cur:List Value) (t:TypeId) (hB:Blk W g cur.toArray t) (hr:aF W sp ys) (hl:ys.length=5*m) (hc:cur.length=5*m) :
  ∃W',(Builtin.copy_ #[36,36] 3 #[.slice (some (abb g 0)) m m,.slice sp m sCap]).run prog W=.ok (iv m) W'/\Blk W' g (cellsOf ys) t/\Kept g (g+1) W W':=by
 obtain⟨i,hi,hz0,hz1,hz2⟩:=info_parts Tryz.jY;have hmin:Nat.min m m=m:=Nat.min_self m;by_cases h0:m=0
 ·subst h0;obtain rfl:ys=[]:=List.eq_nil_of_length_eq_zero (by omega);obtain rfl:cur=[]:=List.eq_nil_of_length_eq_zero (by omega);refine⟨W,?_,hB,Kept.refl _ _ _⟩;have hl0:∀(x:Addr),(loadCells x 0).run prog W=.ok #[] W:=fun x=>by simpa using run_loadCells_list (P:=prog) W x [] (by simp)
  cases sp<;>simp[Builtin.copy_,run_underlying underlying36,Builtin.lenOf,Builtin.firstCells,sizeOf,typeInfo,hi,storeCells,hl0]<;>rfl
 ·obtain⟨ga,oa,rfl,_⟩:=hr 0 (by omega);have hld:=run_loadCells_list (P:=prog) W ⟨ga,oa,none⟩ (ys.map (Value.int .i64)) (iO hr);have hst:=run_storeCells_at prog g 0 t (ys.map (Value.int .i64)) 0 cur.toArray W hB (by simp[hl,hc]) iH;have e5:(ys.map (Value.int .i64)).length=m*5:=by rw[List.length_map,hl];omega
  rw[e5]at hld
  have e:(List.take (0+0) cur.toArray.toList++ys.map (Value.int .i64)++List.drop (0+0+(ys.map (Value.int .i64)).length) cur.toArray.toList)=ys.map (Value.int .i64):=by
   rw[List.drop_eq_nil_of_le (by simp[hl,hc])];simp
  rw[e]at hst;refine⟨W.setRow g (cellsOf ys),?_,hB.setRow,⟨rfl,rfl,rfl,by simp,fun k hk hn=>setRow_other W g k _ (by omega)⟩⟩;simp[Builtin.copy_,run_underlying underlying36,Builtin.lenOf,Builtin.firstCells,sizeOf,typeInfo,hi,hz1,hmin,hld];have hst':(storeCells (abb g 0) (ys.map (Value.int .i64))).run prog W=.ok () (W.setRow g (cellsOf ys)):=hst;rw[hst'];rfl
theorem zV {w:World} {base g m:Nat} {ys:List Int} (h:Blk w g (cellsOf ys) 179) (hl:ys.length=5*m) (hb:base<=g) (bm:m<=2000000):w.ownsRow base 179 5 (.slice (some (abb g 0)) m m) m (ys.map (Value.int .i64)):=by
 refine⟨by simp[hl];omega,.inr ⟨g,m,cellsOf ys,rfl,hb,h,Nat.le_refl _,by unfold maxLen;omega,by rw[cellsOf_size,hl];omega,?_⟩⟩;rw[List.take_of_length_le (by simp[cellsOf,hl];omega)];simp[cellsOf]
theorem RZ (w:World) (a b:Option Addr) (ca cb m:Nat) (xs ys:List Int) (ha:aF w a xs) (hb:aF w b ys) (lx:xs.length=512) (ly:ys.length=5*m) (bm:m<=400) :
  Calls prog 122 #[.agg #[.slice a xs.length ca,.slice b m cb]] w fun e w'=>∃g:Nat,e=.returned (.agg (brd xs (.slice (some (abb g 0)) m m)))/\Blk w' g (cellsOf ys) 179/\w.heap.size<=g/\Kept 0 0 w w':=by
 obtain⟨i,hi,hz0,hz1,hz2⟩:=info_parts Tryz.jY;have HA:=aba ha;have HB:=aba hb;have HX:=aba lx;have HY:=aba ly;have bz:=Tryz.Ib;have hbuilt:=aba (DK xs (some (abb (w.heap.size+1+1) 0)) m m lx);have K0:=aba (ah (kept_alloc w (.cells #[.slice a xs.length ca,.slice b m cb] 38)) (.cells (brd zeros (.slice none 0 0)) 156));have B0:=aba ((Blk.new w #[.slice a xs.length ca,.slice b m cb] 38).alloc (.cells (brd zeros (.slice none 0 0)) 156));have B1:=Blk.new (w.alloc (.cells #[.slice a xs.length ca,.slice b m cb] 38)) (brd zeros (.slice none 0 0)) 156;simp only[World.size_alloc]at B1;replace B1:=aba B1;clear ha hb lx ly;go_enter func122,ntmps122;go_wp2_with (at_make;refine wpList_make_full _ rfl _ _ 36 rfl w.heap.size 179 i (.agg #[iv 0,iv 0,iv 0,iv 0,iv 0]) 5 underlying36 hi hz0 hz1 _ _ _ _ m rfl rfl rfl rfl ?c1 ?c2 ?c3 ?_)
 case c1=>rw[hz2];omega
 case c2=>unfold maxLen;omega
 case c3=>simp;omega
 intro w1 hown hg;have k1:=aS hg;have C0:=B0.o.ae k1;have C1:=B1.o.ae k1;have K1:=K0.o.trans k1;obtain⟨W2,hcopy,E2,k2⟩:=Nz w1 (w.heap.size+1+1) m cb b ys _ _ (wU hown) (HB.o.ag K1) HY.o (by rw[hown.1];omega);have D0:=aba (C0.kept k2 (by omega));have D1:=aba (C1.kept k2 (by omega));have K2:=aba (aB K1 k2 (by omega));have H2:=aba E2;have HZ:∀u,Hid ((prog.info? 156).map (·.size)=some (brd xs u).size):=fun u=>aba (by rw[kE,HX.o];exact Tryz.Ic);have HZ2:∀u,Hid ((brd zeros (.slice none 0 0)).size=(brd xs u).size):=fun u=>aba (by rw[kE,kE,HX.o,eX]);have p1:=C0.cell (i:=1) rfl;have d0:=D0.o.cell (i:=0) rfl;have d1:=D0.o.cell (i:=1) rfl;clear hown hg k1 C0 C1 K1 E2 k2
 go_wp2_with (first
  | (go_at_call 177;refine(JS _ a b ca cb m xs (HA.o.ag K2.o) HX.o).mono ?_;rintro e w3⟨rfl,k3⟩;have D3:=aba (D1.o.ae k3);have H3:=aba (H2.o.ae k3);have K3:=aba (K2.o.trans k3);clear k3)
  | (refine Ia rfl 156 (.tmp 13) (.tmp 14) rfl (.agg (cellsOf xs)) (.slice (some (abb (w.heap.size+1+1) 0)) m m) rfl rfl (brd xs (.slice (some (abb (w.heap.size+1+1) 0)) m m)) hbuilt.o ?_)
  | (refine wpList_store_row rfl 156 (.tmp 2) (.tmp 15) rfl (w.heap.size+1) (brd xs (.slice (some (abb (w.heap.size+1+1) 0)) m m)) rfl rfl 156 (brd zeros (.slice none 0 0)) D3.o (HZ _).o (HZ2 _).o (RX _ _ rfl) ?_))
 refine bodyPost_ret (v:=.agg (brd xs (.slice (some (abb (w.heap.size+1+1) 0)) m m))) ?_ rfl ⟨w.heap.size+1+1,rfl,H3.o.zI (by omega),by omega,lS K3.o _ _ (by omega)⟩;exact results_cell_row rfl _ _ _ _ _ (0,0) _ rfl D3.o.setRow underlying156 rfl (HZ _).o
theorem Tryz.Aq:(prog.info? 159).map (fun i=>(i.zero,i.size))=some (some (.agg (cor ⟨[0,0,0,0],[0,0,0,0],0,0,0,0,false,false⟩ zeros (.slice none 0 0) false ⟨false,tl0⟩)),529):=by kernel_rfl
theorem Nv (r:Rg) (xs:List Int) (u:Value) (st ha:Bool) (A:Array Value) (hA:A.size=529) (lx:xs.length=512):laid 528 #[.bool ha] (laid 527 #[.bool st] (laid 14 (brd xs u) (laid 0 (bkR r) A)))=cor r xs u st ⟨ha,tl0⟩:=by
 have hb:(brd xs u).size=513:=by rw[kE,lx]
 have hr:(bkR r).size=14:=rfl;apply Array.ext_getElem?;intro i;rw[kN 528 _ _ (by simp only[fG,hA];exact Nat.le_refl 529),kN 527 _ _ (by simp only[fG,hA];exact Nat.le_succ 528),kN 14 _ _ (by rw[fG,hA,hb];decide),kN 0 _ _ (by rw[hA,hr];decide),hb,hr];by_cases h1:i<14
 ·rw[if_neg (by simp;omega),if_neg (by simp;omega),if_neg (by omega),if_pos (by omega),yY h1];rfl
 ·by_cases h2:i<526
  ·rw[if_neg (by simp;omega),if_neg (by simp;omega),if_pos (by omega)];obtain⟨n,rfl⟩:∃n,i=14+n:=⟨i-14,by omega⟩
   rw[wM (by omega),Nat.add_sub_cancel_left,VY (by omega)]
  ·by_cases h3:i<529
   ·have:i=526\/i=527\/i=528:=by omega
    rcases this with rfl|rfl|rfl
    ·rw[if_neg (by simp),if_neg (by simp),if_pos (by omega),kQ lx];exact RY lx
    ·rw[if_neg (by simp),if_pos (by simp),Nj lx];rfl
    ·rw[if_pos (by simp),Ny lx];rfl
   ·rw[if_neg (by simp;omega),if_neg (by simp;omega),if_neg (by omega),if_neg (by omega),Array.getElem?_eq_none (by omega),Array.getElem?_eq_none (by rw[qg lx];omega)]
theorem Ah (k:Nat) (v:Value) (A:Array Value):laid k #[v] A=A.setIfInBounds k v:=rfl
theorem Nh (r:Rg) (xs:List Int) (m:Nat) (st ha:Bool) (lx:xs.length=512):∃(Z L:Array Value) (M:Option Addr->Array Value),(∀w,(zeroValue 159).run prog w=.ok (.agg Z) w)/\Z.size=529/\(bkR r).size=14/\(∀d,(brd xs (.slice d m m)).size=513)/\
  (bkR r).zipIdx.foldl (fun cs x=>cs.setIfInBounds x.2 x.1) Z 0 14=L/\L.size=529/\(∀d,(brd xs (.slice d m m)).zipIdx.foldl (fun cs x=>cs.setIfInBounds (14+x.2) x.1) L 0 513=M d)/\(∀d,(M d).size=529)/\
  ∀d,((M d).setIfInBounds 527 (.bool st)).setIfInBounds 528 (.bool ha)=cor r xs (.slice d m m) st ⟨ha,tl0⟩:=by
 have hr:(bkR r).size=14:=rfl;have hd:∀d,(brd xs (.slice d m m)).size=513:=fun d=>by rw[kE,lx]
 obtain⟨Z,hz,hs⟩:∃Z:Array Value,(∀w,(zeroValue 159).run prog w=.ok (.agg Z) w)/\Z.size=529:=⟨_,(zero_of_info Tryz.Aq).1,qg eX⟩
 refine⟨Z,laid 0 (bkR r) Z,fun d=>laid 14 (brd xs (.slice d m m)) (laid 0 (bkR r) Z),hz,hs,hr,hd,?_,?_,?_,?_,?_⟩
 ·unfold laid;simp[hr]
 ·rw[fG];exact hs
 ·intro d;unfold laid;simp[hr,hd]
 ·intro d;rw[fG,fG];exact hs
 ·intro d;have:=Nv r xs (.slice d m m) st ha Z hs lx;rw[Ah,Ah]at this;exact this
theorem AZ {w:World} {x:Nat} {c:Cp} {a b e q:Option Addr} {ca cb ce cq:Nat} {ty:TypeId} (h:Blk w x (cpA c a b e q ca cb ce cq) ty):w.cell? (abb x 0)=some (.slice a c.r.xs.length ca)/\w.cell? (abb x 1)=some (.slice b c.r.ys.length cb)/\w.cell? (abb x 2)=some (.int .i64 c.r.o)/\w.cell? (abb x 3)=some (.int .i64 c.r.p)/\w.cell? (abb x 4)=some (.int .i64 c.r.f)/\w.cell? (abb x 5)=some (.int .i64 c.r.m)/\w.cell? (abb x 6)=some (.bool c.r.s)/\w.cell? (abb x 7)=some (.bool c.r.t)/\w.cell? (abb x 8)=some (.slice e c.bx.length ce)/\w.cell? (abb x 9)=some (.slice q c.bm cq)/\w.cell? (abb x 10)=some (.bool c.st)/\w.cell? (abb x 11)=some (.bool c.ha):=
 ⟨h.cell (i:=0) rfl,h.cell (i:=1) rfl,h.cell (i:=2) rfl,h.cell (i:=3) rfl,h.cell (i:=4) rfl,h.cell (i:=5) rfl,h.cell (i:=6) rfl,h.cell (i:=7) rfl,h.cell (i:=8) rfl,h.cell (i:=9) rfl,h.cell (i:=10) rfl,h.cell (i:=11) rfl⟩
theorem Vr (w:World) (c:Cp) (a b e q:Option Addr) (ca cb ce cq:Nat) (ha:aF w a c.r.xs) (hb:aF w b c.r.ys) (he:aF w e c.bx) (hq:aF w q c.bl) (lx:c.r.xs.length=4) (ly:c.r.ys.length=4) (lb:c.bx.length=512) (ll:c.bl.length=5*c.bm) (lm:c.bm<=400) :
  Calls prog 65 #[.agg (cpA c a b e q ca cb ce cq)] w fun r w'=>∃p g:Nat,r=.returned (.pointer (some (abb p 0)))/\CAt w' w.heap.size p g (Mc.ofC c) ⟨c.ha,tl0⟩/\Kept 0 0 w w':=by
 have K0:=aba (kept_alloc w (.cells (cpA c a b e q ca cb ce cq) 40));have HBA:=aba (Blk.new w (cpA c a b e q ca cb ce cq) 40);obtain⟨X,hX⟩:∃X:World,w.alloc (.cells (cpA c a b e q ca cb ce cq) 40)=X:=⟨_,rfl⟩
 rw[hX]at K0 HBA;have HA:=aba (ha.ag K0.o);have HB:=aba (hb.ag K0.o);have HE:=aba (he.ag K0.o);have HQ:=aba (hq.ag K0.o);obtain⟨CZ,L1,L2,bz,z1,z2,z3,z4,z5,z6,z7,z8⟩:=Nh c.r c.bx c.bm c.st c.ha lb;have LX:=aba lx;have LY:=aba ly;have LB:=aba lb;have LL:=aba ll;have LM:=aba lm;clear ha hb he hq lx ly lb ll lm;obtain⟨i0,i1,i2,i3,i4,i5,i6,i7,i8,i9,i10,i11⟩:=AZ HBA.o;go_enter func65,ntmps65;go_wp2_with fail;clear hX
 go_region_held3 (fun w'=>w'.cell? (abb w.heap.size 0)=some (.slice a c.r.xs.length ca)/\w'.cell? (abb w.heap.size 1)=some (.slice b c.r.ys.length cb)/\w'.cell? (abb w.heap.size 2)=some (.int .i64 c.r.o)/\w'.cell? (abb w.heap.size 3)=some (.int .i64 c.r.p)/\w'.cell? (abb w.heap.size 4)=some (.int .i64 c.r.f)/\w'.cell? (abb w.heap.size 5)=some (.int .i64 c.r.m)/\w'.cell? (abb w.heap.size 6)=some (.bool c.r.s)/\w'.cell? (abb w.heap.size 7)=some (.bool c.r.t)/\w'.cell? (abb w.heap.size 8)=some (.slice e c.bx.length ce)/\w'.cell? (abb w.heap.size 9)=some (.slice q c.bm cq)/\w'.cell? (abb w.heap.size 10)=some (.bool c.st)/\w'.cell? (abb w.heap.size 11)=some (.bool c.ha)) (first|exact AZ B4.o|exact AZ B3.o|exact AZ (show Blk _ _ _ _ from HBA.o)|exact AZ (B4.o.alloc _))
  (first|(go_at_call 122;have z9:=B3;refine(RZ _ e q ce cq c.bm c.bx c.bl (HE.o.ag K3.o) (HQ.o.ag K3.o) LB.o LL.o LM.o).mono ?_;rintro e9 w4⟨g,rfl,hb4,hg4,k4⟩;have B4:=aba (B3.o.ae k4);have G4:=aba hb4;have L4:=aba hg4;have K4:=aba (K3.o.trans k4);clear hb4 hg4 k4)|(go_at_call 121;refine(V5 _ c.r a b ca cb (HA.o.ag (ai (Kept.refl _ _ _))) (HB.o.ag (ai (Kept.refl _ _ _))) LX.o LY.o).mono ?_;rintro e9 w3⟨rfl,kd⟩;have k3:=aP kd;have B3:=aba (HBA.o.ae k3);have K3:=aba k3;clear kd k3))
 go_wp2_with fail;go_ret;have s0:=K0.o.size;have s3:=K3.o.size;have l4:=L4.o;have g4:=G4.o.lt;refine⟨w4.heap.size,g,rfl,⟨c.bm,Blk.new w4 _ _,⟨zV (G4.o.alloc _) LL.o (by omega) (show c.bm<=2000000 by have:=LM.o;omega),?_,?_⟩⟩,K0.o.trans (ah K4.o _)⟩
 ·have:=K4.o.size;omega
 ·omega
theorem CAt.Bq {w:World} {lo b g:Nat} {c:Mc} {h:Hl} (a:CAt w lo b g c h) (l:c.bx.length=512):w.cell? (abb b 0)=some (.int .i64 (el c.r.xs 0))/\w.cell? (abb b 1)=some (.int .i64 (el c.r.xs 1))/\w.cell? (abb b 2)=some (.int .i64 (el c.r.xs 2))/\w.cell? (abb b 3)=some (.int .i64 (el c.r.xs 3))/\w.cell? (abb b 4)=some (.int .i64 (el c.r.ys 0))/\w.cell? (abb b 5)=some (.int .i64 (el c.r.ys 1))/\w.cell? (abb b 6)=some (.int .i64 (el c.r.ys 2))/\w.cell? (abb b 7)=some (.int .i64 (el c.r.ys 3))/\w.cell? (abb b 8)=some (.int .i64 c.r.o)/\w.cell? (abb b 9)=some (.int .i64 c.r.p)/\w.cell? (abb b 10)=some (.int .i64 c.r.f)/\w.cell? (abb b 11)=some (.int .i64 c.r.m)/\w.cell? (abb b 12)=some (.bool c.r.s)/\w.cell? (abb b 13)=some (.bool c.r.t)/\w.cell? (abb b 527)=some (.bool c.st)/\w.cell? (abb b 528)=some (.bool h.a):=
 ⟨a.cX (by omega),a.cX (by omega),a.cX (by omega),a.cX (by omega),a.cY (k:=0) (by omega),a.cY (k:=1) (by omega),a.cY (k:=2) (by omega),a.cY (k:=3) (by omega),a.cO,a.cP,a.cF,a.cM,a.cS,a.cT,a.cSt l,a.cH l⟩
theorem aaz (w:World) {r:Rg} {st:Bool} {ha:Hl} (b:Nat) (xs:List Int) (d:Option Addr) (n c:Nat) (hB:Blk w b (cor r xs (.slice d n c) st ha) ha.t.y) (lx:xs.length=512) :
  Calls prog 125 #[.pointer (some (abb b 14))] w fun e w'=>∃g:Nat,e=.returned (.agg #[.slice (some (abb g 0)) 512 512,.slice d n c])/\Blk w' g (cellsOf xs) 3/\w.heap.size<=g/\Kept 0 0 w w':=by
 have HX:=aba lx;have HB:=aba hB;have hu:=underlying154;have hcs:(xs.map (Value.int .i64)).length=512:=by rw[List.length_map,lx]
 have hi:(prog.info? 154).map (·.size)=some (xs.map (Value.int .i64)).length:=by rw[hcs];exact Tryz.yF
 have h1:∀v∈xs.map (Value.int .i64),v.oneCell'=true:=iH;have hlt:=hB.lt;have HR:=aba ((Blk.new w #[.slice none 0 0,.slice none 0 0] 38));have K0:=aba (kept_alloc w (.cells #[.slice none 0 0,.slice none 0 0] 38));have B0:=aba (hB.alloc (.cells #[.slice none 0 0,.slice none 0 0] 38));clear hB lx;go_enter func125,ntmps125;go_wp2_with fail;obtain⟨W,hW⟩:∃W:World,W=w.alloc (.cells #[.slice none 0 0,.slice none 0 0] 38):=⟨_,rfl⟩
 rw[<-hW]at HR K0 B0 ⊢;clear hW;obtain⟨r1,r2⟩:=Hq B0.o HX.o
 go_region_held3 (fun w'=>w'.rangeAt b 14 (xs.map (Value.int .i64))/\w'.cell? (abb b 526)=some (.slice d n c)) (first|exact Hq B3.o HX.o|exact Hq ((B3.o.other _ _ _ (by omega)).other _ _ _ (by omega)) HX.o|go_keep_ranges|go_keep)
  (first|(go_at_call 181;refine(PU _ xs HX.o).mono ?_;rintro e w3⟨g,rfl,hb3,hg3,kd⟩;have k3:=aP kd;have B3:=aba (B0.o.ae k3);have R3:=aba (HR.o.ae k3);have q0:=R3.o.cell (i:=0) rfl;have q1:=R3.o.cell (i:=1) rfl;have f0:=R3.o.frozen 0;have f1:=R3.o.frozen 1;have G3:=aba hb3;have L3:=aba hg3;have K3:=aba (K0.o.trans k3);clear hb3 hg3 kd k3))
 go_wp2_with fail;have l3:W.heap.size<=g:=L3.o;have k0:=K0.o.size;have k1:=HR.o.lt;refine bodyPost_ret (v:=.agg #[.slice (some (abb g 0)) 512 512,.slice d n c]) ?_ rfl ⟨g,rfl,?_,by omega,?_⟩
 ·rw[aj rfl];go_simp
 ·exact(G3.o.other _ _ _ (by omega)).other _ _ _ (by omega)
 ·exact af (af K3.o _ _ _ (.inr (by omega))) _ _ _ (.inr (by omega))
theorem Yx (w:World) (lo b g:Nat) (c:Mc) (h:Hl) (hC:CAt w lo b g c h) (G:GM c) :
  Calls prog 67 #[.pointer (some (abb b 0))] w fun r w'=>∃(a' b' e' q':Option Addr) (ca' cb' ce' cq':Nat),r=.returned (.agg (Vq (c.cpu h.a) a' b' e' q' ca' cb' ce' cq'))/\lF w' lo (c.cpu h.a) a' b' e' q'/\Kept 0 0 w w'/\(∀z,blk a'=some z\/blk b'=some z\/blk e'=some z\/blk q'=some z->z=g\/w.heap.size<=z):=by
 obtain⟨l0,l1,l2,l3,l4⟩:=hC.lt;have K0:=aba (kept_alloc w (.cells cpZ 40));have R0:=aba (Blk.new w cpZ 40);have C0:=aba (hC.alloc (.cells cpZ 40));have LX:=aba G.g.d4;have LY:=aba G.g.a4;have LB:=aba G.bx;clear hC G;obtain⟨X,hX⟩:∃X:World,w.alloc (.cells cpZ 40)=X:=⟨_,rfl⟩
 rw[hX]at K0 R0 C0;obtain⟨i0,i1,i2,i3,i4,i5,i6,i7,i8,i9,i10,i11,i12,i13,j1,j2⟩:=C0.o.Bq LB.o;go_enter func67,ntmps67;go_wp2_with fail;clear hX
 go_region_held3 (fun w'=>w'.cell? (abb b 0)=some (.int .i64 (el c.r.xs 0))/\w'.cell? (abb b 1)=some (.int .i64 (el c.r.xs 1))/\w'.cell? (abb b 2)=some (.int .i64 (el c.r.xs 2))/\w'.cell? (abb b 3)=some (.int .i64 (el c.r.xs 3))/\w'.cell? (abb b 4)=some (.int .i64 (el c.r.ys 0))/\w'.cell? (abb b 5)=some (.int .i64 (el c.r.ys 1))/\w'.cell? (abb b 6)=some (.int .i64 (el c.r.ys 2))/\w'.cell? (abb b 7)=some (.int .i64 (el c.r.ys 3))/\w'.cell? (abb b 8)=some (.int .i64 c.r.o)/\w'.cell? (abb b 9)=some (.int .i64 c.r.p)/\w'.cell? (abb b 10)=some (.int .i64 c.r.f)/\w'.cell? (abb b 11)=some (.int .i64 c.r.m)/\w'.cell? (abb b 12)=some (.bool c.r.s)/\w'.cell? (abb b 13)=some (.bool c.r.t)/\w'.cell? (abb b 527)=some (.bool c.st)/\w'.cell? (abb b 528)=some (.bool h.a)) (first|with_reducible exact C4.o.Bq LB.o|with_reducible exact C3.o.Bq LB.o|with_reducible exact C0.o.drew.Bq LB.o|exact(C4.o.kept ((((((((((((ak _ w.heap.size _ _).one _ _).one _ _).one _ _).one _ _).one _ _).one _ _).one _ _).one _ _).one _ _).one _ _).one _ _) (by omega) (by omega)).Bq LB.o)
  (first|(go_at_call 125;have z9:=C3;obtain⟨cu,hb9,ho9⟩:=C3.o;refine(aaz _ b c.bx _ _ _ hb9 LB.o).mono ?_;rintro e9 w4⟨gb,rfl,hb4,hg4,k4⟩;have C4:=aba (C3.o.any k4);have B4:=aba hb4;have L4:=aba hg4;have RI4:=aba (RI3.o.kept k4);have R4:=aba (R3.o.ae k4);have p:=R4.o.all;have pf:=R4.o.fz;have O4:=aba (ho9.any k4);have K4:=aba (K3.o.trans k4);clear hb4 hg4 k4 hb9 ho9)|(go_at_call 124;refine(NV c.r _ LX.o LY.o).mono ?_;rintro e9 w3⟨a',b',ca',cb',rfl,hr3,kd⟩;have k3:=aP kd;have C3:=aba (C0.o.any k3);have R3:=aba (R0.o.ae k3);have RI3:=aba hr3;have K3:=aba k3;clear kd k3 hr3))
 go_wp2_with fail;have K5:=((((((((((((ak w4 w.heap.size 0 (.slice a' c.r.xs.length ca')).one 1 (.slice b' c.r.ys.length cb')).one 2 (.int .i64 c.r.o)).one 3 (.int .i64 c.r.p)).one 4 (.int .i64 c.r.f)).one 5 (.int .i64 c.r.m)).one 6 (.bool c.r.s)).one 7 (.bool c.r.t)).one 8 (.slice (some (abb gb 0)) 512 512)).one 9 (.slice (some (abb g 0)) c.bm cu)).one 10 (.bool c.st)).one 11 (.bool h.a))
 have s0:w.heap.size<X.heap.size:=R0.o.lt;have s3:X.heap.size<=w3.heap.size:=K3.o.size;have s4:w3.heap.size<=w4.heap.size:=by have:=K4.o.size;have:=L4.o;have:=B4.o.lt;omega
 have l4:=L4.o;have b4:=B4.o.lt;have s5:=K5.size
 have ra:∀x,blk a'=some x->X.heap.size<=x/\x<w3.heap.size:=by
  intro x hx;rcases RI3.o.1 with⟨e1,_⟩|⟨y,e1,y0,y1,_⟩
  ·rw[e1]at hx;cases hx
  ·rw[e1]at hx;have hx':y=x:=Option.some.inj hx;subst hx';exact⟨y0,y1⟩
 have rb:∀x,blk b'=some x->X.heap.size<=x/\x<w3.heap.size:=by
  intro x hx;rcases RI3.o.2.1 with⟨e1,_⟩|⟨y,e1,y0,y1,_⟩
  ·rw[e1]at hx;cases hx
  ·rw[e1]at hx;have hx':y=x:=Option.some.inj hx;subst hx';exact⟨y0,y1⟩
 refine bodyPost_ret (v:=.agg #[.slice a' c.r.xs.length ca',.slice b' c.r.ys.length cb',.int .i64 c.r.o,.int .i64 c.r.p,.int .i64 c.r.f,.int .i64 c.r.m,.bool c.r.s,.bool c.r.t,.slice (some (abb gb 0)) 512 512,.slice (some (abb g 0)) c.bm cu,.bool c.st,.bool h.a]) ?_ rfl ⟨a',b',some (abb gb 0),some (abb g 0),ca',cb',512,cu,?_,⟨?_,?_,?_,?_,RI3.o.2.2,?_,?_,?_,?_,?_⟩,?_,?_⟩
 ·rw[aj rfl];go_simp
 ·unfold Vq Mc.cpu;dsimp only;rw[LB.o]
 ·exact(aN.kept RI4.o.1 K5 (.inr (.inl (show w.heap.size+1<=X.heap.size by omega)))).wide (show lo<=X.heap.size by omega) s5
 ·exact(aN.kept RI4.o.2.1 K5 (.inr (.inl (show w.heap.size+1<=X.heap.size by omega)))).wide (show lo<=X.heap.size by omega) s5
 ·exact .inr ⟨gb,rfl,by omega,by omega,iG (B4.o.kept K5 (by omega))⟩
 ·exact .inr ⟨g,rfl,l2,by omega,dh (bg O4.o.l K5 (by omega))⟩
 ·intro x h1 h2;have h3:gb=x:=Option.some.inj h2;have:=ra x h1;omega
 ·intro x h1 h2;have h3:g=x:=Option.some.inj h2;have:=ra x h1;omega
 ·intro x h1 h2;have h3:gb=x:=Option.some.inj h2;have:=rb x h1;omega
 ·intro x h1 h2;have h3:g=x:=Option.some.inj h2;have:=rb x h1;omega
 ·intro x h1 h2;have h3:gb=x:=Option.some.inj h1;have h4:g=x:=Option.some.inj h2;omega
 ·exact aB (K0.o.trans K4.o) K5 (by omega)
 ·intro z hz;rcases hz with hz|hz|hz|hz
  ·exact .inr (by have:=ra z hz;omega)
  ·exact .inr (by have:=rb z hz;omega)
  ·have:gb=z:=Option.some.inj hz
   exact .inr (by omega)
  ·have:g=z:=Option.some.inj hz
   exact .inl this.symm
theorem uA (w:World) (c:Cp) (a b e q:Option Addr) (ca cb ce cq:Nat) (ha:Came w a c.r.xs) (hb:Came w b c.r.ys) (he:Came w e c.bx) (hq:Came w q c.bl) (lx:c.r.xs.length<=2000000) (ly:c.r.ys.length<=2000000) (lb:c.bx.length<=2000000) (ll:c.bl.length=5*c.bm) (lm:c.bm<=2000000) (wf:WfR c.r) :
  Calls prog 84 #[.agg #[.slice a c.r.xs.length ca,.slice b c.r.ys.length cb,iv c.r.o,iv c.r.p,iv c.r.f,iv c.r.m,.bool c.r.s,.bool c.r.t,.slice e c.bx.length ce,.slice q c.bm cq,.bool c.st,.bool c.ha]] w fun r w'=>r=.returned (.bool (dA c))/\Kept 0 0 w w':=by
 have K0:=aba (kept_alloc w (.cells #[.slice a c.r.xs.length ca,.slice b c.r.ys.length cb,iv c.r.o,iv c.r.p,iv c.r.f,iv c.r.m,.bool c.r.s,.bool c.r.t,.slice e c.bx.length ce,.slice q c.bm cq,.bool c.st,.bool c.ha] 40));have HBA:=aba (Blk.new w #[.slice a c.r.xs.length ca,.slice b c.r.ys.length cb,iv c.r.o,iv c.r.p,iv c.r.f,iv c.r.m,.bool c.r.s,.bool c.r.t,.slice e c.bx.length ce,.slice q c.bm cq,.bool c.st,.bool c.ha] 40);obtain⟨X,hX⟩:∃X:World,w.alloc (.cells #[.slice a c.r.xs.length ca,.slice b c.r.ys.length cb,iv c.r.o,iv c.r.p,iv c.r.f,iv c.r.m,.bool c.r.s,.bool c.r.t,.slice e c.bx.length ce,.slice q c.bm cq,.bool c.st,.bool c.ha] 40)=X:=⟨_,rfl⟩
 rw[hX]at K0 HBA;have HA:=aba (ha.ag K0.o);have HB:=aba (hb.ag K0.o);have HE:=aba (he.ag K0.o);have HQ:=aba (hq.ag K0.o);clear ha hb he hq;have p:=HBA.o.all;cases h1:tu c.r
 ·go_enter func84,ntmps84;go_wp2_with (go_at_call 137;refine(nN _ c.r a b ca cb HA.o HB.o lx ly wf).mono ?_;rintro e9 W⟨rfl,k9⟩;rw[h1];have HK1:=aba k9;have HB1:=aba (HBA.o.ae k9);have HE1:=aba (HE.o.ag k9);have HQ1:=aba (HQ.o.ag k9);clear k9 p;have p:=HB1.o.all);go_ret;exact⟨rB (by unfold dA;simp[h1]),K0.o.trans HK1.o⟩
 ·cases h2:Pl.eG c.bx c.bl c.bm
  ·go_enter func84,ntmps84;go_wp2_with (first|(go_at_call 138;have z9:=HB1;refine(eG _ e q ce cq c.bm c.bx c.bl HE1.o HQ1.o lb ll lm).mono ?_;rintro e9 W2⟨rfl,k9⟩;rw[h2];have HK2:=aba k9;have HB2:=aba (HB1.o.ae k9);clear k9 p;have p:=HB2.o.all)|(go_at_call 137;refine(nN _ c.r a b ca cb HA.o HB.o lx ly wf).mono ?_;rintro e9 W⟨rfl,k9⟩;rw[h1];have HK1:=aba k9;have HB1:=aba (HBA.o.ae k9);have HE1:=aba (HE.o.ag k9);have HQ1:=aba (HQ.o.ag k9);clear k9 p;have p:=HB1.o.all));go_ret;exact⟨rB (by unfold dA;simp[h1,h2]),(K0.o.trans HK1.o).trans HK2.o⟩
  ·rcases Bool.eq_false_or_eq_true c.st with h3|h3
   all_goals
    have H3:=aba h3;clear h3;go_enter func84,ntmps84;go_wp2_with (first|(go_at_call 138;have z9:=HB1;refine(eG _ e q ce cq c.bm c.bx c.bl HE1.o HQ1.o lb ll lm).mono ?_;rintro e9 W2⟨rfl,k9⟩;rw[h2];have HK2:=aba k9;have HB2:=aba (HB1.o.ae k9);clear k9 p;have p:=HB2.o.all;rw[H3.o]at p)|(go_at_call 137;refine(nN _ c.r a b ca cb HA.o HB.o lx ly wf).mono ?_;rintro e9 W⟨rfl,k9⟩;rw[h1];have HK1:=aba k9;have HB1:=aba (HBA.o.ae k9);have HE1:=aba (HE.o.ag k9);have HQ1:=aba (HQ.o.ag k9);clear k9 p;have p:=HB1.o.all));go_ret;exact⟨rB (by unfold dA;simp[h1,h2,H3.o]),(K0.o.trans HK1.o).trans HK2.o⟩
theorem FX {w W:World} {lo:Nat} (hs:nU w) (hn:rC w) (k:Kept 0 0 w W) (h:w.heap.size<=lo):jf W lo:=by
 have h1:=World.block_lt_of_cell? _ _ (hs 0 (by omega));have h2:=World.block_lt_of_cell? _ _ (hn 0 (by omega));exact⟨hs.below k.below,hn.below k.below,Nat.lt_of_lt_of_le h1 h,Nat.lt_of_lt_of_le h2 h⟩
theorem lN {fn:Func} {p q u:Tmp} {ty:TypeId} (h:fn.results=#[.cell p ty,.tmp q,.tmp u]) (tmps:Array Value) (P:Program) (w:World) :
  (results fn tmps).run P w=((asAddr (tmps.getD p undef)).run P w).andThen fun a w₁=>((loadVar ty a).run P w₁).andThen fun v w₂=>.ok (.tuple #[v,tmps.getD q undef,tmps.getD u undef]) w₂:=by
 simp only[results,h];simp[Sem.run_bind,Result.andThen]
theorem PW (w:World) (c:Cp) (a b e q:Option Addr) (ca cb ce cq:Nat) (ha:aF w a c.r.xs) (hb:aF w b c.r.ys) (he:aF w e c.bx) (hq:aF w q c.bl) (hok:dA c=true) (hl:c.bl.length=5*c.bm) :
  Calls prog 86 #[.agg (cpA c a b e q ca cb ce cq)] w fun r w'=>∃gd cd ga cA g1 c1 g2 c2 mid:Nat,r=.returned (.tuple #[.agg (cpA (whC c) (some (abb gd 0)) (some (abb ga 0)) (some (abb g1 0)) (some (abb g2 0)) cd cA c1 c2),iv (whV c)])/\CO w' w.heap.size mid (whC c) gd ga g1 g2 c2/\Kept 0 0 w w':=by
 have G:=GM.of hok hl c.st;obtain⟨k1,k2⟩:=zu hok hl;have N:=GM.of k1 k2 false;have z:=UQ w c a b e q ca cb ce cq ha hb he hq hok hl;unfold cpA;rw[show c.r.xs.length=4 from G.g.d4,show c.r.ys.length=4 from G.g.a4,show c.bx.length=512 from G.bx,show(whC c).r.xs.length=4 from N.g.d4,show(whC c).r.ys.length=4 from N.g.a4,show(whC c).bx.length=512 from N.bx];exact z
end Go.Proofs.YtgikibaajanjiaaGreatDoor
namespace Go.Proofs.YtgikibaajanjiaaGreatDoor.Pl
set_option linter.unusedVariables false
def qL (x:Iq) (v:Int):Ft:=⟨10+v,x.c.r.p,0,0,false⟩
def hear (x:Iq) (v:Int):Iq:=⟨ik x.c (qL x v) v,x.l,bif decide (v=7) then false else x.e⟩
def bnd (x:Iq):Iq:=bif x.c.ha then x else bif decide (0<pend x) then hear x (pend x) else bif x.c.st then x else ⟨whC x.c,x.l,x.e⟩
def mF (x:Iq):Int:=bif x.c.ha then -1 else bif decide (0<pend x) then 100+pend x else bif x.c.st then -1 else whV x.c
theorem wF {x:Iq} {v:Int} (h:dA x.c=true) (hl:x.c.bl.length=5*x.c.bm) (v0:0<=v) (v1:v<=7):FtW (qL x v):=by
 have g:GM (Mc.ofC x.c):=GM.of h hl x.c.st;exact⟨by show(0:Int)<=10+v;omega,by show 10+v<=(21:Int);omega,⟨g.p0,g.p1⟩,by show(0:Int)<=0/\(0:Int)<=65535;decide,by show(0:Int)<=0/\(0:Int)<=65535;decide⟩
theorem wS {x:Iq} (h:nK x=true) (hl:x.c.bl.length=5*x.c.bm):nK (bnd x)=true/\(bnd x).c.bl.length=5*(bnd x).c.bm:=by
 obtain⟨h1,h2,h3⟩:=qK h;have hp:=yx h;unfold bnd;cases x.c.ha
 ·cases decide (0<pend x)
  ·cases x.c.st
   ·have:=zu h1 hl
    exact⟨EM (x:=⟨whC x.c,x.l,x.e⟩) this.1 h2 h3,this.2⟩
   ·exact⟨h,hl⟩
  ·have:=mV h1 hl (wF h1 hl hp.1 hp.2) (pend x)
   exact⟨EM (x:=hear x (pend x)) this.1 h2 h3,this.2⟩
 ·exact⟨h,hl⟩
def Mc.sM (d:Mc) (v:Int):Mc:={d with r:={d.r with m:=v}}
theorem PH (d:Mc) (v x:Int):(d.sM v).push x=(d.push x).sM v:=by
 have e:(d.sM v).acc 2 2 (d.sM v).spA x=(d.acc 2 2 d.spA x).sM v:=rfl;have e2:((d.acc 2 2 d.spA x).sM v).fine=(d.acc 2 2 d.spA x).fine:=rfl;unfold Mc.push;rw[e,e2];cases (d.acc 2 2 d.spA x).fine<;>rfl
theorem xC (v:Int):∀(xs:List Int) (d:Mc),(d.sM v).pushes xs=(d.pushes xs).sM v
 | [],d=>rfl
 | x :: t,d=>by
  have e:(d.sM v).ps x=(d.ps x).sM v:=by
   unfold Mc.ps;rw[show(d.sM v).fine=d.fine from rfl];cases d.fine
   ·rfl
   ·exact PH d v x
  show((d.sM v).ps x).pushes t=((d.ps x).pushes t).sM v
  rw[e];exact xC v t (d.ps x)
theorem Q8 (d:Mc) (v k:Int):(d.sM v).nP k=(d.nP k).sM v:=by
 have e:(d.sM v).acc 1 2 (2*k) 0=(d.acc 1 2 (2*k) 0).sM v:=rfl;have e2:((d.acc 1 2 (2*k) 0).sM v).fine=(d.acc 1 2 (2*k) 0).fine:=rfl;unfold Mc.nP;rw[e,e2,show(d.sM v).fine=d.fine from rfl];cases d.fine
 ·rfl
 ·cases (d.acc 1 2 (2*k) 0).fine<;>rfl
theorem Q7 {c:Mc} {f m v:Int} (f0:0<=f) (f1:f<=31) (m0:0<=m) (m1:m<=7) (v0:0<=v) (v1:v<=7):c.kD (f+32*v+256)=(c.kD (f+32*m+256)).sM v:=by
 have e:aY c.r (f+32*v+256)={aY c.r (f+32*m+256) with m:=v}:=by
  have a1:bP (f+32*v+256)=bP (f+32*m+256):=by unfold bP;rw[show(f+32*v+256)/256=1 by omega,show(f+32*m+256)/256=1 by omega]
  have a2:dE (f+32*v+256)=dE (f+32*m+256):=by unfold dE;rw[show(f+32*v+256)/512=0 by omega,show(f+32*m+256)/512=0 by omega]
  have a3:(f+32*v+256)/32%8=v:=by omega
  have a4:(f+32*v+256)%32=(f+32*m+256)%32:=by omega
  unfold aY;rw[a1,a2,a3,a4];split<;>rfl
 unfold Mc.kD;rw[e];rfl
theorem QW {c:Cp} (h:dA c=true) (hl:c.bl.length=5*c.bm) (f:Ft) {v:Int} (v0:0<=v) (v1:v<=7):xh c f v=(xh c f c.r.m).sM v:=by
 have g:GM (Mc.ofC c):=GM.of h hl c.st;have e:(Mc.ofC c).kD (c.r.f+32*v+256)=((Mc.ofC c).kD (c.r.f+32*c.r.m+256)).sM v:=Q7 g.g.f0 g.g.f1 g.g.m0 g.g.m1 v0 v1;unfold xh Mc.ent;rw[e,xC,Q8]
theorem QY {c:Cp} (h:dA c=true) (hl:c.bl.length=5*c.bm) (f:Ft) {v:Int} (v0:0<=v) (v1:v<=7):Mc.ofC (ik c f v)=(Mc.ofC (ik c f c.r.m)).sM v/\(ik c f v).ha=(ik c f c.r.m).ha:=by
 unfold ik;rw[QW h hl f v0 v1];exact⟨rfl,rfl⟩
end Go.Proofs.YtgikibaajanjiaaGreatDoor.Pl
namespace Go.Proofs.YtgikibaajanjiaaGreatDoor
open Pl
open Go.RowKit Go.Proofs.Tryz
set_option linter.unusedVariables false
def Pl.DL (x:Iq):Bool:=x.c.ha||(!decide (0<Pl.pend x)&&x.c.st)
theorem Pl.NR {x:Iq} (h:DL x=true):Pl.bnd x=x/\mF x = -1:=by
 unfold DL at h;unfold Pl.bnd mF;cases h1:x.c.ha
 ·rw[h1,Bool.false_or,Bool.and_eq_true]at h;rw[h.2,show decide (0<Pl.pend x)=false from by simpa using h.1];exact⟨rfl,rfl⟩
 ·exact⟨rfl,rfl⟩
theorem Et (w:World) (c:Cp) (f:Ft) (mk:Int) (a b e q:Option Addr) (ca cb ce cq:Nat) (ha:aF w a c.r.xs) (hb:aF w b c.r.ys) (he:aF w e c.bx) (hq:aF w q c.bl) (hok:dA c=true) (hl:c.bl.length=5*c.bm) (hf:FtW f) (k0:0<=mk) (k1:mk<=7) :
  Calls prog 139 #[.agg (cpA c a b e q ca cb ce cq),.agg (ftA f),iv mk] w fun r w'=>∃gd cd ga cA g1 c1 g2 c2 mid:Nat,r=.returned (.agg (cpA (ik c f mk) (some (abb gd 0)) (some (abb ga 0)) (some (abb g1 0)) (some (abb g2 0)) cd cA c1 c2))/\CO w' w.heap.size mid (ik c f mk) gd ga g1 g2 c2/\Kept 0 0 w w':=by
 have G:=GM.of hok hl c.st;obtain⟨k3,k4⟩:=mV hok hl hf mk;have N:=GM.of k3 k4 false;have z:=qW w c f mk a b e q ca cb ce cq ha hb he hq hok hl hf k0 k1;unfold cpA;rw[show c.r.xs.length=4 from G.g.d4,show c.r.ys.length=4 from G.g.a4,show c.bx.length=512 from G.bx,show(ik c f mk).r.xs.length=4 from N.g.d4,show(ik c f mk).r.ys.length=4 from N.g.a4,show(ik c f mk).bx.length=512 from N.bx];exact z
theorem XN (w:World) (x:Iq) (v:Int) (a b e q:Option Addr) (ca cb ce cq:Nat) (ha:aF w a x.c.r.xs) (hb:aF w b x.c.r.ys) (he:aF w e x.c.bx) (hq:aF w q x.c.bl) (hok:nK x=true) (hl:x.c.bl.length=5*x.c.bm) (v0:0<=v) (v1:v<=7) :
  Calls prog 143 #[.agg (irA x a b e q ca cb ce cq),iv v] w fun r w'=>∃gd cd ga cA g1 c1 g2 c2 mid:Nat,r=.returned (.agg (irA (Pl.hear x v) (some (abb gd 0)) (some (abb ga 0)) (some (abb g1 0)) (some (abb g2 0)) cd cA c1 c2))/\CO w' w.heap.size mid (Pl.hear x v).c gd ga g1 g2 c2/\Kept 0 0 w w':=by
 obtain⟨h1,_,_⟩:=qK hok;have HF:=aba (wF h1 hl v0 v1);obtain⟨N,hN⟩:∃N,N=ik x.c (qL x v) v:=⟨_,rfl⟩
 have HN:=aba hN;have E:Hid (Pl.hear x v=⟨N,x.l,bif decide (v=7) then false else x.e⟩):=aba (by rw[hN];rfl);have w1:IntKind.i64.wrap (10+v)=10+v:=by rw[IntKind.wrap_i64];omega
 clear hN;have K0:=aba (ah (kept_alloc w (.cells (irA x a b e q ca cb ce cq) 81)) (.cells iqZ 81));have BA:=aba ((Blk.new w (irA x a b e q ca cb ce cq) 81).alloc (.cells iqZ 81));have R0:=Blk.new (w.alloc (.cells (irA x a b e q ca cb ce cq) 81)) iqZ 81;simp only[World.size_alloc]at R0;replace R0:=aba R0;obtain⟨X,hX⟩:∃X:World,(w.alloc (.cells (irA x a b e q ca cb ce cq) 81)).alloc (.cells iqZ 81)=X:=⟨_,rfl⟩
 rw[hX]at K0 BA R0;have sX:w.heap.size+1<X.heap.size:=R0.o.lt;have HA:=aba (ha.ag K0.o);have HB:=aba (hb.ag K0.o);have HE:=aba (he.ag K0.o);have HQ:=aba (hq.ag K0.o);clear ha hb he hq;have p:=BA.o.all;by_cases h7:v=7
 ·subst h7;replace E:Hid (Pl.hear x 7=⟨N,x.l,false⟩):=E;go_enter func143,ntmps143;go_wp2_with (go_at_call 139;refine(Et _ x.c (qL x 7) 7 a b e q ca cb ce cq HA.o HB.o HE.o HQ.o h1 hl HF.o v0 v1).mono ?_;rw[<-HN.o];rintro e9 W1⟨gd,cd,ga,cA,g1,c1,g2,c2,mid,rfl,hc9,k9⟩;have C1:=aba hc9;have K1:=aba k9;have B1:=aba (BA.o.ae k9);have R1:=aba (R0.o.ae k9);have p1:=B1.o.all;have pf:=B1.o.fz;have r1:=R1.o.all;have rf:=R1.o.fz;clear hc9 k9);have s1:=K1.o.size;refine bodyPost_ret (v:=.agg (irA ⟨N,x.l,false⟩ (some (abb gd 0)) (some (abb ga 0)) (some (abb g1 0)) (some (abb g2 0)) cd cA c1 c2)) ?_ rfl ⟨gd,cd,ga,cA,g1,c1,g2,c2,mid,by rw[E.o],by rw[E.o];exact(((C1.o.tC (lo:=X.heap.size) lU (by omega) (Nat.le_refl _)).tC (lo:=X.heap.size) (ak _ w.heap.size 13 (.bool false)) (by omega) (Nat.le_refl _)).tC bH (by omega) (by omega)),aB (aB (aB (K0.o.trans K1.o) lU (Nat.le_refl _)) (ak _ w.heap.size 13 (.bool false)) (Nat.le_refl _)) bH (by omega)⟩;rw[aj rfl];go_simp
 ·replace E:Hid (Pl.hear x v=⟨N,x.l,x.e⟩):=aba (by rw[E.o,show decide (v=7)=false from by simp[h7]];rfl);go_enter func143,ntmps143;go_wp2_with (go_at_call 139;refine(Et _ x.c (qL x v) v a b e q ca cb ce cq HA.o HB.o HE.o HQ.o h1 hl HF.o v0 v1).mono ?_;rw[<-HN.o];rintro e9 W1⟨gd,cd,ga,cA,g1,c1,g2,c2,mid,rfl,hc9,k9⟩;have C1:=aba hc9;have K1:=aba k9;have B1:=aba (BA.o.ae k9);have R1:=aba (R0.o.ae k9);have p1:=B1.o.all;have pf:=B1.o.fz;have r1:=R1.o.all;have rf:=R1.o.fz;clear hc9 k9);have s1:=K1.o.size;refine bodyPost_ret (v:=.agg (irA ⟨N,x.l,x.e⟩ (some (abb gd 0)) (some (abb ga 0)) (some (abb g1 0)) (some (abb g2 0)) cd cA c1 c2)) ?_ rfl ⟨gd,cd,ga,cA,g1,c1,g2,c2,mid,by rw[E.o],by rw[E.o];exact(C1.o.tC (lo:=X.heap.size) lU (by omega) (Nat.le_refl _)).tC bH (by omega) (by omega),aB (aB (K0.o.trans K1.o) lU (Nat.le_refl _)) bH (by omega)⟩;rw[aj rfl];go_simp
theorem XU (w:World) (x:Iq) (a b e q:Option Addr) (ca cb ce cq:Nat) (h:DL x=true) :
  Calls prog 89 #[.agg (irA x a b e q ca cb ce cq)] w fun r w'=>r=.returned (.tuple #[.agg (irA x a b e q ca cb ce cq),iv (-1)])/\Kept 0 0 w w':=by
 have K0:=aba (ah (kept_alloc w (.cells (irA x a b e q ca cb ce cq) 81)) (.cells iqZ 81));have BA:=aba ((Blk.new w (irA x a b e q ca cb ce cq) 81).alloc (.cells iqZ 81));have R0:=Blk.new (w.alloc (.cells (irA x a b e q ca cb ce cq) 81)) iqZ 81;simp only[World.size_alloc]at R0;replace R0:=aba R0;obtain⟨X,hX⟩:∃X:World,(w.alloc (.cells (irA x a b e q ca cb ce cq) 81)).alloc (.cells iqZ 81)=X:=⟨_,rfl⟩
 rw[hX]at K0 BA R0;have sX:w.heap.size+1<X.heap.size:=R0.o.lt;have r:=R0.o.all;have rf:=R0.o.fz;rcases (show x.c.ha=true\/(x.c.ha=false/\¬0<Pl.pend x/\x.c.st=true) from by unfold DL at h;cases h1:x.c.ha<;>cases h2:x.c.st<;>rw[h1,h2]at h<;>simp at h ⊢<;>omega) with h|⟨h,h3,h2⟩
 ·have p:=BA.o.all;unfold irA at p;rw[h]at p;have HH:=aba h;clear h;go_enter func89,ntmps89;go_wp2_with fail;refine bodyPost_ret (v:=.tuple #[.agg (irA x a b e q ca cb ce cq),iv (-1)]) ?_ rfl ⟨rfl,aB K0.o bH (by omega)⟩;rw[iZ rfl];go_simp;first|done|(simp[HH.o];done)
 ·obtain⟨L,hL⟩:∃L,L=Pl.pend x:=⟨_,rfl⟩
  rw[<-hL]at h3;have p:=BA.o.all;unfold irA at p;rw[h,h2]at p;have HR:=J8 X x a b e q ca cb ce cq;unfold irA at HR;rw[h,h2,<-hL]at HR;have HH:=aba h;have H2:=aba h2;clear h h2 hL;go_enter func89,ntmps89;go_wp2_with (go_at_call 142;refine HR.mono ?_;rintro e9 W1⟨rfl,k9⟩;have K1:=aba k9;have p1:=(BA.o.ae k9).all;unfold irA at p1;rw[HH.o,H2.o]at p1;have r1:=(R0.o.ae k9).all;have rf1:=(R0.o.ae k9).fz;clear k9 p r rf);refine bodyPost_ret (v:=.tuple #[.agg (irA x a b e q ca cb ce cq),iv (-1)]) ?_ rfl ⟨rfl,aB (K0.o.trans K1.o) bH (by omega)⟩;rw[iZ rfl];go_simp;first|done|(simp[HH.o,H2.o];done)
theorem XT (w:World) (x:Iq) (a b e q:Option Addr) (ca cb ce cq:Nat) (ha:aF w a x.c.r.xs) (hb:aF w b x.c.r.ys) (he:aF w e x.c.bx) (hq:aF w q x.c.bl) (hok:nK x=true) (hl:x.c.bl.length=5*x.c.bm) (h:DL x=false) :
  Calls prog 89 #[.agg (irA x a b e q ca cb ce cq)] w fun r w'=>∃gd cd ga cA g1 c1 g2 c2 mid:Nat,r=.returned (.tuple #[.agg (irA (Pl.bnd x) (some (abb gd 0)) (some (abb ga 0)) (some (abb g1 0)) (some (abb g2 0)) cd cA c1 c2),iv (mF x)])/\CO w' w.heap.size mid (Pl.bnd x).c gd ga g1 g2 c2/\Kept 0 0 w w':=by
 obtain⟨h1,_,_⟩:=qK hok;have HOK:=aba hok;have hp:=yx hok;clear hok;have K0:=aba (ah (kept_alloc w (.cells (irA x a b e q ca cb ce cq) 81)) (.cells iqZ 81));have BA:=aba ((Blk.new w (irA x a b e q ca cb ce cq) 81).alloc (.cells iqZ 81));have R0:=Blk.new (w.alloc (.cells (irA x a b e q ca cb ce cq) 81)) iqZ 81;simp only[World.size_alloc]at R0;replace R0:=aba R0;obtain⟨X,hX⟩:∃X:World,(w.alloc (.cells (irA x a b e q ca cb ce cq) 81)).alloc (.cells iqZ 81)=X:=⟨_,rfl⟩
 rw[hX]at K0 BA R0;have sX:w.heap.size+1<X.heap.size:=R0.o.lt;have HA:=aba (ha.ag K0.o);have HB:=aba (hb.ag K0.o);have HE:=aba (he.ag K0.o);have HQ:=aba (hq.ag K0.o);clear ha hb he hq;have r:=R0.o.all;have rf:=R0.o.fz;rcases (show(x.c.ha=false/\0<Pl.pend x)\/(x.c.ha=false/\¬0<Pl.pend x/\x.c.st=false) from by unfold DL at h;cases h4:x.c.ha<;>cases h2:x.c.st<;>rw[h4,h2]at h<;>simp at h ⊢<;>omega) with⟨hh,h3⟩|⟨hh,h3,h2⟩
 ·obtain⟨L,hL⟩:∃L,L=Pl.pend x:=⟨_,rfl⟩
  have E:Hid (Pl.bnd x=Pl.hear x L/\mF x=100+L):=aba (by unfold Pl.bnd mF;rw[hh,<-hL,show decide (0<L)=true from by rw[hL];simp[h3]];exact⟨rfl,rfl⟩);rw[<-hL]at h3 hp;have p:=BA.o.all;unfold irA at p;rw[hh]at p;have HH:=aba hh;have HL:=aba hL;have HR:=J8 X x a b e q ca cb ce cq;have HB9:=fun w9 r1 r2 r3 r4=>XN w9 x L a b e q ca cb ce cq r1 r2 r3 r4 HOK.o hl hp.1 hp.2;rw[<-hL]at HR;unfold irA at HR HB9;rw[hh]at HR;simp only[hh]at HB9;obtain⟨Z,hZ⟩:∃Z,Z=Pl.hear x L:=⟨_,rfl⟩
  rw[<-hZ]at E;simp only[<-hZ]at HB9;clear hh hL hZ h;go_enter func89,ntmps89;go_wp2_with (first|(go_at_call 142;refine HR.mono ?_;rintro e9 W1⟨rfl,k9⟩;have K1:=aba k9;have p1:=(BA.o.ae k9).all;unfold irA at p1;rw[HH.o]at p1;clear k9 p r rf)|(go_at_call 143;refine(HB9 _ (HA.o.ag K1.o) (HB.o.ag K1.o) (HE.o.ag K1.o) (HQ.o.ag K1.o)).mono ?_;rintro e9 W2⟨gd,cd,ga,cA,g1,c1,g2,c2,mid,rfl,hc9,k9⟩;have C2:=aba hc9;have K2:=aba (K1.o.trans k9);have z1:=K1.o.size;have z2:=k9.size;have r1:=((R0.o.ae K1.o).ae k9).all;have rf1:=((R0.o.ae K1.o).ae k9).fz;clear hc9 k9));refine bodyPost_ret (v:=.tuple #[.agg (irA Z (some (abb gd 0)) (some (abb ga 0)) (some (abb g1 0)) (some (abb g2 0)) cd cA c1 c2),iv (100+L)]) ?_ rfl ⟨gd,cd,ga,cA,g1,c1,g2,c2,mid,by rw[E.o.1,E.o.2],by rw[E.o.1];exact C2.o.tC bH (by omega) (by omega),aB (K0.o.trans K2.o) bH (by omega)⟩;rw[iZ rfl];go_simp
 ·have E:Hid (Pl.bnd x=⟨whC x.c,x.l,x.e⟩/\mF x=whV x.c):=aba (by unfold Pl.bnd mF;rw[hh,h2,show decide (0<Pl.pend x)=false from by simp[h3]];exact⟨rfl,rfl⟩);obtain⟨L,hL⟩:∃L,L=Pl.pend x:=⟨_,rfl⟩
  rw[<-hL]at h3;have p:=BA.o.all;unfold irA at p;rw[hh,h2]at p;have HH:=aba hh;have H2:=aba h2;have HR:=J8 X x a b e q ca cb ce cq;have HW:=fun w9 r1 r2 r3 r4=>PW w9 x.c a b e q ca cb ce cq r1 r2 r3 r4 h1 hl;rw[<-hL]at HR;unfold irA at HR;rw[hh,h2]at HR;obtain⟨N,hN⟩:∃N,N=whC x.c:=⟨_,rfl⟩
  obtain⟨V,hV⟩:∃V,V=whV x.c:=⟨_,rfl⟩
  rw[<-hN,<-hV]at E;simp only[<-hN,<-hV]at HW;unfold cpA at HW;simp only[hh,h2]at HW;clear hh h2 hL hN hV h;go_enter func89,ntmps89;go_wp2_with (first|(go_at_call 142;refine HR.mono ?_;rintro e9 W1⟨rfl,k9⟩;have K1:=aba k9;have p1:=(BA.o.ae k9).all;unfold irA at p1;rw[HH.o,H2.o]at p1;clear k9 p r rf)|(go_at_call 86;refine(HW _ (HA.o.ag K1.o) (HB.o.ag K1.o) (HE.o.ag K1.o) (HQ.o.ag K1.o)).mono ?_;rintro e9 W2⟨gd,cd,ga,cA,g1,c1,g2,c2,mid,rfl,hc9,k9⟩;have C2:=aba (hc9.any (kept_alloc W2 (.cells (cpA N (some (abb gd 0)) (some (abb ga 0)) (some (abb g1 0)) (some (abb g2 0)) cd cA c1 c2) 40)));have K2:=aba (ah (K1.o.trans k9) (.cells (cpA N (some (abb gd 0)) (some (abb ga 0)) (some (abb g1 0)) (some (abb g2 0)) cd cA c1 c2) 40));have z1:=K1.o.size;have z2:=k9.size;have l2:=(Blk.new W2 (cpA N (some (abb gd 0)) (some (abb ga 0)) (some (abb g1 0)) (some (abb g2 0)) cd cA c1 c2) 40).all;have b2:=(((BA.o.ae K1.o).ae k9).alloc (.cells (cpA N (some (abb gd 0)) (some (abb ga 0)) (some (abb g1 0)) (some (abb g2 0)) cd cA c1 c2) 40)).all;have bf2:=(((BA.o.ae K1.o).ae k9).alloc (.cells (cpA N (some (abb gd 0)) (some (abb ga 0)) (some (abb g1 0)) (some (abb g2 0)) cd cA c1 c2) 40)).fz;have r2:=(((R0.o.ae K1.o).ae k9).alloc (.cells (cpA N (some (abb gd 0)) (some (abb ga 0)) (some (abb g1 0)) (some (abb g2 0)) cd cA c1 c2) 40)).all;have rf2:=(((R0.o.ae K1.o).ae k9).alloc (.cells (cpA N (some (abb gd 0)) (some (abb ga 0)) (some (abb g1 0)) (some (abb g2 0)) cd cA c1 c2) 40)).fz;clear hc9 k9 p1));refine bodyPost_ret (v:=.tuple #[.agg (irA ⟨N,x.l,x.e⟩ (some (abb gd 0)) (some (abb ga 0)) (some (abb g1 0)) (some (abb g2 0)) cd cA c1 c2),iv V]) ?_ rfl ⟨gd,cd,ga,cA,g1,c1,g2,c2,mid,by rw[E.o.1,E.o.2],by rw[E.o.1];exact((C2.o.tC (lo:=W1.heap.size) lU (by omega) (Nat.le_refl _)).tC bH (by omega) (by omega)),aB (aB (K0.o.trans K2.o) lU (Nat.le_refl _)) bH (by omega)⟩;rw[iZ rfl];go_simp
end Go.Proofs.YtgikibaajanjiaaGreatDoor
