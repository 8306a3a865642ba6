/- RunWhole answers as its model, at every argument, on the condition that the tables impl.digitSums and impl.ninesLess hold what their initialisers lay. -/
import Derived.Test.YtgikibaajanjiaaGreatDoorRows
import Derived.Test.YtgikibaajanjiaaGreatDoorTie
import Derived.Test.YtgikibaajanjiaaGreatDoorCards
import Derived.Test.YtgikibaajanjiaaGreatDoorJC22
import Derived.OpenVars
import Derived.LaidMore
import Derived.Stop.Joined
import Derived.SevenTiedAt
import Derived.WalkKit
import Derived.ProofKit
import Derived.OpenShut
import Derived.ShutString
import Derived.ChangeOld
import Derived.Below
set_option maxRecDepth 100000
set_option maxHeartbeats 16000000
namespace Go.Proofs.YtgikibaajanjiaaGreatDoor.fnExactRunWhole
open Go.ChangeShapes Go.WideShapes Go.ChangeAt Go.RowKit
set_option linter.unusedVariables false
theorem own:ownKnob Tryz.prog.godebug=none:=by kernel_rfl
theorem laidOut:laidOutB Tryz.prog=true:=by kernel_rfl
theorem walk (Nl:Option Addr) (QD:Nat) (Ey:List Int) (Nk:Option Addr) (QC:Nat) (Ew:List Int) (Hg:Int) (Hf:Int) (He:Int) (Ha:Int) (ND:Bool) (NC:Bool) (Nj:Option Addr) (QB:Nat) (Eu:List Int) (Nh:Option Addr) (FT QA:Nat) (GX:List Int) (Dh:Bool) (Df:Bool) (v1:Int) (w:World) (tS:ny w) (tN:qG w) (Un:Came w Nl Ey) (Ui:Ey.length≤maxLen) (Um:Came w Nk Ew) (Uh:Ew.length≤maxLen) (RZ:(Lit.int .i64 Hg).wf=true) (RY:(Lit.int .i64 Hf).wf=true) (RX:(Lit.int .i64 He).wf=true) (RV:(Lit.int .i64 Ha).wf=true) (Ul:Came w Nj Eu) (Ug:Eu.length≤maxLen) (Uk:Came w Nh GX) (RQ:GX.length=5*FT) (Uf:FT≤maxLen) (w1:(Lit.int .i64 v1).wf=true) :
  Calls Tryz.prog 8 #[.agg #[.slice Nl Ey.length QD,.slice Nk Ew.length QC,.int .i64 Hg,.int .i64 Hf,.int .i64 He,.int .i64 Ha,.bool ND,.bool NC,.slice Nj Eu.length QB,.slice Nh FT QA,.bool Dh,.bool Df],.int .i64 v1] w fun e w'=>e=.returned (.bool true)∧Below w.heap.size w w':=by
 exact zD ⟨⟨Ey,Ew,Hg,Hf,He,Ha,ND,NC⟩,Eu,GX,FT,Dh,Df⟩ Nl Nk Nj Nh QD QC QB QA v1 w tS tN Un Um Ul Uk (by unfold maxLen at Ui;omega) (by unfold maxLen at Uh;omega) (by unfold maxLen at Ug;omega) (by unfold maxLen at Uf;omega) RQ ⟨RZ,RY,RX,RV⟩ w1
theorem door_met (os:Os) (args:Array Value):laidMetH Tryz.prog Rows.fnExactRunWholeRow.laid ((World.doorLaid Tryz.prog 19 os).forCall (fun _ _=>0) ⟨#[],args,[]⟩).memory:=
 laidMetH_of_parts3 (fuel:=8) (laidMet_of_run' 8 (by kernel_rfl) (by kernel_rfl)) (by kernel_rfl) (by kernel_rfl)
theorem lifted (os:Os) (started:os.Started) (H:Type) (enc:TypeId × Value→H) :
  ReturnsInHanded {} Tryz.checked os 8 .any (fun w args=>(Rows.fnExactRunWholeSpec.pre enc Tryz.prog Tryz.f8 [] false w args∧laidMetH Tryz.prog Rows.fnExactRunWholeRow.laid w)∧sizedMet enc Tryz.prog Tryz.f8 (OpenSpec.ofChange Rows.fnExactRunWholeSpec) false w args)
   (Rows.fnExactRunWholeSpec.post enc Tryz.prog Tryz.f8 false true false false):=by
 refine returnsInHanded_of_change_and (C:=Tryz.checked) (X:=fun w _=>laidMetH Tryz.prog Rows.fnExactRunWholeRow.laid w) (fun _ _ _ hh h=>h.of_heap hh) own started (by kernel_rfl) Tryz.func8
  (ChangeSpec.witness_shaped (enc:=enc) (C:=Tryz.checked) (os:=os) (X:=fun w _=>laidMetH Tryz.prog Rows.fnExactRunWholeRow.laid w) false (World.doorLaid Tryz.prog 19 os) #[.agg #[.slice none 0 0,.slice none 0 0,.int .i64 0,.int .i64 0,.int .i64 0,.int .i64 0,.bool false,.bool false,.slice none 0 0,.slice none 0 0,.bool false,.bool false],.int .i64 0] 8 rfl (World.shaped_of_RefB (by kernel_rfl) (by kernel_rfl)) (by kernel_rfl) (by kernel_rfl) (by kernel_rfl) (door_met os _)) ?_
 intro W base args ds gs before hval0 hW _ _ hL _
 have hval:∀(j:Nat) t v,Tryz.f8.params[j]? = some t→args[j]? = some v→Value.okWide Tryz.prog W .any base t v:=hval0
 have hW':=hW
 obtain ⟨p,q,hA0,hV,rfl,hfz,hnd⟩:=hW
 have hA:DataW.TrodAll enc Tryz.prog W 0 (fun _=>true) true Tryz.f8.params.toList args.toList ds p:=hA0
 rw [Tryz.params8] at hA hval
 obtain ⟨u0,vs0,d0,ds0,p0,q0,hargs,rfl,rfl,h0,r0⟩:=trodAll_cons hA
 obtain ⟨u1,vs1,d1,ds1,p1,q1,rfl,rfl,rfl,h1,r1⟩:=trodAll_cons r0
 obtain ⟨rfl,rfl,rfl⟩:=trodAll_nil r1
 obtain rfl:args=#[u0,u1]:=by cases args;simp_all
 obtain ⟨_,_,_,_,g0,_,_,_,_,_,g1,_,hgs,_⟩:=trodVars_two hV
 subst hgs
 have tabs:=NH hL
 have k0:=h0
 have lt0:∀x∈p0,x.block<W.heap.size:=by obtain ⟨m,hm⟩:=k0;exact DataW.trod_lt m _ _ _ hm
 obtain ⟨Nl,QD,Ey,Nk,QC,Ew,Hg,Hf,He,Ha,ND,NC,Nj,QB,Eu,Nh,FT,QA,GX,Dh,Df,rfl,⟨Un,Ui⟩,⟨Um,Uh⟩,RZ,RY,RX,RV,⟨Ul,Ug⟩,⟨Uk,RQ,Uf⟩⟩:=Jf (hval 0 29 u0 rfl rfl) h0
 obtain ⟨v1,rfl,rfl,rfl,w1⟩:=open_int Tryz.underlying3 (hval 1 3 u1 rfl rfl) h1
 clear hA0 hval0
 refine (walk Nl QD Ey Nk QC Ew Hg Hf He Ha ND NC Nj QB Eu Nh FT QA GX Dh Df v1 W tabs.1 tabs.2 Un Ui Um Uh RZ RY RX RV Ul Ug Uk RQ Uf w1).mono fun e W' ⟨he,bel⟩ => ?_
 subst he
 exact ⟨_,rfl,_,_,_,[],_,_,hW',trodAll_mk1 (shut_bool Tryz.underlying4 _),(trodAll_cons_mk (Below.trod laidOut (by kernel_rfl) (of_decide_eq_true (by kernel_rfl)) k0 bel lt0) (trodAll_cons_mk (shut_int Tryz.underlying3 w1) trodAll_mk0)),bel.trodVars laidOut (by kernel_rfl) hV,bel.frame _,fun h=>by cases h⟩
theorem ov1:Tryz.pinned.checked.prog.funcNamed Rows.fnExactRunWholeRow.func=some 8:=by kernel_rfl
theorem iY {a b:Bool} (h:a=true) (k:b=true):(a&&b)=true:=by rw [h,k];rfl
theorem jf0:(fun (P:Program) (f:FuncId) (fn:Func) (s:ChangeSpec) (c:OpenClaim)=>((c.wf (OpenSpec.ofChange s):Bool))) Tryz.pinned.checked.prog 8 Tryz.f8 Rows.fnExactRunWholeSpec Rows.fnExactRunWholeRow=true:=by kernel_rfl
theorem jf1:(fun (P:Program) (f:FuncId) (fn:Func) (s:ChangeSpec) (c:OpenClaim)=>((laidOutB P:Bool))) Tryz.pinned.checked.prog 8 Tryz.f8 Rows.fnExactRunWholeSpec Rows.fnExactRunWholeRow=true:=by kernel_rfl
theorem jf2:(fun (P:Program) (f:FuncId) (fn:Func) (s:ChangeSpec) (c:OpenClaim)=>((mapsRowed P:Bool))) Tryz.pinned.checked.prog 8 Tryz.f8 Rows.fnExactRunWholeSpec Rows.fnExactRunWholeRow=true:=by kernel_rfl
theorem jf3:(fun (P:Program) (f:FuncId) (fn:Func) (s:ChangeSpec) (c:OpenClaim)=>((fn.params.all (P.readableRec ·):Bool))) Tryz.pinned.checked.prog 8 Tryz.f8 Rows.fnExactRunWholeSpec Rows.fnExactRunWholeRow=true:=by kernel_rfl
theorem jf4:(fun (P:Program) (f:FuncId) (fn:Func) (s:ChangeSpec) (c:OpenClaim)=>((namedTie P c.named s.vars:Bool))) Tryz.pinned.checked.prog 8 Tryz.f8 Rows.fnExactRunWholeSpec Rows.fnExactRunWholeRow=true:=by kernel_rfl
theorem jf5:(fun (P:Program) (f:FuncId) (fn:Func) (s:ChangeSpec) (c:OpenClaim)=>(((c.stops==[]):Bool))) Tryz.pinned.checked.prog 8 Tryz.f8 Rows.fnExactRunWholeSpec Rows.fnExactRunWholeRow=true:=by kernel_rfl
theorem jf6:(fun (P:Program) (f:FuncId) (fn:Func) (s:ChangeSpec) (c:OpenClaim)=>(((P.stops==[]):Bool))) Tryz.pinned.checked.prog 8 Tryz.f8 Rows.fnExactRunWholeSpec Rows.fnExactRunWholeRow=true:=by kernel_rfl
theorem jf7:(fun (P:Program) (f:FuncId) (fn:Func) (s:ChangeSpec) (c:OpenClaim)=>(((c.knobs==[]):Bool))) Tryz.pinned.checked.prog 8 Tryz.f8 Rows.fnExactRunWholeSpec Rows.fnExactRunWholeRow=true:=by kernel_rfl
theorem jf8:(fun (P:Program) (f:FuncId) (fn:Func) (s:ChangeSpec) (c:OpenClaim)=>(((P.stopKnobs==[]):Bool))) Tryz.pinned.checked.prog 8 Tryz.f8 Rows.fnExactRunWholeSpec Rows.fnExactRunWholeRow=true:=by kernel_rfl
theorem jf9:(fun (P:Program) (f:FuncId) (fn:Func) (s:ChangeSpec) (c:OpenClaim)=>(((c.inPlace==P.inPlace f):Bool))) Tryz.pinned.checked.prog 8 Tryz.f8 Rows.fnExactRunWholeSpec Rows.fnExactRunWholeRow=true:=by kernel_rfl
theorem Zn:(fun (P:Program) (f:FuncId) (fn:Func) (s:ChangeSpec) (c:OpenClaim)=>(((c.unfollowed==P.unfollowed f):Bool))) Tryz.pinned.checked.prog 8 Tryz.f8 Rows.fnExactRunWholeSpec Rows.fnExactRunWholeRow=true:=by kernel_rfl
theorem Zm:(fun (P:Program) (f:FuncId) (fn:Func) (s:ChangeSpec) (c:OpenClaim)=>(((c.recurses==P.recurses f):Bool))) Tryz.pinned.checked.prog 8 Tryz.f8 Rows.fnExactRunWholeSpec Rows.fnExactRunWholeRow=true:=by kernel_rfl
theorem Zl:(fun (P:Program) (f:FuncId) (fn:Func) (s:ChangeSpec) (c:OpenClaim)=>(((c.named==P.varsNamed f):Bool))) Tryz.pinned.checked.prog 8 Tryz.f8 Rows.fnExactRunWholeSpec Rows.fnExactRunWholeRow=true:=by kernel_rfl
theorem Zk:(fun (P:Program) (f:FuncId) (fn:Func) (s:ChangeSpec) (c:OpenClaim)=>(((c.maps==(fn.params.toList++s.plain.varTypes P).any (P.mapsRec ·)):Bool))) Tryz.pinned.checked.prog 8 Tryz.f8 Rows.fnExactRunWholeSpec Rows.fnExactRunWholeRow=true:=by kernel_rfl
theorem Zj:(fun (P:Program) (f:FuncId) (fn:Func) (s:ChangeSpec) (c:OpenClaim)=>(((c.ifaces==(fn.params.toList++s.plain.varTypes P).any (P.ifacesRec ·)):Bool))) Tryz.pinned.checked.prog 8 Tryz.f8 Rows.fnExactRunWholeSpec Rows.fnExactRunWholeRow=true:=by kernel_rfl
theorem Zi:(fun (P:Program) (f:FuncId) (fn:Func) (s:ChangeSpec) (c:OpenClaim)=>(((c.mapsOut==P.mapsAmong fn.resultTypes.toList):Bool))) Tryz.pinned.checked.prog 8 Tryz.f8 Rows.fnExactRunWholeSpec Rows.fnExactRunWholeRow=true:=by kernel_rfl
theorem Zh:(fun (P:Program) (f:FuncId) (fn:Func) (s:ChangeSpec) (c:OpenClaim)=>(((c.loops==(fn.params.toList++s.plain.varTypes P).any (P.loopsFrom ·)):Bool))) Tryz.pinned.checked.prog 8 Tryz.f8 Rows.fnExactRunWholeSpec Rows.fnExactRunWholeRow=true:=by kernel_rfl
theorem Zg:(fun (P:Program) (f:FuncId) (fn:Func) (s:ChangeSpec) (c:OpenClaim)=>(((c.wideKeys==(fn.params.toList++s.plain.varTypes P++fn.resultTypes.toList).any (P.wideKeysFrom ·)):Bool))) Tryz.pinned.checked.prog 8 Tryz.f8 Rows.fnExactRunWholeSpec Rows.fnExactRunWholeRow=true:=by kernel_rfl
theorem Zf:(fun (P:Program) (f:FuncId) (fn:Func) (s:ChangeSpec) (c:OpenClaim)=>((s.vars.all (P.varReadable ·):Bool))) Tryz.pinned.checked.prog 8 Tryz.f8 Rows.fnExactRunWholeSpec Rows.fnExactRunWholeRow=true:=by kernel_rfl
theorem Ze:(fun (P:Program) (f:FuncId) (fn:Func) (s:ChangeSpec) (c:OpenClaim)=>((fn.resultTypes.all (fun t=>P.readableRec t&&decide (t<P.types.size)):Bool))) Tryz.pinned.checked.prog 8 Tryz.f8 Rows.fnExactRunWholeSpec Rows.fnExactRunWholeRow=true:=by kernel_rfl
theorem Zd:(fun (P:Program) (f:FuncId) (fn:Func) (s:ChangeSpec) (c:OpenClaim)=>(((c.ifacesOut==fn.resultTypes.toList.any (P.ifacesRec ·)):Bool))) Tryz.pinned.checked.prog 8 Tryz.f8 Rows.fnExactRunWholeSpec Rows.fnExactRunWholeRow=true:=by kernel_rfl
theorem Zc:(fun (P:Program) (f:FuncId) (fn:Func) (s:ChangeSpec) (c:OpenClaim)=>(((c.loopsOut==fn.resultTypes.toList.any (P.loopsFrom ·)):Bool))) Tryz.pinned.checked.prog 8 Tryz.f8 Rows.fnExactRunWholeSpec Rows.fnExactRunWholeRow=true:=by kernel_rfl
theorem Zb:(fun (P:Program) (f:FuncId) (fn:Func) (s:ChangeSpec) (c:OpenClaim)=>(((c.plainKeys==P.plainKeys):Bool))) Tryz.pinned.checked.prog 8 Tryz.f8 Rows.fnExactRunWholeSpec Rows.fnExactRunWholeRow=true:=by kernel_rfl
theorem Za:(fun (P:Program) (f:FuncId) (fn:Func) (s:ChangeSpec) (c:OpenClaim)=>((c.shortTexts.isNone:Bool))) Tryz.pinned.checked.prog 8 Tryz.f8 Rows.fnExactRunWholeSpec Rows.fnExactRunWholeRow=true:=by kernel_rfl
theorem Y9:(fun (P:Program) (f:FuncId) (fn:Func) (s:ChangeSpec) (c:OpenClaim)=>((P.stopsHeard:Bool))) Tryz.pinned.checked.prog 8 Tryz.f8 Rows.fnExactRunWholeSpec Rows.fnExactRunWholeRow=true:=by kernel_rfl
theorem Y8:(fun (P:Program) (f:FuncId) (fn:Func) (s:ChangeSpec) (c:OpenClaim)=>((P.mayEnter:Bool))) Tryz.pinned.checked.prog 8 Tryz.f8 Rows.fnExactRunWholeSpec Rows.fnExactRunWholeRow=true:=by kernel_rfl
theorem Y7:(fun (P:Program) (f:FuncId) (fn:Func) (s:ChangeSpec) (c:OpenClaim)=>(((c.lifted==P.liftsFinal):Bool))) Tryz.pinned.checked.prog 8 Tryz.f8 Rows.fnExactRunWholeSpec Rows.fnExactRunWholeRow=true:=by kernel_rfl
theorem Y6:(fun (P:Program) (f:FuncId) (fn:Func) (s:ChangeSpec) (c:OpenClaim)=>(((P.make==some c.make):Bool))) Tryz.pinned.checked.prog 8 Tryz.f8 Rows.fnExactRunWholeSpec Rows.fnExactRunWholeRow=true:=by kernel_rfl
theorem Y5:(fun (P:Program) (f:FuncId) (fn:Func) (s:ChangeSpec) (c:OpenClaim)=>(((c.kinds==(if c.domain.isEmpty then [] else fn.params.toList.map fun t=>match P.underlying t with|some (.int k)=>some k|_=>none)):Bool))) Tryz.pinned.checked.prog 8 Tryz.f8 Rows.fnExactRunWholeSpec Rows.fnExactRunWholeRow=true:=by kernel_rfl
theorem Y4:(fun (P:Program) (f:FuncId) (fn:Func) (s:ChangeSpec) (c:OpenClaim)=>(((c.pinned==c.pinnedBy):Bool))) Tryz.pinned.checked.prog 8 Tryz.f8 Rows.fnExactRunWholeSpec Rows.fnExactRunWholeRow=true:=by kernel_rfl
theorem Y3:(fun (P:Program) (f:FuncId) (fn:Func) (s:ChangeSpec) (c:OpenClaim)=>(((c.veiled==(fn.params.toList++s.plain.varTypes P++fn.resultTypes.toList).any (P.veiledRec ·)):Bool))) Tryz.pinned.checked.prog 8 Tryz.f8 Rows.fnExactRunWholeSpec Rows.fnExactRunWholeRow=true:=by kernel_rfl
theorem Y2:(fun (P:Program) (f:FuncId) (fn:Func) (s:ChangeSpec) (c:OpenClaim)=>((c.veiledFits P fn.params.toList (fn.params.toList++s.plain.varTypes P++fn.resultTypes.toList):Bool))) Tryz.pinned.checked.prog 8 Tryz.f8 Rows.fnExactRunWholeSpec Rows.fnExactRunWholeRow=true:=by kernel_rfl
theorem ov2:joinedFacts Tryz.pinned.checked.prog 8 Tryz.f8 Rows.fnExactRunWholeSpec Rows.fnExactRunWholeRow=true:=by unfold joinedFacts;exact (iY (iY (iY (iY (iY (iY (iY (iY (iY (iY (iY (iY (iY (iY (iY (iY (iY (iY (iY (iY (iY (iY (iY (iY (iY (iY (iY (iY (iY (iY (iY jf0 jf1) jf2) jf3) jf4) jf5) jf6) jf7) jf8) jf9) Zn) Zm) Zl) Zk) Zj) Zi) Zh) Zg) Zf) Ze) Zd) Zc) Zb) Za) Y9) Y8) Y7) Y6) Y5) Y4) Y3) Y2)
theorem ov3:Tryz.f8.isInstance Tryz.pinned.checked.prog Rows.fnExactRunWholeRow.origin Rows.fnExactRunWholeRow.targs:=of_decide_eq_true (by kernel_rfl)
theorem ov4:Tryz.f8.isWrapper Tryz.pinned.checked.prog Rows.fnExactRunWholeRow.wrapper Rows.fnExactRunWholeRow.mainSum:=(by unfold Func.isWrapper;first|(rw [if_pos (by decide +kernel)];kernel_rfl)|(rw [if_neg (by decide +kernel)];exact ⟨rfl,rfl⟩))
theorem over:Rows.fnExactRunWholeRow.holds Tryz.pinned (OpenSpec.ofChange Rows.fnExactRunWholeSpec):=
 OpenClaim.holds_of_wide 8 Tryz.f8 rfl rfl rfl rfl rfl rfl rfl ⟨rfl,rfl,rfl,rfl,rfl⟩ rfl rfl rfl rfl rfl ov1 Tryz.func8 ov2
  ov3 ov4
  (fun os started H enc _=>lifted os started H enc)
theorem pr1:Rows.fnExactRunWholeRow.wfByText (OpenSpec.ofChange Rows.fnExactRunWholeSpec)=true:=by kernel_rfl
theorem pr2:Tryz.pinned.checked.prog.mainIs=some (true,("94a10f11d31a9bc13cb7071dd8103d5c5b516ff51488b53718a89f376e377342" : String).toList):=by kernel_rfl
theorem pr3:Tryz.prog.funcNamed "loop.example/g00389/laws.FnExactRunWhole" = some 8:=by kernel_rfl
theorem pr4:true=Tryz.pinned.checked.prog.looks []:=by kernel_rfl
theorem pr5:([29,3].all fun u => !Tryz.prog.wantsStandIn u)=true:=by kernel_rfl
theorem pr6:false=Rows.fnExactRunWholeRow.goesBy Tryz.pinned.checked.prog:=by kernel_rfl
theorem proved:Rows.FnExactRunWholeCardSaid:=
 Claim7.holds_tied_plain_at .later [] [.data,.data] true (true,"94a10f11d31a9bc13cb7071dd8103d5c5b516ff51488b53718a89f376e377342") true
  over (fun _ h=>by cases h) pr1 (fun _ h=>by cases h) fnExactRunWhole_row_tie rfl ⟨rfl,rfl⟩ pr2 rfl
  (fun f fn hf hfn=>by
   obtain rfl:f=8:=Option.some.inj (pr3.symm.trans hf) |>.symm
   obtain rfl:fn=Tryz.f8:=(Option.some.inj (Tryz.func8.symm.trans hfn)).symm
   exact ⟨pr4,fun j t ht=>by
    rw [Tryz.params8] at ht
    have hm:t∈[29,3]:=by simpa using Array.mem_of_getElem? ht
    have hall:=pr5
    exact (show Tryz.prog.wantsStandIn t=false by simpa using List.all_eq_true.1 hall t hm)⟩)
  pr6
end Go.Proofs.YtgikibaajanjiaaGreatDoor.fnExactRunWhole
namespace Go.Proofs.YtgikibaajanjiaaGreatDoor
theorem FnExactRunWhole_holds:Rows.FnExactRunWholeCardSaid:=fnExactRunWhole.proved
end Go.Proofs.YtgikibaajanjiaaGreatDoor
