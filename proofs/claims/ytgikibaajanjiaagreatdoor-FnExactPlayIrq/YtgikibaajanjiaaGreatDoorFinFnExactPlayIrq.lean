/- PlayIrq answers as its model, at every argument, on the condition that the tables impl.digitSums and impl.ninesLess hold what their initialisers lay. -/
import Derived.Test.YtgikibaajanjiaaGreatDoorRows
import Derived.Test.YtgikibaajanjiaaGreatDoorTie
import Derived.Test.YtgikibaajanjiaaGreatDoorCards
import Derived.Test.YtgikibaajanjiaaGreatDoorJE25
import Derived.OpenVars
import Derived.LaidMore
import Derived.Stop.Joined
import Derived.SevenTiedAt
import Derived.WalkKit
import Derived.ProofKit
import Derived.OpenShut
import Derived.ShutString
import Derived.ChangeOld
import Derived.Below
set_option maxRecDepth 100000
set_option maxHeartbeats 16000000
namespace Go.Proofs.YtgikibaajanjiaaGreatDoor.fnExactPlayIrq
open Go.ChangeShapes Go.WideShapes Go.ChangeAt Go.RowKit
set_option linter.unusedVariables false
theorem own:ownKnob Tryz.prog.godebug=none:=by kernel_rfl
theorem laidOut:laidOutB Tryz.prog=true:=by kernel_rfl
theorem walk (Oh:Option Addr) (RS:Nat) (FK:List Int) (Og:Option Addr) (RQ:Nat) (FI:List Int) (Iz:Int) (Iy:Int) (Iw:Int) (Iu:Int) (Ov:Bool) (Ou:Bool) (Oe:Option Addr) (RP:Nat) (FH:List Int) (Oc:Option Addr) (GK RN:Nat) (Ik:List Int) (DY:Bool) (DX:Bool) (a1:Option Addr) (c1:Nat) (x1:List Int) (w:World) (tS:nU w) (tN:rC w) (Ve:Came w Oh FK) (U8:FK.length≤maxLen) (Vd:Came w Og FI) (U7:FI.length≤maxLen) (Ua:(Lit.int .i64 Iz).wf=true) (TY:(Lit.int .i64 Iy).wf=true) (TV:(Lit.int .i64 Iw).wf=true) (TU:(Lit.int .i64 Iu).wf=true) (Vb:Came w Oe FH) (U6:FH.length≤maxLen) (Va:Came w Oc Ik) (TP:Ik.length=5*GK) (U5:GK≤maxLen) (h1:Came w a1 x1) (l1:x1.length≤maxLen) :
  Calls Tryz.prog 11 #[.agg #[.slice Oh FK.length RS,.slice Og FI.length RQ,.int .i64 Iz,.int .i64 Iy,.int .i64 Iw,.int .i64 Iu,.bool Ov,.bool Ou,.slice Oe FH.length RP,.slice Oc GK RN,.bool DY,.bool DX],.slice a1 x1.length c1] w fun e w'=>e=.returned (.bool true)∧Below w.heap.size w w':=by
 exact Di ⟨⟨FK,FI,Iz,Iy,Iw,Iu,Ov,Ou⟩,FH,Ik,GK,DY,DX⟩ Oh Og Oe Oc RS RQ RP RN x1 a1 c1 w tS tN h1 (by unfold maxLen at l1;omega) Ve Vd Vb Va (by unfold maxLen at U8;omega) (by unfold maxLen at U7;omega) (by unfold maxLen at U6;omega) (by unfold maxLen at U5;omega) TP ⟨Ua,TY,TV,TU⟩
theorem door_met (os:Os) (args:Array Value):laidMetH Tryz.prog Rows.fnExactPlayIrqRow.laid ((World.doorLaid Tryz.prog 19 os).forCall (fun _ _=>0) ⟨#[],args,[]⟩).memory:=
 laidMetH_of_parts3 (fuel:=8) (laidMet_of_run' 8 (by kernel_rfl) (by kernel_rfl)) (by kernel_rfl) (by kernel_rfl)
theorem lifted (os:Os) (started:os.Started) (H:Type) (enc:TypeId × Value→H) :
  ReturnsInHanded {} Tryz.checked os 11 .any (fun w args=>(Rows.fnExactPlayIrqSpec.pre enc Tryz.prog Tryz.f11 [] false w args∧laidMetH Tryz.prog Rows.fnExactPlayIrqRow.laid w)∧sizedMet enc Tryz.prog Tryz.f11 (OpenSpec.ofChange Rows.fnExactPlayIrqSpec) false w args)
   (Rows.fnExactPlayIrqSpec.post enc Tryz.prog Tryz.f11 false true false false):=by
 refine returnsInHanded_of_change_and (C:=Tryz.checked) (X:=fun w _=>laidMetH Tryz.prog Rows.fnExactPlayIrqRow.laid w) (fun _ _ _ hh h=>h.of_heap hh) own started (by kernel_rfl) Tryz.func11
  (ChangeSpec.witness_shaped (enc:=enc) (C:=Tryz.checked) (os:=os) (X:=fun w _=>laidMetH Tryz.prog Rows.fnExactPlayIrqRow.laid w) false (World.doorLaid Tryz.prog 19 os) #[.agg #[.slice none 0 0,.slice none 0 0,.int .i64 0,.int .i64 0,.int .i64 0,.int .i64 0,.bool false,.bool false,.slice none 0 0,.slice none 0 0,.bool false,.bool false],.slice none 0 0] 8 rfl (World.shaped_of_RefB (by kernel_rfl) (by kernel_rfl)) (by kernel_rfl) (by kernel_rfl) (by kernel_rfl) (door_met os _)) ?_
 intro W base args ds gs before hval0 hW _ _ hL _
 have hval:∀(j:Nat) t v,Tryz.f11.params[j]? = some t→args[j]? = some v→Value.okWide Tryz.prog W .any base t v:=hval0
 have hW':=hW
 obtain ⟨p,q,hA0,hV,rfl,hfz,hnd⟩:=hW
 have hA:DataW.TrodAll enc Tryz.prog W 0 (fun _=>true) true Tryz.f11.params.toList args.toList ds p:=hA0
 rw [Tryz.params11] at hA hval
 obtain ⟨u0,vs0,d0,ds0,p0,q0,hargs,rfl,rfl,h0,r0⟩:=trodAll_cons hA
 obtain ⟨u1,vs1,d1,ds1,p1,q1,rfl,rfl,rfl,h1,r1⟩:=trodAll_cons r0
 obtain ⟨rfl,rfl,rfl⟩:=trodAll_nil r1
 obtain rfl:args=#[u0,u1]:=by cases args;simp_all
 obtain ⟨_,_,_,_,g0,_,_,_,_,_,g1,_,hgs,_⟩:=trodVars_two hV
 subst hgs
 have tabs:=OB hL
 have k0:=h0
 have lt0:∀x∈p0,x.block<W.heap.size:=by obtain ⟨m,hm⟩:=k0;exact DataW.trod_lt m _ _ _ hm
 obtain ⟨Oh,RS,FK,Og,RQ,FI,Iz,Iy,Iw,Iu,Ov,Ou,Oe,RP,FH,Oc,GK,RN,Ik,DY,DX,rfl,⟨Ve,U8⟩,⟨Vd,U7⟩,Ua,TY,TV,TU,⟨Vb,U6⟩,⟨Va,TP,U5⟩⟩:=JI (hval 0 29 u0 rfl rfl) h0
 have k1:=h1
 have lt1:∀x∈p1,x.block<W.heap.size:=by obtain ⟨m,hm⟩:=k1;exact DataW.trod_lt m _ _ _ hm
 obtain ⟨a1,c1,x1,rfl,hh1,l1⟩:=zW (hval 1 22 u1 rfl rfl) h1
 clear hA0 hval0
 refine (walk Oh RS FK Og RQ FI Iz Iy Iw Iu Ov Ou Oe RP FH Oc GK RN Ik DY DX a1 c1 x1 W tabs.1 tabs.2 Ve U8 Vd U7 Ua TY TV TU Vb U6 Va TP U5 hh1 l1).mono fun e W' ⟨he,bel⟩ => ?_
 subst he
 exact ⟨_,rfl,_,_,_,[],_,_,hW',trodAll_mk1 (shut_bool Tryz.underlying4 _),(trodAll_cons_mk (Below.trod laidOut (by kernel_rfl) (of_decide_eq_true (by kernel_rfl)) k0 bel lt0) (trodAll_cons_mk (Below.trod laidOut (by kernel_rfl) (of_decide_eq_true (by kernel_rfl)) k1 bel lt1) trodAll_mk0)),bel.trodVars laidOut (by kernel_rfl) hV,bel.frame _,fun h=>by cases h⟩
theorem ov1:Tryz.pinned.checked.prog.funcNamed Rows.fnExactPlayIrqRow.func=some 11:=by kernel_rfl
theorem je {a b:Bool} (h:a=true) (k:b=true):(a&&b)=true:=by rw [h,k];rfl
theorem jf0:(fun (P:Program) (f:FuncId) (fn:Func) (s:ChangeSpec) (c:OpenClaim)=>((c.wf (OpenSpec.ofChange s):Bool))) Tryz.pinned.checked.prog 11 Tryz.f11 Rows.fnExactPlayIrqSpec Rows.fnExactPlayIrqRow=true:=by kernel_rfl
theorem jf1:(fun (P:Program) (f:FuncId) (fn:Func) (s:ChangeSpec) (c:OpenClaim)=>((laidOutB P:Bool))) Tryz.pinned.checked.prog 11 Tryz.f11 Rows.fnExactPlayIrqSpec Rows.fnExactPlayIrqRow=true:=by kernel_rfl
theorem jf2:(fun (P:Program) (f:FuncId) (fn:Func) (s:ChangeSpec) (c:OpenClaim)=>((mapsRowed P:Bool))) Tryz.pinned.checked.prog 11 Tryz.f11 Rows.fnExactPlayIrqSpec Rows.fnExactPlayIrqRow=true:=by kernel_rfl
theorem jf3:(fun (P:Program) (f:FuncId) (fn:Func) (s:ChangeSpec) (c:OpenClaim)=>((fn.params.all (P.readableRec ·):Bool))) Tryz.pinned.checked.prog 11 Tryz.f11 Rows.fnExactPlayIrqSpec Rows.fnExactPlayIrqRow=true:=by kernel_rfl
theorem jf4:(fun (P:Program) (f:FuncId) (fn:Func) (s:ChangeSpec) (c:OpenClaim)=>((namedTie P c.named s.vars:Bool))) Tryz.pinned.checked.prog 11 Tryz.f11 Rows.fnExactPlayIrqSpec Rows.fnExactPlayIrqRow=true:=by kernel_rfl
theorem jf5:(fun (P:Program) (f:FuncId) (fn:Func) (s:ChangeSpec) (c:OpenClaim)=>(((c.stops==[]):Bool))) Tryz.pinned.checked.prog 11 Tryz.f11 Rows.fnExactPlayIrqSpec Rows.fnExactPlayIrqRow=true:=by kernel_rfl
theorem jf6:(fun (P:Program) (f:FuncId) (fn:Func) (s:ChangeSpec) (c:OpenClaim)=>(((P.stops==[]):Bool))) Tryz.pinned.checked.prog 11 Tryz.f11 Rows.fnExactPlayIrqSpec Rows.fnExactPlayIrqRow=true:=by kernel_rfl
theorem jf7:(fun (P:Program) (f:FuncId) (fn:Func) (s:ChangeSpec) (c:OpenClaim)=>(((c.knobs==[]):Bool))) Tryz.pinned.checked.prog 11 Tryz.f11 Rows.fnExactPlayIrqSpec Rows.fnExactPlayIrqRow=true:=by kernel_rfl
theorem jf8:(fun (P:Program) (f:FuncId) (fn:Func) (s:ChangeSpec) (c:OpenClaim)=>(((P.stopKnobs==[]):Bool))) Tryz.pinned.checked.prog 11 Tryz.f11 Rows.fnExactPlayIrqSpec Rows.fnExactPlayIrqRow=true:=by kernel_rfl
theorem jf9:(fun (P:Program) (f:FuncId) (fn:Func) (s:ChangeSpec) (c:OpenClaim)=>(((c.inPlace==P.inPlace f):Bool))) Tryz.pinned.checked.prog 11 Tryz.f11 Rows.fnExactPlayIrqSpec Rows.fnExactPlayIrqRow=true:=by kernel_rfl
theorem aav:(fun (P:Program) (f:FuncId) (fn:Func) (s:ChangeSpec) (c:OpenClaim)=>(((c.unfollowed==P.unfollowed f):Bool))) Tryz.pinned.checked.prog 11 Tryz.f11 Rows.fnExactPlayIrqSpec Rows.fnExactPlayIrqRow=true:=by kernel_rfl
theorem aau:(fun (P:Program) (f:FuncId) (fn:Func) (s:ChangeSpec) (c:OpenClaim)=>(((c.recurses==P.recurses f):Bool))) Tryz.pinned.checked.prog 11 Tryz.f11 Rows.fnExactPlayIrqSpec Rows.fnExactPlayIrqRow=true:=by kernel_rfl
theorem aat:(fun (P:Program) (f:FuncId) (fn:Func) (s:ChangeSpec) (c:OpenClaim)=>(((c.named==P.varsNamed f):Bool))) Tryz.pinned.checked.prog 11 Tryz.f11 Rows.fnExactPlayIrqSpec Rows.fnExactPlayIrqRow=true:=by kernel_rfl
theorem aas:(fun (P:Program) (f:FuncId) (fn:Func) (s:ChangeSpec) (c:OpenClaim)=>(((c.maps==(fn.params.toList++s.plain.varTypes P).any (P.mapsRec ·)):Bool))) Tryz.pinned.checked.prog 11 Tryz.f11 Rows.fnExactPlayIrqSpec Rows.fnExactPlayIrqRow=true:=by kernel_rfl
theorem aar:(fun (P:Program) (f:FuncId) (fn:Func) (s:ChangeSpec) (c:OpenClaim)=>(((c.ifaces==(fn.params.toList++s.plain.varTypes P).any (P.ifacesRec ·)):Bool))) Tryz.pinned.checked.prog 11 Tryz.f11 Rows.fnExactPlayIrqSpec Rows.fnExactPlayIrqRow=true:=by kernel_rfl
theorem aaq:(fun (P:Program) (f:FuncId) (fn:Func) (s:ChangeSpec) (c:OpenClaim)=>(((c.mapsOut==P.mapsAmong fn.resultTypes.toList):Bool))) Tryz.pinned.checked.prog 11 Tryz.f11 Rows.fnExactPlayIrqSpec Rows.fnExactPlayIrqRow=true:=by kernel_rfl
theorem aap:(fun (P:Program) (f:FuncId) (fn:Func) (s:ChangeSpec) (c:OpenClaim)=>(((c.loops==(fn.params.toList++s.plain.varTypes P).any (P.loopsFrom ·)):Bool))) Tryz.pinned.checked.prog 11 Tryz.f11 Rows.fnExactPlayIrqSpec Rows.fnExactPlayIrqRow=true:=by kernel_rfl
theorem aao:(fun (P:Program) (f:FuncId) (fn:Func) (s:ChangeSpec) (c:OpenClaim)=>(((c.wideKeys==(fn.params.toList++s.plain.varTypes P++fn.resultTypes.toList).any (P.wideKeysFrom ·)):Bool))) Tryz.pinned.checked.prog 11 Tryz.f11 Rows.fnExactPlayIrqSpec Rows.fnExactPlayIrqRow=true:=by kernel_rfl
theorem aan:(fun (P:Program) (f:FuncId) (fn:Func) (s:ChangeSpec) (c:OpenClaim)=>((s.vars.all (P.varReadable ·):Bool))) Tryz.pinned.checked.prog 11 Tryz.f11 Rows.fnExactPlayIrqSpec Rows.fnExactPlayIrqRow=true:=by kernel_rfl
theorem aam:(fun (P:Program) (f:FuncId) (fn:Func) (s:ChangeSpec) (c:OpenClaim)=>((fn.resultTypes.all (fun t=>P.readableRec t&&decide (t<P.types.size)):Bool))) Tryz.pinned.checked.prog 11 Tryz.f11 Rows.fnExactPlayIrqSpec Rows.fnExactPlayIrqRow=true:=by kernel_rfl
theorem aal:(fun (P:Program) (f:FuncId) (fn:Func) (s:ChangeSpec) (c:OpenClaim)=>(((c.ifacesOut==fn.resultTypes.toList.any (P.ifacesRec ·)):Bool))) Tryz.pinned.checked.prog 11 Tryz.f11 Rows.fnExactPlayIrqSpec Rows.fnExactPlayIrqRow=true:=by kernel_rfl
theorem aak:(fun (P:Program) (f:FuncId) (fn:Func) (s:ChangeSpec) (c:OpenClaim)=>(((c.loopsOut==fn.resultTypes.toList.any (P.loopsFrom ·)):Bool))) Tryz.pinned.checked.prog 11 Tryz.f11 Rows.fnExactPlayIrqSpec Rows.fnExactPlayIrqRow=true:=by kernel_rfl
theorem aaj:(fun (P:Program) (f:FuncId) (fn:Func) (s:ChangeSpec) (c:OpenClaim)=>(((c.plainKeys==P.plainKeys):Bool))) Tryz.pinned.checked.prog 11 Tryz.f11 Rows.fnExactPlayIrqSpec Rows.fnExactPlayIrqRow=true:=by kernel_rfl
theorem aai:(fun (P:Program) (f:FuncId) (fn:Func) (s:ChangeSpec) (c:OpenClaim)=>((c.shortTexts.isNone:Bool))) Tryz.pinned.checked.prog 11 Tryz.f11 Rows.fnExactPlayIrqSpec Rows.fnExactPlayIrqRow=true:=by kernel_rfl
theorem aah:(fun (P:Program) (f:FuncId) (fn:Func) (s:ChangeSpec) (c:OpenClaim)=>((P.stopsHeard:Bool))) Tryz.pinned.checked.prog 11 Tryz.f11 Rows.fnExactPlayIrqSpec Rows.fnExactPlayIrqRow=true:=by kernel_rfl
theorem aag:(fun (P:Program) (f:FuncId) (fn:Func) (s:ChangeSpec) (c:OpenClaim)=>((P.mayEnter:Bool))) Tryz.pinned.checked.prog 11 Tryz.f11 Rows.fnExactPlayIrqSpec Rows.fnExactPlayIrqRow=true:=by kernel_rfl
theorem aaf:(fun (P:Program) (f:FuncId) (fn:Func) (s:ChangeSpec) (c:OpenClaim)=>(((c.lifted==P.liftsFinal):Bool))) Tryz.pinned.checked.prog 11 Tryz.f11 Rows.fnExactPlayIrqSpec Rows.fnExactPlayIrqRow=true:=by kernel_rfl
theorem aae:(fun (P:Program) (f:FuncId) (fn:Func) (s:ChangeSpec) (c:OpenClaim)=>(((P.make==some c.make):Bool))) Tryz.pinned.checked.prog 11 Tryz.f11 Rows.fnExactPlayIrqSpec Rows.fnExactPlayIrqRow=true:=by kernel_rfl
theorem aad:(fun (P:Program) (f:FuncId) (fn:Func) (s:ChangeSpec) (c:OpenClaim)=>(((c.kinds==(if c.domain.isEmpty then [] else fn.params.toList.map fun t=>match P.underlying t with|some (.int k)=>some k|_=>none)):Bool))) Tryz.pinned.checked.prog 11 Tryz.f11 Rows.fnExactPlayIrqSpec Rows.fnExactPlayIrqRow=true:=by kernel_rfl
theorem aac:(fun (P:Program) (f:FuncId) (fn:Func) (s:ChangeSpec) (c:OpenClaim)=>(((c.pinned==c.pinnedBy):Bool))) Tryz.pinned.checked.prog 11 Tryz.f11 Rows.fnExactPlayIrqSpec Rows.fnExactPlayIrqRow=true:=by kernel_rfl
theorem aab:(fun (P:Program) (f:FuncId) (fn:Func) (s:ChangeSpec) (c:OpenClaim)=>(((c.veiled==(fn.params.toList++s.plain.varTypes P++fn.resultTypes.toList).any (P.veiledRec ·)):Bool))) Tryz.pinned.checked.prog 11 Tryz.f11 Rows.fnExactPlayIrqSpec Rows.fnExactPlayIrqRow=true:=by kernel_rfl
theorem Z9:(fun (P:Program) (f:FuncId) (fn:Func) (s:ChangeSpec) (c:OpenClaim)=>((c.veiledFits P fn.params.toList (fn.params.toList++s.plain.varTypes P++fn.resultTypes.toList):Bool))) Tryz.pinned.checked.prog 11 Tryz.f11 Rows.fnExactPlayIrqSpec Rows.fnExactPlayIrqRow=true:=by kernel_rfl
theorem ov2:joinedFacts Tryz.pinned.checked.prog 11 Tryz.f11 Rows.fnExactPlayIrqSpec Rows.fnExactPlayIrqRow=true:=by unfold joinedFacts;exact (je (je (je (je (je (je (je (je (je (je (je (je (je (je (je (je (je (je (je (je (je (je (je (je (je (je (je (je (je (je (je jf0 jf1) jf2) jf3) jf4) jf5) jf6) jf7) jf8) jf9) aav) aau) aat) aas) aar) aaq) aap) aao) aan) aam) aal) aak) aaj) aai) aah) aag) aaf) aae) aad) aac) aab) Z9)
theorem ov3:Tryz.f11.isInstance Tryz.pinned.checked.prog Rows.fnExactPlayIrqRow.origin Rows.fnExactPlayIrqRow.targs:=of_decide_eq_true (by kernel_rfl)
theorem ov4:Tryz.f11.isWrapper Tryz.pinned.checked.prog Rows.fnExactPlayIrqRow.wrapper Rows.fnExactPlayIrqRow.mainSum:=(by unfold Func.isWrapper;first|(rw [if_pos (by decide +kernel)];kernel_rfl)|(rw [if_neg (by decide +kernel)];exact ⟨rfl,rfl⟩))
theorem over:Rows.fnExactPlayIrqRow.holds Tryz.pinned (OpenSpec.ofChange Rows.fnExactPlayIrqSpec):=
 OpenClaim.holds_of_wide 11 Tryz.f11 rfl rfl rfl rfl rfl rfl rfl ⟨rfl,rfl,rfl,rfl,rfl⟩ rfl rfl rfl rfl rfl ov1 Tryz.func11 ov2
  ov3 ov4
  (fun os started H enc _=>lifted os started H enc)
theorem pr1:Rows.fnExactPlayIrqRow.wfByText (OpenSpec.ofChange Rows.fnExactPlayIrqSpec)=true:=by kernel_rfl
theorem pr2:Tryz.pinned.checked.prog.mainIs=some (true,("94a10f11d31a9bc13cb7071dd8103d5c5b516ff51488b53718a89f376e377342" : String).toList):=by kernel_rfl
theorem pr3:Tryz.prog.funcNamed "loop.example/g00389/laws.FnExactPlayIrq" = some 11:=by kernel_rfl
theorem pr4:true=Tryz.pinned.checked.prog.looks []:=by kernel_rfl
theorem pr5:([29,22].all fun u => !Tryz.prog.wantsStandIn u)=true:=by kernel_rfl
theorem pr6:false=Rows.fnExactPlayIrqRow.goesBy Tryz.pinned.checked.prog:=by kernel_rfl
theorem proved:Rows.FnExactPlayIrqCardSaid:=
 Claim7.holds_tied_plain_at .later [] [.data,.data] true (true,"94a10f11d31a9bc13cb7071dd8103d5c5b516ff51488b53718a89f376e377342") true
  over (fun _ h=>by cases h) pr1 (fun _ h=>by cases h) fnExactPlayIrq_row_tie rfl ⟨rfl,rfl⟩ pr2 rfl
  (fun f fn hf hfn=>by
   obtain rfl:f=11:=Option.some.inj (pr3.symm.trans hf) |>.symm
   obtain rfl:fn=Tryz.f11:=(Option.some.inj (Tryz.func11.symm.trans hfn)).symm
   exact ⟨pr4,fun j t ht=>by
    rw [Tryz.params11] at ht
    have hm:t∈[29,22]:=by simpa using Array.mem_of_getElem? ht
    have hall:=pr5
    exact (show Tryz.prog.wantsStandIn t=false by simpa using List.all_eq_true.1 hall t hm)⟩)
  pr6
end Go.Proofs.YtgikibaajanjiaaGreatDoor.fnExactPlayIrq
namespace Go.Proofs.YtgikibaajanjiaaGreatDoor
theorem FnExactPlayIrq_holds:Rows.FnExactPlayIrqCardSaid:=fnExactPlayIrq.proved
end Go.Proofs.YtgikibaajanjiaaGreatDoor
