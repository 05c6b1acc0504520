import Derived.Conc.LeavingOf
import Derived.Handed
import Derived.LaidLaws
import Derived.LaidHandle
import Derived.ChangeSame
import Derived.ChangeVars
import Derived.Test.YtlmcblcijndipabGreatDoorM36
import Derived.Test.YtlmcblcijndipabGreatDoorCards
import Derived.Test.YtlmcblcijndipabGreatDoorTie
import Derived.Test.YtlmcblcijndipabGreatDoorM45
import Derived.Stop.Joined
import Derived.SevenTiedAt
set_option linter.unusedVariables false
set_option maxRecDepth 100000
namespace Go.Proofs.YtlmcblcijndipabGreatDoor
open Go Go.Conc Go.ChangeShapes Go.WideShapes Go.ChangeAt Go.RowKit
section
variable {H:Type}{enc:TypeId×Value->H}
theorem gU {a:Assume}{C:Checked}{os:Os}{f:FuncId}{fn:Func}{s:ChangeSpec}{conds:List PathCond}{apart fresh handsOn again:Bool}{X:World->Array Value->Prop}
  (hX:∀(w w':World) (args:Array Value),w.heap=w'.heap->X w args->X w' args)
  (own:ownKnob C.prog.godebug=none)(started:os.Started)(hfn:C.prog.funcs[f]?=some fn)
  (witness:∃(w:World) (tape:Tape) (i:Input),w.os=os/\(w.forCall tape i).Shaped C.prog/\i.vars=[]/\Input.okWide C.prog (w.forCall tape i) .any w.heap.size f i/\
   ((s.pre enc C.prog fn conds apart (w.forCall tape i).memory i.args/\X (w.forCall tape i).memory i.args)/\sizedMet enc C.prog fn (OpenSpec.ofChange s) apart (w.forCall tape i).memory i.args)/\a.holds C.prog (lone (Frame.enter C.prog f i.args .normal) [] (w.forCall tape i)))
  (runs:∀(W:World) (base:Nat) (args:Array Value) (ds gs:List (DataW H)) (before:List MemPlace),W.ShapedOpen C.prog->
   (∀(j:Nat) t v,fn.params[j]?=some t->args[j]?=some v->Value.okWide C.prog W .any base t v)->
   DataW.Whole enc C.prog fn.params.toList s.vars apart W args.toList ds gs before->X W args->
   ∃M last o w' t',runNT C.prog (M+1) (solo (G (Frame.enter C.prog f args .normal) []) W) #[]=(.ended o w',t')/\runN C.prog M (solo (G (Frame.enter C.prog f args .normal) []) W)=.next last/\
    step C.prog last=.ended o w'/\Conc.Good C.prog (λv W'=>s.post enc C.prog fn apart fresh handsOn again W args v W') last o w' t'):
  ReturnsInLeavingWide a C os f .any (λw args=>(s.pre enc C.prog fn conds apart w args/\X w args)/\sizedMet enc C.prog fn (OpenSpec.ofChange s) apart w args) (s.post enc C.prog fn apart fresh handsOn again):=by
 refine returnsInLeavingWide_of_good own started witness ?_;intro w tape i _ hsh _ hok hpre hholds;obtain⟨_,_,_,fn',hfn',_,_,_,_,hval⟩:=hok;have e:fn'=fn:=Option.some.inj (hfn'.symm.trans hfn);subst e;obtain⟨⟨⟨ds,gs,before,hw,hc⟩,hx⟩,hz⟩:=hpre;have hw':=DataW.Whole.of_heap (w':=w.forCall tape i) (by rfl) hw;obtain⟨M,last,o,w',t',h1,h2,h3,h4⟩:=runs (w.forCall tape i) w.heap.size i.args ds gs before hsh hval hw' (hX _ _ _ (by rfl) hx);exact⟨M,last,o,w',t',h1,h2,h3,h4.mono λv hp=>ChangeSpec.post_blind hp⟩
end
theorem et:Tryz.prog.globalNamed "errors.errorType"=some 0:=by kernel_rfl
theorem rt:(Tryz.prog.cutTypes.find? (·.1== "internal/reflectlite.rtype")).map (·.2)=some 175:=by kernel_rfl
theorem Au:((List.range 340).filter λt=>Tryz.prog.rowNamed t [101,114,114,111,114])=[92]:=by kernel_rfl
theorem Av:Tryz.prog.types.size=340:=by kernel_rfl
theorem nB {W:World}(h:laidMetH Tryz.prog [("errors.errorType",Rows.laid_errors_errorType)] W):W.cell? ⟨0,0,none⟩=some (.iface 175 (.agg #[.pointer (some ⟨9,92,none⟩)])):=by
 have h':laidMet Tryz.prog [] W/\handlesMet Tryz.prog [("errors.errorType",Rows.laid_errors_errorType)] W:=h;obtain⟨name,u,ty,e1,e2,e3,e4,e5⟩:=h'.2 _ (List.mem_singleton.2 rfl);have en:name=[101,114,114,111,114]:=(Option.some.inj e1).symm;subst en;obtain rfl:=Option.some.inj (rt.symm.trans e2);have hm:ty∈(List.range 340).filter λt=>Tryz.prog.rowNamed t [101,114,114,111,114]:=List.mem_filter.2 ⟨List.mem_range.2 (by rw[<-Av];exact e3),e4⟩
 rw[Au]at hm;obtain rfl:=List.mem_singleton.1 hm;have hh:typeHandle Tryz.prog 92=.pointer (some ⟨9,92,none⟩):=by kernel_rfl
 rw[hh]at e5;have:=World.var?_cell et e5 0;simpa using this
theorem kh:((begin Tryz.prog (λ_ _=>0) default).world.heap[0]?).bind Obj.row?=some (#[.nilIface],155):=by kernel_rfl
theorem iF:(((begin Tryz.prog (λ_ _=>0) default).world.heap[9-1]?).bind Obj.row?).isSome=true:=by kernel_rfl
theorem Aw {W:World}(hs:W.ShapedOpen Tryz.prog)(h:laidMetH Tryz.prog [("errors.errorType",Rows.laid_errors_errorType)] W):W.heap[0]?=some kG/\rO.n<=W.heap.size:=by
 have hc:=nB h;obtain⟨cs,h1,h2,_⟩:=hs.1 0 _ _ (by rw[gN];decide) kh;obtain⟨⟨z,t⟩,hz⟩:=Option.isSome_iff_exists.1 iF;obtain⟨cs',h3,_⟩:=hs.1 (9-1) z t (by rw[gN];decide) hz;have h4:=(Array.getElem?_eq_some_iff.1 h3).1;refine⟨?_,by show 9<=_;omega⟩;obtain⟨l⟩:=cs;match l,h2 with
 |[x],_=>
  simp[World.cell?,h1]at hc;rw[h1,hc];rfl
noncomputable def o9 (os:Os):World:=
 let w0:=World.holding Tryz.prog os ⟨#[],#[],[]⟩
 {w0 with heap:=w0.heap.modify 0 λ
   |.cells _ t frozen=>.cells #[.iface 175 (.agg #[.pointer (some ⟨9,92,none⟩)])] t frozen
   |o=>o}
theorem nU (os:Os)(args:Array Value):laidMetH Tryz.prog [("errors.errorType",Rows.laid_errors_errorType)] ((o9 os).forCall (λ_ _=>0) ⟨#[],args,[]⟩).memory:=
 laidMetH_of_parts (laidMet_nil _ _) (by kernel_rfl)
theorem vF (Lk:Looks){p:Pinned}{s:OpenSpec}{c:OpenClaim}(kinds:List LaidKind)(tests:Bool)(har:Bool×String)(lk:Bool)
  (hc:c.holds p s)(hw:c.wfByText s=true)(htie:c.laidByTextAt Lk p kinds tests)
  (hst:c.start=.entering)(hnb:c.noBlocks=false/\c.again=false)(hm:p.checked.prog.mainIs=some (har.1,har.2.toList))(hn:(!har.1&&har.2.isEmpty&&!lk)=false)
  (hl:∀f fn,p.checked.prog.funcNamed c.func=some f->p.checked.prog.funcs[f]?=some fn->lk=p.checked.prog.looks []/\∀(j:Nat) t,fn.params[j]?=some t->p.checked.prog.wantsStandIn t=false)
  (hg:true=c.goesBy p.checked.prog):
  Claim7.holds p (.plain s) {stood:={row:=c,standIns:=[],harness:=har,looks:=lk},kinds:=[],alts:=[],goes:=true,laidByText:=true,laidKinds:=kinds,laidTests:=tests,laidLooks:=Lk}:=by
 have h6:Claim7.isSixth {stood:={row:=c,standIns:=[],harness:=har,looks:=lk},kinds:=[]}=false:=by simpa[Claim7.isSixth]using hn
 exact⟨Claim7.tied_new_at Lk kinds tests (Claim7.new_of_sixth hc har lk hst hnb hm h6 hl) hw,(λD hD=>by cases hD),htie,(λh=>by cases h),hg⟩
theorem zs:sameLayout Tryz.prog Tryz.prog.depth 155 27=false:=by kernel_rfl
theorem xY:sameLayout Tryz.prog Tryz.prog.depth 155 3=false:=by kernel_rfl
theorem not_row {fits:TypeId->Bool}(hf:fits 155=false):∀d c off n,rowAt Tryz.prog fits d 155 c off n=false
 |0,_,_,_=>rfl
 |d+1,c,off,n=>by
  unfold rowAt;rw[Tryz.underlying155,hf];dsimp only;split
  .rfl
  .simp
theorem xZ {e:TypeId}(he:sameLayout Tryz.prog Tryz.prog.depth 155 e=false)(ha:∀m u,Tryz.prog.underlying e≠some (.array m u))(c off n:Nat):∀d,liesAt Tryz.prog d 155 c off e n=false
 |0=>rfl
 |d+1=>by
  unfold liesAt;rw[not_row he];cases hu:Tryz.prog.underlying e with
  |none=>rfl
  |some x=>
   cases x with
   |array m u=>exact(ha m u hu).elim
   |_=>rfl
theorem nC {W:World}{r:Reach}{base:Nat}{t e:TypeId}{x:Addr}{n cap:Nat}(ht:Tryz.prog.underlying t=some (.slice e))(he:sameLayout Tryz.prog Tryz.prog.depth 155 e=false)(ha:∀m u,Tryz.prog.underlying e≠some (.array m u))(hW:W.heap[0]?=some kG)(h:Cell.okWide Tryz.prog W r base t (.slice (some x) n cap)):(∃cs e z,W.heap[x.block]?=some (.cells cs e z))/\x.block≠0:=by
 simp only[ht,Cell.okWide,Cell.ok]at h;obtain⟨_,_,_,hs,row,cells,hsh,hl⟩:=h;refine⟨?_,λh0=>?_⟩
 .unfold World.shape? at hsh;split at hsh
  .rename_i c el z hc;exact⟨c,el,z,hc⟩
  .cases hsh
 .rw[h0]at hsh;simp[World.shape?,hW,kG]at hsh;obtain⟨rfl,_⟩:=hsh;rw[xZ he ha]at hl;cases hl
end Go.Proofs.YtlmcblcijndipabGreatDoor
