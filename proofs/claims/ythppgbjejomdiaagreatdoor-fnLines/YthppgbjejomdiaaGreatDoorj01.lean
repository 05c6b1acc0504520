import Derived.Test.YthppgbjejomdiaaGreatDoorj00
import Derived.Conc.Events
import Derived.ArgAppend
set_option linter.all false
set_option maxHeartbeats 1000000
open Array renaming mem_singleton->bk,mem_append->bm,range->bN,getElem?_setIfInBounds->cl,getD_eq_getD_getElem?->cn,getElem?_push->cq,length_toList->ct,toList_zipIdx->cu,foldl_toList->cw,forIn_toList->cx,all_eq_true->cB,replicate->cL
open Bool renaming and_eq_true->bM,false_eq_true->b2,not_eq_true'->cJ,not_false->cW
open ForInStep renaming yield->bJ,done->cA
open Go renaming Value->aa,TypeId->ac,binOp->ad,World->ao,Addr->av,Program->ay,BinOp->aL,Deferred->a3,IntKind->a5,stuck->a6,behindNumber->a8,FuncId->a9,part->bo,unsupported->bs,boundsPanic->bt,cellAtBytes->bv,byteOfCell->bz,MapEntry->bA,eqGuard->bB,underlying->bO,BoundsCode->bR,zeroValue->bS,loadVar->bV,sizeOf->bW,newRow->bX,asAddr->b0,Event->b1,cellOfByte->cb,receiverAt->cc,askRoom->ce,Operand->cf,byteOf->ch,follow->ci,loadCellsFrom->dd,RuntimeError->dp,runtimePanic->dq,movedPointer->ds,movedNumber->dw,storeCells->dz
open Go.Builtin renaming unsafeAdd_->bH,append_->b3,copy_->b6,firstCells->cp,mayShare->cz,lenOf->cN,holdsCells->dE,ssaWrapNilChk_->dF
open Go.Instr renaming fill->be,sliceBound->b4,typeAssert->b5,extract->b7,makeInterface->cv,sliceBounds->cC,buildSlice->cF,sureAddr->cO,fieldAt->cP,indexAt->cS,sliceAt->cT,alloc->c6,build->c7,slice->c8,index->c9,box->db
open Go.Mode renaming atomic->bb,plain->bi
open Go.Op renaming equalIn->aE,equal->aI,stringOp->b9,intDiv->ca,shift->cd,twoPlaces->da,intArith->dc,intBits->df,addrSub->dh,addrCmp->dk,addrMod->dn,intCmp->dt,unary->dy
open Go.Program renaming cellsOf->br,bytesOf->bK,underlying->co,depth->cM
open Go.Sem renaming runT->ax,run->aV,run_bind->a0,runT_bind'->c2,bind->dv
open Go.Value renaming int->a1,pointer->a2,bool->a4,tuple->bj,slice->bn,agg->bE
open Go.World renaming cell?->b8,frozen?->cZ,setCell->c0,noCell->c4,freeze->c5
open Option renaming bind_eq_some_iff->bp
open Option.some renaming injEq->bF
open Or renaming inl->au,inr->az
open Prod.mk renaming injEq->a7
namespace Go.Proofs.YthppgbjejomdiaaGreatDoor
variable {a a' B:av}{cs cs' xs u:Array aa}{str:Bool}{e:b1}{l D:List aa}{b c r r':Nat}{o J:Obj}{z hi lo R q T:Option aa}{P af8:ay}{p:Prop}{α β γ δ:Type}{t:ac}{N:ac->Option TypeInfo}{i:TypeInfo}{U n O v C x A y f:aa}{V Y W:ao}
section
class Gl where
 n:Nat
 ov:Nat:=1000000001
 Yr:ay->Prop:=λ_=>False
 top:ay->Prop:=λ_=>False
def aaK (x9:p:=by induction h with|nil=>exact .nil|cons h _ ih=>exact .cons (h.mono l) ih):p:=x9
variable [Gl]
structure Ren where
 to:Nat->Option Nat
 inj:∀b B c,to b=some c->to B=some c->b=B
 Jp:∀b c,to b=some c->(b<Gl.n<->c<Gl.n)
instance :CoeFun Ren (λ_=>Nat->Option Nat):=⟨Ren.to⟩
def Ren.le (ρ σ:Ren):Prop:=∀b c,ρ b=some c->σ b=some c
def Ren.le_refl (ρ:Ren):ρ.le ρ:=λ_ _ h=>h
def Ren.le.trans {ρ σ τ:Ren}(h:ρ.le σ)(s:σ.le τ):ρ.le τ:=λb c e=>s b c<|h b c e
def Ren.ext (ρ:Ren)(n m)(h:∀b c,ρ b=some c->b≠n/\c≠m)(Z:Gl.n<=n)(hm:Gl.n<=m):Ren:=⟨λb=>if b=n then some m else ρ b,λb B c hb s=>by
 split at hb<;>split at s
 .omega
 .simp only[bF]at hb;exact absurd hb.symm (h _ _ s).2
 .simp only[bF]at s;exact absurd s.symm (h _ _ hb).2
 .exact ρ.inj _ _ _ hb s,λb c hb=>by
 split at hb
 .simp only[bF]at hb;omega
 .exact ρ.Jp _ _ hb⟩
structure dG (ρ:Ren)(a a':av):Prop where
 blk:ρ a.block=some a'.block
 off:a'.off=a.off
 spot:a'.spot=a.spot
def dG.mono {ρ σ:Ren}(h:dG ρ a a')(l:ρ.le σ):dG σ a a':=⟨l _ _ h.blk,h.off,h.spot⟩
theorem dG.add {ρ:Ren}(h:dG ρ a a') n:dG ρ (a.add n) (a'.add n):=by unfold Addr.add;split;omega;exact⟨h.blk,by simp[h.off],rfl⟩
structure Ctx where
 fn:a9->Bool
 aP:a9->Bool
 code:Code->Bool
 ex:a9->Bool
inductive yO (ok:Ctx)(ρ:Ren):Fn->Fn->Prop
 |func {f:a9}:ok.fn f->yO ok ρ (.func f) (.func f)
 |yield {l D:Nat}:ρ l=some D->yO ok ρ (.yield l) (.yield D)
def hole:Value:=.func (.method "") #[.iface 1000000000<|.chan none] #[]
def abN:aa->Bool
 |bE _|bj _|a2 none|.nilFunc|.nilIface|a4 _|a1 _ _|.string _|bn none _ _=>false
 |_=>true
inductive ar (ok:Ctx)(ρ:Ren):aa->aa->Prop
 |hole {v:aa}:abN v->ar ok ρ hole v
 |bool (b:Bool):ar ok ρ b b
 |int (k:a5) n:ar ok ρ (a1 k n) (a1 k n)
 |string (s:ByteArray):ar ok ρ s s
 |kX:ar ok ρ (a2 none) (a2 none)
 |ptr {a a':av}:dG ρ a a'->ar ok ρ (a2 a) (a2 a')
 |dj (l c:Nat):ar ok ρ (bn none l c) (bn none l c)
 |slice {a a':av} (l c:Nat):dG ρ a a'->ar ok ρ (bn (some a) l c) (bn (some a') l c)
 |map {r r':Nat}:ρ r=some r'->ar ok ρ (.map<|some r) (.map<|some r')
 |nilFunc:ar ok ρ .nilFunc .nilFunc
 |nilIface:ar ok ρ .nilIface .nilIface
 |iface (t:ac) {v C:aa}:ar ok ρ v C->ar ok ρ (.iface t v) (.iface t C)
 |func {f f':Fn} {xs u ys vy:Array aa}:yO ok ρ f f'->xs.size=u.size->(∀(i:Nat) (x A:aa),xs[i]?=some x->u[i]?=some A->ar ok ρ x A)->
   ys.size=vy.size->(∀(i:Nat) (x A:aa),ys[i]?=some x->vy[i]?=some A->ar ok ρ x A)->ar ok ρ (.func f xs ys) (.func f' u vy)
 |agg {xs u:Array aa}:xs.size=u.size->(∀(i:Nat) (x A:aa),xs[i]?=some x->u[i]?=some A->ar ok ρ x A)->ar ok ρ (bE xs) (bE u)
 |tuple {xs u:Array aa}:xs.size=u.size->(∀(i:Nat) (x A:aa),xs[i]?=some x->u[i]?=some A->ar ok ρ x A)->ar ok ρ (bj xs) (bj u)
structure aB (ok)(ρ:Ren)(xs u:Array aa):Prop where
 size:xs.size=u.size
 at_:∀(i:Nat) (x A:aa),xs[i]?=some x->u[i]?=some A->ar ok ρ x A
section
variable {ok:Ctx}{ρ σ:Ren}
def yO.mono {f s}(h:yO ok ρ f s)(l:ρ.le σ):yO ok σ f s:=by cases h with|func h=>exact .func h|yield h=>exact .yield<|l _ _ h
def ar.mono (h:ar ok ρ v C)(l:ρ.le σ):ar ok σ v C:=by induction h with|hole h=>exact .hole h|bool b=>exact .bool b|int k n=>exact .int k n|string s=>exact .string s|kX=>exact .kX|ptr h=>exact .ptr (h.mono l)|dj l c=>exact .dj l c|slice n c h=>exact .slice n c (h.mono l)|map h=>exact .map (l _ _ h)|nilFunc=>exact .nilFunc|nilIface=>exact .nilIface|iface t _ Z=>exact .iface t Z|func hf e1 _ e2 _ i1 i2=>exact .func (hf.mono l) e1 i1 e2 i2|agg e _ Z=>exact .agg e Z|tuple e _ Z=>exact .tuple e Z
def aB.mono (h:aB ok ρ xs u)(l:ρ.le σ):aB ok σ xs u:=⟨h.size,λi x A a b=>(h.at_ i x A a b).mono l⟩
def aB.get (h:aB ok ρ xs u){i:Nat}(d:xs[i]?=some x):∃A,u[i]?=some A/\ar ok ρ x A:=by have g:u[i]?=some (u[i]'(by rw[<-h.size];exact((agy.1 d).1))):=agD _;exact⟨_,g,h.at_ _ _ _ d g⟩
def aB.none (h:aB ok ρ xs u){i:Nat}(d:xs[i]?=none):u[i]?=none:=by rw[Array.getElem?_eq_none_iff]at d⊢;rw[<-h.size];omega
def jY:ar ok ρ undef undef:=.tuple rfl λi x A h=>f7
theorem aB.getD (h:aB ok ρ xs u) i:ar ok ρ (xs.getD i undef) (u.getD i undef):=by rcases d:xs[i]? with _|x;simp[d,h.none d];exact jY;let⟨A,g,r⟩:=h.get d;simp_all
def aB.nil:aB ok ρ #[] #[]:=⟨rfl,λi x A h=>f7⟩
def aB.push (h:aB ok ρ xs u)(j:ar ok ρ v C):aB ok ρ (xs.push v) (u.push C):=by refine⟨by simp[h.size],λi x A g d=>?_⟩;rw[cq]at g d;rw[<-h.size]at d;split at g;grind;rename_i e;rw[if_neg e]at d;exact h.at_ i x A g d
def aB.set (h:aB ok ρ xs u)(k:ar ok ρ v C) j:aB ok ρ (xs.setIfInBounds j v) (u.setIfInBounds j C):=by refine⟨by simp[h.size],λi x A d g=>?_⟩;rw[cl]at d g;by_cases e:j=i;grind;rw[if_neg e]at d g;exact h.at_ i x A d g
def aB.append {j k}(h:aB ok ρ xs u)(m:aB ok ρ j k):aB ok ρ (xs++j) (u++k):=by refine⟨by simp[h.size,m.size],λi x A g d=>?_⟩;rw[Array.getElem?_append]at g d;rw[<-h.size]at d;by_cases e:i<xs.size;rw[if_pos e]at g d;exact h.at_ i x A g d;rw[if_neg e]at g d;exact m.at_ _ x A g d
def aB.extract (h:aB ok ρ xs u)(i j):aB ok ρ (xs.extract i j) (u.extract i j):=by refine⟨by simp[h.size],λk x A g d=>?_⟩;rw[Array.getElem?_extract]at g d;rw[<-h.size]at d;split at g;rename_i e;rw[if_pos e]at d;exact h.at_ _ x A g d;grind
def aB.replicate (d:ar ok ρ v C) n:aB ok ρ (cL n v) (cL n C):=by refine⟨aN,λi x A g j=>?_⟩;grind
def aB.map {f s}(h:∀a,ar ok ρ (f a)<|s a)(xs:Array α):aB ok ρ (xs.map f) (xs.map s):=by refine⟨aN,λi x A Z fe=>?_⟩;grind
theorem ar.cells (h:ar ok ρ v C):aB ok ρ v.cells C.cells:=by have one:∀{x A:Value},ar ok ρ x A->aB ok ρ #[x] #[A]:=λh=>aB.nil.push h;cases h with|hole h=>(have e:C.cells=#[C]:=by cases C<;>first|rfl|cases h);rw[e];exact one (.hole h)|agg e h=>exact⟨e,h⟩|bool b=>exact one (.bool b)|int k n=>exact one (.int k n)|string s=>exact one (.string s)|kX=>exact one .kX|ptr h=>exact one (.ptr h)|dj l c=>exact one (.dj l c)|slice n c h=>exact one (.slice n c h)|map h=>exact one (.map h)|nilFunc=>exact one .nilFunc|nilIface=>exact one .nilIface|iface t h=>exact one (.iface t h)|func a b c d e=>exact one (.func a b c d e)|tuple e h=>exact one<|.tuple e h
end
inductive Pa (ok:Ctx)(ρ:Ren):Target->Target->Prop
 |fn {f f':Fn} {xs u:Array aa}:yO ok ρ f f'->aB ok ρ xs u->Pa ok ρ (.fn f xs) (.fn f' u)
 |nil:Pa ok ρ .nil .nil
inductive Mz (ok:Ctx)(ρ:Ren):a3->a3->Prop
 |call {f:a9} {xs u ys vy:Array aa}:ok.fn f->ok.aP f->aB ok ρ xs u->aB ok ρ ys vy->Mz ok ρ ⟨.fn (.func f) xs,ys⟩ ⟨.fn (.func f) u,vy⟩
 |mark {r r':Nat}:ρ r=some r'->Mz ok ρ ⟨.collected r,#[]⟩ ⟨.collected r',#[]⟩
inductive jE (ok:Ctx)(ρ:Ren):List a3->List a3->Prop
 |nil:jE ok ρ [] []
 |cons {d d':a3} {l D:List a3}:Mz ok ρ d d'->jE ok ρ l D->jE ok ρ (d::l) (d'::D)
inductive iQ (ok:Ctx)(ρ:Ren):List bA->List bA->Prop
 |nil:iQ ok ρ [] []
 |cons (s:ByteArray) n {v C:aa} {l D:List bA}:ar ok ρ v C->iQ ok ρ l D->iQ ok ρ ({key:=s,val:=v,born:=n}::l) ({key:=s,val:=C,born:=n}::D)
structure FF (ok)(ρ:Ren)(r r':Loop):Prop where
 state:r'.state=r.state
 pending:r'.pending=r.pending
 fn:r'.fn=r.fn
 tmps:aB ok ρ r.tmps r'.tmps
 params:r'.params=r.params
 assign:r'.assign=r.assign
 body:r'.body=r.body
 defers:ρ r.defers=some r'.defers
 aP:ok.aP r.fn
 ok1:ok.code r.assign
 ok2:ok.code r.body
 ok3:∀c,r.pending=some c->ok.code c
def aaQ (str:Bool)(c:Array aa)(z s:Nat×Nat):Prop:=(s=if str then z else(0,0))\/(str/\z=(0,c.size)/\0<c.size)
inductive nt (ok:Ctx)(str:Bool)(ρ:Ren):Obj->Obj->Prop
 |cells {c c':Array aa} {e:ac} {z z':Nat×Nat}:aB ok ρ c c'->aaQ str c z z'->nt ok str ρ (.cells c e z) (.cells c' e z')
 |stringIter (s:ByteArray) p:nt ok str ρ (.stringIter s p) (.stringIter s p)
 |loop {r r':Loop}:FF ok ρ r r'->nt ok str ρ (.loop r) (.loop r')
 |taken:nt ok str ρ (.deferred none) (.deferred none)
 |number {a a':av} (lost:Bool):dG ρ a a'->nt ok str ρ (.number a lost) (.number a' lost)
 |deferred {l D:List a3}:jE ok ρ l D->nt ok str ρ (.deferred<|some l) (.deferred<|some D)
 |map {es iw:Array bA} k:iQ ok ρ es.toList iw.toList->nt ok str ρ (.map es k) (.map iw k)
section
variable {ok:Ctx}{ρ σ:Ren}
def Mz.mono {d d':a3}(h:Mz ok ρ d d')(l:ρ.le σ):Mz ok σ d d':=by cases h with|call a b x y=>exact .call a b (x.mono l) (y.mono l)|mark h=>exact .mark<|l _ _ h
def jE.mono {d d':List a3}(h:jE ok ρ d d')(l:ρ.le σ):jE ok σ d d':=aaK
def jE.append {a a' b B:List a3}(h:jE ok ρ a a')(d:jE ok ρ b B):jE ok ρ (a++b) (a'++B):=by induction h with|nil=>exact d|cons h _ g=>exact .cons h g
def iQ.mono {l D:List bA}(h:iQ ok ρ l D)(d:ρ.le σ):iQ ok σ l D:=by induction h with|nil=>exact .nil|cons s n h _ g=>exact .cons s n (h.mono d) g
def FF.mono {r r'}(h:FF ok ρ r r')(l:ρ.le σ):FF ok σ r r':=⟨h.state,h.pending,h.fn,h.tmps.mono l,h.params,h.assign,h.body,l _ _ h.defers,h.aP,h.ok1,h.ok2,h.ok3⟩
def nt.mono (h:nt ok str ρ o J)(l:ρ.le σ):nt ok str σ o J:=by cases h with|cells h z=>exact .cells (h.mono l) z|stringIter s p=>exact .stringIter s p|loop h=>exact .loop (h.mono l)|taken=>exact .taken|number b h=>exact .number b (h.mono l)|deferred h=>exact .deferred (h.mono l)|map k h=>exact .map k<|h.mono l
def nt.kinds (h:nt ok str ρ o J):((∃c e z,o=.cells c e z)/\(∃c e z,J=.cells c e z))\/((∀c e z,o≠.cells c e z)/\(∀c e z,J≠.cells c e z)):=by cases h with|cells _ _=>grind|_=>grind
def nt.chan (h:nt ok str ρ o J):J.isChan=false:=by cases h<;>rfl
end
structure bw (ok:Ctx)(str:Bool)(ρ:Ren)(V W:ao):Prop where
 heap:∀b c,ρ b=some c->∃o J,V.heap[b]?=some o/\W.heap[c]?=some J/\nt ok str ρ o J
 tape:V.tape=W.tape
 drawn:V.drawn=W.drawn
 gV:Gl.n<=V
 gW:Gl.n<=W
 gs:(∀g,ok.fn (2000000+g)->ρ g=some g)/\(ok.fn 1999999->str)
def bw.gl {ok}{ρ:Ren}(h:bw ok str ρ V W):∀g,ok.fn (2000000+g)->ρ g=some g:=h.gs.1
def Ro (V:ao)(b:Nat):Prop:=∃c e,V.heap[b]?=some (.cells c e (0,c.size))
def bare (W:ao)(c:Nat):Option (Array aa×ac):=W.heap[c]?.bind λ|.cells x e _=>some (x,e)|_=>none
def mP (W W':ao)(c:Nat):Prop:=bare W' c=bare W c/\(Ro W c->W'.heap[c]?=W.heap[c]?)
omit [Gl] in
def mP.of {W':ao}(h:W'.heap[c]?=W.heap[c]?):mP W W' c:=⟨by unfold bare;rw[h],λ_=>h⟩
omit [Gl] in
def mP.trans {aj s:ao}(h:mP W aj c)(Z:mP aj s c):mP W s c:=⟨Z.1.trans h.1,λ⟨x,e,r⟩=>(Z.2 ⟨x,e,(h.2 ⟨x,e,r⟩).trans r⟩).trans<|h.2 ⟨x,e,r⟩⟩
structure Kept (ρ:Ren)(V W:ao)(σ:Ren)(V' W':ao):Prop where
 le:ρ.le σ
 keep:∀c,c<(W:Nat)->(∀b,ρ b≠some c)->W'.heap[c]?=W.heap[c]?
 ro:∀b c,ρ b=some c->Ro V b->V'.heap[b]?=V.heap[b]?/\mP W W' c
 size:(W:Nat)<=W'
 Dy:(V:Nat)<=V'
 new:∀b c,σ b=some c->ρ b=some c\/(V<=b/\W<=c)
 tape:W'.tape=W.tape
 os:W'.os=W.os
 out:W'.output=W.output
def Kept.refl (ρ:Ren)(V W:ao):Kept ρ V W ρ V W:=⟨Ren.le_refl ρ,λ_ _ _=>rfl,λ_ _ _ _=>⟨rfl,.of rfl⟩,agw _,agw _,λ_ _ h=>au h,rfl,rfl,rfl⟩
def Kept.trans {ρ σ τ:Ren}{Z V2 W2:ao}(h:Kept ρ V W σ Y Z)(s:Kept σ Y Z τ V2 W2):Kept ρ V W τ V2 W2:=by refine⟨h.le.trans s.le,λc hc hn=>?_,λb c hb hr=>?_,agz h.size s.size,agz h.Dy s.Dy,λb c hb=>(s.new b c hb).elim (λe=>h.new b c e) λe=>az ⟨agz h.Dy e.1,agz h.size e.2⟩,s.tape.trans h.tape,s.os.trans h.os,s.out.trans h.out⟩;rw[s.keep c (agx hc h.size) (λb hb=>?_),h.keep c hc hn];rcases h.new b c hb with e|e<;>grind;have h1:=h.ro b c hb hr;have h2:=s.ro b c (h.le b c hb) (by let⟨x,e,hx⟩:=hr;exact⟨x,e,cQ⟩);exact⟨h2.1.trans h1.1,h1.2.trans h2.2⟩
end
section
def Oy (x9:p:=by obtain⟨rfl,_⟩:=hr;exact .inl rfl):p:=x9
def WF (x9:p:=by simp at hr;obtain⟨rfl,_⟩:=hr;exact .inl rfl):p:=x9
def Yy (x9:p:=by have h1:=Sem.runT_fst af8 s V es;rw[hr]at h1;exact .inl (by have:=h V;rw[<-h1]at this;exact this)):p:=x9
variable [Gl]
section
variable (af8 P:ay)(ok:Ctx)(str:Bool)
def mute:Mark->Bool
 |.noRoom|.extern _=>true
 |_=>false
def ends:Halt->Bool
 |.stuck _=>true
 |.unsupported (.initOrder _)=>false
 |.unsupported _=>true
 |_=>false
def Result.stops:Result α->Bool
 |.ok _ _=>false
 |.halt h _=>ends h
inductive ag {α β:Type}(A:Ren->α->β->Prop):Ren->Sem α->Sem β->Prop
 |pure {ρ:Ren} {a:α} {b:β}:A ρ a b->ag A ρ (.pure a) (.pure b)
 |load {ρ:Ren} {a a':av} {k:aa->Sem α} {k':aa->Sem β}:dG ρ a a'->(∀v C,ar ok ρ v C->ag A ρ (k v) (k' C))->ag A ρ (.load .plain a k) (.load .plain a' k')
 |store {ρ:Ren} {a a':av} {v C:aa} {k:Sem α} {k':Sem β}:dG ρ a a'->ar ok ρ v C->ag A ρ k k'->ag A ρ (.store .plain a v k) (.store .plain a' C k')
 |new {ρ:Ren} {o J:Obj} {k:Nat->Sem α} {k':Nat->Sem β}:nt ok str ρ o J->(∀σ b c,ρ.le σ->σ b=some c->ag A σ (k b) (k' c))->ag A ρ (.new o k) (.new J k')
 |shape {ρ:Ren} {r r':Nat} {k:Option (ac×Nat)->Sem α} {k':Option (ac×Nat)->Sem β}:ρ r=some r'->(∀s,ag A ρ (k s)<|k' s)->ag A ρ (.shape r k) (.shape r' k')
 |dead {ρ:Ren} (s:Sem α) (s':Sem β):(∀V,Result.stops<|s.run af8 V)->ag A ρ s s'
 |getObj {ρ:Ren} {r r':Nat} {k:Obj->Sem α} {k':Obj->Sem β}:ρ r=some r'->(∀o J,nt ok str ρ o J->ag A ρ (k o) (k' J))->ag A ρ (.getObj r k) (.getObj r' k')
 |setObj {ρ:Ren} {r r':Nat} {o J:Obj} {k:Sem α} {k':Sem β}:ρ r=some r'->nt ok str ρ o J->ag A ρ k k'->ag A ρ (.setObj r o k) (.setObj r' J k')
 |choose {ρ:Ren} (q:Question) {k:Nat->Sem α} {k':Nat->Sem β}:(∀n,ag A ρ (k n)<|k' n)->ag A ρ (.choose q k) (.choose q k')
 |program {ρ:Ren} {k:ay->Sem α} {k':ay->Sem β}:ag A ρ (k af8) (k' P)->ag A ρ (.program k) (.program k')
 |mark {ρ:Ren} {m:Mark} {k:Sem α} {k':Sem β}:mute m->ag A ρ k k'->ag A ρ (.mark m k) (.mark m k')
 |panic {ρ:Ren} {v C:aa}:ar ok ρ v C->ag A ρ (.halt<|.panic v) (.halt<|.panic C)
 |fz {ρ:Ren} {a a' l D:av} {n:Nat} {k:aa->Sem α} {k':aa->Sem β} {j:Int->Sem α} {j':Int->Sem β}:ok.fn 1999999->dG ρ a a'->dG ρ l D->l.block=a.block->a.off+n=l.off+1->n≠0->
   (∀x,k (a1 .u8 x)=.freeze a n (j x))->(∀x,k' (a1 .u8 x)=.freeze a' n (j' x))->(∀v,(∀x,v≠.int .u8 x)->∃h,k v=.halt h/\ends h)->(∀x,ag A ρ (j x)<|j' x)->ag A ρ (.load .plain l k) (.load .plain D k')
 |halt {ρ:Ren} (h:Halt) (s:Sem β) (he:ends h:=by rfl):ag A ρ (.halt h) s
 |eq {ρ:Ren} {s t:Sem α} {s' t':Sem β}:(∀V es,s.runT af8 V es=t.runT af8 V es)->(∀W es,s'.runT P W es=t'.runT P W es)->((ok.fn 1999999->str)->ag A ρ t t')->ag A ρ s s'
end
section
variable {ok:Ctx}{ρ:Ren}
def ag.mono {A B}{s:Sem α}{s':Sem β}(h:ag af8 P ok str A ρ s s')(hB:∀σ a b,A σ a b->B σ a b):ag af8 P ok str B ρ s s':=by induction h with|pure h=>exact .pure (hB _ _ _ h)|load a _ Z=>exact .load a Z|store a v _ Z=>exact .store a v Z|new o _ Z=>exact .new o Z|shape r _ Z=>exact .shape r Z|dead s s' h=>exact .dead s s' h|getObj r _ Z=>exact .getObj r Z|setObj r o _ Z=>exact .setObj r o Z|choose q _ Z=>exact .choose q Z|program _ Z=>exact .program Z|mark hm _ Z=>exact .mark hm Z|panic h=>exact .panic h|fz a b c d e f h i k _ Z=>exact .fz a b c d e f h i k Z|eq a b _ Z=>exact .eq a b Z|halt h s he=>exact .halt h s he
def ag.bind' {A:Ren->α->β->Prop}{B:Ren->γ->δ->Prop}{s:Sem α}{s':Sem β}{f:α->Sem γ}{f':β->Sem δ}(h:ag af8 P ok str A ρ s s') (hf:∀σ a b,ρ.le σ->A σ a b->ag af8 P ok str B σ (f a) (f' b)):ag af8 P ok str B ρ (dv s f) (dv s' f'):=by induction h with|pure h=>exact hf _ _ _ (Ren.le_refl _) h|load a _ Z=>exact .load a λv C hv=>Z v C hv hf|store a v _ Z=>exact .store a v (Z hf)|new o _ Z=>exact .new o λσ b c l e=>Z σ b c l e λτ a b D h=>hf τ a b (l.trans D) h|shape r _ Z=>exact .shape r λs=>Z s hf|dead s s' h=>(refine .dead _ _ λV=>?_;have h1:=h V;show Result.stops (aV af8 (s >>= f) V)=true;rw[a0];generalize s.run af8 V=r at h1;cases r with|ok a w=>cases h1|halt x w=>exact h1)|getObj r _ Z=>exact .getObj r λo J h=>Z o J h hf|setObj r o _ Z=>exact .setObj r o (Z hf)|choose q _ Z=>exact .choose q λn=>Z n hf|program _ Z=>exact .program (Z hf)|mark hm _ Z=>exact .mark hm (Z hf)|panic h=>exact .panic h|fz a b c d e f h i k _ Z=>refine .fz a b c d e f (λx=>?_) (λx=>?_) (λv hv=>?_) λx=>Z x hf;rw[h];rfl;rw[i];rfl;let⟨y,e1,e2⟩:=k v hv;exact⟨y,by rw[e1];rfl,e2⟩|eq a b _ Z=>exact .eq (λV es=>by grind [c2]) (λW es=>by grind [c2]) λq=>Z q hf|halt h s he=>exact .halt h _ he
theorem ag.bind {A B s s'}{f:α->Sem γ}{Z:β->Sem δ}(h:ag af8 P ok str A ρ s s')
  (hf:∀σ a b,ρ.le σ->A σ a b->ag af8 P ok str B σ (f a) (Z b)):ag af8 P ok str B ρ (s >>= f) (s' >>= Z):=ag.bind' h hf
def pV (σ:Ren)(V:ao)(e:b1):Prop:=
 (e.sync=false/\∃a a',e.loc=.cell a'/\dG σ a a'/\(e.write->¬Ro V a.block))\/(e.sync=false/\∃r r',e.loc=.obj r'/\σ r=some r'/\¬Ro V r)\/∃m,mute m/\e=⟨.mark m,false,true⟩
def pV.mono {σ τ:Ren}(h:pV σ V e)(l:σ.le τ):pV τ V e:=by rcases h with⟨s,a,a',d,r,w⟩|⟨s,r,r',d,h,n⟩|h;exact au ⟨s,a,a',d,r.mono l,w⟩;exact az<|au ⟨s,r,r',d,l _ _ h,n⟩;exact az<|az h
def pV.back {σ:Ren}(h:pV σ Y e)(hb:∀b,Ro V b->Ro Y b):pV σ V e:=by rcases h with⟨s,a,a',d,r,w⟩|⟨s,r,r',d,h,n⟩|h;exact au ⟨s,a,a',d,r,λx y=>w x<|hb _ y⟩;exact az<|au ⟨s,r,r',d,h,λy=>n<|hb _ y⟩;exact az<|az h
def bw.load (h:bw ok str ρ V W)(r:dG ρ a a')(d:V.cell? a=some v):∃C,W.cell? a'=some C/\ar ok ρ v C:=by let⟨o,J,g,j,s⟩:=h.heap _ _ r.blk;unfold b8 at d⊢;rw[g]at d;rw[j];cases s with|cells w F=>simp only at d⊢;rw[r.spot,r.off];split at d;grind;rename_i E;rw[if_neg E];exact w.get d|_=>grind
def bw.far (h:bw ok str ρ V W)(r:ρ a.block=some c)(b:Bool)(p:ay):∃x,V.farLoad p a b=.error (.stuck x):=by let⟨o,J,s,h2,Z⟩:=h.heap _ _ r;unfold World.farLoad c4;rw[s];cases Z<;>exact⟨_,rfl⟩
def bw.abd (h:bw ok str ρ V W)(r:ρ a.block=some c) v (b:Bool)(p:ay):∃x,V.farStore p a v b=.error (.stuck x):=by let⟨o,J,s,h2,Z⟩:=h.heap _ _ r;unfold World.farStore c4;rw[s];cases Z<;>exact⟨_,rfl⟩
def bw.thaw (h:bw ok str ρ V W)(r:dG ρ a a')(Z:V.cell? a=some x)(hv:V.frozen? a=false):W.frozen? a'=false:=by let⟨o,J,h1,h2,h3⟩:=h.heap _ _ r.blk;unfold b8 at Z;unfold cZ at hv⊢;rw[h1]at hv Z;rw[h2];cases h3 with|@cells c c' e z z' hc s=>(rcases s with s|⟨_,s,_⟩;subst s;cases str;simp;simp only[if_true,r.off];omega;grind)|_=>rfl
def bw.shape (h:bw ok str ρ V W)(r:ρ b=some c):W.shape? c=V.shape? b:=by let⟨o,J,s,Z,h3⟩:=h.heap _ _ r;unfold World.shape?;rw[s,Z];cases h3 with|cells hc hz=>simp[hc.size]|_=>rfl
omit [Gl] in
def gq (V:ao)(a:av) v b:(V.setCell a v).heap[b]?=if a.block=b then(V.heap[b]?).map (λo=>match o with|.cells c elem frozen=>.cells (if a.spot.isSome then c else c.setIfInBounds a.off v) elem frozen|o=>o)else V.heap[b]?:=by grind [c0]
omit [Gl] in
theorem iA (V:ao)(a:av) v:(V.setCell a v)=(V:Nat):=by simp[c0]
def bw.store (h:bw ok str ρ V W)(r:dG ρ a a')(hv:ar ok ρ v C)(hx:V.cell? a=some x)(hf:V.frozen? a=false):bw ok str ρ (V.setCell a v) (W.setCell a' C):=by refine⟨λb c hb=>?_,h.tape,h.drawn,by rw[iA];exact h.gV,by rw[iA];exact h.gW,h.gs⟩;let⟨o,J,h1,h2,h3⟩:=h.heap _ _ hb;rw[gq,gq,h1,h2];by_cases e:a.block=b;(.subst e;(have Z:a'.block=c:=by have:=r.blk;grind);subst Z;rw[if_pos rfl,if_pos rfl];cases h3 with|cells hc hz=>refine⟨_,_,rfl,rfl,.cells ?_<|hz.imp id λ⟨_,h0,_⟩=>?_⟩;rotate_left;grind [World.cell?,World.frozen?];rw[r.spot,r.off];split;omega;exact hc.set hv _|stringIter s p=>exact⟨_,_,rfl,rfl,.stringIter s p⟩|loop h=>exact⟨_,_,rfl,rfl,.loop h⟩|taken=>exact⟨_,_,rfl,rfl,.taken⟩|number b h=>exact⟨_,_,rfl,rfl,.number b h⟩|deferred h=>exact⟨_,_,rfl,rfl,.deferred h⟩|map k h=>exact⟨_,_,rfl,rfl,.map k h⟩);have Z:a'.block≠c:=λe'=>e<|ρ.inj _ _ _ (e'▸r.blk) hb;grind
def Kept.store (_h:bw ok str ρ V W)(r:dG ρ a a')(hc:V.cell? a=some x)(hf:V.frozen? a=false):Kept ρ V W ρ (V.setCell a v) (W.setCell a' C):=by (have s:¬Ro V a.block:=by rintro⟨c,e,Z⟩;grind [World.cell?,World.frozen?]);refine⟨Ren.le_refl ρ,λc hc hn=>?_,λb c hb Z=>?_,by rw[iA];exact agw _,by rw[iA];exact agw _,λb c hb=>.inl hb,rfl,rfl,rfl⟩;rw[gq,if_neg (λe=>hn _<|e▸r.blk)];have e:a.block≠b:=λe=>s<|e▸Z;have ec:a'.block≠c:=λe'=>e<|ρ.inj _ _ _ (e'▸r.blk) hb;exact⟨by rw[gq,if_neg e],.of<|by rw[gq,if_neg ec]⟩
omit [Gl] in
def qL (hc:V.cell? a=some x)(s:V.frozen? a=false):¬Ro V a.block:=by rintro⟨c,e,Z⟩;grind [b8,cZ]
omit [Gl] in
theorem nW (V:ao)(a:av){n:Nat}(s:n≠0) b:(V.freeze a n).heap[b]?=if a.block=b then(V.heap[b]?).map (λo=>match o with|.cells c e (lo,hi)=>.cells c e (if lo==hi then(a.off,a.off+n)else(min lo a.off,max hi<|a.off+n))|o=>o)else V.heap[b]?:=by grind [c5]
omit [Gl] in
def Ej (V:ao)(a:av) n:(V.freeze a n)=(V:Nat)/\(V.freeze a n).tape=V.tape/\(V.freeze a n).drawn=V.drawn/\(V.freeze a n).os=V.os/\(V.freeze a n).output=V.output:=by grind [c5]
omit [Gl] in
def TS (V:ao)(a:av){n:Nat}(d:n≠0) b:bare (V.freeze a n) b=bare V b:=by grind [bare,nW]
def bw.fz (h:bw ok true ρ V W){l n x}(r:dG ρ a a')(hb:l.block=a.block)(ho:a.off+n=l.off+1)(s:n≠0)(Z:V.cell? l=some (.int .u8 x)): bw ok true ρ (V.freeze a n) (W.freeze a' n)/\Kept ρ V W ρ (V.freeze a n) (W.freeze a' n)/\∀b,Ro V b->(V.freeze a n).heap[b]?=V.heap[b]?:=by let⟨o,J,h1,h2,h3⟩:=h.heap _ _ r.blk;let⟨v0,v1,v2,v3,v4⟩:=Ej V a n;let⟨w0,w1,w2,w3,w4⟩:=Ej W a' n;unfold World.cell? at Z;rw[hb,h1]at Z;cases h3 with|@cells c c' e z z' hc hz=>(simp only at Z;split at Z;grind;have aG:=(agy.1 Z).1;(have ro:∀b,Ro V b->(V.freeze a n).heap[b]?=V.heap[b]?:=by rintro b ⟨c1,e1,hr⟩;rw[nW _ _ s];grind);refine⟨⟨λb d hd=>?_,by rw[v1,w1];exact h.tape,by rw[v2,w2];exact h.drawn,by rw[v0];exact h.gV,by rw[w0];exact h.gW,h.gs⟩,⟨Ren.le_refl ρ,λd _ hd=>?_,λb d hb hr=>⟨ro b hr,TS W a' s d,λhq=>?_⟩,ab,by rw[v0];exact agw _,λ_ _ hb=>.inl hb,w1,w3,w4⟩,ro⟩;let⟨p,p',g1,g2,g3⟩:=h.heap _ _ hd;rw[nW _ _ s,nW _ _ s];by_cases e2:a.block=b;subst e2;(have ec:a'.block=d:=by have:=r.blk;rw[hd]at this;exact(agC this).symm);subst ec;rw[if_pos rfl,if_pos rfl,h1,h2,r.off];refine⟨_,_,rfl,rfl,.cells hc ?_⟩;rcases hz with rfl|⟨_,rfl,h0⟩;exact .inl rfl;(have h3:max c.size (l.off+1)=c.size:=by omega);(have h4:¬0=c.size:=by omega);exact .inr ⟨rfl,by simp[h4,ho,h3],h0⟩;rw[if_neg e2,if_neg λ(e':a'.block=d)=>e2<|ρ.inj _ _ _ (e'▸r.blk) hd];exact⟨_,_,g1,g2,g3⟩;rw[nW _ _ s,if_neg λe'=>hd _<|e'▸r.blk];let⟨c1,e1,hq⟩:=hq;rw[nW _ _ s];by_cases e2:a'.block=d;subst e2;rw[h2]at hq;obtain⟨rfl,rfl,rfl,rfl⟩:=hq;have h0:=hc.size;(have h4:¬0=c'.size:=by omega);(have h3:max c'.size (l.off+1)=c'.size:=by omega);rw[if_pos rfl,h2];simp[h4,r.off,ho,h3];rw[if_neg e2])|_=>cases Z
def bw.lt (h:bw ok str ρ V W)(hb:ρ b=some c):b<V/\c<W:=by let⟨o,J,s,Z,_⟩:=h.heap _ _ hb;grind
def bw.fresh (h:bw ok str ρ V W)(b c)(hb:ρ b=some c):b≠V/\c≠W:=by have:=h.lt hb;omega
def bw.ext (h:bw ok str ρ V W):Ren:=ρ.ext V W h.fresh h.gV h.gW
def bw.PP (h:bw ok str ρ V W):h.ext V=some (W:Nat):=by simp[bw.ext,Ren.ext]
def bw.PR (h:bw ok str ρ V W)(hb:h.ext b=some c):(b=V/\c=W)\/(b≠V/\ρ b=some c):=by grind [bw.ext,Ren.ext]
def bw.Jk (h:bw ok str ρ V W):ρ.le h.ext:=by intro b c hb;grind [bw.ext,Ren.ext]
def bw.new (h:bw ok str ρ V W)(ho:nt ok str ρ o J): bw ok str h.ext {V with heap:=V.heap.push o} {W with heap:=W.heap.push J}/\Kept ρ V W h.ext {V with heap:=V.heap.push o} {W with heap:=W.heap.push J}:=by have s:=h.Jk;refine⟨⟨λb c hb=>?_,h.tape,h.drawn,by have:=h.gV;simp;omega,by have:=h.gW;simp;omega,⟨λg Z=>s _ _<|h.gl g Z,h.gs.2⟩⟩,s,λc hc _=>?_,λb c hb _=>?_,aN,aN,λb c hb=>?_,rfl,rfl,rfl⟩;rcases h.PR hb with⟨rfl,rfl⟩|⟨e,hb⟩;exact⟨o,J,aN,aN,ho.mono s⟩;let⟨x,A,h1,h2,h3⟩:=h.heap _ _ hb;refine⟨x,A,?_,?_,h3.mono s⟩<;>grind;grind;have hl:=h.lt hb;exact⟨by grind,.of<|by grind⟩;rcases h.PR hb with⟨rfl,rfl⟩|⟨e,hb⟩<;>grind
def bw.getObj (h:bw ok str ρ V W)(hb:ρ b=some c)(ho:V.heap[b]?=some o):∃J,W.heap[c]?=some J/\nt ok str ρ o J:=by let⟨x,A,s,Z,h3⟩:=h.heap _ _ hb;grind
def bw.setObj (h:bw ok str ρ V W)(hb:ρ b=some c)(ho:nt ok str ρ o J): bw ok str ρ {V with heap:=V.heap.setIfInBounds b o} {W with heap:=W.heap.setIfInBounds c J}:=by refine⟨λB Z s=>?_,h.tape,h.drawn,by simpa using h.gV,by simpa using h.gW,h.gs⟩;let⟨x,A,h1,h2,h3⟩:=h.heap _ _ s;simp;by_cases e:b=B;grind;have ec:c≠Z:=λe'=>e<|ρ.inj _ _ _ (e'▸hb) s;grind
def Kept.setObj (_h:bw ok str ρ V W)(hb:ρ b=some c){x}(hx:V.heap[b]?=some x)(hn:∀cs e z,x≠.cells cs e z): Kept ρ V W ρ {V with heap:=V.heap.setIfInBounds b o} {W with heap:=W.heap.setIfInBounds c J}:=by refine⟨Ren.le_refl ρ,λs _ Fu=>?_,λB s dr Z=>?_,aN,aN,λ_ _ hb=>.inl hb,rfl,rfl,rfl⟩;grind;(have e:b≠B:=by let⟨cs,e,Z⟩:=Z;grind);have ec:c≠s:=λe'=>e<|ρ.inj _ _ _ (e'▸hb) dr;exact⟨by grind,.of<|by grind⟩
inductive O9 (ok:Ctx)(str:Bool){α β:Type}(A:Ren->α->β->Prop)(σ:Ren):Result α->Result β->ao->ao->Prop
 |ok {a:α} {b:β} {V W:ao}:A σ a b->bw ok str σ V W->O9 ok str A σ (.ok a V) (.ok b W) V W
 |panic {v C:aa} {V W:ao}:ar ok σ v C->bw ok str σ V W->O9 ok str A σ (.halt (.panic v) V) (.halt (.panic C) W) V W
def ag.sound {A:Ren->α->β->Prop}{s:Sem α}{s':Sem β}(h:ag af8 P ok str A ρ s s'): ∀{V W:ao} (es Z:Array b1) {r:Result α} {e1:Array b1},bw ok str ρ V W->s.runT af8 V es=(r,e1)->Result.stops r\/∃σ r' V' W' d',s'.runT P W Z=(r',Z++d')/\O9 ok str A σ r r' V' W'/\Kept ρ V W σ V' W'/\∀e∈d',pV σ V e:=by
 induction h with
 |@pure ρ a b hA=>intro V W es Z x e1 hw hr;simp at hr;obtain⟨rfl,_⟩:=hr;exact az ⟨ρ,_,V,W,#[],cQ,.ok hA hw,Kept.refl _ _ _,aN⟩|@load ρ a a' k k' ra _ ih=>intro V W es Z x e1 hw hr;simp only[ax]at hr;rcases hc:V.cell? a with _|v;rw[hc]at hr;let⟨y,hy⟩:=hw.far ra.blk (bi==bb) af8;simp[hy,a7]at hr;exact Oy;rw[hc]at hr;let⟨C,Gg,rv⟩:=hw.load ra hc;rcases ih v C rv _ (Z.push ⟨.cell a',false,false⟩) hw hr with h|⟨σ,b,V',W',d',h1,h2,h4,h5⟩;grind;refine az ⟨σ,b,V',W',#[⟨.cell a',false,false⟩]++d',?_,h2,h4,λe he=>?_⟩;simp only[ax,Gg];rw[show(bi==bb)=false from rfl,h1];simp;rcases bm.1 he with he|he;rw[bk]at he;subst he;exact au ⟨rfl,a,a',rfl,ra.mono h4.le,λe=>cQ⟩;grind
 |@store ρ a a' v C k k' ra rv _ ih=>
  intro V W es Z x e1 hw hr;by_cases hn:(∃cs,v=bE cs)\/(∃cs,v=bj cs);rcases hn with⟨cs,rfl⟩|⟨cs,rfl⟩;exact WF;exact WF;have n1:∀cs,v≠.agg cs:=λcs e=>hn<|au ⟨cs,e⟩;have n2:∀cs,v≠.tuple cs:=λcs e=>hn<|az ⟨cs,e⟩;have bl:∀cs,C≠.agg cs:=by rintro cs rfl;cases rv with|hole h=>cases h|agg _ _=>exact n1 _ rfl
  have bq:∀cs,C≠.tuple cs:=by rintro cs rfl;cases rv with|hole h=>cases h|tuple _ _=>exact n2 _ rfl
  have gm:(match V.cell? a with
   |some _=>if V.frozen? a then(Result.halt (.unsupported<|.unsafePointer "a write to bytes that a string shares") V,es)else k.runT af8 (V.setCell a v) (es.push ⟨.cell a,true,false⟩)
   |none=>match V.farStore af8 a v (bi==bb)with
    |.ok (w,Fi)=>k.runT af8 w (es++Fi.toArray.map (⟨.cell ·,true,bi==bb⟩))
    |.error h=>(.halt h V,es))=(x,e1):=by
   rw[<-hr];cases v<;>first|exact absurd rfl (n1 _)|exact absurd rfl (n2 _)|(simp[ax];rfl)
  rcases hc:V.cell? a with _|y;rw[hc]at gm;let⟨y,hy⟩:=hw.abd ra.blk v (bi==bb) af8;simp[hy,a7]at gm;obtain⟨rfl,_⟩:=gm;exact au rfl;rw[hc]at gm;simp only at gm;cases hf:V.frozen? a;rw[hf]at gm;rcases ih _ (Z.push ⟨.cell a',true,false⟩) (hw.store ra rv hc hf) gm with h|⟨σ,b,V',W',d',h1,h2,h4,h5⟩;exact au h;let⟨f,Tl,_⟩:=hw.load ra hc;refine az ⟨σ,b,V',W',#[⟨.cell a',true,false⟩]++d',?_,h2,(Kept.store hw ra hc hf).trans h4,λe he=>?_⟩;have:(Sem.store .plain a' C k').runT P W Z=k'.runT P (W.setCell a' C) (Z.push ⟨.cell a',true,false⟩):=by cases C<;>first|exact absurd rfl (bl _)|exact absurd rfl (bq _)|(simp[ax,Tl,(hw.thaw ra hc hf)];rfl)
  rw[this,h1];simp;rcases bm.1 he with he|he;rw[bk]at he;subst he;exact au ⟨rfl,a,a',rfl,ra.mono h4.le,λ_=>qL hc hf⟩;refine(h5 e he).back λb aG=>?_;let⟨c,el,aG⟩:=aG;have aZ:a.block≠b:=λe'=>qL hc hf<|e'▸⟨c,el,aG⟩;exact⟨c,el,by rw[gq,if_neg aZ];exact aG⟩;rw[hf]at gm;simp at gm;obtain⟨rfl,_⟩:=gm;exact au rfl
 |@new ρ o J k k' ro _ ih=>intro V W es Z x e1 hw hr;simp only[ax]at hr;let⟨Gi,BH⟩:=hw.new ro;rcases ih _ V W hw.Jk hw.PP _ Z Gi hr with h|⟨σ,b,V',W',d',h1,h2,h4,h5⟩;exact au h;refine az ⟨σ,b,V',W',d',by simp only[ax];exact h1,h2,BH.trans h4,λe he=>(h5 e he).back λb aG=>?_⟩;let⟨c,el,aG⟩:=aG;refine⟨c,el,?_⟩;have:=(agy.1 aG).1;simp;rw[cq,if_neg ab];exact aG
 |@shape ρ r r' k k' gm _ ih=>intro V W es Z x e1 hw hr;simp only[ax]at hr⊢;rw[hw.shape gm];exact ih _ _ Z hw hr|dead s s' h=>intro V W es Z x e1 hw hr;exact Yy|@getObj ρ r r' k k' gm _ ih=>intro V W es Z x e1 hw hr;rcases ho:V.heap[r]? with _|o;simp only[ax,ho,a7]at hr;obtain⟨rfl,_⟩:=hr;exact au rfl;let⟨J,JA,ro⟩:=hw.getObj gm ho;rcases ro.kinds with⟨⟨c,e,z,rfl⟩,_⟩|⟨n1,n2⟩;simp only[ax,ho,a7]at hr;obtain⟨rfl,_⟩:=hr;exact au rfl;(have oC:(k o).runT af8 V (es.push ⟨.obj r,false,o.isChan⟩)=(x,e1):=by rw[<-hr];cases o<;>first|exact absurd rfl (n1 _ _ _)|simp only[ax,ho]);rcases ih _ _ ro _ (Z.push ⟨.obj r',false,J.isChan⟩) hw oC with h|⟨σ,b,V',W',d',h1,h2,h4,h5⟩;exact au h;refine az ⟨σ,b,V',W',#[⟨.obj r',false,J.isChan⟩]++d',?_,h2,h4,λe he=>?_⟩;(have:(Sem.getObj r' k').runT P W Z=(k' J).runT P W (Z.push ⟨.obj r',false,J.isChan⟩):=by cases J<;>first|exact absurd rfl (n2 _ _ _)|simp only[ax,JA]);rw[this,h1];simp;rcases bm.1 he with he|he;rw[bk]at he;subst he;exact az<|au ⟨ro.chan,r,r',rfl,h4.le _ _ gm,λ⟨c,e,z⟩=>n1 _ _ _<|agC<|ho.symm.trans z⟩;exact h5 e he
 |@setObj ρ r r' o J k k' gm ro _ ih=>intro V W es Z x e1 hw hr;rcases hx:V.heap[r]? with _|y;simp[ax,hx,a7]at hr;obtain⟨rfl,_⟩:=hr;exact au rfl;let⟨f,Tl,ry⟩:=hw.getObj gm hx;rcases ry.kinds with⟨⟨c,e,z,rfl⟩,_⟩|⟨n1,n2⟩;simp[ax,hx,a7]at hr;obtain⟨rfl,_⟩:=hr;exact au rfl;(have oC:k.runT af8 {V with heap:=V.heap.setIfInBounds r o} (es.push ⟨.obj r,true,o.isChan⟩)=(x,e1):=by rw[<-hr];cases y<;>first|exact absurd rfl (n1 _ _ _)|simp[ax,hx]);rcases ih _ (Z.push ⟨.obj r',true,J.isChan⟩) (hw.setObj gm ro) oC with h|⟨σ,b,V',W',d',h1,h2,h4,h5⟩;exact au h;refine az ⟨σ,b,V',W',#[⟨.obj r',true,J.isChan⟩]++d',?_,h2,(Kept.setObj hw gm hx n1).trans h4,λe he=>?_⟩;(have:(Sem.setObj r' J k').runT P W Z=k'.runT P {W with heap:=W.heap.setIfInBounds r' J} (Z.push ⟨.obj r',true,J.isChan⟩):=by cases f<;>first|exact absurd rfl (n2 _ _ _)|simp[ax,Tl]);rw[this,h1];simp;rcases bm.1 he with he|he;rw[bk]at he;subst he;exact az<|au ⟨ro.chan,r,r',rfl,h4.le _ _ gm,λ⟨c,e,z⟩=>n1 _ _ _<|agC<|hx.symm.trans z⟩;refine(h5 e he).back λb aG=>?_;let⟨c,el,aG⟩:=aG;refine⟨c,el,?_⟩;(have aZ:r≠b:=by rintro rfl;rw[hx]at aG;exact n1 _ _ _<|agC aG);simp[cl];rw[if_neg aZ];exact aG
 |@choose ρ q k k' _ ih=>intro V W es Z x e1 hw hr;simp only[ax]at hr⊢;split at hr;rename_i hq;rw[if_pos hq];exact ih _ _ Z hw hr;rename_i hq;(have e:W.tape W.drawn q=V.tape V.drawn q:=by rw[hw.tape,hw.drawn]);rw[if_neg hq,e];have bx:bw ok str ρ {V with drawn:=V.drawn+1} {W with drawn:=W.drawn+1}:=⟨hw.heap,hw.tape,by simp[hw.drawn],hw.gV,hw.gW,hw.gs⟩;rcases ih _ _ Z bx hr with h|⟨σ,b,V',W',d',h1,h2,h4,h5⟩;exact au h;exact az ⟨σ,b,V',W',d',h1,h2,⟨h4.le,h4.keep,h4.ro,h4.size,h4.Dy,h4.new,h4.tape,h4.os,h4.out⟩,h5⟩
 |@program ρ k k' _ ih=>intro V W es Z x e1 hw hr;simp only[ax]at hr⊢;exact ih _ Z hw hr|@mark ρ m k k' hm _ ih=>intro V W es Z x e1 hw hr;simp only[ax]at hr;rcases ih _ (Z.push ⟨.mark m,false,true⟩) hw hr with h|⟨σ,b,V',W',d',h1,h2,h4,h5⟩;exact au h;refine az ⟨σ,b,V',W',#[⟨.mark m,false,true⟩]++d',?_,h2,h4,λe he=>?_⟩;simp only[ax];rw[h1];simp;rcases bm.1 he with he|he;rw[bk]at he;exact az<|az ⟨m,hm,he⟩;exact h5 e he
 |@panic ρ v C hv=>intro V W es Z x e1 hw hr;simp at hr;obtain⟨rfl,_⟩:=hr;exact az ⟨ρ,_,V,W,#[],by simp[ax],.panic hv hw,Kept.refl _ _ _,aN⟩|@eq ρ s t s' t' a b _ ih=>intro V W es Z x e1 hw hr;rw[a]at hr;simp only[b];exact ih hw.gs.2 _ Z hw hr|@fz ρ a a' l D n k k' j j' dZ ra rl hb ho hn hk vU hh _ ih=>intro V W es Z x e1 hw hr;obtain rfl:=hw.gs.2 dZ;simp only[ax]at hr;rcases hc:V.cell? l with _|v;rw[hc]at hr;let⟨y,hy⟩:=hw.far rl.blk (bi==bb) af8;simp[hy,a7]at hr;exact Oy;rw[hc]at hr;by_cases hv:∃x,v=a1 .u8 x;obtain⟨x,rfl⟩:=hv;let⟨C,Gg,rv⟩:=hw.load rl hc;cases rv;let⟨Gi,BH,aG⟩:=hw.fz ra hb ho hn hc;simp only[hk,ax]at hr;rcases ih x _ (Z.push ⟨.cell D,false,false⟩) Gi hr with h|⟨σ,b,V',W',d',h1,h2,h4,h5⟩;exact au h;refine az ⟨σ,b,V',W',#[⟨.cell D,false,false⟩]++d',?_,h2,BH.trans h4,λe he=>?_⟩;simp only[ax,Gg,vU];rw[show(bi==bb)=false from rfl,h1];simp;rcases bm.1 he with he|he;rw[bk]at he;subst he;exact au ⟨rfl,l,D,rfl,rl.mono h4.le,λe=>by cases e⟩;exact(h5 e he).back λb ⟨c,el,h0⟩=>⟨c,el,(aG b ⟨c,el,h0⟩).trans h0⟩;let⟨y,e2,e3⟩:=hh v λx e=>hv ⟨x,e⟩;simp only[e2,ax,a7]at hr;obtain⟨rfl,_⟩:=hr;exact au e3
 |halt h s he=>intro V W es Z x e1 hw hr;simp at hr;obtain⟨rfl,_⟩:=hr;exact au he
end
end
section
def kY (x9:p:=by exact .halt _ _):p:=x9
variable [Gl]
def wh:aa->Bool
 |a4 _|a1 _ _|.string _|a2 none|bn none _ _|.nilFunc|.nilIface=>true
 |_=>false
def EZ:aa->Bool
 |bE cs=>cs.all wh
 |bj cs=>cs.all wh
 |v=>wh v
def q9 {ok}{ρ:Ren}(h:wh v):ar ok ρ v v:=by match v,h with|.bool b,_=>exact .bool b|.int k n,_=>exact .int k n|.string s,_=>exact .string s|.pointer none,_=>exact .kX|.slice none l c,_=>exact .dj l c|.nilFunc,_=>exact .nilFunc|.nilIface,_=>exact .nilIface
def xL {ok}{ρ:Ren}(h:cs.all wh):aB ok ρ cs cs:=by refine⟨rfl,λi x A d g=>?_⟩;rw[d]at g;cases g;rw[cB]at h;obtain⟨j,rfl⟩:=agy.1 d;exact q9<|h i j
def tT {ok}{ρ:Ren}(h:EZ v):ar ok ρ v v:=by cases v with|agg cs=>exact .agg rfl (xL h).at_|tuple cs=>exact .tuple rfl (xL h).at_|_=>exact q9 h
inductive iP (ok:Ctx)(ρ:Ren):List aa->List aa->Prop
 |nil:iP ok ρ [] []
 |cons {v C:aa} {l D:List aa}:ar ok ρ v C->iP ok ρ l D->iP ok ρ (v::l) (C::D)
def iP.mono {ok}{ρ σ:Ren}(h:iP ok ρ l D)(d:ρ.le σ):iP ok σ l D:=by induction h with|nil=>exact .nil|cons h _ g=>exact .cons (h.mono d) g
def Fz (P:ay)(t:ac):Bool:=match P.info? t with|some i=>(match i.zero with|some v=>EZ v|none=>true)|none=>true
def Iv (P:ay)(t:ac):Bool:=match P.underlying t with|some (.slice e)=>Fz P e|_=>true
section
variable {ok:Ctx}{ρ:Ren}
def aB.list (h:aB ok ρ xs u):iP ok ρ xs.toList u.toList:=by (have:∀(l D:List aa),l.length=D.length->(∀(i:Nat) (x A:aa),l[i]?=some x->D[i]?=some A->ar ok ρ x A)->iP ok ρ l D:=by intro l;induction l with|nil=>(intro D e _;rcases D with _|⟨_,_⟩;exact .nil;grind)|cons a l g=>intro D e d;rcases D with _|⟨b,D⟩;grind;exact .cons (d 0 a b rfl rfl)<|g D cQ λi x A j k=>d (i+1) x A zc zc);exact this _ _ (by rw[ct,ct];exact h.size) λi x A j k=>h.at_ i x A cQ cQ
def iP.array (h:iP ok ρ l D):aB ok ρ l.toArray D.toArray:=by induction h with|nil=>exact aB.nil|@cons a b l D h _ d=>have:=(aB.nil.push h).append d;grind
omit [Gl] in
theorem tS (d:af8.toTables=P.toTables)(t:ac):af8.underlying t=P.underlying t:=by grind [co]
def mE {A:Ren->α->β->Prop}{d:String}{s:Sem β}:ag af8 P ok str A ρ (a6 d:Sem α) s:=.halt _ _
def Sf {A:Ren->α->β->Prop}{u:Unsupported}{s:Sem β}(hu:ends (.unsupported u):=by rfl):ag af8 P ok str A ρ (bs u:Sem α) s:=.halt _ _ hu
def ah {A a b}(h:A ρ a b):ag af8 P ok str A ρ (pure a:Sem α) (pure b:Sem β):=.pure h
def af (A){B s s'}{f:α->Sem γ}{Z:β->Sem δ}(h:ag af8 P ok str A ρ s s')
  (hf:∀σ a b,ρ.le σ->A σ a b->ag af8 P ok str B σ (f a) (Z b)):ag af8 P ok str B ρ (s >>= f) (s' >>= Z):=ag.bind h hf
def aW {B a b}{f:α->Sem γ}{s:β->Sem δ}(h:ag af8 P ok str B ρ (f a) (s b)):ag af8 P ok str B ρ (pure a >>= f) (pure b >>= s):=h
def bP (d:af8.toTables=P.toTables)(t):ag af8 P ok str (λ_ x y=>x=y/\P.info? t=some x) ρ (typeInfo t) (typeInfo t):=by refine ag.program ?_;show ag af8 P ok str _ ρ (match af8.info? t with|some i=>pure i|none=>a6 "no such type") (match P.info? t with|some i=>pure i|none=>a6 "no such type");rw[d];rcases h:P.info? t with _|i;exact mE;exact ah ⟨rfl,rfl⟩
def ap (d:af8.toTables=P.toTables)(t:ac):ag af8 P ok str (λ_ x y=>x=y/\P.underlying t=some x) ρ (bO t) (bO t):=by refine ag.program ?_;show ag af8 P ok str _ ρ (match af8.underlying t with|some i=>pure i|none=>a6 "no such type") (match P.underlying t with|some i=>pure i|none=>a6 "no such type");rw[tS d];rcases h:P.underlying t with _|i;exact mE;exact ah ⟨rfl,rfl⟩
def dm (d:af8.toTables=P.toTables)(t:ac):ag af8 P ok str (λ_ x y=>x=y/\∃i,P.info? t=some i/\i.size=x) ρ (bW t) (bW t):=by refine af _ (bP d t) ?_;rintro σ a b _ ⟨rfl,h⟩;exact ah ⟨rfl,a,h,rfl⟩
def H0 (d:af8.toTables=P.toTables)(t):ag af8 P ok str (λ_ x y=>x=y) ρ (isAgg t) (isAgg t):=by refine af _ (ap d t) ?_;rintro σ a b _ ⟨rfl,h⟩;split<;>exact ah rfl
def kq (g:af8.toTables=P.toTables)(t:ac)(d:Fz P t):ag af8 P ok str (ar ok) ρ (bS t) (bS t):=by refine af _ (bP g t) ?_;rintro σ a b _ ⟨rfl,h⟩;unfold Fz at d;rw[h]at d;simp at d;rcases e:a.zero with _|v;exact Sf;rw[e]at d;exact ah<|tT d
def Fa (r:dG ρ a a'):ag af8 P ok str (ar ok) ρ (load a) (load a'):=.load r λ_ _ h=>.pure h
def Sc (r:dG ρ a a')(h:ar ok ρ v C):ag af8 P ok str (λ_ _ _=>True) ρ (store a v) (store a' C):=.store r h<|.pure trivial
def H4  n:∀{ρ:Ren} (_:dG ρ a a') i {d g:Array aa},aB ok ρ d g->ag af8 P ok str (λσ x y=>aB ok σ x y) ρ (dd a i n d) (dd a' i n g):=by induction n with|zero=>intro ρ r i d g h;exact ah h|succ n j=>intro ρ r i d g h;exact af _ (Fa<|r.add i)<|λσ x y l k=>j (r.mono l) _<|(h.mono l).push k
def pH (r:dG ρ a a') n:ag af8 P ok str (λσ x y=>aB ok σ x y) ρ (loadCells a n) (loadCells a' n):=H4 n r 0 aB.nil
def iC:∀(g d:List aa) {ρ:Ren} (_:dG ρ a a') i,iP ok ρ g d->ag af8 P ok str (λ_ _ _=>True) ρ (dz a g i) (dz a' d i):=by intro g;induction g with|nil=>intro d ρ r i h;cases h;exact ah trivial|cons v g j=>intro d ρ r i h;cases h with|cons k h=>rename_i C d;exact af _ (Sc (r.add i) k)<|λσ x y l _=>j d (r.mono l) _<|h.mono l
def tO (d:af8.toTables=P.toTables)(t:ac)(r:dG ρ a a'):ag af8 P ok str (ar ok) ρ (bV t a) (bV t a'):=by refine af _ (H0 d t) ?_;rintro σ x y l rfl;split;refine af _ (dm d t) ?_;rintro τ n m D ⟨rfl,_⟩;exact af _ (pH ((r.mono l).mono D) n)<|λυ cs cs' _ h=>ah<|.agg h.size h.at_;exact Fa<|r.mono l
def Ia (g:af8.toTables=P.toTables)(t)(r:dG ρ a a')(d:ar ok ρ v C):ag af8 P ok str (λ_ _ _=>True) ρ (storeVar t a v) (storeVar t a' C):=by refine af _ (dm g t) ?_;rintro σ n m l ⟨rfl,_⟩;rw[d.cells.size];split;exact kY;exact iC _ _ (r.mono l) 0 (d.mono l).cells.list
def lP (t:ac)(h:aB ok ρ cs cs'):ag af8 P ok str (λσ x y=>dG σ x y) ρ (bX t cs) (bX t cs'):=ag.new (.cells h<|au cQ)<|λσ b c _ e=>.pure ⟨e,rfl,rfl⟩
def aeR:dp->Bool
 |.bounds ..|.error _|.plain _|.nilDeref=>true
 |_=>false
def im (Z:af8.toTables=P.toTables){A:Ren->α->β->Prop}(e:dp)(he:aeR e):ag af8 P ok str A ρ (dq e:Sem α) (dq e:Sem β):=by refine ag.program<|aW ?_;rw[Z];cases e with|bounds x y s c=>exact .panic (.iface _<|tT<|by simp[EZ,wh])|error m=>exact .panic (.iface _<|.string _)|plain m=>exact .panic (.iface _<|.string _)|nilDeref=>exact .panic (.iface _<|.string _)|_=>cases he
def vp (h:ar ok ρ v C):ag af8 P ok str (λσ x y=>dG σ x y) ρ (cO v) (cO C):=by cases h with|ptr r=>exact ah r|_=>exact .halt _ _
def ws (d:af8.toTables=P.toTables)(h:ar ok ρ v C):ag af8 P ok str (λσ x y=>dG σ x y) ρ (b0 v) (b0 C):=by cases h with|ptr r=>exact ah r|kX=>exact im d .nilDeref rfl|_=>exact .halt _ _
def pG (h:ar ok ρ v C):ag af8 P ok str (λ_ x y=>x=y) ρ (asIntOf v) (asIntOf C):=by cases h with|int k n=>exact ah rfl|_=>exact .halt _ _
def kN (h:ar ok ρ v C):ag af8 P ok str (λ_ x y=>x=y) ρ (asInt v) (asInt C):=by refine af _ (pG h) ?_;rintro σ x y _ rfl;exact ah rfl
def DD (h:ar ok ρ v C):ag af8 P ok str (λ_ x y=>x=y) ρ (asBool v) (asBool C):=by cases h with|bool b=>exact ah rfl|_=>exact .halt _ _
def oq (s:af8.toTables=P.toTables){A:Ren->α->β->Prop}(k:a5)(x y:Int)(c:bR):ag af8 P ok str A ρ (bt k x y c:Sem α) (bt k x y c:Sem β):=by unfold bt;dsimp only;split;exact ag.choose _ λn=>im s (.bounds _ y _ c) rfl;exact im s (.bounds _ y _ c) rfl
def Ky (hT:af8.toTables=P.toTables)(s:ac) f (hf:∀Z x i,P.underlying s=some (.struct Z)->Z[f]?=some x->P.info? x.type=some i->i.size≠0)(h:ar ok ρ v C): ag af8 P ok str (ar ok) ρ (cP s v f) (cP s C f):=by refine af _ (ap hT s) ?_;rintro σ d _ l ⟨rfl,hd⟩;split;rename_i Z;rcases e:Z[f]? with _|x;exact mE;refine af _ (vp<|h.mono l)<|λτ a a' D r=>af (λσ x y=>dG σ x y) ?_ λυ b B _ rb=>ah<|.ptr rb;refine af _ (dm hT _) ?_;rintro υ n _ aG ⟨rfl,i,hi,hn⟩;have:=hf Z x i hd e hi;rw[if_neg ab,if_neg ab];exact ah<|(r.mono aG).add _;exact mE
def Kz (hT:af8.toTables=P.toTables)(t:ac){i:aa}(h:ar ok ρ v C)(hi:ar ok ρ i U):ag af8 P ok str (ar ok) ρ (cS t v i) (cS t C U):=by
 refine af _ (pG hi) ?_;rintro σ ⟨k,n⟩ _ l rfl;refine af _ (ap hT t) ?_;rintro τ d _ l1 ⟨rfl,hd⟩;have h':=(h.mono l).mono l1;have aG:∀{φ:Ren} {a a':av} (Z:Nat) (s:ac) (aZ:Bool),dG φ a a'->ag af8 P ok str (ar ok) φ
   (if 0<=n/\n<(Z:Int)then(do pure (a2<|some<|a.add<|n.toNat*(<-bW s)))else if aZ=true then bs (.noEntry "op/indexAddr.an index out of range at an array of length 0 or 1 (ledger 616)")else bt k n Z .index)
   (if 0<=n/\n<(Z:Int)then(do pure (a2<|some<|a'.add<|n.toNat*(<-bW s)))else if aZ=true then bs (.noEntry "op/indexAddr.an index out of range at an array of length 0 or 1 (ledger 616)")else bt k n Z .index):=by
  intro φ a a' Z s aZ r;split
  .refine af _ (dm hT _) ?_;rintro ψ m _ l4 ⟨rfl,_⟩;exact ah<|.ptr<|(r.mono l4).add _
  .split
   .exact kY
   exact oq hT _ _ _ _
 cases d with|array Z s=>refine af _ (vp h')<|λυ a a' l2 r=>aW<|af _ (ap hT t) ?_;rintro φ d' _ l3 ⟨rfl,_⟩;exact aG Z s _ (r.mono l3)|slice s=>(cases h' with|dj Z c=>refine aW<|af _ (ap hT t) ?_;rintro φ d' _ l3 ⟨rfl,_⟩;exact oq hT _ _ _ _|slice Z c r=>refine aW<|af _ (ap hT t) ?_;rintro φ d' _ l3 ⟨rfl,_⟩;exact aG Z s _ (r.mono l3)|_=>exact .halt _ _)|_=>exact .halt _ _
end
end
section
variable [Gl]
section
variable {ok:Ctx}{ρ:Ren}
def We {f:α->Sem γ}(h:∀{σ:Ren} a,ag af8 P ok str (λ_ x y=>x=y) σ (f a)<|f a):∀(l:List α) {ρ:Ren},ag af8 P ok str (λ_ x y=>x=y) ρ (l.mapM f) (l.mapM f):=by intro l;induction l with|nil=>exact ah rfl|cons a l s=>simp;refine af _ (h a) ?_;rintro σ x _ _ rfl;refine af _ s ?_;rintro τ xs _ _ rfl;exact ah rfl
def R8 {f:α->Sem γ}(h:∀{σ:Ren} a,ag af8 P ok str (λ_ x y=>x=y) σ (f a)<|f a)(l:Array α):ag af8 P ok str (λ_ x y=>x=y) ρ (l.mapM f) (l.mapM f):=by rw[Array.mapM_eq_mapM_toList];refine af _ (We h _) ?_;rintro σ x _ _ rfl;exact ah rfl
def PY off:∀{l D:List aa} (_:iP ok ρ l D) k {cs cs':Array aa},aB ok ρ cs cs'->aB ok ρ ((l.zipIdx k).foldl (λcs (x:aa×Nat)=>cs.setIfInBounds (off+x.2) x.1) cs) ((D.zipIdx k).foldl (λcs (x:aa×Nat)=>cs.setIfInBounds (off+x.2) x.1) cs'):=by intro l D h;induction h with|nil=>simp_all|cons d _ g=>intro k cs cs' j;exact g _<|j.set d _
def zt (d:Nat->Option (Nat×Nat)):∀{l D:List (Nat×aa)} {cs cs':Array aa},l.map (·.1)=D.map (·.1)->iP ok ρ (l.map (·.2)) (D.map (·.2))->aB ok ρ cs cs'->(be d cs l=none/\be d cs' D=none)\/∃r r',be d cs l=some r/\be d cs' D=some r'/\aB ok ρ r r':=by intro l;induction l with|nil=>(intro D cs cs' e _ g;rcases D with _|⟨_,_⟩;exact az ⟨cs,cs',rfl,rfl,g⟩;grind)|cons a l s=>intro D cs cs' e h g;rcases D with _|⟨b,D⟩;grind;let⟨i,v⟩:=a;let⟨U,C⟩:=b;simp at e;obtain⟨rfl,e⟩:=e;cases h with|cons k h=>unfold be;rcases w:d i with _|x;grind;let⟨j,m⟩:=x;simp only;rw[<-k.cells.size,<-g.size];split;grind;refine s e h ?_;have:=PY j k.cells.list 0 g;rw[<-cu,<-cu,cw,cw]at this;exact this
def DF (t)(h:ar ok ρ v C):ag af8 P ok str (λσ x y=>dG σ x y) ρ (newVar t v) (newVar t C):=lP t h.cells
def aal (t:ac)(h:ar ok ρ v C):ag af8 P ok str (ar ok) ρ (db t v) (db t C):=by exact af _ (DF t h)<|λσ a a' _ r=>ah<|.ptr r
def RY (d:af8.toTables=P.toTables)(t:ac)(g:Fz P t):ag af8 P ok str (ar ok) ρ (c6 t true<|bj #[]) (c6 t true<|bj #[]):=by exact af _ (kq d t g)<|λσ v C _ h=>af _ (DF t h)<|λτ a a' _ r=>ah<|.ptr r
def R1 (Q:af8.toTables=P.toTables)(t:ac)(hz:Fz P t){l D:Array (Nat×aa)}(e:l.toList.map (·.1)=D.toList.map (·.1))(h:iP ok ρ (l.toList.map (·.2)) (D.toList.map (·.2))): ag af8 P ok str (ar ok) ρ (c7 t l) (c7 t D):=by refine af _ (kq Q t hz)<|λσ z z' Z OX=>af _ (ap Q t) ?_;rintro τ d _ S ⟨rfl,hd⟩;cases d with|struct g=>(refine af _ (R8 (λa=>?_) g) ?_;refine af _ (dm Q _) ?_;rintro υ n _ _ ⟨rfl,_⟩;exact ah rfl;rintro υ j _ E rfl;rcases zt (λx=>j[x]?) e ((h.mono<|Z.trans S).mono E) ((OX.mono<|S.trans E).cells)with⟨w,F⟩|⟨r,r',w,F,L⟩;simp[w];exact mE;simp[w,F];exact ah<|.agg L.size L.at_)|array n elem=>(refine af _ (dm Q _) ?_;rintro υ s _ E ⟨rfl,_⟩;rcases zt (λi=>some (i*s,s)) e ((h.mono<|Z.trans S).mono E) ((OX.mono<|S.trans E).cells)with⟨w,F⟩|⟨r,r',w,F,L⟩;simp[w];exact mE;simp[w,F];exact ah<|.agg L.size L.at_)|_=>exact .halt _ _
def A8 {z d:Array aa}(h:aB ok ρ z d) n:aB ok ρ ((bN n).map (z[·%z.size]!)) ((bN n).map (d[·%d.size]!)):=by refine aB.map (λi=>?_) _;rw[h.size.symm];simp only[Array.getElem!_eq_getD];rcases g:z[i%z.size]? with _|x;rw[cn,cn,g,h.none g];exact q9 rfl;let⟨A,j,r⟩:=h.get g;simp_all
def Ci (F:af8.toTables=P.toTables)(t:ac) n (hz:Iv P t){l D:Array (Nat×aa)}(e:l.toList.map (·.1)=D.toList.map (·.1))(h:iP ok ρ (l.toList.map (·.2)) (D.toList.map (·.2))): ag af8 P ok str (ar ok) ρ (cF t n l) (cF t n D):=by
 refine af _ (ap F t) ?_;rintro τ d _ l1 ⟨rfl,hd⟩;cases d with
 |slice s=>
  have OX:Fz P s=true:=by unfold Iv at hz;grind
  refine af _ (dm F _) ?_;rintro υ g _ Z ⟨rfl,_⟩;have w:∀{φ:Ren} {z E:Array aa},τ.le φ->aB ok φ z E->ag af8 P ok str (ar ok) φ
    (match be (λi=>some (i*g,g)) ((bN<|n*g).map (z[·%z.size]!)) l.toList with|some j=>(do pure (.slice (some<|<-bX s j) n n))|_=>a6 "buildSlice: a part of the wrong size")
    (match be (λi=>some (i*g,g)) ((bN<|n*g).map (E[·%E.size]!)) D.toList with|some j=>(do pure (.slice (some<|<-bX s j) n n))|_=>a6 "buildSlice: a part of the wrong size"):=by
   intro φ z E L Q;rcases zt (λi=>some (i*g,g)) e (h.mono<|l1.trans L) (A8 Q<|n*g)with⟨S,h2⟩|⟨r,r',S,h2,h3⟩
   .simp[S];exact mE
   .simp[S,h2];exact af _ (lP s h3)<|λψ a a' _ r=>ah<|.slice _ _ r
  dsimp only;split;exact kY;split;exact w Z aB.nil;exact af _ (kq F _ OX)<|λφ z E l3 Q=>w (Z.trans l3) Q.cells
 |_=>exact .halt _ _
def mC n:ag af8 P ok str (λ_ _ _=>True) ρ (ce n) (ce n):=by unfold ce;split;exact ag.mark rfl<|.pure trivial;exact ah trivial
def Fb (j:af8.toTables=P.toTables)(t)(F:Iv P t){a a' b B}(h:ar ok ρ a a')(L:ar ok ρ b B):ag af8 P ok str (ar ok) ρ (Instr.makeSlice t a b) (Instr.makeSlice t a' B):=by refine af _ (ap j t) ?_;rintro σ d _ w ⟨rfl,hd⟩;cases d with|slice g=>(have Q:Fz P g=true:=by unfold Iv at F;grind);refine af _ (kN<|h.mono w) ?_;rintro τ x _ S rfl;refine af _ (kN<|(L.mono w).mono S) ?_;rintro υ y _ l3 rfl;refine af _ (bP j _) ?_;rintro φ N _ l4 ⟨rfl,_⟩;dsimp only;split;split;exact im j (.error _) rfl;split;exact im j (.error _) rfl;exact ag.choose _ λn=>im j (.error _) rfl;refine af _ (mC _)<|λψ _ _ l5 _=>af _ (dm j _) ?_;rintro χ E _ l6 ⟨rfl,_⟩;split;exact aW<|af _ (lP g<|A8 aB.nil _) λω r r' _ s=>ah<|.slice _ _ s;refine af _ (kq j _ Q)<|λκ z z' l7 Z=>aW<|af _ (lP g<|A8 Z.cells _) ?_;exact λω r r' _ s=>ah (.slice _ _ s)|_=>exact .halt _ _
end
section
variable {ok:Ctx}{ρ:Ren}
def kh (s:af8.toTables=P.toTables)(h:ar ok ρ v C) y (c:bR):ag af8 P ok str (λ_ x y=>x=y) ρ (b4 v y c) (b4 C y c):=by refine af _ (pG h) ?_;rintro σ ⟨k,i⟩ _ _ rfl;dsimp only;split;exact ah rfl;exact oq s _ _ _ _
inductive nL (ok:Ctx)(ρ:Ren):Option aa->Option aa->Prop
 |none:nL ok ρ none none
 |some {v C:aa}:ar ok ρ v C->nL ok ρ (some v) (some C)
def nL.mono {σ:Ren}{v C}(h:nL ok ρ v C)(l:ρ.le σ):nL ok σ v C:=by rcases h with _|h;exact .none;exact .some<|h.mono l
def Yd (lo:Option aa)(m h:Nat)(c:bR):Sem (Nat×Nat×Nat):=match lo with|some v=>(do let l <-b4 v h c;pure (l,h,m))|none=>(do let l <-pure 0;pure (l,h,m))
def KB (s:af8.toTables=P.toTables)(Z:nL ok ρ lo z)(m h:Nat)(c:bR):ag af8 P ok str (λ_ x y=>x=y) ρ (Yd lo m h c) (Yd z m h c):=by rcases Z with _|hv;exact aW<|ah rfl;refine af _ (kh s hv _ _) ?_;rintro τ x _ _ rfl;exact ah rfl
def gQ (d:af8.toTables=P.toTables)(b:Bool)(g cap:Nat)(j:nL ok ρ lo z)(w:nL ok ρ hi T)(E:nL ok ρ R q): ag af8 P ok str (λ_ x y=>x=y) ρ (cC b g cap lo hi R) (cC b g cap z T q):=by rcases E with _|hm;refine aW ?_;rcases w with _|s;exact aW<|KB d j _ _ _;refine af _ (kh d s _ _) ?_;rintro τ x _ l rfl;exact KB d (j.mono l) _ _ _;refine af _ (kh d hm _ _) ?_;rintro τ x _ l rfl;rcases w with _|s;exact .halt _ _;refine af _ (kh d (s.mono l) _ _) ?_;rintro υ y _ D rfl;exact KB d (j.mono<|l.trans D) _ _ _
def KC (j:af8.toTables=P.toTables)(t:ac)(h:ar ok ρ v C)(h1:nL ok ρ lo z)(h2:nL ok ρ hi T)(h3:nL ok ρ R q): ag af8 P ok str (ar ok) ρ (cT t v lo hi R) (cT t C z T q):=by
 have E:∀{σ:Ren} {a a':av} (l m n g:Nat),dG σ a a'->ag af8 P ok str (ar ok) σ (pure<|.slice (some (if m=l then a else a.add (l*g))) (n-l)<|m-l) (pure<|.slice (some (if m=l then a' else a'.add (l*g))) (n-l)<|m-l):=by intro σ a a' l m n g r;split;exact ah<|.slice _ _ r;exact ah<|.slice _ _<|r.add _
 refine af _ (ap j t) ?_;rintro σ d _ F ⟨rfl,hd⟩;have aG:ag af8 P ok str (ar ok) σ (c8 t v lo hi R) (c8 t C z T q):=by refine af _ (ap j t) ?_;rintro τ d _ l2 ⟨rfl,hd⟩;have hv:=(h.mono F).mono l2;have g1:=(h1.mono F).mono l2;have g2:=(h2.mono F).mono l2;have g3:=(h3.mono F).mono l2;cases d with|string=>(cases hv with|string s=>(rcases g3 with _|_;refine af _ (gQ j false s.size s.size g1 g2 .none) ?_;rintro υ ⟨l,hh,m⟩ _ _ rfl;exact ah<|.string _;exact .halt _ _)|_=>exact .halt _ _)|slice L=>(cases hv with|dj Q S=>refine af _ (gQ j true Q S g1 g2 g3) ?_;rintro υ ⟨l,hh,m⟩ _ _ rfl;refine af _ (dm j _) ?_;rintro φ g _ _ ⟨rfl,_⟩;split;exact ah<|.dj _ _;exact ah (.dj _ _)|slice Q S r=>refine af _ (gQ j true Q S g1 g2 g3) ?_;rintro υ ⟨l,hh,m⟩ _ w rfl;refine af _ (dm j _) ?_;rintro φ g _ Z ⟨rfl,_⟩;split;exact ah<|.slice _ _<|(r.mono w).mono Z;exact ah (.slice _ _<|((r.mono w).mono Z).add _)|_=>exact .halt _ _)|pointer arr=>(refine af _ (ws j hv)<|λυ a a' w r=>af _ (ap j _) ?_;rintro φ d2 _ Z ⟨rfl,_⟩;cases d2 with|array n L=>refine af _ (gQ j false n n (g1.mono<|w.trans Z) (g2.mono<|w.trans Z)<|g3.mono<|w.trans Z) ?_;rintro ψ ⟨l,hh,m⟩ _ l5 rfl;refine af _ (dm j _) ?_;rintro χ g _ l6 ⟨rfl,_⟩;exact E _ _ _ _ (((r.mono Z).mono l5).mono l6)|_=>exact .halt _ _)|_=>exact .halt _ _
 cases d with|array n L=>refine af _ (vp<|h.mono F)<|λυ a a' w r=>af _ (gQ j false n n ((h1.mono F).mono w) ((h2.mono F).mono w)<|(h3.mono F).mono w) ?_;rintro ψ ⟨l,hh,m⟩ _ l5 rfl;refine af _ (dm j _) ?_;rintro χ g _ l6 ⟨rfl,_⟩;exact E _ _ _ _ ((r.mono l5).mono l6)|_=>omega
def Kw (h:ar ok ρ v C) i:ag af8 P ok str (ar ok) ρ (b7 v i) (b7 C i):=by cases h with|@tuple xs u e h=>(have g:aB ok ρ xs u:=⟨e,h⟩;unfold b7;rcases d:xs[i]? with _|x;simp[d];exact .halt _ _;let⟨A,j,r⟩:=g.get d;simp[d,j];exact ah r)|_=>exact .halt _ _
def yG (d:af8.toTables=P.toTables)(t:ac)(h:aB ok ρ cs cs') off:ag af8 P ok str (ar ok) ρ (bo t cs off) (bo t cs' off):=by refine af _ (H0 d t) ?_;rintro σ b _ l rfl;split;refine af _ (dm d t) ?_;rintro τ n _ D ⟨rfl,_⟩;have:=((h.mono l).mono D).extract off<|off+n;exact ah<|.agg this.size this.at_;rcases g:cs[off]? with _|x;exact .halt _ _;let⟨A,j,r⟩:=(h.mono l).get g;simp[j];exact ah r
def R6 (g:af8.toTables=P.toTables)(t:ac){i:aa}(h:ar ok ρ v C)(hi:ar ok ρ i U):ag af8 P ok str (ar ok) ρ (c9 t v i) (c9 t C U):=by refine af _ (pG hi) ?_;rintro σ ⟨k,n⟩ _ l rfl;refine af _ (ap g t) ?_;rintro τ d _ E ⟨rfl,L⟩;have j:=(h.mono l).mono E;cases d with|array F m=>(cases j with|agg e G=>dsimp only;split;refine af _ (dm g _) ?_;rintro υ w _ K ⟨rfl,_⟩;exact yG g _ (aB.mono ⟨e,G⟩ K) _;exact oq g _ _ _ _|_=>exact .halt _ _)|string=>(cases j with|string s=>dsimp only;split;exact ah<|.int _ _;exact oq g _ _ _ _|_=>exact .halt _ _)|_=>exact .halt _ _
def Se (d:UnOp)(h:ar ok ρ v C):ag af8 P ok str (ar ok) ρ (dy d v) (dy d C):=by cases h with|bool b=>(cases d<;>first|exact ah (.bool _)|exact .halt _ _)|int k n=>(cases d<;>first|exact ah (.int _ _)|exact .halt _ _|(simp;exact ah<|.int _ _)|(simp;exact ah<|.int _ _))|_=>cases d<;>exact .halt _ _
end
end
section
def Yu (x9:p:=by refine af _ (wu hT r) ?_;rintro φ n _ l3 rfl;refine af _ (wu hT<|r2.mono l3) ?_;rintro χ m _ _ rfl;exact ah rfl):p:=x9
def YQ (x9:p:=by dsimp only;split<;>first|exact .halt _ _|(exfalso;simp_all;done)|exact ah rfl):p:=x9
variable [Gl]
section
variable {ok:Ctx}{ρ:Ren}
def dG.beq {b}(h:dG ρ a a')(d:dG ρ b B):(a'==B)=(a==b):=by (have g:a'=B<->a=b:=by constructor;rintro rfl;have j:=ρ.inj _ _ _ h.blk d.blk;(have k:a.off=b.off:=by rw[<-h.off,<-d.off]);(have m:a.spot=b.spot:=by rw[<-h.spot,<-d.spot]);cases a;simp_all;rintro rfl;(have j:a'.block=B.block:=by have:=h.blk;rw[d.blk]at this;grind);(have k:a'.off=B.off:=by rw[h.off,d.off]);(have m:a'.spot=B.spot:=by rw[h.spot,d.spot]);cases a';simp_all);grind
def dG.Cw {b}(h:dG ρ a a')(d:dG ρ b B):(a'.block==B.block)=(a.block==b.block):=by by_cases e:a.block=b.block;(have:a'.block=B.block:=by have:=h.blk;rw[e,d.blk]at this;grind);grind;have:a'.block≠B.block:=λx=>e<|ρ.inj _ _ _ h.blk<|x▸d.blk;grind
def DG (h:ρ r=some r'):ag af8 P ok str (λ_ x y=>x=none/\y=none) ρ (viewAt r) (viewAt r'):=by refine ag.shape h λs=>?_;rcases s with _|x;refine ag.getObj h λo J ho=>?_;cases ho<;>exact .pure ⟨rfl,rfl⟩;exact .pure ⟨rfl,rfl⟩
inductive IL (ρ:Ren):Option (av×Bool)->Option (av×Bool)->Prop
 |none:IL ρ none none
 |some {a a':av} (b:Bool):dG ρ a a'->IL ρ (some (a,b)) (some (a',b))
def xJ (h:ρ r=some r'):ag af8 P ok str (λσ x y=>ρ.le σ/\IL σ x y) ρ (numberAt r) (numberAt r'):=by refine ag.shape h λs=>?_;rcases s with _|x;refine ag.getObj h λo J ho=>?_;(cases ho<;>first|exact .pure ⟨Ren.le_refl _,.none⟩|(rename_i b r;exact .pure ⟨Ren.le_refl _,.some b r⟩));exact .pure ⟨Ren.le_refl _,.none⟩
def lL (h:dG ρ a a'):ag af8 P ok str (λσ x y=>ρ.le σ/\dG σ x.1 y.1/\x.2=y.2) ρ (a8 a) (a8 a'):=by refine af _ (xJ h.blk) ?_;rintro σ x y l ⟨_,d⟩;cases d with|none=>exact ah ⟨l,h.mono l,rfl⟩|some b r=>exact ah ⟨l,r,rfl⟩
def Om (h:dG ρ a a'):ag af8 P ok str (λσ _ _=>ρ.le σ) ρ (noView a) (noView a'):=by refine ag.shape h.blk λs=>?_;rcases s with _|x;refine ag.getObj h.blk λo J ho=>?_;cases ho<;>exact .pure<|Ren.le_refl _;exact .pure<|Ren.le_refl _
omit [Gl] in
def sx (g:af8.toTables=P.toTables):∀d e o,bz af8 d e o=bz P d e o:=by intro d;induction d with|zero=>intro e o;rfl|succ d j=>intro e o;simp only[bz,tS g,br,bK,g,j];rfl
def wu (d:af8.toTables=P.toTables)(h:dG ρ a a'):ag af8 P ok str (λ_ x y=>x=y) ρ (ch a) (ch a'):=by
 unfold ch;rw[h.spot];rcases a.spot with _|s;refine ag.program<|aW<|af _ (Om h) ?_;rintro σ _ _ l _;refine ag.shape (l _ _ h.blk) λs=>?_;rcases s with _|x;exact .halt _ _;let⟨e,n⟩:=x;show ag af8 P ok str _ σ (if af8.cellsOf e=0 then pure 0 else match bz af8 af8.depth e _ with|some b=>pure _|_=>a6 "byteOf: no such cell")
    (if P.cellsOf e=0 then pure 0 else match bz P P.depth e _ with|some b=>pure _|_=>a6 "byteOf: no such cell")
 rw[h.off,sx d,show af8.cellsOf e=P.cellsOf e by grind [br],show af8.bytesOf e=P.bytesOf e by unfold bK;rw[d],show af8.depth=P.depth by unfold cM;rw[d]];split;exact ah rfl;split;exact ah rfl;exact kY;exact ah rfl
def Ef (P:ay)(t:ac):Bool:=match P.underlying t with|some .bool|some .string|some (.int _)|some (.slice _)=>true|_=>false
def Mf (hT:af8.toTables=P.toTables)(hG:P.globals.size=Gl.n) d (t:ac)(ht:Ef P t)(Z:ar ok ρ x A)(s:ar ok ρ y f):ag af8 P ok str (λ_ x y=>x=y) ρ (aE d t x y) (aE d t A f):=by cases d with|zero=>exact .halt _ _|succ d=>unfold aE;refine af _ (ap hT t) ?_;rintro σ u _ l ⟨rfl,hu⟩;have Z:=Z.mono l;have s:=s.mono l;unfold Ef at ht;rw[hu]at ht;cases u with|bool=>cases Z<;>(first|exact .halt _ _|(cases s<;>(first|exact .halt _ _|exact ah rfl)))|string=>cases Z<;>(first|exact .halt _ _|(cases s<;>(first|exact .halt _ _|exact ah rfl)))|slice e=>cases Z<;>(first|exact .halt _ _|(cases s<;>(first|exact .halt _ _|exact ah rfl)))|int k=>(cases Z with|int k1 a=>(cases s with|int k2 b=>dsimp only;split;exact ah rfl;exact kY|ptr r=>by_cases e:a=0;subst e;exact ah rfl;exact YQ|_=>exact .halt _ _)|@ptr a a' r=>(cases s with|int k2 b=>by_cases e:b=0;subst e;exact ah rfl;exact YQ|@ptr b B r2=>refine af _ (lL r) ?_;rintro τ ⟨a,_⟩ ⟨a',_⟩ _ ⟨l1,r,_⟩;refine af _ (lL<|r2.mono l1) ?_;rintro υ ⟨b,_⟩ ⟨B,_⟩ _ ⟨l2,r2,_⟩;have r:=r.mono l2;have r2:=r2;refine ag.program<|aW ?_;(have hg:decide (a'.block<P.globals.size)=decide (a.block<af8.globals.size):=by rw[hT,hG];have:=υ.Jp _ _ r.blk;exact decide_eq_decide.2 this.symm);rw[r.Cw r2,hg];split;exact Yu;refine af _ (bP hT t) ?_;rintro φ i _ l3 ⟨rfl,_⟩;split;rw[(r.mono l3).beq (r2.mono l3)];split;exact ah rfl;exact kY;exact kY|_=>exact .halt _ _)|_=>cases s<;>exact .halt _ _)|_=>cases ht
def Xl (P:ay)(t:ac):Bool:=match P.underlying t with|some (.struct s)=>!P.stoodInHeld t&&s.all (λf=>Ef P f.type)|_=>false
def Of (hT:af8.toTables=P.toTables)(hG:P.globals.size=Gl.n) d:∀(l:List Field) (_:l.all (λf=>Ef P f.type)) {ρ:Ren} {xs u s Z:Array aa},aB ok ρ xs u->aB ok ρ s Z->
  ag af8 P ok str (λ_ x y=>x=y) ρ
   (forIn l ((none:Option Bool),()) λf _=>do
    if f.name≠ "_" then
     if !(<-aE d f.type (<-bo f.type xs f.offset) (<-bo f.type s f.offset))then pure (cA (some false,()))else pure (bJ (none,()))
    else pure (bJ (none,())))
   (forIn l ((none:Option Bool),()) λf _=>do
    if f.name≠ "_" then
     if !(<-aE d f.type (<-bo f.type u f.offset) (<-bo f.type Z f.offset))then pure (cA (some false,()))else pure (bJ (none,()))
    else pure (bJ (none,()))):=by
 intro l;induction l with
 |nil=>intro _ ρ xs u s Z hx hy;exact ah rfl
 |cons f l ih=>
  intro hl ρ xs u s Z hx hy;simp only[List.all_cons,bM]at hl;simp only[List.forIn_cons];by_cases hn:f.name≠ "_"
  .simp only[if_pos hn];refine af (λτ x y=>x=y/\(x=.done (some false,())\/x=.yield (none,()))) ?_ ?_
   .refine af _ (yG hT f.type hx f.offset)<|λτ a a' l1 ha=>af _ (yG hT f.type (hy.mono l1) f.offset)<|λυ b B l2 hb=>af _ (Mf hT hG d f.type hl.1 (ha.mono l2) hb) ?_
    rintro φ r _ l3 rfl;cases r
    .exact ah ⟨rfl,au rfl⟩
    exact ah ⟨rfl,az rfl⟩
   rintro τ x _ l1 ⟨rfl,rfl|rfl⟩
   .exact ah rfl
   exact ih hl.2 (hx.mono l1)<|hy.mono l1
  simp only[if_neg hn];exact ih hl.2 hx hy
def aao (hT:af8.toTables=P.toTables)(hG:P.globals.size=Gl.n) d (t:ac)(Z:Xl P t)(hx:ar ok ρ x A)(hy:ar ok ρ y f):ag af8 P ok str (λ_ x y=>x=y) ρ (aE d t x y) (aE d t A f):=by cases d with|zero=>exact .halt _ _|succ d=>unfold aE;refine af _ (ap hT t) ?_;rintro σ u _ l ⟨rfl,hu⟩;have hy:=hy.mono l;unfold Xl at Z;rw[hu]at Z;cases u with|struct fs=>(simp only[bM,cJ]at Z;cases (hx.mono l)with|agg e1 h1=>(cases hy with|agg e2 h2=>dsimp only;refine ag.program<|aW ?_;rw[Z.1];split;exact kY;rw[if_neg aN,<-cx,<-cx];refine af _ (Of hT hG d fs.toList (by simpa using Z.2) ⟨e1,h1⟩ ⟨e2,h2⟩) ?_;rintro τ s _ _ rfl;split<;>exact ah rfl|_=>exact .halt _ _)|_=>cases hy<;>exact .halt _ _)|_=>cases Z
def OK (P:ay)(t:ac):Bool:=Ef P t||Xl P t
def aan (s:af8.toTables=P.toTables)(Z:P.globals.size=Gl.n) d (t:ac)(ht:OK P t)(hx:ar ok ρ x A)(hy:ar ok ρ y f):ag af8 P ok str (λ_ x y=>x=y) ρ (aE d t x y) (aE d t A f):=(Bool.or_eq_true_iff.1 ht).elim (λh=>Mf s Z d t h hx hy) λh=>aao s Z d t h hx hy
omit [Gl] in
def BD (g:af8.toTables=P.toTables):∀d e o,cb af8 d e o=cb P d e o:=by intro d;induction d with|zero=>intro e o;rfl|succ d j=>grind [cb,tS,br,bK]
omit [Gl] in
def zd (s:af8.toTables=P.toTables)(d e c o:Nat) n:bv af8 d e c o n=bv P d e c o n:=by simp only[bv,br,bK,s,sx s,BD s];rfl
def sK (g:af8.toTables=P.toTables)(j:Array ac)(t:ac)(h:ar ok ρ v C)(w:ar ok ρ n O):ag af8 P ok str (λσ x y=>ar ok σ x y/\x≠hole) ρ (bH j t #[v,n]) (bH j t #[C,O]):=by
 cases h with
 |kX=>refine af _ (kN w) ?_;rintro σ m _ l rfl;dsimp only;split;exact kY;split;exact kY;exact kY|@ptr a a' r=>
  refine af _ (kN w) ?_;rintro σ m _ l rfl;have r:=r.mono l;dsimp only;split;refine af _ (DG r.blk) ?_;rintro τ _ _ E ⟨rfl,rfl⟩;exact .pure ⟨.ptr<|r.mono E,by simp[hole]⟩;split;exact kY;refine ag.shape r.blk λs=>?_;rcases s with _|x;exact .halt _ _;let⟨e,n⟩:=x;refine ag.program ?_;show ag af8 P ok str _ σ (match bv af8 af8.depth e _ a.off m with|some d=>pure _|none=>bs _)
    (match bv P P.depth e _ a'.off m with|some d=>pure _|none=>bs _)
  rw[zd g,r.off,show af8.cellsOf e=P.cellsOf e by grind [br],show af8.depth=P.depth by unfold cM;rw[g]];split;exact .pure ⟨.ptr ⟨r.blk,rfl,r.spot⟩,by simp[hole]⟩;exact kY
 |_=>exact .halt _ _
def pJ (g:af8.toTables=P.toTables)(d:Array ac)(t:ac)(h:ar ok ρ v C)(j:ar ok ρ n O):ag af8 P ok str (ar ok) ρ (bH d t #[v,n]) (bH d t #[C,O]):=
 (sK g d t h j).mono λ_ _ _ h=>h.1
def HH (b)(r:dG ρ a a'):ag af8 P ok str (ar ok) ρ (asNumber a b) (asNumber a' b):=by exact ag.new (.number b r)<|λσ x y _ e=>.pure<|.ptr ⟨e,rfl,rfl⟩
def fZ (hT:af8.toTables=P.toTables)(t:ac)(h:ar ok ρ v C)(Z:ar ok ρ n O):ag af8 P ok str (ar ok) ρ (dw t v n) (dw t C O):=by refine af _ (ap hT t) ?_;rintro σ d _ l ⟨rfl,_⟩;have h:=h.mono l;have Z:=Z.mono l;dsimp only;split;exact kY;cases h with|@ptr a a' r=>(refine af _ (lL r) ?_;rintro τ ⟨b,z⟩ ⟨B,z'⟩ l1 ⟨_,r,e⟩;subst e;refine af _ (sK hT #[] t (.ptr r)<|Z.mono l1) ?_;rintro υ x A l2 ⟨hx,aG⟩;cases hx with|hole _=>grind|ptr r=>exact HH _ r|kX=>exact ah .kX|bool b=>exact ah (.bool b)|int k n=>exact ah (.int k n)|string s=>exact ah (.string s)|dj l c=>exact ah (.dj l c)|slice n c h=>exact ah (.slice n c h)|map h=>exact ah (.map h)|nilFunc=>exact ah .nilFunc|nilIface=>exact ah .nilIface|iface t h=>exact ah (.iface t h)|func a b c d e=>exact ah (.func a b c d e)|agg e h=>exact ah (.agg e h)|tuple e h=>exact ah<|.tuple e h)|kX=>exact pJ hT #[] t .kX Z|_=>exact .halt _ _
def yi (d:af8.toTables=P.toTables)(t:ac)(r:dG ρ a a')(g:ar ok ρ n O):ag af8 P ok str (ar ok) ρ (ds t (a2 a) n) (ds t (a2 a') O):=by refine af _ (xJ r.blk) ?_;rintro σ x y l ⟨_,h⟩;cases h with|none=>exact pJ d #[] t (.ptr<|r.mono l) (g.mono l)|some b _=>exact .halt _ _
def vq (hT:af8.toTables=P.toTables)(h:P.globals.size=Gl.n){b:av}(r:dG ρ a a')(r2:dG ρ b B):ag af8 P ok str (λ_ x y=>x=y) ρ (da a b) (da a' B):=by
 refine ag.program<|aW ?_;have d:decide (a'.block>=P.globals.size)=decide (a.block>=af8.globals.size):=by have:=ρ.Jp _ _ r.blk;grind
 have g:(a'.block !=B.block)=(a.block !=b.block):=by unfold bne;rw[r.Cw r2]
 rw[g,d];split;exact kY;exact Yu
end
end
section
def ade (x9:p:=by cases op<;>first|exact ah (.int _ _)|exact .halt _ _):p:=x9
def YG (x9:p:=by split;exact im hT (.error _) rfl;cases op<;>first|exact ah (.int _ _)|exact .halt _ _):p:=x9
def aaH (x9:p:=by simp only[binOp];refine af _ (number r) ?_;intro σ x y _ h;exact Kn hT _ _ h):p:=x9
def adk (x9:p:=by intro h;unfold mV at ht;rw[if_pos h]at ht;refine af _ (HJ hT hG t ht hx hy) ?_;rintro σ b _ _ rfl;exact ah<|.bool _):p:=x9
variable [Gl]
section
variable {ok:Ctx}{ρ:Ren}
def R4 {A}{s:Sem α}{s':Sem β}(h:∃z,s=.halt z/\ends z):ag af8 P ok str A ρ s s':=by obtain⟨z,rfl,d⟩:=h;exact .halt _ _ d
def HU (op:aL)(k:a5)(a b:Int):ag af8 P ok str (ar ok) ρ (dc op k a b) (dc op k a b):=by exact ade
def Oj (hT:af8.toTables=P.toTables)(op:aL)(k:a5)(a b:Int):ag af8 P ok str (ar ok) ρ (ca op k a b) (ca op k a b):=by unfold ca;exact YG
def KA (op:aL)(k:a5)(a b:Int):ag af8 P ok str (ar ok) ρ (df op k a b) (df op k a b):=by exact ade
def Oi (d:aL)(a b:Int):ag af8 P ok str (ar ok) ρ (dt d a b) (dt d a b):=by cases d<;>first|exact ah (.bool _)|exact .halt _ _
def H9 (hT:af8.toTables=P.toTables)(op:aL)(k k':a5)(a b:Int):ag af8 P ok str (ar ok) ρ (cd op k a k' b) (cd op k a k' b):=by unfold cd;exact YG
def xK (d:aL)(a b:ByteArray):ag af8 P ok str (ar ok) ρ (b9 d a b) (b9 d a b):=by cases d with|add=>unfold b9;dsimp only;split;exact kY;exact ah (.string _)|_=>first|exact ah (.bool _)|exact .halt _ _
def Wd (d:af8.toTables=P.toTables)(g:aL)(t:ac)(k k':a5)(a b:Int):ag af8 P ok str (ar ok) ρ (ad g t (a1 k a)<|a1 k' b) (ad g t (a1 k a)<|a1 k' b):=by cases g with|shl=>simp only[ad];exact H9 d _ _ _ _ _|shr=>simp only[ad];exact H9 d _ _ _ _ _|_=>simp only[ad];split;exact kY;first|exact HU _ _ _ _|exact Oj d _ _ _ _|exact KA _ _ _ _|exact Oi _ _ _
def HJ (s:af8.toTables=P.toTables)(Z:P.globals.size=Gl.n)(t:ac)(ht:OK P t)(hx:ar ok ρ x A)(hy:ar ok ρ y f):ag af8 P ok str (λ_ x y=>x=y) ρ (aI t x y) (aI t A f):=aan s Z _ t ht hx hy
def FC:aL->Bool|.eql|.neq=>true|_=>false
def mV (P:ay)(d:aL)(t:ac):Bool:=if FC d then OK P t else true
def Ko (d:af8.toTables=P.toTables)(g:P.globals.size=Gl.n)(k:a5){b:av}(r:dG ρ a a')(h:dG ρ b B):ag af8 P ok str (ar ok) ρ (dh k a b) (dh k a' B):=by refine af _ (vq d g r h) ?_;rintro σ x _ _ rfl;exact ah<|.int _ _
def pF (g:af8.toTables=P.toTables)(h:P.globals.size=Gl.n)(d:aL){b:av}(r:dG ρ a a')(j:dG ρ b B):ag af8 P ok str (ar ok) ρ (dk d a b) (dk d a' B):=by refine af _ (vq g h r j) ?_;rintro σ x _ _ rfl;cases d<;>first|exact ah (.bool _)|exact .halt _ _
def Kn (d:af8.toTables=P.toTables)(k:a5) n (r:dG ρ a a'):ag af8 P ok str (ar ok) ρ (dn k a n) (dn k a' n):=by refine ag.shape r.blk λs=>?_;rcases s with _|x;exact .halt _ _;let⟨e,m⟩:=x;refine aW<|af _ (bP d e) ?_;rintro σ i _ l ⟨rfl,_⟩;dsimp only;split;exact kY;refine af _ (wu d<|r.mono l) ?_;rintro τ x _ _ rfl;exact ah<|.int _ _
omit [Gl] in
def FM (d:aL)(t:ac) y (g:¬FC d)(j:∀k a,x≠.int k a)(m:∀a,x≠.string a)(s:∀a,x≠.pointer a)(w:∀k a,x≠.float k a)(E:∀k a b,x≠.complex k a b):∃h,ad d t x y=.halt h/\ends h:=by unfold ad;split<;>first|exact absurd rfl (j _ _)|exact absurd rfl (m _)|exact absurd rfl (s _)|exact absurd rfl (w _ _)|exact absurd rfl (E _ _ _)|exact absurd rfl g|exact⟨_,rfl,rfl⟩
omit [Gl] in
def gR {r:Result α}(h:Result.stops r)(k:α->ao->Result β):Result.stops (r.andThen k):=by cases r with|ok a w=>cases h|halt x w=>exact h
omit [Gl] in
def Ji (j:af8.toTables=P.toTables)(t:ac)(d:OK P t) x (V:ao):Result.stops ((aI t x hole).run af8 V)/\Result.stops ((aI t hole x).run af8 V):=by
 have g:af8.underlying t=P.underlying t:=by unfold co;rw[j]
 unfold OK Ef Xl at d;rcases k:P.underlying t with _|u;grind;rw[k]at d g;have h:∀V,(bO t).run af8 V=.ok u V:=λV=>by simp[bO,g]
 constructor
 .show Result.stops ((aE (9999+1) t x hole).run af8 V)=true;unfold aE;rw[a0,h];cases u<;>first|(simp at d;done)|(cases x<;>first|rfl|(rename_i a _ _;cases a<;>rfl)|(rename_i a;cases a<;>rfl))
 show Result.stops ((aE (9999+1) t hole x).run af8 V)=true;unfold aE;rw[a0,h];cases u<;>first|(simp at d;done)|(cases x<;>first|rfl|(rename_i a _ _;cases a<;>rfl)|(rename_i a;cases a<;>rfl))
omit [Gl] in
def oH (j:af8.toTables=P.toTables)(d:aL)(t:ac)(g:mV P d t) x (V:ao):Result.stops ((ad d t x hole).run af8 V)/\Result.stops ((ad d t hole x).run af8 V):=by by_cases he:FC d=true;(.unfold mV at g;rw[if_pos he]at g;have h:=Ji j t g x V;(cases d<;>first|cases he;done|skip);constructor;(have e:ad .eql t x hole=(do pure (a4<|<-aI t x hole)):=by cases x<;>rfl);rw[e,a0];exact gR h.1 _;(have e:ad .eql t hole x=(do pure (a4<|<-aI t hole x)):=by cases x<;>rfl);rw[e,a0];exact gR h.2 _;constructor;(have e:ad .neq t x hole=(do pure (a4<|!(<-aI t x hole))):=by cases x<;>rfl);rw[e,a0];exact gR h.1 _;(have e:ad .neq t hole x=(do pure (a4<|!(<-aI t hole x))):=by cases x<;>rfl);rw[e,a0];exact gR h.2 _);constructor<;>(cases d<;>first|exact absurd rfl he|(cases x<;>first|rfl|(rename_i a _ _;cases a<;>rfl)|(rename_i a;cases a<;>rfl)))
def RZ (hT:af8.toTables=P.toTables)(hG:P.globals.size=Gl.n)(Z:aL)(t:ac)(ht:mV P Z t)(hx:ar ok ρ x A)(hy:ar ok ρ y f): ag af8 P ok str (ar ok) ρ (ad Z t x y) (ad Z t A f):=by
 by_cases bl:x=hole;subst bl;exact .dead _ _ λV=>(oH hT Z t ht y V).2;by_cases aG:y=hole;subst aG;exact .dead _ _ λV=>(oH hT Z t ht x V).1;have ST:FC Z=true->ag af8 P ok str (ar ok) ρ (do pure (.bool<|<-aI t x y)) (do pure (.bool<|<-aI t A f)):=by exact adk
 have Cb:FC Z=true->ag af8 P ok str (ar ok) ρ (do pure (.bool<|!(<-aI t x y))) (do pure (.bool<|!(<-aI t A f))):=by exact adk
 have number:∀{σ:Ren} {a a':av},dG σ a a'->ag af8 P ok str (λτ x y=>dG τ x.1 y.1) σ (a8 a) (a8 a'):=λr=>(lL r).mono λ_ _ _ h=>h.2.1;cases hx with
 |hole _=>grind|int k a=>cases hy with|hole _=>grind|int k' b=>exact Wd hT Z t k k' a b|@ptr b B r=>(cases Z with|eql=>exact ST rfl|neq=>exact Cb rfl|add=>simp only[ad];exact fZ hT t (.ptr r) (.int k a)|and=>exact aaH|_=>exact .halt _ _)|kX=>(cases Z with|eql=>exact ST rfl|neq=>exact Cb rfl|add=>simp only[ad];exact fZ hT t .kX (.int k a)|_=>exact .halt _ _)|_=>cases Z<;>first|exact ST rfl|exact Cb rfl|exact .halt _ _
 |string a=>cases hy with|hole _=>exact absurd rfl aG|string b=>cases Z<;>(simp only[ad];exact xK _ _ _)|_=>cases Z<;>first|exact ST rfl|exact Cb rfl|exact .halt _ _
 |@ptr a a' r=>
  cases hy with
  |hole _=>exact absurd rfl aG|int k b=>cases Z with|eql=>exact ST rfl|neq=>exact Cb rfl|add=>simp only[ad];refine af _ (ap hT t) ?_;rintro σ d _ l ⟨rfl,_⟩;split;exact yi hT t (r.mono l)<|.int k b;exact fZ hT t (.ptr<|r.mono l) (.int k b)|sub=>simp only[ad];exact fZ hT t (.ptr r) (.int k _)|rem=>exact aaH|and=>exact aaH|_=>exact .halt _ _
  |@ptr b B r2=>
   have aZ:∀{s s':av->av->Sem aa},(∀{σ:Ren} {c c' d d':av},dG σ c c'->dG σ d d'->ag af8 P ok str (ar ok) σ (s c d) (s' c' d'))->
     ag af8 P ok str (ar ok) ρ (do let c <-a8 a;let d <-a8 b;s c.1 d.1) (do let c <-a8 a';let d <-a8 B;s' c.1 d.1):=by
    intro s s' hs;refine af _ (lL r) ?_;rintro σ x y l ⟨_,h1,_⟩;refine af _ (lL<|r2.mono l) ?_;rintro τ x2 y2 l2 ⟨_,h2,_⟩;exact hs (h1.mono l2) h2
   cases Z with|eql=>exact ST rfl|neq=>exact Cb rfl|sub=>simp only[ad];exact aZ λh1 h2=>Ko hT hG _ h1 h2|lss=>simp only[ad];exact aZ λh1 h2=>pF hT hG _ h1 h2|leq=>simp only[ad];exact aZ λh1 h2=>pF hT hG _ h1 h2|gtr=>simp only[ad];exact aZ λh1 h2=>pF hT hG _ h1 h2|geq=>simp only[ad];exact aZ λh1 h2=>pF hT hG _ h1 h2|_=>exact .halt _ _
  |_=>cases Z<;>first|exact ST rfl|exact Cb rfl|exact .halt _ _
 |kX=>cases hy with|hole _=>exact absurd rfl aG|int k b=>(cases Z with|eql=>exact ST rfl|neq=>exact Cb rfl|add=>simp only[ad];refine af _ (ap hT t) ?_;rintro σ d _ l ⟨rfl,_⟩;split;exact pJ hT #[] t .kX<|.int k b;exact fZ hT t .kX (.int k b)|sub=>simp only[ad];exact fZ hT t .kX (.int k _)|_=>exact .halt _ _)|_=>cases Z<;>first|exact ST rfl|exact Cb rfl|exact .halt _ _
 |_=>by_cases he:FC Z=true;(.cases hy with|hole _=>exact absurd rfl aG|_=>cases Z<;>first|cases he;done|(simp only[ad];exact ST rfl)|(simp only[ad];exact Cb rfl));refine R4 (FM Z t y he ?_ ?_ ?_ ?_ ?_)<;>simp
end
end
section
def Tp (x9:p:=by exact af (λ_ _ _=>False) (im hT _ rfl) λ_ _ _ _ h=>h.elim):p:=x9
def ac0 (x9:p:=by intro υ3 old aeI k3 ho;refine af _ (eH size n<|(((rx.mono<|l4.trans l5).mono k1).mono k2).mono k3) ?_;intro υ4 new Rc k4 hn;refine af _ (kq hT elem hz) ?_;intro υ5 z z' k5 D_;refine af _ (lP elem<|aB.append (aB.append ((ho.mono k4).mono k5)<|hn.mono k5)<|kv D_ _) ?_;intro υ6 r r' k6 hr;exact ah<|.slice _ _ hr):p:=x9
def YP (x9:p:=by refine ag.dead _ _ λV=>KF<|Id (GK _ _ _ _ _ _ _) λb w=>?_;split;rfl;rfl):p:=x9
variable [Gl]
section
variable {ok:Ctx}{ρ:Ren}
def RI (P:ay)(t:ac):Bool:=
 match P.underlying t with
 |some (.slice _)|some .string=>true
 |_=>false
def FJ (P:ay)(d:Array ac):Bool:=
 match d[0]?,d[1]? with
 |some s,some x=>Iv P s&&RI P x
 |_,_=>false
def vo (h:ar ok ρ x A):ag af8 P ok str (λ_ x y=>x=y) ρ (cN x) (cN A):=by cases h with|dj l c=>exact ah rfl|slice l c r=>exact ah rfl|string s=>exact ah rfl|_=>exact .halt _ _
def eH (Z n:Nat)(h:ar ok ρ x A):ag af8 P ok str (λσ x y=>aB ok σ x y) ρ (cp Z n x) (cp Z n A):=by cases h with|dj l c=>exact ah aB.nil|slice l c r=>exact pH r _|string s=>exact ah ⟨rfl,λi x A h h'=>by rw[h]at h';cases h';rw[Array.getElem?_map]at h;obtain⟨b,_,rfl⟩:=agP.1 h;exact .int _ _⟩|_=>exact .halt _ _
omit [Gl] in
def KF {s:Sem α}{f:α->Sem β}(h:Result.stops (aV P s V)):Result.stops (aV P (s >>= f) V):=by rw[a0];generalize aV P s V=r at h;cases r with|ok a w=>cases h|halt x w=>exact h
omit [Gl] in
def Id {s:Sem α}{f:α->Sem β}(h:∃a,aV P s V=.ok a V)(Z:∀a w,Result.stops<|aV P (f a) w):Result.stops (aV P (s >>= f) V):=by let⟨a,h⟩:=h;simp_all
omit [Gl] in
def px {s:Sem α}{f:α->Sem β}(h:∃a,aV P s V=.ok a V)(Z:∀a,∃b,aV P (f a) V=.ok b V):∃b,aV P (s >>= f) V=.ok b V:=by let⟨a,h⟩:=h;simp_all
omit [Gl] in
def yw (P:ay)(a:α)(V:ao):∃b,aV P (pure a:Sem α) V=.ok b V:=cQ
omit [Gl] in
def zP (P:ay)(a:av) k (V:ao):∃b,aV P (dE a k) V=.ok b V:=by refine px ⟨_,run_shape _ _ _⟩ λs=>?_;rcases s with _|q;simp_all;simp_all
omit [Gl] in
def GK (P:ay)(aG p9 n:Nat)(Z:Option av) x (V:ao):∃b,aV P (cz aG p9 n Z x) V=.ok b V:=by unfold cz;rcases Z with _|a;refine px (yw _ true _) λs=>?_;cases s;simp;(cases x with|slice a' l c=>(rcases a' with _|a';simp_all;exact px (zP _ _ _ _) λb=>yw _ _ _)|_=>simp_all);refine px (zP _ _ _ _) λb=>px ⟨_,run_frozen _ _ _⟩ λc=>px (yw _ _ _) λs=>?_;cases s;simp;cases x with|slice a' l c=>(rcases a' with _|a';simp_all;exact px (zP _ _ _ _) λb=>yw _ _ _)|_=>simp_all
def kv {z d}(h:ar ok ρ z d) n:aB ok ρ (Builtin.zeroCells z.cells n) (Builtin.zeroCells d.cells n):=by have g:=h.cells;unfold Builtin.zeroCells;rw[<-g.size];refine⟨aN,λi x A j s=>?_⟩;rw[Array.getElem?_map]at j s;obtain⟨k,hk,rfl⟩:=agP.1 j;obtain⟨F,w,rfl⟩:=agP.1 s;rw[hk]at w;by_cases L:z.cells.size=0;grind;have Q:k%z.cells.size<z.cells.size:=Nat.mod_lt _ ab;have E:z.cells[k%z.cells.size]?=some z.cells[k%z.cells.size]!:=cQ;(have S:k%z.cells.size<d.cells.size:=by rw[<-g.size];omega);exact g.at_ _ _ _ E cQ
def Oe (hT:af8.toTables=P.toTables)(F:Array ac)(t:ac)(E:FJ P F)(h:aB ok ρ xs u):ag af8 P ok str (ar ok) ρ (b3 F t xs) (b3 F t u):=by
 unfold b3;unfold FJ at E;rcases h0:F[0]? with _|sT;grind;rcases h1:F[1]? with _|xT;grind;rw[h0,h1]at E;simp only[bM]at E;rcases hs:xs[0]? with _|s;exact .halt _ _;let⟨s',pd,Z⟩:=h.get hs;rcases hx:xs[1]? with _|x;exact .halt _ _;let⟨A,fe,rx⟩:=h.get hx;rw[pd,fe];dsimp only;refine af _ (ap hT sT) ?_;rintro σ d _ l ⟨rfl,hd⟩;have Z:=Z.mono l;have rx:=rx.mono l;cases d with
 |slice elem=>
  have hz:Fz P elem=true:=by have:=E.1;unfold Iv at this;rw[hd]at this;exact this
  cases Z with
  |dj p9 Hr=>
   dsimp only;refine af _ (dm hT elem) ?_;rintro aG size _ L ⟨rfl,_⟩;refine af _ (ap hT xT) ?_;rintro SN d2 _ Q ⟨rfl,XD⟩;have rx:=(rx.mono L).mono Q;have g:=E.2;unfold RI at g;rw[XD]at g;cases d2<;>first|cases g|skip
   all_goals
        refine aW ?_;simp only[b2,if_false,cW,if_true,false_or];refine af _ (vo rx) ?_;rintro aP n _ S rfl;have rx:=rx.mono S;split
        .refine af _ (eH size n rx) ?_;intro τ new Rc l4 hn;exact ah<|.dj _ _
        refine af _ (bP hT elem) ?_;rintro τ i _ l4 ⟨rfl,_⟩;split
        .exact Tp
        refine af _ (bP hT elem) ?_;rintro aZ i1 _ l5 ⟨rfl,_⟩;split
        .exact YP
        refine ag.choose _ λJ5=>aW<|af _ (bP hT elem) ?_
        rintro bl i _ k1 ⟨rfl,_⟩;refine af _ (mC _) ?_;intro bq _ _ k2 _;refine af _ (eH size p9<|.dj _ _) ?_;exact ac0
  |@slice a a' p9 Hr j=>
   dsimp only;refine af _ (dm hT elem) ?_;rintro aG size _ L ⟨rfl,_⟩;refine af _ (ap hT xT) ?_;rintro SN d2 _ Q ⟨rfl,XD⟩;have rx:=(rx.mono L).mono Q;have j:=(j.mono L).mono Q;have g:=E.2;unfold RI at g;rw[XD]at g;cases d2<;>first|cases g|skip
   all_goals
        refine aW ?_;simp only[b2,if_false,cW,if_true,false_or];refine af _ (vo rx) ?_;rintro aP n _ S rfl;have rx:=rx.mono S;have j:=j.mono S;split
        .refine af _ (eH size n rx) ?_;intro τ new Rc l4 hn;refine af _ (iC _ _ ((j.mono l4).add _) 0 hn.list) ?_;intro bx _ _ l5 _;exact ah<|.slice _ _<|(j.mono l4).mono l5
        refine af _ (bP hT elem) ?_;rintro τ i _ l4 ⟨rfl,_⟩;split
        .exact Tp
        refine af _ (bP hT elem) ?_;rintro aZ i1 _ l5 ⟨rfl,_⟩;split
        .exact YP
        .refine ag.choose _ λJ5=>aW<|af _ (bP hT elem) ?_
         rintro bl i _ k1 ⟨rfl,_⟩;refine af _ (mC _) ?_;intro bq _ _ k2 _;refine af _ (eH size p9<|.slice _ _<|((j.mono<|l4.trans l5).mono k1).mono k2) ?_;exact ac0
  |_=>exact .halt _ _
 |_=>exact .halt _ _
end
end
section
def ac3 (x9:p:=by intro υ3 old aeI k3 ho;refine af _ (zN _ size) ?_;intro υ4 new Rc k4 hn;refine af _ (kq hT elem hz) ?_;intro υ5 z z' k5 D_;refine af _ (lP elem<|aB.append (aB.append ((ho.mono k4).mono k5)<|hn.mono k5)<|kv D_ _) ?_;intro υ6 r r' k6 hr;exact ah<|.slice _ _ hr):p:=x9
def Yv (x9:p:=by refine ag.choose _ λmade=>?_;refine aW ?_;exact af (λ_ _ _=>False) (im hT _ rfl) λ_ _ _ _ h=>h.elim):p:=x9
def Yz (x9:p:=by cases h with|nilIface=>simp;exact ah trivial|hole _=>exact(hh rfl).elim|_=>exact ah trivial):p:=x9
def YS (x9:p:=by rw[this,this];refine af _ (heq hσ hh) ?_;rintro _ x _ _ rfl;exact ah<|.bool _):p:=x9
variable [Gl]
section
variable {ok:Ctx}{ρ:Ren}
def PA (P:ay)(d:Array ac):Bool:=
 match d[0]? with
 |some s=>(match P.underlying s with|some (.slice e)=>Fz P e|_=>false)
 |_=>false
def R3 (hT:af8.toTables=P.toTables)(ts t)(hb:PA P ts)(h:aB ok ρ xs u):ag af8 P ok str (ar ok) ρ (Builtin.clear_ ts t xs) (Builtin.clear_ ts t u):=by unfold Builtin.clear_;unfold PA at hb;rcases h0:ts[0]? with _|sT;grind;rw[h0]at hb;simp only at hb;rcases hs:xs[0]? with _|s;exact .halt _ _;let⟨s',pd,rs⟩:=h.get hs;rw[pd];dsimp only;refine af _ (ap hT sT) ?_;rintro σ d _ l ⟨rfl,hd⟩;have rs:=rs.mono l;have aG:∀{υ:Ren},ag af8 P ok str (ar ok) υ (pure (.tuple #[]):Sem Value) (pure<|.tuple #[]):=ah<|.tuple rfl λi x A hx _=>cQ;cases d with|slice Z=>((have hz:Fz P Z=true:=by rw[hd]at hb;omega);cases rs with|dj n c=>grind|@slice a a' n c ra=>(cases n with|zero=>grind|succ n=>refine af _ (kq hT Z hz) ?_;intro υ z z' k D_;exact af _ (iC _ _ (ra.mono k) 0 (kv D_ _).list) λυ _ _ _ _=>aG)|map h=>(refine ag.getObj h λo J ho=>?_;cases ho with|map k _=>exact .setObj h (.map k .nil) aG|_=>exact .halt _ _)|_=>exact .halt _ _)|_=>grind
def La (P:ay)(d:Array ac):Bool:=
 match d[0]?,d[1]? with
 |some s,some x=>(match P.underlying s with|some (.slice e)=>Fz P e|_=>false)&&(match P.underlying x with|some (.int _)=>true|_=>false)
 |_,_=>false
def Kq (hT:af8.toTables=P.toTables)(E t)(g:La P E)(h:aB ok ρ xs u):ag af8 P ok str (ar ok) ρ (Builtin.append_ E t xs) (Builtin.append_ E t u):=by unfold Builtin.append_;unfold La at g;rcases h0:E[0]? with _|sT;rw[h0]at g;simp at g;rcases h1:E[1]? with _|xT;rw[h0,h1]at g;simp at g;rw[h0,h1]at g;simp only[Bool.and_eq_true]at g;rcases hs:xs[0]? with _|s;exact .halt _ _;let⟨s',pd,rs⟩:=h.get hs;rcases hx:xs[1]? with _|x;exact .halt _ _;let⟨A,fe,j⟩:=h.get hx;rw[pd,fe];dsimp only;refine af _ (ap hT sT) ?_;rintro σ d _ l ⟨rfl,hd⟩;have rs:=rs.mono l;have j:=j.mono l;cases d with|slice elem=>((have hz:Fz P elem=true:=by have:=g.1;rw[hd]at this;exact this);(have zN:∀{υ:Ren} (n size:Nat),ag af8 P ok str (λσ x y=>aB ok σ x y) υ (if n*size=0 then pure #[]else do pure (Builtin.zeroCells (<-zeroValue elem).cells n)) (if n*size=0 then pure #[]else do pure (Builtin.zeroCells (<-zeroValue elem).cells n)):=by intro υ n size;split;exact ah aB.nil;refine af _ (kq hT elem hz) ?_;intro F z z' k D_;exact ah<|kv D_ _);cases rs with|dj p9 Hr=>dsimp only;refine af _ (dm hT elem) ?_;rintro aP size _ S ⟨rfl,_⟩;refine af _ (ap hT xT) ?_;rintro SN d2 _ Z ⟨rfl,XD⟩;have j:=(j.mono S).mono Z;have L:=g.2;rw[XD]at L;(cases d2<;>first|cases L|skip);refine aW ?_;simp only[if_true,Bool.not_true,Bool.false_eq_true,if_false,true_or,and_true];refine af _ (kN j) ?_;rintro aZ v _ l3 rfl;split;exact Tp;refine af _ (bP hT elem) ?_;rintro bl i4 _ l4 ⟨rfl,_⟩;split;exact Yv;refine aW ?_;split;refine af _ (zN _ size) ?_;intro τ new Rc w hn;exact ah<|.dj _ _;refine af _ (bP hT elem) ?_;rintro τ i _ w ⟨rfl,_⟩;split;exact Tp;refine af _ (bP hT elem) ?_;rintro bq i1 _ l6 ⟨rfl,_⟩;split;exact Tp;refine ag.choose _ λJ5=>?_;refine aW ?_;refine af _ (bP hT elem) ?_;rintro F i _ k1 ⟨rfl,_⟩;refine af _ (mC _) ?_;intro bx _ _ k2 _;refine af _ (eH size p9<|.dj _ _) ?_;exact ac3|@slice a a' p9 Hr Q=>dsimp only;refine af _ (dm hT elem) ?_;rintro aP size _ S ⟨rfl,_⟩;refine af _ (ap hT xT) ?_;rintro SN d2 _ Z ⟨rfl,XD⟩;have j:=(j.mono S).mono Z;have Q:=(Q.mono S).mono Z;have L:=g.2;rw[XD]at L;(cases d2<;>first|cases L|skip);refine aW ?_;rw[if_pos rfl,if_pos rfl];refine af _ (kN j) ?_;rintro aZ v _ l3 rfl;by_cases aG:IntKind.i64.wrap v<0;rw[if_pos aG,if_pos aG];exact Tp;rw[if_neg aG,if_neg aG];refine af _ (bP hT elem) ?_;rintro bl i4 _ l4 ⟨rfl,_⟩;by_cases XA:IntKind.i64.wrap v*i4.bytes>2^48;rw[if_pos XA,if_pos XA];exact Yv;rw[if_neg XA,if_neg XA];refine aW ?_;simp only[if_true,Bool.not_true,Bool.false_eq_true,if_false,true_or,and_true];split;refine af _ (zN _ size) ?_;intro τ new Rc w hn;refine af _ (iC _ _ ((((Q.mono l3).mono l4).mono w).add _) 0 hn.list) ?_;intro cj _ _ l6 _;exact ah<|.slice _ _<|(((Q.mono l3).mono l4).mono w).mono l6;refine af _ (bP hT elem) ?_;rintro τ i _ w ⟨rfl,_⟩;split;exact Tp;refine af _ (bP hT elem) ?_;rintro bq i1 _ l6 ⟨rfl,_⟩;split;exact Tp;refine ag.choose _ λJ5=>?_;refine aW ?_;refine af _ (bP hT elem) ?_;rintro F i _ k1 ⟨rfl,_⟩;refine af _ (mC _) ?_;intro bx _ _ k2 _;refine af _ (eH size p9<|.slice _ _<|(((((Q.mono l3).mono l4).mono w).mono l6).mono k1).mono k2) ?_;exact ac3|_=>exact .halt _ _)|_=>exact .halt _ _
def PF (P:ay)(d:Array ac):Bool:=
 match d[0]? with
 |some s=>(match P.underlying s with|some (.slice _)=>true|_=>false)
 |_=>false
def Wc (hT:af8.toTables=P.toTables)(ts:Array ac)(t:ac)(hb:PF P ts)(h:aB ok ρ xs u):ag af8 P ok str (ar ok) ρ (b6 ts t xs) (b6 ts t u):=by unfold b6;unfold PF at hb;rcases h0:ts[0]? with _|sT;grind;rw[h0]at hb;simp only at hb;rcases hs:xs[0]? with _|s;exact .halt _ _;let⟨s',pd,rs⟩:=h.get hs;rw[pd];rcases hx:xs[1]? with _|x;exact .halt _ _;let⟨A,fe,rx⟩:=h.get hx;rw[fe];dsimp only;refine af _ (ap hT sT) ?_;rintro σ d _ l ⟨rfl,hd⟩;have rs:=rs.mono l;have rx:=rx.mono l;cases d with|slice Z=>(cases rs with|dj n c=>refine af _ (vo rx) ?_;rintro aG k _ l1 rfl;refine af _ (dm hT Z) ?_;rintro SN z _ l2 ⟨rfl,_⟩;refine af _ (eH _ _<|(rx.mono l1).mono l2) ?_;intro aZ ys vy l3 hy;exact ah (.int _ _)|@slice a a' n c ra=>refine af _ (vo rx) ?_;rintro aG k _ l1 rfl;refine af _ (dm hT Z) ?_;rintro SN z _ l2 ⟨rfl,_⟩;refine af _ (eH _ _<|(rx.mono l1).mono l2) ?_;intro aZ ys vy l3 hy;refine af _ (iC _ _ (((ra.mono l1).mono l2).mono l3) 0 hy.list) ?_;intro bl _ _ l4 _;exact ah (.int _ _)|_=>exact .halt _ _)|_=>grind
def xk (P:ay)(d:aL)(t:ac)(y:cf):Bool:=FC d&&(match P.underlying t with|some (.interface _)=>true|_=>false)&&(match y with|.const .nilIface=>true|_=>false)
omit [Gl] in
def LG {d:aL}{y:cf}(h:xk P d t y):y=.const .nilIface:=by unfold xk at h;grind
def R5 (L:af8.toTables=P.toTables)(g:aL)(t:ac)(x y:cf)(j:xk P g t y){a a':aa}(h:ar ok ρ a a'): ag af8 P ok str (ar ok) ρ (do bB g t x y a .nilIface;ad g t a .nilIface) (do bB g t x y a' .nilIface;ad g t a' .nilIface):=by
 have S:=LG j;subst S;unfold xk at j;rw[agZ,agZ]at j;let⟨⟨s,h2⟩,_⟩:=j;obtain⟨w,Z⟩:∃w,P.underlying t=some (.interface w):=by grind
 have E:af8.underlying t=some (.interface w):=by rw[tS L];omega
 have heq:∀{σ:Ren} {a a':aa},ar ok σ a a'->a≠hole->ag af8 P ok str (λ_ x y=>x=y) σ (aI t a .nilIface) (aI t a' .nilIface):=by intro σ a a' h F;show ag af8 P ok str _ σ (aE (9999+1) t a .nilIface) (aE (9999+1) t a' .nilIface);unfold aE;refine af _ (ap L t) ?_;rintro τ d _ _ ⟨rfl,Q⟩;rw[Z]at Q;obtain rfl:=agC Q;cases h with|hole _=>exact(F rfl).elim|nilIface=>exact ah rfl|iface t h=>exact ah rfl|_=>exact .halt _ _
 by_cases hh:a=hole;subst hh;refine .dead _ _ λV=>?_;have e:(aI t hole .nilIface).run af8 V=.halt (.stuck "==: the operands do not fit the type, or the type is not comparable") V:=by show(aE (9999+1) t hole .nilIface).run af8 V=_;unfold aE;rw[a0,run_underlying E];rfl
 rw[a0];cases g with|eql=>show Result.stops ((do pure (a4<|<-aI t hole .nilIface):Sem aa).run af8 V)=true;rw[a0,e];rfl|neq=>show Result.stops ((do pure (a4<|!(<-aI t hole .nilIface)):Sem aa).run af8 V)=true;rw[a0,e];rfl|_=>cases s
 have hg:ag af8 P ok str (λ_ _ _=>True) ρ (bB g t x (.const .nilIface) a .nilIface) (bB g t x (.const .nilIface) a' .nilIface):=by unfold bB;cases g with|eql=>exact Yz|neq=>exact Yz|_=>cases s
 refine af _ hg ?_;intro σ _ _ l _;have hσ:=h.mono l;cases g with|eql=>(have:∀v:aa,ad .eql t v .nilIface=(do pure (a4<|<-aI t v .nilIface)):=λv=>by cases v<;>rfl);exact YS|neq=>(have:∀v:aa,ad .neq t v .nilIface=(do pure (a4<|!(<-aI t v .nilIface))):=λv=>by cases v<;>rfl);exact YS|_=>cases s
end
end
section
def AZ {d}(h:Made.reckonStruct N d=some i):i.methods=#[]:=by grind [Made.reckonStruct,bind,bp,pure,bF]
def YJ (x9:p:=by simp[bind,Option.bind_eq_some_iff,pure]at h;let⟨_,_,_,_,h⟩:=h;cases h;rfl):p:=x9
def AF {d}(h:Made.reckon N d=some i):i.methods=#[]:=by unfold Made.reckon at h;cases d with|struct Z=>exact AZ h|pointer e=>simp[bind,bp,pure]at h;let⟨j,_,h⟩:=h;split at h;grind;split at h;grind;let⟨s,_,h⟩:=agQ.1 h;cases h;rfl;let⟨s,_,h⟩:=agQ.1 h;cases h;rfl|slice e=>exact YJ|map k e=>simp[bind,bp,pure]at h;let⟨_,_,_,_,_,_,_,_,h⟩:=h;cases h;rfl|chan k e=>exact YJ|func a b c=>simp[bind,bp,pure]at h;let⟨_,_,h⟩:=h;cases h;rfl|array n e=>simp[bind,bp,pure]at h;grind|_=>grind
theorem EK {T:Tables}(g:¬t<T.types.size)(h:T.info? t=some i):i.methods=#[]:=by unfold Tables.info? at h;rw[if_neg g]at h;have:Made.depth=99+1:=rfl;rw[this]at h;unfold Made.infoAt at h;rw[if_neg g]at h;let⟨d,_,h⟩:=agQ.1 h;exact AF h
def Q8 (fn:a9->Bool)(m:Method):Bool:=m.path.all (λs=>!s.deref)&&(match m.func with|some (f,_)=>fn f|none=>false)
def Aq (P:ay)(fn:a9->Bool)(name:String):Bool:=P.types.all λi=>i.methods.all λm=>m.name !=name||Q8 fn m
def NG {fn:a9->Bool}{name:String}(h:Aq P fn name)(hi:P.info? t=some i){m:Method}(g:i.methods.find? (·.name==name)=some m):Q8 fn m:=by by_cases d:t<P.types.size;unfold Tables.info? at hi;rw[if_pos d]at hi;unfold Aq at h;grind [cB,bne,Array.getElem_of_mem];grind [EK]
section
variable [Gl]{ok:Ctx}{ρ:Ren}
def Og (Z:af8.toTables=P.toTables):∀l (_:l.all (λs=>!s.deref)) {ρ:Ren} (t:ac) {v C:aa},ar ok ρ v C->ag af8 P ok str (λσ x y=>x.1=y.1/\∃u u',x.2=.val u/\y.2=.val u'/\ar ok σ u u') ρ (ci l t<|.val v) (ci l t<|.val C):=by intro l;induction l with|nil=>intro _ ρ t v C h;exact ah ⟨rfl,v,C,rfl,rfl,h⟩|cons s l ih=>intro hl ρ t v C h;simp only[List.all_cons,bM,cJ]at hl;unfold ci;refine af _ (ap Z s.struct) ?_;rintro σ d _ le ⟨rfl,_⟩;cases d with|struct fs=>(dsimp only;rcases hf:fs[s.index]? with _|f;exact .halt _ _;simp only[hl.1,b2,if_false];cases h with|agg e h=>dsimp only;refine af _ (yG Z f.type (aB.mono ⟨e,h⟩ le) f.offset) ?_;grind|_=>exact .halt _ _)|_=>exact .halt _ _
def Wl (g:af8.toTables=P.toTables)(t:ac)(k:Bool)(w:Option String)(h:ar ok ρ v C):ag af8 P ok str (ar ok) ρ (cc t (.val v) k w) (cc t (.val C) k w):=by unfold cc;refine af _ (ap g t) ?_;rintro σ d _ s ⟨rfl,_⟩;replace h:=h.mono s;cases d with|pointer e=>(cases k;(have j:∀{τ:Ren} {x y:aa},ar ok τ x y->ag af8 P ok str (ar ok) τ (do bV e (<-b0 x)) (do bV e (<-b0 y)):=by intro τ x y m;exact af _ (ws g m)<|λυ a a' _ r=>tO g e r);dsimp only;refine aW ?_;rcases w with _|name;grind;refine af (ar ok) ?_ λτ x y _ m=>j m;unfold dF;(cases h with|ptr r=>exact ah (.ptr r)|kX=>refine ag.choose _ λn=>aW ?_;split;dsimp only;split;exact af (λ_ _ _=>False) (im g .nilDeref rfl) λ_ _ _ _ h=>h.elim;refine af _ (ap g _) ?_;rintro τ d _ l ⟨rfl,_⟩;(cases d with|pointer u=>refine af _ (bP g u) ?_;rintro υ i _ l ⟨rfl,_⟩;split;split;(try dsimp only);split;exact im g (.plain _) rfl;exact kY;exact kY;exact kY|_=>grind);grind|_=>exact .halt _ _);exact ah h)|_=>cases k<;>first|exact ah h|exact .halt _ _
def Ol (s:af8.toTables=P.toTables) n (t name)(Z:Aq P ok.fn name)(h:ar ok ρ v C): ag af8 P ok str (λσ x y=>x.1=y.1/\ok.fn x.1/\ar ok σ x.2 y.2) ρ (method n t v name) (method n t C name):=by cases n with|zero=>exact .halt _ _|succ n=>refine af _ (bP s t) ?_;rintro σ i _ le ⟨rfl,hi⟩;cases hf:i.methods.find? (·.name==name)with|none=>exact .halt _ _|some m=>have hk:=NG Z hi hf;unfold Q8 at hk;rw[agZ]at hk;refine af _ (Og s m.path.toList cQ t<|h.mono le) ?_;rintro τ ⟨xt,_⟩ ⟨_,_⟩ l ⟨rfl,u,u',rfl,rfl,hu⟩;rcases hg:m.func with _|q;grind;let⟨f,pr⟩:=q;rw[hg]at hk;exact af _ (Wl s xt pr _ hu)<|λυ x y _ hx=>ah ⟨rfl,hk.2,hx⟩
def wA (g:af8.toTables=P.toTables)(t:ac)(h:ar ok ρ v C):ag af8 P ok str (ar ok) ρ (cv t v) (cv t C):=by refine af _ (ap g t) ?_;rintro σ d _ j ⟨rfl,_⟩;cases d<;>first|exact ah (.iface t<|h.mono j)|exact .halt _ _
def vt {a a' b B:aa}(h:ar ok ρ a a')(d:ar ok ρ b B):ar ok ρ (.tuple #[a,b]) (.tuple #[a',B]):=by have:=(aB.nil.push h).push d;exact .tuple this.size this.at_
def Ck (j:af8.toTables=P.toTables)(t a:ac)(s:Fz P a)(h:ar ok ρ v C):ag af8 P ok str (ar ok) ρ (b5 v t a true) (b5 C t a true):=by unfold b5;dsimp only;(have g:∀{σ:Ren},ag af8 P ok str (ar ok) σ (do pure (.tuple #[<-bS a,false]):Sem aa) (do pure (.tuple #[<-bS a,false])):=by intro σ;refine af _ (kq j a s) ?_;intro τ x y _ E;exact ah<|vt E<|.bool _);refine af _ (ap j a) ?_;rintro σ d _ F ⟨rfl,_⟩;replace h:=h.mono F;simp only[if_true];cases d with|interface w=>(cases h with|nilIface=>grind|iface t h=>dsimp only;refine af _ (bP j t) ?_;rintro τ i _ l ⟨rfl,_⟩;split;exact ah<|vt (.iface t<|h.mono l)<|.bool _;grind|_=>exact .halt _ _)|_=>cases h with|nilIface=>grind|iface t h=>(dsimp only;split<;>first|exact ah (vt h<|.bool _)|exact g)|_=>exact .halt _ _
end
