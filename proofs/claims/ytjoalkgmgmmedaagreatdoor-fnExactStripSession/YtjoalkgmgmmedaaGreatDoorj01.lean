import Derived.Test.YtjoalkgmgmmedaaGreatDoorj00
import Derived.Conc.Events
import Derived.ArgAppend
set_option linter.unusedVariables false
set_option linter.defProp false
set_option maxHeartbeats 1000000
open Array renaming mem_singleton->ay,mem_append->aI,range->bH,getElem?_setIfInBounds->bL,getD_eq_getD_getElem?->bN,getElem?_push->b7,length_toList->b8,toList_zipIdx->b9,foldl_toList->cb,forIn_toList->cc,getElem?_map->cd,all_eq_true->ci,replicate->ct
open Bool renaming false_eq_true->a0,and_eq_true->a5,not_eq_true'->cp,not_false->cA,not_true->cM
open ForInStep renaming yield->bn,done->cf
open Go renaming TypeId->aa,Value->ac,Program->ao,binOp->ax,behindNumber->aV,World->a2,Addr->a9,Deferred->bi,BinOp->br,IntKind->bs,unsupported->bv,boundsPanic->bz,cellAtBytes->bA,zeroValue->bB,byteOfCell->bI,FuncId->bR,MapEntry->b1,stuck->b2,underlying->b3,BoundsCode->b4,eqGuard->co,cellOfByte->cI,receiverAt->cK,loadVar->cS,sizeOf->c6,newRow->c7,asAddr->c8,loadCellsFrom->da,RuntimeError->dg,runtimePanic->dk,askRoom->dm,part->dn,movedPointer->dp,Operand->ds,Event->dw,movedNumber->dx,storeCells->dF,byteOf->dN,follow->dS
open Go.Builtin renaming append_->aL,zeroCells->a1,unsafeAdd_->bb,clear_->bM,copy_->bO,firstCells->b5,mayShare->ce,lenOf->cu,holdsCells->dT,ssaWrapNilChk_->dU
open Go.Instr renaming fill->bj,sliceBound->bE,typeAssert->bF,extract->bV,makeInterface->ca,sliceBounds->cn,buildSlice->cq,makeSlice->cw,sureAddr->cx,fieldAt->cB,indexAt->cC,sliceAt->cE,alloc->cV,build->cX,slice->c0,index->c2,box->c5
open Go.Mode renaming atomic->a7,plain->bk
open Go.Op renaming equalIn->ad,equal->av,stringOp->ch,intDiv->cz,shift->cT,twoPlaces->c4,intArith->c9,intBits->db,addrSub->dc,addrCmp->dd,addrMod->df,intCmp->dt,unary->dz
open Go.Program renaming cellsOf->a6,bytesOf->bp,underlying->b6,depth->cv
open Go.Sem renaming runT->ai,run_bind->au,run->a3,runT_bind'->cL,bind->dv
open Go.Value renaming pointer->be,bool->bS,tuple->bW,int->b0,slice->cl,agg->dC
open Go.World renaming cell?->bm,frozen?->bt,setCell->cF,noCell->cN,freeze->cP
open Option renaming bind_eq_some_iff->aB
open Option.some renaming injEq->a8
open Or renaming inl->a4,inr->bo
open Prod.mk renaming injEq->aE
namespace Go.Proofs.YtjoalkgmgmmedaaGreatDoor
open Go
variable {a a' B:a9}{cs cs' xs u:Array ac}{str:Bool}{e:dw}{l D:List ac}{b c r r':Nat}{o J:Obj}{z hi lo R q T:Option ac}{P afn:ao}{p:Prop}{α β γ δ:Type}{t:aa}{N:aa->Option TypeInfo}{i:TypeInfo}{U n O v C x A y f:ac}{V Y W:a2}
section
class Gl where
 n:Nat
 ov:Nat:=1000000001
 XA:ao->Prop:=λ_=>False
 top:ao->Prop:=λ_=>False
variable [Gl]
structure Ren where
 to:Nat->Option Nat
 inj:∀b B c,to b=some c->to B=some c->b=B
 IP:∀b c,to b=some c->(b<Gl.n<->c<Gl.n)
instance :CoeFun Ren (λ_=>Nat->Option Nat):=⟨Ren.to⟩
def Ren.le (ρ σ:Ren):Prop:=∀b c,ρ b=some c->σ b=some c
def Ren.le_refl (ρ:Ren):ρ.le ρ:=λ_ _ h=>h
def Ren.le.trans {ρ σ τ:Ren}(h:ρ.le σ)(s:σ.le τ):ρ.le τ:=λb c e=>s b c<|h b c e
def Ren.ext (ρ:Ren)(n m)(h:∀b c,ρ b=some c->b≠n/\c≠m)(Z:Gl.n<=n)(hm:Gl.n<=m):Ren:=⟨λb=>if b=n then some m else ρ b,λb B c hb s=>by
 split at hb<;>split at s
 .omega
 .simp only[a8]at hb;exact absurd hb.symm (h _ _ s).2
 .simp only[a8]at s;exact absurd s.symm (h _ _ hb).2
 .exact ρ.inj _ _ _ hb s,λb c hb=>by
 split at hb
 .simp only[a8]at hb;omega
 .exact ρ.IP _ _ hb⟩
structure dD (ρ:Ren)(a a':a9):Prop where
 blk:ρ a.block=some a'.block
 off:a'.off=a.off
 spot:a'.spot=a.spot
def dD.mono {ρ σ:Ren}(h:dD ρ a a')(l:ρ.le σ):dD σ a a':=⟨l _ _ h.blk,h.off,h.spot⟩
theorem dD.add {ρ:Ren}(h:dD ρ a a') n:dD ρ (a.add n) (a'.add n):=by
 unfold Addr.add;split
 .omega
 exact⟨h.blk,by simp[h.off],rfl⟩
structure Ctx where
 fn:bR->Bool
 aN:bR->Bool
 code:Code->Bool
 ex:bR->Bool
inductive yA (ok:Ctx)(ρ:Ren):Fn->Fn->Prop
 |func {f:bR}:ok.fn f->yA ok ρ (.func f) (.func f)
 |yield {l D:Nat}:ρ l=some D->yA ok ρ (.yield l) (.yield D)
def hole:Value:=.func (.method "") #[.iface 1000000000<|.chan none] #[]
def aa1:ac->Bool
 |dC _|bW _|be none|.nilFunc|.nilIface|bS _|b0 _ _|.string _|cl none _ _=>false
 |_=>true
inductive aq (ok:Ctx)(ρ:Ren):ac->ac->Prop
 |hole {v:ac}:aa1 v->aq ok ρ hole v
 |bool (b:Bool):aq ok ρ b b
 |int (k:bs) n:aq ok ρ (b0 k n) (b0 k n)
 |string (s:ByteArray):aq ok ρ s s
 |kP:aq ok ρ (be none) (be none)
 |ptr {a a':a9}:dD ρ a a'->aq ok ρ (be a) (be a')
 |dr (l c:Nat):aq ok ρ (cl none l c) (cl none l c)
 |slice {a a':a9} (l c:Nat):dD ρ a a'->aq ok ρ (cl (some a) l c) (cl (some a') l c)
 |map {r r':Nat}:ρ r=some r'->aq ok ρ (.map<|some r) (.map<|some r')
 |nilFunc:aq ok ρ .nilFunc .nilFunc
 |nilIface:aq ok ρ .nilIface .nilIface
 |iface (t:aa) {v C:ac}:aq ok ρ v C->aq ok ρ (.iface t v) (.iface t C)
 |func {f f':Fn} {xs u ys vc:Array ac}:yA ok ρ f f'->xs.size=u.size->(∀(i:Nat) (x A:ac),xs[i]?=some x->u[i]?=some A->aq ok ρ x A)->
   ys.size=vc.size->(∀(i:Nat) (x A:ac),ys[i]?=some x->vc[i]?=some A->aq ok ρ x A)->aq ok ρ (.func f xs ys) (.func f' u vc)
 |agg {xs u:Array ac}:xs.size=u.size->(∀(i:Nat) (x A:ac),xs[i]?=some x->u[i]?=some A->aq ok ρ x A)->aq ok ρ (dC xs) (dC u)
 |tuple {xs u:Array ac}:xs.size=u.size->(∀(i:Nat) (x A:ac),xs[i]?=some x->u[i]?=some A->aq ok ρ x A)->aq ok ρ (bW xs) (bW u)
structure aA (ok)(ρ:Ren)(xs u:Array ac):Prop where
 size:xs.size=u.size
 at_:∀(i:Nat) (x A:ac),xs[i]?=some x->u[i]?=some A->aq ok ρ x A
section
variable {ok:Ctx}{ρ σ:Ren}
def yA.mono {f s}(h:yA ok ρ f s)(l:ρ.le σ):yA ok σ f s:=by
 cases h with
 |func h=>exact .func h
 |yield h=>exact .yield<|l _ _ h
def aq.mono (h:aq ok ρ v C)(l:ρ.le σ):aq ok σ v C:=by
 induction h with
 |hole h=>exact .hole h
 |bool b=>exact .bool b
 |int k n=>exact .int k n
 |string s=>exact .string s
 |kP=>exact .kP
 |ptr h=>exact .ptr (h.mono l)
 |dr l c=>exact .dr l c
 |slice n c h=>exact .slice n c (h.mono l)
 |map h=>exact .map (l _ _ h)
 |nilFunc=>exact .nilFunc
 |nilIface=>exact .nilIface
 |iface t _ ih=>exact .iface t ih
 |func hf e1 _ e2 _ i1 i2=>exact .func (hf.mono l) e1 i1 e2 i2
 |agg e _ ih=>exact .agg e ih
 |tuple e _ ih=>exact .tuple e ih
def aA.mono (h:aA ok ρ xs u)(l:ρ.le σ):aA ok σ xs u:=⟨h.size,λi x A a b=>(h.at_ i x A a b).mono l⟩
def aA.get (h:aA ok ρ xs u){i:Nat}(d:xs[i]?=some x):∃A,u[i]?=some A/\aq ok ρ x A:=by
 have g:u[i]?=some (u[i]'(by rw[<-h.size];exact((afM.1 d).1))):=afR _
 exact⟨_,g,h.at_ _ _ _ d g⟩
def aA.none (h:aA ok ρ xs u){i:Nat}(d:xs[i]?=none):u[i]?=none:=by
 rw[Array.getElem?_eq_none_iff]at d⊢;rw[<-h.size];omega
def jT:aq ok ρ undef undef:=.tuple rfl λi x A h=>gC
theorem aA.getD (h:aA ok ρ xs u) i:aq ok ρ (xs.getD i undef) (u.getD i undef):=by
 cases d:xs[i]? with
 |none=>simp[d,h.none d];exact jT
 |some x=>
  let⟨A,g,r⟩:=h.get d;simp_all
def aA.nil:aA ok ρ #[] #[]:=⟨rfl,λi x A h=>gC⟩
def aA.push (h:aA ok ρ xs u)(j:aq ok ρ v C):aA ok ρ (xs.push v) (u.push C):=by
 refine⟨by simp[h.size],λi x A g d=>?_⟩;rw[b7]at g d;rw[<-h.size]at d;split at g
 .grind
 rename_i e;rw[if_neg e]at d;exact h.at_ i x A g d
def aA.set (h:aA ok ρ xs u)(k:aq ok ρ v C) j:aA ok ρ (xs.setIfInBounds j v) (u.setIfInBounds j C):=by
 refine⟨by simp[h.size],λi x A d g=>?_⟩;rw[bL]at d g;by_cases e:j=i
 .grind
 rw[if_neg e]at d g;exact h.at_ i x A d g
def aA.append {j k}(h:aA ok ρ xs u)(m:aA ok ρ j k):aA ok ρ (xs++j) (u++k):=by
 refine⟨by simp[h.size,m.size],λi x A g d=>?_⟩;rw[Array.getElem?_append]at g d;rw[<-h.size]at d;by_cases e:i<xs.size
 .rw[if_pos e]at g d;exact h.at_ i x A g d
 rw[if_neg e]at g d;exact m.at_ _ x A g d
def aA.extract (h:aA ok ρ xs u)(i j):aA ok ρ (xs.extract i j) (u.extract i j):=by
 refine⟨by simp[h.size],λk x A g d=>?_⟩;rw[Array.getElem?_extract]at g d;rw[<-h.size]at d;split at g
 .rename_i e;rw[if_pos e]at d;exact h.at_ _ x A g d
 grind
def aA.replicate (d:aq ok ρ v C) n:aA ok ρ (ct n v) (ct n C):=by
 refine⟨aP,λi x A g j=>?_⟩;grind
def aA.map {f s}(h:∀a,aq ok ρ (f a)<|s a)(xs:Array α):aA ok ρ (xs.map f) (xs.map s):=by
 refine⟨aP,λi x A Z eX=>?_⟩;grind
theorem aq.cells (h:aq ok ρ v C):aA ok ρ v.cells C.cells:=by
 have one:∀{x A:ac},aq ok ρ x A->aA ok ρ #[x] #[A]:=λh=>aA.nil.push h
 cases h with
 |hole h=>
  have e:C.cells=#[C]:=by cases C<;>first|rfl|cases h
  rw[e];exact one (.hole h)
 |agg e h=>exact⟨e,h⟩
 |bool b=>exact one (.bool b)
 |int k n=>exact one (.int k n)
 |string s=>exact one (.string s)
 |kP=>exact one .kP
 |ptr h=>exact one (.ptr h)
 |dr l c=>exact one (.dr l c)
 |slice n c h=>exact one (.slice n c h)
 |map h=>exact one (.map h)
 |nilFunc=>exact one .nilFunc
 |nilIface=>exact one .nilIface
 |iface t h=>exact one (.iface t h)
 |func a b c d e=>exact one (.func a b c d e)
 |tuple e h=>exact one<|.tuple e h
end
inductive OA (ok:Ctx)(ρ:Ren):Target->Target->Prop
 |fn {f f':Fn} {xs u:Array ac}:yA ok ρ f f'->aA ok ρ xs u->OA ok ρ (.fn f xs) (.fn f' u)
 |nil:OA ok ρ .nil .nil
inductive LO (ok:Ctx)(ρ:Ren):bi->bi->Prop
 |call {f:bR} {xs u ys vc:Array ac}:ok.fn f->ok.aN f->aA ok ρ xs u->aA ok ρ ys vc->LO ok ρ ⟨.fn (.func f) xs,ys⟩ ⟨.fn (.func f) u,vc⟩
 |mark {r r':Nat}:ρ r=some r'->LO ok ρ ⟨.collected r,#[]⟩ ⟨.collected r',#[]⟩
inductive jw (ok:Ctx)(ρ:Ren):List bi->List bi->Prop
 |nil:jw ok ρ [] []
 |cons {d d':bi} {l D:List bi}:LO ok ρ d d'->jw ok ρ l D->jw ok ρ (d::l) (d'::D)
inductive iL (ok:Ctx)(ρ:Ren):List b1->List b1->Prop
 |nil:iL ok ρ [] []
 |cons (s:ByteArray) n {v C:ac} {l D:List b1}:aq ok ρ v C->iL ok ρ l D->iL ok ρ ({key:=s,val:=v,born:=n}::l) ({key:=s,val:=C,born:=n}::D)
structure Fe (ok)(ρ:Ren)(r r':Loop):Prop where
 state:r'.state=r.state
 pending:r'.pending=r.pending
 fn:r'.fn=r.fn
 tmps:aA ok ρ r.tmps r'.tmps
 params:r'.params=r.params
 assign:r'.assign=r.assign
 body:r'.body=r.body
 defers:ρ r.defers=some r'.defers
 aN:ok.aN r.fn
 ok1:ok.code r.assign
 ok2:ok.code r.body
 ok3:∀c,r.pending=some c->ok.code c
def acG (str:Bool)(c:Array ac)(z s:Nat×Nat):Prop:=(s=if str then z else(0,0))\/(str/\z=(0,c.size)/\0<c.size/\∀(i:Nat) x,c[i]?≠some (b0 .u8 x))
inductive mY (ok:Ctx)(str:Bool)(ρ:Ren):Obj->Obj->Prop
 |cells {c c':Array ac} {e:aa} {z z':Nat×Nat}:aA ok ρ c c'->acG str c z z'->mY ok str ρ (.cells c e z) (.cells c' e z')
 |stringIter (s:ByteArray) p:mY ok str ρ (.stringIter s p) (.stringIter s p)
 |loop {r r':Loop}:Fe ok ρ r r'->mY ok str ρ (.loop r) (.loop r')
 |taken:mY ok str ρ (.deferred none) (.deferred none)
 |number {a a':a9} (lost:Bool):dD ρ a a'->mY ok str ρ (.number a lost) (.number a' lost)
 |deferred {l D:List bi}:jw ok ρ l D->mY ok str ρ (.deferred<|some l) (.deferred<|some D)
 |map {es iq:Array b1} k:iL ok ρ es.toList iq.toList->mY ok str ρ (.map es k) (.map iq k)
section
variable {ok:Ctx}{ρ σ:Ren}
def LO.mono {d d':bi}(h:LO ok ρ d d')(l:ρ.le σ):LO ok σ d d':=by
 cases h with
 |call a b x y=>exact .call a b (x.mono l) (y.mono l)
 |mark h=>exact .mark<|l _ _ h
def L_ (x9:p:=by
  induction h with
  |nil=>exact .nil
  |cons h _ ih=>exact .cons (h.mono l) ih):p:=x9
def jw.mono {d d':List bi}(h:jw ok ρ d d')(l:ρ.le σ):jw ok σ d d':=by
 exact L_
def jw.append {a a' b B:List bi}(h:jw ok ρ a a')(d:jw ok ρ b B):jw ok ρ (a++b) (a'++B):=by
 induction h with
 |nil=>exact d
 |cons h _ g=>exact .cons h g
def iL.mono {l D:List b1}(h:iL ok ρ l D)(d:ρ.le σ):iL ok σ l D:=by
 induction h with
 |nil=>exact .nil
 |cons s n h _ g=>exact .cons s n (h.mono d) g
def Fe.mono {r r'}(h:Fe ok ρ r r')(l:ρ.le σ):Fe ok σ r r':=⟨h.state,h.pending,h.fn,h.tmps.mono l,h.params,h.assign,h.body,l _ _ h.defers,h.aN,h.ok1,h.ok2,h.ok3⟩
def mY.mono (h:mY ok str ρ o J)(l:ρ.le σ):mY ok str σ o J:=by
 cases h with
 |cells h z=>exact .cells (h.mono l) z
 |stringIter s p=>exact .stringIter s p
 |loop h=>exact .loop (h.mono l)
 |taken=>exact .taken
 |number b h=>exact .number b (h.mono l)
 |deferred h=>exact .deferred (h.mono l)
 |map k h=>exact .map k<|h.mono l
def mY.kinds (h:mY ok str ρ o J):((∃c e z,o=.cells c e z)/\(∃c e z,J=.cells c e z))\/((∀c e z,o≠.cells c e z)/\(∀c e z,J≠.cells c e z)):=by
 cases h with
 |cells _ _=>grind
 |_=>grind
def mY.chan (h:mY ok str ρ o J):J.isChan=false:=by cases h<;>rfl
end
structure bw (ok:Ctx)(str:Bool)(ρ:Ren)(V W:a2):Prop where
 heap:∀b c,ρ b=some c->∃o J,V.heap[b]?=some o/\W.heap[c]?=some J/\mY ok str ρ o J
 tape:V.tape=W.tape
 drawn:V.drawn=W.drawn
 gV:Gl.n<=V
 gW:Gl.n<=W
 gs:(∀g,ok.fn (2000000+g)->ρ g=some g)/\(ok.fn 1999999->str)
def bw.gl {ok}{ρ:Ren}(h:bw ok str ρ V W):∀g,ok.fn (2000000+g)->ρ g=some g:=h.gs.1
def Ro (V:a2)(b:Nat):Prop:=∃c e,V.heap[b]?=some (.cells c e (0,c.size))
structure Kept (ρ:Ren)(V W:a2)(σ:Ren)(V' W':a2):Prop where
 le:ρ.le σ
 keep:∀c,c<W.heap.size->(∀b,ρ b≠some c)->W'.heap[c]?=W.heap[c]?
 ro:∀b c,ρ b=some c->Ro V b->V'.heap[b]?=V.heap[b]?/\W'.heap[c]?=W.heap[c]?
 size:W.heap.size<=W'
 C6:V.heap.size<=V'
 new:∀b c,σ b=some c->ρ b=some c\/(V<=b/\W<=c)
 tape:W'.tape=W.tape
 os:W'.os=W.os
 out:W'.output=W.output
def Kept.refl (ρ:Ren)(V W:a2):Kept ρ V W ρ V W:=⟨Ren.le_refl ρ,λ_ _ _=>rfl,λ_ _ _ _=>⟨rfl,rfl⟩,afK _,afK _,λ_ _ h=>a4 h,rfl,rfl,rfl⟩
def Kept.trans {ρ σ τ:Ren}{Z V2 W2:a2}(h:Kept ρ V W σ Y Z)(s:Kept σ Y Z τ V2 W2):Kept ρ V W τ V2 W2:=by
 refine⟨h.le.trans s.le,λc hc hn=>?_,λb c hb hr=>?_,afN h.size s.size,afN h.C6 s.C6,λb c hb=>(s.new b c hb).elim (λe=>h.new b c e) λe=>bo ⟨afN h.C6 e.1,afN h.size e.2⟩,s.tape.trans h.tape,s.os.trans h.os,s.out.trans h.out⟩
 .rw[s.keep c (afL hc h.size) (λb hb=>?_),h.keep c hc hn];rcases h.new b c hb with e|e;all_goals grind
 have h1:=h.ro b c hb hr;have h2:=s.ro b c (h.le b c hb) (by let⟨x,e,hx⟩:=hr;exact⟨x,e,cO⟩);grind
end
section
section
variable [Gl]
section
variable (afn P:ao)(ok:Ctx)(str:Bool)
def mute:Mark->Bool
 |.noRoom|.extern _=>true
 |_=>false
def ends:Halt->Bool
 |.stuck _=>true
 |.unsupported (.initOrder _)=>false
 |.unsupported _=>true
 |_=>false
def Result.stops:Result α->Bool
 |.ok _ _=>false
 |.halt h _=>ends h
inductive ag {α β:Type}(A:Ren->α->β->Prop):Ren->Sem α->Sem β->Prop
 |pure {ρ:Ren} {a:α} {b:β}:A ρ a b->ag A ρ (.pure a) (.pure b)
 |load {ρ:Ren} {a a':a9} {k:ac->Sem α} {k':ac->Sem β}:dD ρ a a'->(∀v C,aq ok ρ v C->ag A ρ (k v) (k' C))->ag A ρ (.load .plain a k) (.load .plain a' k')
 |store {ρ:Ren} {a a':a9} {v C:ac} {k:Sem α} {k':Sem β}:dD ρ a a'->aq ok ρ v C->ag A ρ k k'->ag A ρ (.store .plain a v k) (.store .plain a' C k')
 |new {ρ:Ren} {o J:Obj} {k:Nat->Sem α} {k':Nat->Sem β}:mY ok str ρ o J->(∀σ b c,ρ.le σ->σ b=some c->ag A σ (k b) (k' c))->ag A ρ (.new o k) (.new J k')
 |shape {ρ:Ren} {r r':Nat} {k:Option (aa×Nat)->Sem α} {k':Option (aa×Nat)->Sem β}:ρ r=some r'->(∀s,ag A ρ (k s)<|k' s)->ag A ρ (.shape r k) (.shape r' k')
 |dead {ρ:Ren} (s:Sem α) (s':Sem β):(∀V,Result.stops<|s.run afn V)->ag A ρ s s'
 |getObj {ρ:Ren} {r r':Nat} {k:Obj->Sem α} {k':Obj->Sem β}:ρ r=some r'->(∀o J,mY ok str ρ o J->ag A ρ (k o) (k' J))->ag A ρ (.getObj r k) (.getObj r' k')
 |setObj {ρ:Ren} {r r':Nat} {o J:Obj} {k:Sem α} {k':Sem β}:ρ r=some r'->mY ok str ρ o J->ag A ρ k k'->ag A ρ (.setObj r o k) (.setObj r' J k')
 |choose {ρ:Ren} (q:Question) {k:Nat->Sem α} {k':Nat->Sem β}:(∀n,ag A ρ (k n)<|k' n)->ag A ρ (.choose q k) (.choose q k')
 |program {ρ:Ren} {k:ao->Sem α} {k':ao->Sem β}:ag A ρ (k afn) (k' P)->ag A ρ (.program k) (.program k')
 |mark {ρ:Ren} {m:Mark} {k:Sem α} {k':Sem β}:mute m->ag A ρ k k'->ag A ρ (.mark m k) (.mark m k')
 |panic {ρ:Ren} {v C:ac}:aq ok ρ v C->ag A ρ (.halt<|.panic v) (.halt<|.panic C)
 |fz {ρ:Ren} {a a' l D:a9} {n:Nat} {k:ac->Sem α} {k':ac->Sem β} {j:Int->Sem α} {j':Int->Sem β}:ok.fn 1999999->dD ρ a a'->dD ρ l D->l.block=a.block->a.off+n=l.off+1->n≠0->
   (∀x,k (b0 .u8 x)=.freeze a n (j x))->(∀x,k' (b0 .u8 x)=.freeze a' n (j' x))->(∀v,(∀x,v≠.int .u8 x)->∃h,k v=.halt h/\ends h)->(∀x,ag A ρ (j x)<|j' x)->ag A ρ (.load .plain l k) (.load .plain D k')
 |halt {ρ:Ren} (h:Halt) (s:Sem β) (he:ends h:=by rfl):ag A ρ (.halt h) s
 |eq {ρ:Ren} {s t:Sem α} {s' t':Sem β}:(∀V es,s.runT afn V es=t.runT afn V es)->(∀W es,s'.runT P W es=t'.runT P W es)->((ok.fn 1999999->str)->ag A ρ t t')->ag A ρ s s'
end
section
variable {ok:Ctx}{ρ:Ren}
def ag.mono {A B}{s:Sem α}{s':Sem β}(h:ag afn P ok str A ρ s s')(hB:∀σ a b,A σ a b->B σ a b):ag afn P ok str B ρ s s':=by
 induction h with
 |pure h=>exact .pure (hB _ _ _ h)
 |load a _ Z=>exact .load a Z
 |store a v _ Z=>exact .store a v Z
 |new o _ Z=>exact .new o Z
 |shape r _ Z=>exact .shape r Z
 |dead s s' h=>exact .dead s s' h
 |getObj r _ Z=>exact .getObj r Z
 |setObj r o _ Z=>exact .setObj r o Z
 |choose q _ Z=>exact .choose q Z
 |program _ Z=>exact .program Z
 |mark hm _ Z=>exact .mark hm Z
 |panic h=>exact .panic h
 |fz a b c d e f h i k _ Z=>exact .fz a b c d e f h i k Z
 |eq a b _ Z=>exact .eq a b Z
 |halt h s he=>exact .halt h s he
def ag.bind' {A:Ren->α->β->Prop}{B:Ren->γ->δ->Prop}{s:Sem α}{s':Sem β}{f:α->Sem γ}{f':β->Sem δ}(h:ag afn P ok str A ρ s s')
  (hf:∀σ a b,ρ.le σ->A σ a b->ag afn P ok str B σ (f a) (f' b)):ag afn P ok str B ρ (dv s f) (dv s' f'):=by
 induction h with
 |pure h=>exact hf _ _ _ (Ren.le_refl _) h
 |load a _ Z=>exact .load a λv C hv=>Z v C hv hf
 |store a v _ Z=>exact .store a v (Z hf)
 |new o _ Z=>exact .new o λσ b c l e=>Z σ b c l e λτ a b D h=>hf τ a b (l.trans D) h
 |shape r _ Z=>exact .shape r λs=>Z s hf
 |dead s s' h=>
  refine .dead _ _ λV=>?_
  have h1:=h V;show Result.stops (a3 afn (s >>= f) V)=true;rw[au];generalize s.run afn V=r at h1;cases r with
  |ok a w=>cases h1
  |halt x w=>exact h1
 |getObj r _ Z=>exact .getObj r λo J h=>Z o J h hf
 |setObj r o _ Z=>exact .setObj r o (Z hf)
 |choose q _ Z=>exact .choose q λn=>Z n hf
 |program _ Z=>exact .program (Z hf)
 |mark hm _ Z=>exact .mark hm (Z hf)
 |panic h=>exact .panic h
 |fz a b c d e f h i k _ Z=>
  refine .fz a b c d e f (λx=>?_) (λx=>?_) (λv hv=>?_) λx=>Z x hf
  .rw[h];rfl
  .rw[i];rfl
  let⟨y,e1,e2⟩:=k v hv;exact⟨y,by rw[e1];rfl,e2⟩
 |eq a b _ Z=>exact .eq (λV es=>by grind [cL]) (λW es=>by grind [cL]) λq=>Z q hf
 |halt h s he=>exact .halt h _ he
theorem ag.bind {A B s s'}{f:α->Sem γ}{Z:β->Sem δ}(h:ag afn P ok str A ρ s s')
  (hf:∀σ a b,ρ.le σ->A σ a b->ag afn P ok str B σ (f a) (Z b)):ag afn P ok str B ρ (s >>= f) (s' >>= Z):=ag.bind' h hf
def pL (σ:Ren)(V:a2)(e:dw):Prop:=
 (e.sync=false/\∃a a',e.loc=.cell a'/\dD σ a a'/\(e.write->¬Ro V a.block))\/(e.sync=false/\∃r r',e.loc=.obj r'/\σ r=some r'/\¬Ro V r)\/∃m,mute m/\e=⟨.mark m,false,true⟩
def pL.mono {σ τ:Ren}(h:pL σ V e)(l:σ.le τ):pL τ V e:=by
 rcases h with⟨s,a,a',d,r,w⟩|⟨s,r,r',d,h,n⟩|h
 .exact a4 ⟨s,a,a',d,r.mono l,w⟩
 .exact bo (a4 ⟨s,r,r',d,l _ _ h,n⟩)
 exact bo<|bo h
def pL.back {σ:Ren}(h:pL σ Y e)(hb:∀b,Ro V b->Ro Y b):pL σ V e:=by
 rcases h with⟨s,a,a',d,r,w⟩|⟨s,r,r',d,h,n⟩|h
 .exact a4 ⟨s,a,a',d,r,λx y=>w x<|hb _ y⟩
 .exact bo (a4 ⟨s,r,r',d,h,λy=>n<|hb _ y⟩)
 exact bo<|bo h
def bw.load (h:bw ok str ρ V W)(r:dD ρ a a')(d:V.cell? a=some v):∃C,W.cell? a'=some C/\aq ok ρ v C:=by
 let⟨o,J,g,j,s⟩:=h.heap _ _ r.blk;unfold bm at d⊢;rw[g]at d;rw[j];cases s with
 |cells w F=>
  simp only at d⊢;rw[r.spot,r.off];split at d
  .grind
  rename_i E;rw[if_neg E];exact w.get d
 |_=>grind
def bw.far (h:bw ok str ρ V W)(r:ρ a.block=some c)(b p):∃x,V.farLoad p a b=.error (.stuck x):=by
 let⟨o,J,s,h2,Z⟩:=h.heap _ _ r;unfold World.farLoad cN;rw[s];cases Z<;>exact⟨_,rfl⟩
def bw.aav (h:bw ok str ρ V W)(r:ρ a.block=some c) v (b p):∃x,V.farStore p a v b=.error (.stuck x):=by
 let⟨o,J,s,h2,Z⟩:=h.heap _ _ r;unfold World.farStore cN;rw[s];cases Z<;>exact⟨_,rfl⟩
def bw.thaw (h:bw ok str ρ V W)(r:dD ρ a a')(Z:V.cell? a=some x)(hv:V.frozen? a=false):W.frozen? a'=false:=by
 let⟨o,J,h1,h2,h3⟩:=h.heap _ _ r.blk;unfold bm at Z;unfold bt at hv⊢;rw[h1]at hv Z;rw[h2];cases h3 with
 |@cells c c' e z z' hc s=>
  rcases s with s|⟨_,s,_⟩
  .subst s;cases str with
   |true=>simp only[if_true,r.off];omega
   |false=>simp
  grind
 |_=>rfl
def bw.shape (h:bw ok str ρ V W)(r:ρ b=some c):W.shape? c=V.shape? b:=by
 let⟨o,J,s,Z,h3⟩:=h.heap _ _ r;unfold World.shape?;rw[s,Z];cases h3 with
 |cells hc hz=>simp[hc.size]
 |_=>rfl
omit [Gl] in
def gm (V:a2)(a:a9) v b:(V.setCell a v).heap[b]?=if a.block=b then(V.heap[b]?).map (λo=>match o with|.cells c elem frozen=>.cells (if a.spot.isSome then c else c.setIfInBounds a.off v) elem frozen|o=>o)else V.heap[b]?:=by
 grind [cF]
omit [Gl] in
theorem iw (V:a2)(a:a9) v:(V.setCell a v)=V.heap.size:=by simp[cF]
def bw.store (h:bw ok str ρ V W)(r:dD ρ a a')(hv:aq ok ρ v C)(hx:V.cell? a=some x)(hf:V.frozen? a=false):bw ok str ρ (V.setCell a v) (W.setCell a' C):=by
 refine⟨λb c hb=>?_,h.tape,h.drawn,by rw[iw];exact h.gV,by rw[iw];exact h.gW,h.gs⟩;let⟨o,J,h1,h2,h3⟩:=h.heap _ _ hb;rw[gm,gm,h1,h2];by_cases e:a.block=b
 .subst e;have Z:a'.block=c:=by have:=r.blk;grind
  subst Z;rw[if_pos rfl,if_pos rfl];cases h3 with
  |cells hc hz=>
   refine⟨_,_,rfl,rfl,.cells ?_<|hz.imp id λ⟨_,h0,_⟩=>?_⟩;rotate_left
   .grind [bm,bt]
   rw[r.spot,r.off];split
   .omega
   exact hc.set hv _
  |stringIter s p=>exact⟨_,_,rfl,rfl,.stringIter s p⟩
  |loop h=>exact⟨_,_,rfl,rfl,.loop h⟩
  |taken=>exact⟨_,_,rfl,rfl,.taken⟩
  |number b h=>exact⟨_,_,rfl,rfl,.number b h⟩
  |deferred h=>exact⟨_,_,rfl,rfl,.deferred h⟩
  |map k h=>exact⟨_,_,rfl,rfl,.map k h⟩
 have Z:a'.block≠c:=λe'=>e<|ρ.inj _ _ _ (e'▸r.blk) hb
 grind
def Kept.store (_h:bw ok str ρ V W)(r:dD ρ a a')(hc:V.cell? a=some x)(hf:V.frozen? a=false):Kept ρ V W ρ (V.setCell a v) (W.setCell a' C):=by
 have s:¬Ro V a.block:=by
  rintro⟨c,e,Z⟩;grind [bm,bt]
 refine⟨Ren.le_refl ρ,λc hc hn=>?_,λb c hb Z=>?_,by rw[iw];exact afK _,by rw[iw];exact afK _,λb c hb=>a4 hb,rfl,rfl,rfl⟩
 .rw[gm,if_neg (λe=>hn _<|e▸r.blk)]
 have e:a.block≠b:=λe=>s<|e▸Z
 have ec:a'.block≠c:=λe'=>e<|ρ.inj _ _ _ (e'▸r.blk) hb
 rw[gm,gm,if_neg e,if_neg ec];grind
omit [Gl] in
def qE (hc:V.cell? a=some x)(s:V.frozen? a=false):¬Ro V a.block:=by
 rintro⟨c,e,Z⟩;grind [bm,bt]
omit [Gl] in
def nK (V:a2)(a:a9){n:Nat}(s:n≠0) b:(V.freeze a n).heap[b]?=if a.block=b then(V.heap[b]?).map (λo=>match o with|.cells c e (lo,hi)=>.cells c e (if lo==hi then(a.off,a.off+n)else(min lo a.off,max hi<|a.off+n))|o=>o)else V.heap[b]?:=by
 grind [cP]
omit [Gl] in
def DR (V:a2)(a:a9) n:(V.freeze a n)=V.heap.size/\(V.freeze a n).tape=V.tape/\(V.freeze a n).drawn=V.drawn/\(V.freeze a n).os=V.os/\(V.freeze a n).output=V.output:=by
 grind [cP]
def bw.fz (h:bw ok true ρ V W){l:a9}{n:Nat}{x:Int}(r:dD ρ a a')(hb:l.block=a.block)(ho:a.off+n=l.off+1)(hn:n≠0)(hx:V.cell? l=some (b0 .u8 x)):
  bw ok true ρ (V.freeze a n) (W.freeze a' n)/\Kept ρ V W ρ (V.freeze a n) (W.freeze a' n)/\∀b,Ro V b->(V.freeze a n).heap[b]?=V.heap[b]?:=by
 let⟨o,J,h1,h2,h3⟩:=h.heap _ _ r.blk;let⟨v0,v1,v2,v3,v4⟩:=DR V a n;let⟨w0,w1,w2,w3,w4⟩:=DR W a' n;unfold bm at hx;rw[hb,h1]at hx;cases h3 with
 |@cells c c' e z z' hc hz=>
  simp only at hx;split at hx
  .grind
  have aF:=(afM.1 hx).1;have hz:z'=z:=by
   rcases hz with hz|⟨_,_,_,hz⟩<;>grind
  subst hz;have ro:∀b c,ρ b=some c->Ro V b->(V.freeze a n).heap[b]?=V.heap[b]?/\(W.freeze a' n).heap[c]?=W.heap[c]?:=by
   rintro b d Z ⟨c1,e1,hr⟩;rw[nK _ _ hn,nK _ _ hn];by_cases s:a.block=b
   .subst s;have ec:a'.block=d:=by have:=r.blk;grind
    subst ec;rw[h1]at hr;obtain⟨rfl,rfl,rfl,rfl⟩:=hr;have h0:¬0=c.size:=by omega
    have h3:max c.size (l.off+1)=c.size:=by omega
    rw[if_pos rfl,if_pos rfl,h1,h2];simp[h0,r.off,ho,h3]
   rw[if_neg s,if_neg λ(e':a'.block=d)=>s<|ρ.inj _ _ _ (e'▸r.blk) Z];grind
  refine⟨⟨λb d Z=>?_,by rw[v1,w1];exact h.tape,by rw[v2,w2];exact h.drawn,by rw[v0];exact h.gV,by rw[w0];exact h.gW,h.gs⟩,⟨Ren.le_refl ρ,λd _ Z=>?_,ro,by rw[w0];exact afK _,by rw[v0];exact afK _,λ_ _ hb=>a4 hb,w1,w3,w4⟩,λb hr=>?_⟩
  .let⟨p,p',g1,g2,g3⟩:=h.heap _ _ Z;rw[nK _ _ hn,nK _ _ hn];by_cases s:a.block=b
   .subst s;have ec:a'.block=d:=by have:=r.blk;rw[Z]at this;exact(afQ this).symm
    subst ec;rw[if_pos rfl,if_pos rfl,h1,h2,r.off];exact⟨_,_,rfl,rfl,.cells hc<|a4 rfl⟩
   rw[if_neg s,if_neg λ(e':a'.block=d)=>s<|ρ.inj _ _ _ (e'▸r.blk) Z];exact⟨_,_,g1,g2,g3⟩
  .rw[nK _ _ hn,if_neg λe'=>Z _<|e'▸r.blk]
  by_cases s:a.block=b
  .subst s;exact(ro _ _ r.blk hr).1
  rw[nK _ _ hn,if_neg s]
 |_=>cases hx
def bw.lt (h:bw ok str ρ V W)(hb:ρ b=some c):b<V/\c<W:=by
 let⟨o,J,s,Z,_⟩:=h.heap _ _ hb;grind
def bw.fresh (h:bw ok str ρ V W)(b c)(hb:ρ b=some c):b≠V/\c≠W:=by
 have:=h.lt hb;omega
def bw.ext (h:bw ok str ρ V W):Ren:=ρ.ext V W h.fresh h.gV h.gW
def bw.Pa (h:bw ok str ρ V W):h.ext V=some W.heap.size:=by simp[bw.ext,Ren.ext]
def bw.Pc (h:bw ok str ρ V W)(hb:h.ext b=some c):(b=V/\c=W)\/(b≠V/\ρ b=some c):=by
 grind [bw.ext,Ren.ext]
def bw.IK (h:bw ok str ρ V W):ρ.le h.ext:=by
 intro b c hb;grind [bw.ext,Ren.ext]
def bw.new (h:bw ok str ρ V W)(ho:mY ok str ρ o J):
  bw ok str h.ext {V with heap:=V.heap.push o} {W with heap:=W.heap.push J}/\
   Kept ρ V W h.ext {V with heap:=V.heap.push o} {W with heap:=W.heap.push J}:=by
 have s:=h.IK;refine⟨⟨λb c hb=>?_,h.tape,h.drawn,by have:=h.gV;simp;omega,by have:=h.gW;simp;omega,⟨λg Z=>s _ _<|h.gl g Z,h.gs.2⟩⟩,s,λc hc _=>?_,λb c hb _=>?_,aP,aP,λb c hb=>?_,rfl,rfl,rfl⟩
 .rcases h.Pc hb with⟨rfl,rfl⟩|⟨e,hb⟩
  .exact⟨o,J,aP,aP,ho.mono s⟩
  let⟨x,A,h1,h2,h3⟩:=h.heap _ _ hb;refine⟨x,A,?_,?_,h3.mono s⟩<;>grind
 .grind
 .have hl:=h.lt hb;grind
 rcases h.Pc hb with⟨rfl,rfl⟩|⟨e,hb⟩<;>grind
def bw.getObj (h:bw ok str ρ V W)(hb:ρ b=some c)(ho:V.heap[b]?=some o):∃J,W.heap[c]?=some J/\mY ok str ρ o J:=by
 let⟨x,A,s,Z,h3⟩:=h.heap _ _ hb;grind
def bw.setObj (h:bw ok str ρ V W)(hb:ρ b=some c)(ho:mY ok str ρ o J):
  bw ok str ρ {V with heap:=V.heap.setIfInBounds b o} {W with heap:=W.heap.setIfInBounds c J}:=by
 refine⟨λB Z s=>?_,h.tape,h.drawn,by simpa using h.gV,by simpa using h.gW,h.gs⟩;let⟨x,A,h1,h2,h3⟩:=h.heap _ _ s;simp;by_cases e:b=B
 .grind
 have ec:c≠Z:=λe'=>e<|ρ.inj _ _ _ (e'▸hb) s
 grind
def Kept.setObj (_h:bw ok str ρ V W)(hb:ρ b=some c){x}(hx:V.heap[b]?=some x)(hn:∀cs e z,x≠.cells cs e z):
  Kept ρ V W ρ {V with heap:=V.heap.setIfInBounds b o} {W with heap:=W.heap.setIfInBounds c J}:=by
 refine⟨Ren.le_refl ρ,λs _ Cu=>?_,λB s dl Z=>?_,aP,aP,λ_ _ hb=>a4 hb,rfl,rfl,rfl⟩
 .grind
 have e:b≠B:=by
  let⟨cs,e,Z⟩:=Z;grind
 have ec:c≠s:=λe'=>e<|ρ.inj _ _ _ (e'▸hb) dl
 grind
inductive Oz (ok:Ctx)(str:Bool){α β:Type}(A:Ren->α->β->Prop)(σ:Ren):Result α->Result β->a2->a2->Prop
 |ok {a:α} {b:β} {V W:a2}:A σ a b->bw ok str σ V W->Oz ok str A σ (.ok a V) (.ok b W) V W
 |panic {v C:ac} {V W:a2}:aq ok σ v C->bw ok str σ V W->Oz ok str A σ (.halt (.panic v) V) (.halt (.panic C) W) V W
def NO (x9:p:=by
  obtain⟨rfl,_⟩:=hr;exact .inl rfl):p:=x9
def VI (x9:p:=by
  simp at hr;obtain⟨rfl,_⟩:=hr;exact .inl rfl):p:=x9
def XG (x9:p:=by
  have h1:=Sem.runT_fst afn s V es;rw[hr]at h1;exact .inl (by have:=h V;rw[<-h1]at this;exact this)):p:=x9
def ag.sound {A:Ren->α->β->Prop}{s:Sem α}{s':Sem β}(h:ag afn P ok str A ρ s s'):
  ∀{V W:a2} (es Z:Array dw) {r:Result α} {e1:Array dw},bw ok str ρ V W->s.runT afn V es=(r,e1)->Result.stops r\/
   ∃σ r' V' W' d',s'.runT P W Z=(r',Z++d')/\Oz ok str A σ r r' V' W'/\Kept ρ V W σ V' W'/\∀e∈d',pL σ V e:=by
 induction h with
 |@pure ρ a b hA=>
  intro V W es Z x e1 hw hr;simp at hr;obtain⟨rfl,_⟩:=hr;exact bo ⟨ρ,_,V,W,#[],cO,.ok hA hw,Kept.refl _ _ _,aP⟩
 |@load ρ a a' k k' ra _ ih=>
  intro V W es Z x e1 hw hr;simp only[ai]at hr;cases hc:V.cell? a with
  |none=>
   rw[hc]at hr;let⟨y,hy⟩:=hw.far ra.blk (bk==a7) afn;simp[hy,aE]at hr;exact NO
  |some v=>
   rw[hc]at hr;let⟨C,FN,rv⟩:=hw.load ra hc;rcases ih v C rv _ (Z.push ⟨.cell a',false,false⟩) hw hr with h|⟨σ,b,V',W',d',h1,h2,h4,h5⟩
   .grind
   refine bo ⟨σ,b,V',W',#[⟨.cell a',false,false⟩]++d',?_,h2,h4,λe he=>?_⟩
   .simp only[ai,FN];rw[show(bk==a7)=false from rfl,h1];simp
   rcases aI.1 he with he|he
   .rw[ay]at he;subst he;exact a4 ⟨rfl,a,a',rfl,ra.mono h4.le,λe=>cO⟩
   grind
 |@store ρ a a' v C k k' ra rv _ ih=>
  intro V W es Z x e1 hw hr;by_cases hn:(∃cs,v=dC cs)\/(∃cs,v=bW cs)
  .rcases hn with⟨cs,rfl⟩|⟨cs,rfl⟩
   .exact VI
   exact VI
  have n1:∀cs,v≠.agg cs:=λcs e=>hn<|a4 ⟨cs,e⟩
  have n2:∀cs,v≠.tuple cs:=λcs e=>hn<|bo ⟨cs,e⟩
  have bl:∀cs,C≠.agg cs:=by rintro cs rfl;cases rv with|hole h=>cases h|agg _ _=>exact n1 _ rfl
  have bq:∀cs,C≠.tuple cs:=by rintro cs rfl;cases rv with|hole h=>cases h|tuple _ _=>exact n2 _ rfl
  have gh:(match V.cell? a with
   |some _=>if V.frozen? a then(Result.halt (.unsupported<|.unsafePointer "a write to bytes that a string shares") V,es)else k.runT afn (V.setCell a v) (es.push ⟨.cell a,true,false⟩)
   |none=>match V.farStore afn a v (bk==a7)with
    |.ok (w,ES)=>k.runT afn w (es++ES.toArray.map (⟨.cell ·,true,bk==a7⟩))
    |.error h=>(.halt h V,es))=(x,e1):=by
   rw[<-hr];cases v<;>first|exact absurd rfl (n1 _)|exact absurd rfl (n2 _)|(simp[ai];rfl)
  cases hc:V.cell? a with
  |none=>
   rw[hc]at gh;let⟨y,hy⟩:=hw.aav ra.blk v (bk==a7) afn;simp[hy,aE]at gh;obtain⟨rfl,_⟩:=gh;exact a4 rfl
  |some y=>
   rw[hc]at gh;simp only at gh;cases hf:V.frozen? a with
   |true=>
    rw[hf]at gh;simp at gh;obtain⟨rfl,_⟩:=gh;exact a4 rfl
   |false=>
    rw[hf]at gh;rcases ih _ (Z.push ⟨.cell a',true,false⟩) (hw.store ra rv hc hf) gh with h|⟨σ,b,V',W',d',h1,h2,h4,h5⟩
    .exact a4 h
    let⟨f,Sz,_⟩:=hw.load ra hc;refine bo ⟨σ,b,V',W',#[⟨.cell a',true,false⟩]++d',?_,h2,(Kept.store hw ra hc hf).trans h4,λe he=>?_⟩
    .have:(Sem.store .plain a' C k').runT P W Z=k'.runT P (W.setCell a' C) (Z.push ⟨.cell a',true,false⟩):=by
      cases C<;>first|exact absurd rfl (bl _)|exact absurd rfl (bq _)|(simp[ai,Sz,(hw.thaw ra hc hf)];rfl)
     rw[this,h1];simp
    rcases aI.1 he with he|he
    .rw[ay]at he;subst he;exact a4 ⟨rfl,a,a',rfl,ra.mono h4.le,λ_=>qE hc hf⟩
    refine(h5 e he).back λb aF=>?_
    let⟨c,el,aF⟩:=aF;have aZ:a.block≠b:=λe'=>qE hc hf<|e'▸⟨c,el,aF⟩
    exact⟨c,el,by rw[gm,if_neg aZ];exact aF⟩
 |@new ρ o J k k' ro _ ih=>
  intro V W es Z x e1 hw hr;simp only[ai]at hr;let⟨FO,A3⟩:=hw.new ro;rcases ih _ V.heap.size W.heap.size hw.IK hw.Pa _ Z FO hr with h|⟨σ,b,V',W',d',h1,h2,h4,h5⟩
  .exact a4 h
  refine bo ⟨σ,b,V',W',d',by simp only[ai];exact h1,h2,A3.trans h4,λe he=>(h5 e he).back λb aF=>?_⟩;let⟨c,el,aF⟩:=aF;refine⟨c,el,?_⟩;have:=(afM.1 aF).1;simp;rw[b7,if_neg ab];exact aF
 |@shape ρ r r' k k' gh _ ih=>
  intro V W es Z x e1 hw hr;simp only[ai]at hr⊢;rw[hw.shape gh];exact ih _ _ Z hw hr
 |dead s s' h=>
  intro V W es Z x e1 hw hr;exact XG
 |@getObj ρ r r' k k' gh _ ih=>
  intro V W es Z x e1 hw hr;cases ho:V.heap[r]? with
  |none=>simp only[ai,ho,aE]at hr;obtain⟨rfl,_⟩:=hr;exact a4 rfl
  |some o=>
   let⟨J,I0,ro⟩:=hw.getObj gh ho;rcases ro.kinds with⟨⟨c,e,z,rfl⟩,_⟩|⟨n1,n2⟩
   .simp only[ai,ho,aE]at hr;obtain⟨rfl,_⟩:=hr;exact a4 rfl
   have pR:(k o).runT afn V (es.push ⟨.obj r,false,o.isChan⟩)=(x,e1):=by
    rw[<-hr];cases o<;>first|exact absurd rfl (n1 _ _ _)|simp only[ai,ho]
   rcases ih _ _ ro _ (Z.push ⟨.obj r',false,J.isChan⟩) hw pR with h|⟨σ,b,V',W',d',h1,h2,h4,h5⟩
   .exact a4 h
   refine bo ⟨σ,b,V',W',#[⟨.obj r',false,J.isChan⟩]++d',?_,h2,h4,λe he=>?_⟩
   .have:(Sem.getObj r' k').runT P W Z=(k' J).runT P W (Z.push ⟨.obj r',false,J.isChan⟩):=by
     cases J<;>first|exact absurd rfl (n2 _ _ _)|simp only[ai,I0]
    rw[this,h1];simp
   rcases aI.1 he with he|he
   .rw[ay]at he;subst he;exact bo<|a4 ⟨ro.chan,r,r',rfl,h4.le _ _ gh,λ⟨c,e,z⟩=>n1 _ _ _<|afQ<|ho.symm.trans z⟩
   .exact h5 e he
 |@setObj ρ r r' o J k k' gh ro _ ih=>
  intro V W es Z x e1 hw hr;cases hx:V.heap[r]? with
  |none=>simp[ai,hx,aE]at hr;obtain⟨rfl,_⟩:=hr;exact a4 rfl
  |some y=>
   let⟨f,Sz,ry⟩:=hw.getObj gh hx;rcases ry.kinds with⟨⟨c,e,z,rfl⟩,_⟩|⟨n1,n2⟩
   .simp[ai,hx,aE]at hr;obtain⟨rfl,_⟩:=hr;exact a4 rfl
   have pR:k.runT afn {V with heap:=V.heap.setIfInBounds r o} (es.push ⟨.obj r,true,o.isChan⟩)=(x,e1):=by
    rw[<-hr];cases y<;>first|exact absurd rfl (n1 _ _ _)|simp[ai,hx]
   rcases ih _ (Z.push ⟨.obj r',true,J.isChan⟩) (hw.setObj gh ro) pR with h|⟨σ,b,V',W',d',h1,h2,h4,h5⟩
   .exact a4 h
   refine bo ⟨σ,b,V',W',#[⟨.obj r',true,J.isChan⟩]++d',?_,h2,(Kept.setObj hw gh hx n1).trans h4,λe he=>?_⟩
   .have:(Sem.setObj r' J k').runT P W Z=k'.runT P {W with heap:=W.heap.setIfInBounds r' J} (Z.push ⟨.obj r',true,J.isChan⟩):=by
     cases f<;>first|exact absurd rfl (n2 _ _ _)|simp[ai,Sz]
    rw[this,h1];simp
   rcases aI.1 he with he|he
   .rw[ay]at he;subst he;exact bo<|a4 ⟨ro.chan,r,r',rfl,h4.le _ _ gh,λ⟨c,e,z⟩=>n1 _ _ _<|afQ<|hx.symm.trans z⟩
   refine(h5 e he).back λb aF=>?_
   let⟨c,el,aF⟩:=aF;refine⟨c,el,?_⟩;have aZ:r≠b:=by
    rintro rfl;rw[hx]at aF;exact n1 _ _ _<|afQ aF
   simp[bL];rw[if_neg aZ];exact aF
 |@choose ρ q k k' _ ih=>
  intro V W es Z x e1 hw hr;simp only[ai]at hr⊢;split at hr
  .rename_i hq;rw[if_pos hq];exact ih _ _ Z hw hr
  rename_i hq;have e:W.tape W.drawn q=V.tape V.drawn q:=by rw[hw.tape,hw.drawn]
  rw[if_neg hq,e];have bx:bw ok str ρ {V with drawn:=V.drawn+1} {W with drawn:=W.drawn+1}:=⟨hw.heap,hw.tape,by simp[hw.drawn],hw.gV,hw.gW,hw.gs⟩;rcases ih _ _ Z bx hr with h|⟨σ,b,V',W',d',h1,h2,h4,h5⟩
  .exact a4 h
  .exact bo ⟨σ,b,V',W',d',h1,h2,⟨h4.le,h4.keep,h4.ro,h4.size,h4.C6,h4.new,h4.tape,h4.os,h4.out⟩,h5⟩
 |@program ρ k k' _ ih=>
  intro V W es Z x e1 hw hr;simp only[ai]at hr⊢;exact ih _ Z hw hr
 |@mark ρ m k k' hm _ ih=>
  intro V W es Z x e1 hw hr;simp only[ai]at hr;rcases ih _ (Z.push ⟨.mark m,false,true⟩) hw hr with h|⟨σ,b,V',W',d',h1,h2,h4,h5⟩
  .exact a4 h
  refine bo ⟨σ,b,V',W',#[⟨.mark m,false,true⟩]++d',?_,h2,h4,λe he=>?_⟩
  .simp only[ai];rw[h1];simp
  rcases aI.1 he with he|he
  .rw[ay]at he;exact bo<|bo ⟨m,hm,he⟩
  .exact h5 e he
 |@panic ρ v C hv=>
  intro V W es Z x e1 hw hr;simp at hr;obtain⟨rfl,_⟩:=hr;exact bo ⟨ρ,_,V,W,#[],by simp[ai],.panic hv hw,Kept.refl _ _ _,aP⟩
 |@eq ρ s t s' t' a b _ ih=>
  intro V W es Z x e1 hw hr;rw[a]at hr;simp only[b];exact ih hw.gs.2 _ Z hw hr
 |@fz ρ a a' l D n k k' j j' dZ ra rl hb ho hn hk wD hh _ ih=>
  intro V W es Z x e1 hw hr;obtain rfl:=hw.gs.2 dZ;simp only[ai]at hr;cases hc:V.cell? l with
  |none=>
   rw[hc]at hr;let⟨y,hy⟩:=hw.far rl.blk (bk==a7) afn;simp only[hy,aE]at hr;exact NO
  |some v=>
   rw[hc]at hr;by_cases hv:∃x,v=b0 .u8 x
   .obtain⟨x,rfl⟩:=hv;let⟨C,FN,rv⟩:=hw.load rl hc;cases rv;let⟨FO,A3,aF⟩:=hw.fz ra hb ho hn hc;simp only[hk,ai]at hr;rcases ih x _ (Z.push ⟨.cell D,false,false⟩) FO hr with h|⟨σ,b,V',W',d',h1,h2,h4,h5⟩
    .exact a4 h
    refine bo ⟨σ,b,V',W',#[⟨.cell D,false,false⟩]++d',?_,h2,A3.trans h4,λe he=>?_⟩
    .simp only[ai,FN,wD];rw[show(bk==a7)=false from rfl,h1];simp
    rcases aI.1 he with he|he
    .rw[ay]at he;subst he;exact a4 ⟨rfl,l,D,rfl,rl.mono h4.le,λe=>by cases e⟩
    .exact(h5 e he).back λb ⟨c,el,h0⟩=>⟨c,el,(aF b ⟨c,el,h0⟩).trans h0⟩
   let⟨y,e2,e3⟩:=hh v λx e=>hv ⟨x,e⟩
   simp only[e2,ai,aE]at hr;obtain⟨rfl,_⟩:=hr;exact a4 e3
 |halt h s he=>
  intro V W es Z x e1 hw hr;simp at hr;obtain⟨rfl,_⟩:=hr;exact a4 he
end
def vG:ac->Bool
 |bS _|b0 _ _|.string _|be none|cl none _ _|.nilFunc|.nilIface=>true
 |_=>false
def Ez:ac->Bool
 |dC cs=>cs.all vG
 |bW cs=>cs.all vG
 |v=>vG v
def qU {ok:Ctx}{ρ:Ren}(h:vG v):aq ok ρ v v:=by
 match v,h with
 |.bool b,_=>exact .bool b
 |.int k n,_=>exact .int k n
 |.string s,_=>exact .string s
 |.pointer none,_=>exact .kP
 |.slice none l c,_=>exact .dr l c
 |.nilFunc,_=>exact .nilFunc
 |.nilIface,_=>exact .nilIface
def xr {ok}{ρ:Ren}(h:cs.all vG):aA ok ρ cs cs:=by
 refine⟨rfl,λi x A d g=>?_⟩;rw[d]at g;cases g;rw[ci]at h;obtain⟨j,rfl⟩:=afM.1 d;exact qU<|h i j
def tH {ok:Ctx}{ρ:Ren}(h:Ez v):aq ok ρ v v:=by
 cases v with
 |agg cs=>exact .agg rfl (xr h).at_
 |tuple cs=>exact .tuple rfl (xr h).at_
 |_=>exact qU h
inductive iK (ok:Ctx)(ρ:Ren):List ac->List ac->Prop
 |nil:iK ok ρ [] []
 |cons {v C:ac} {l D:List ac}:aq ok ρ v C->iK ok ρ l D->iK ok ρ (v::l) (C::D)
def iK.mono {ok}{ρ σ:Ren}(h:iK ok ρ l D)(d:ρ.le σ):iK ok σ l D:=by
 induction h with
 |nil=>exact .nil
 |cons h _ g=>exact .cons (h.mono d) g
def E9 (P:ao)(t:aa):Bool:=match P.info? t with|some i=>(match i.zero with|some v=>Ez v|none=>true)|none=>true
def Hy (P:ao)(t:aa):Bool:=match P.underlying t with|some (.slice e)=>E9 P e|_=>true
section
variable {ok:Ctx}{ρ:Ren}
def aA.list (h:aA ok ρ xs u):iK ok ρ xs.toList u.toList:=by
 have:∀(l D:List ac),l.length=D.length->(∀(i:Nat) (x A:ac),l[i]?=some x->D[i]?=some A->aq ok ρ x A)->iK ok ρ l D:=by
  intro l;induction l with
  |nil=>intro D e _;cases D with
   |nil=>exact .nil
   |cons _ _=>grind
  |cons a l g=>intro D e d;cases D with
   |nil=>grind
   |cons b D=>exact .cons (d 0 a b rfl rfl)<|g D cO λi x A j k=>d (i+1) x A yO yO
 exact this _ _ (by rw[b8,b8];exact h.size) λi x A j k=>h.at_ i x A cO cO
def iK.array (h:iK ok ρ l D):aA ok ρ l.toArray D.toArray:=by
 induction h with
 |nil=>exact aA.nil
 |@cons a b l D h _ d=>
  have:=(aA.nil.push h).append d;grind
omit [Gl] in
theorem tG (d:afn.toTables=P.toTables)(t:aa):afn.underlying t=P.underlying t:=by
 grind [b6]
def mq {A:Ren->α->β->Prop}{d:String}{s:Sem β}:ag afn P ok str A ρ (b2 d:Sem α) s:=.halt _ _
def Ry {A:Ren->α->β->Prop}{u:Unsupported}{s:Sem β}(hu:ends (.unsupported u):=by rfl):ag afn P ok str A ρ (bv u:Sem α) s:=.halt _ _ hu
def ah {A a b}(h:A ρ a b):ag afn P ok str A ρ (pure a:Sem α) (pure b:Sem β):=.pure h
def af (A){B s s'}{f:α->Sem γ}{Z:β->Sem δ}(h:ag afn P ok str A ρ s s')
  (hf:∀σ a b,ρ.le σ->A σ a b->ag afn P ok str B σ (f a) (Z b)):ag afn P ok str B ρ (s >>= f) (s' >>= Z):=ag.bind h hf
def aW {B a b}{f:α->Sem γ}{s:β->Sem δ}(h:ag afn P ok str B ρ (f a) (s b)):ag afn P ok str B ρ (pure a >>= f) (pure b >>= s):=h
def bP (d:afn.toTables=P.toTables)(t):ag afn P ok str (λ_ x y=>x=y/\P.info? t=some x) ρ (typeInfo t) (typeInfo t):=by
 refine ag.program ?_;show ag afn P ok str _ ρ (match afn.info? t with|some i=>pure i|none=>b2 "no such type") (match P.info? t with|some i=>pure i|none=>b2 "no such type");rw[d];cases h:P.info? t with
 |none=>exact mq
 |some i=>exact ah ⟨rfl,rfl⟩
def am (d:afn.toTables=P.toTables)(t:aa):ag afn P ok str (λ_ x y=>x=y/\P.underlying t=some x) ρ (b3 t) (b3 t):=by
 refine ag.program ?_;show ag afn P ok str _ ρ (match afn.underlying t with|some i=>pure i|none=>b2 "no such type") (match P.underlying t with|some i=>pure i|none=>b2 "no such type");rw[tG d];cases h:P.underlying t with
 |none=>exact mq
 |some i=>exact ah ⟨rfl,rfl⟩
def di (d:afn.toTables=P.toTables)(t:aa):ag afn P ok str (λ_ x y=>x=y/\∃i,P.info? t=some i/\i.size=x) ρ (c6 t) (c6 t):=by
 refine af _ (bP d t) ?_;rintro σ a b _ ⟨rfl,h⟩;exact ah ⟨rfl,a,h,rfl⟩
def Ha (d:afn.toTables=P.toTables)(t):ag afn P ok str (λ_ x y=>x=y) ρ (isAgg t) (isAgg t):=by
 refine af _ (am d t) ?_;rintro σ a b _ ⟨rfl,h⟩;split<;>exact ah rfl
def jY (g:afn.toTables=P.toTables)(t:aa)(d:E9 P t):ag afn P ok str (aq ok) ρ (bB t) (bB t):=by
 refine af _ (bP g t) ?_;rintro σ a b _ ⟨rfl,h⟩;unfold E9 at d;rw[h]at d;simp at d;cases e:a.zero with
 |none=>exact Ry
 |some v=>rw[e]at d;exact ah<|tH d
def EK (r:dD ρ a a'):ag afn P ok str (aq ok) ρ (load a) (load a'):=.load r λ_ _ h=>.pure h
def Rv (r:dD ρ a a')(h:aq ok ρ v C):ag afn P ok str (λ_ _ _=>True) ρ (store a v) (store a' C):=.store r h<|.pure trivial
def Hb  n:∀{ρ:Ren} (_:dD ρ a a') i {d g:Array ac},aA ok ρ d g->ag afn P ok str (λσ x y=>aA ok σ x y) ρ (da a i n d) (da a' i n g):=by
 induction n with
 |zero=>intro ρ r i d g h;exact ah h
 |succ n j=>
  intro ρ r i d g h;exact af _ (EK<|r.add i)<|λσ x y l k=>j (r.mono l) _<|(h.mono l).push k
def py (r:dD ρ a a') n:ag afn P ok str (λσ x y=>aA ok σ x y) ρ (loadCells a n) (loadCells a' n):=Hb n r 0 aA.nil
def iy:∀(g d:List ac) {ρ:Ren} (_:dD ρ a a') i,iK ok ρ g d->ag afn P ok str (λ_ _ _=>True) ρ (dF a g i) (dF a' d i):=by
 intro g;induction g with
 |nil=>intro d ρ r i h;cases h;exact ah trivial
 |cons v g j=>
  intro d ρ r i h;cases h with
  |cons k h=>
   rename_i C d;exact af _ (Rv (r.add i) k)<|λσ x y l _=>j d (r.mono l) _<|h.mono l
def tC (hT:afn.toTables=P.toTables)(t:aa)(r:dD ρ a a'):ag afn P ok str (aq ok) ρ (cS t a) (cS t a'):=by
 refine af _ (Ha hT t) ?_;rintro σ x y l rfl;split
 .refine af _ (di hT t) ?_;rintro τ n m D ⟨rfl,_⟩;exact af _ (py ((r.mono l).mono D) n)<|λυ cs cs' _ h=>ah<|.agg h.size h.at_
 exact EK<|r.mono l
def kQ (x9:p:=by
  exact .halt _ _):p:=x9
def He (g:afn.toTables=P.toTables)(t)(r:dD ρ a a')(d:aq ok ρ v C):ag afn P ok str (λ_ _ _=>True) ρ (storeVar t a v) (storeVar t a' C):=by
 refine af _ (di g t) ?_;rintro σ n m l ⟨rfl,_⟩;rw[d.cells.size];split
 .exact kQ
 exact iy _ _ (r.mono l) 0 (d.mono l).cells.list
def lF (t:aa)(h:aA ok ρ cs cs'):ag afn P ok str (λσ x y=>dD σ x y) ρ (c7 t cs) (c7 t cs'):=ag.new (.cells h<|a4 cO)<|λσ b c _ e=>.pure ⟨e,rfl,rfl⟩
def ad5:dg->Bool
 |.bounds ..|.error _|.plain _|.nilDeref=>true
 |_=>false
def ij (hT:afn.toTables=P.toTables){A:Ren->α->β->Prop}(e:dg)(he:ad5 e):ag afn P ok str A ρ (dk e:Sem α) (dk e:Sem β):=by
 refine ag.program<|aW ?_;rw[hT];cases e with
 |bounds x y s c=>exact .panic (.iface _<|tH<|by simp[Ez,vG])
 |error m=>exact .panic (.iface _<|.string _)
 |plain m=>exact .panic (.iface _<|.string _)
 |nilDeref=>exact .panic (.iface _<|.string _)
 |_=>cases he
def uW (h:aq ok ρ v C):ag afn P ok str (λσ x y=>dD σ x y) ρ (cx v) (cx C):=by
 cases h with
 |ptr r=>exact ah r
 |_=>exact .halt _ _
def vO (d:afn.toTables=P.toTables)(h:aq ok ρ v C):ag afn P ok str (λσ x y=>dD σ x y) ρ (c8 v) (c8 C):=by
 cases h with
 |ptr r=>exact ah r
 |kP=>exact ij d .nilDeref rfl
 |_=>exact .halt _ _
def px (h:aq ok ρ v C):ag afn P ok str (λ_ x y=>x=y) ρ (asIntOf v) (asIntOf C):=by
 cases h with
 |int k n=>exact ah rfl
 |_=>exact .halt _ _
def kG (h:aq ok ρ v C):ag afn P ok str (λ_ x y=>x=y) ρ (asInt v) (asInt C):=by
 refine af _ (px h) ?_;rintro σ x y _ rfl;exact ah rfl
def Db (h:aq ok ρ v C):ag afn P ok str (λ_ x y=>x=y) ρ (asBool v) (asBool C):=by
 cases h with
 |bool b=>exact ah rfl
 |_=>exact .halt _ _
def n8 (s:afn.toTables=P.toTables){A:Ren->α->β->Prop}(k:bs)(x y:Int)(c:b4):ag afn P ok str A ρ (bz k x y c:Sem α) (bz k x y c:Sem β):=by
 unfold bz;dsimp only;split
 .exact ag.choose _ λn=>ij s (.bounds _ y _ c) rfl
 exact ij s (.bounds _ y _ c) rfl
def JX (hT:afn.toTables=P.toTables)(s:aa) f (hf:∀Z x i,P.underlying s=some (.struct Z)->Z[f]?=some x->P.info? x.type=some i->i.size≠0)(h:aq ok ρ v C):
  ag afn P ok str (aq ok) ρ (cB s v f) (cB s C f):=by
 refine af _ (am hT s) ?_;rintro σ d _ l ⟨rfl,hd⟩;split
 .rename_i Z;cases e:Z[f]? with
  |none=>exact mq
  |some x=>
   refine af _ (uW<|h.mono l)<|λτ a a' D r=>af (λσ x y=>dD σ x y) ?_ λυ b B _ rb=>ah<|.ptr rb
   refine af _ (di hT _) ?_;rintro υ n _ aF ⟨rfl,i,hi,hn⟩;have:=hf Z x i hd e hi;rw[if_neg ab,if_neg ab];exact ah<|(r.mono aF).add _
 exact mq
def JY (hT:afn.toTables=P.toTables)(t:aa){i:ac}(h:aq ok ρ v C)(hi:aq ok ρ i U):ag afn P ok str (aq ok) ρ (cC t v i) (cC t C U):=by
 refine af _ (px hi) ?_;rintro σ ⟨k,n⟩ _ l rfl;refine af _ (am hT t) ?_;rintro τ d _ l1 ⟨rfl,hd⟩;have h':=(h.mono l).mono l1;have aF:∀{φ:Ren} {a a':a9} (Z:Nat) (s:aa) (C_:Bool),dD φ a a'->ag afn P ok str (aq ok) φ
   (if 0<=n/\n<(Z:Int)then(do pure (be<|some<|a.add<|n.toNat*(<-c6 s)))else if C_=true then bv (.noEntry "op/indexAddr.an index out of range at an array of length 0 or 1 (ledger 616)")else bz k n Z .index)
   (if 0<=n/\n<(Z:Int)then(do pure (be<|some<|a'.add<|n.toNat*(<-c6 s)))else if C_=true then bv (.noEntry "op/indexAddr.an index out of range at an array of length 0 or 1 (ledger 616)")else bz k n Z .index):=by
  intro φ a a' Z s C_ r;split
  .refine af _ (di hT _) ?_;rintro ψ m _ l4 ⟨rfl,_⟩;exact ah<|.ptr<|(r.mono l4).add _
  .split
   .exact kQ
   exact n8 hT _ _ _ _
 cases d with
 |array Z s=>
  refine af _ (uW h')<|λυ a a' l2 r=>aW<|af _ (am hT t) ?_
  rintro φ d' _ l3 ⟨rfl,_⟩;exact aF Z s _ (r.mono l3)
 |slice s=>
  cases h' with
  |dr Z c=>
   refine aW<|af _ (am hT t) ?_;rintro φ d' _ l3 ⟨rfl,_⟩;exact n8 hT _ _ _ _
  |slice Z c r=>
   refine aW<|af _ (am hT t) ?_;rintro φ d' _ l3 ⟨rfl,_⟩;exact aF Z s _ (r.mono l3)
  |_=>exact .halt _ _
 |_=>exact .halt _ _
end
section
variable {ok:Ctx}{ρ:Ren}
def Vq {f:α->Sem γ}(h:∀{σ:Ren} a,ag afn P ok str (λ_ x y=>x=y) σ (f a)<|f a):∀(l:List α) {ρ:Ren},ag afn P ok str (λ_ x y=>x=y) ρ (l.mapM f) (l.mapM f):=by
 intro l;induction l with
 |nil=>exact ah rfl
 |cons a l s=>
  simp;refine af _ (h a) ?_;rintro σ x _ _ rfl;refine af _ s ?_;rintro τ xs _ _ rfl;exact ah rfl
def Rr {f:α->Sem γ}(h:∀{σ:Ren} a,ag afn P ok str (λ_ x y=>x=y) σ (f a)<|f a)(l:Array α):ag afn P ok str (λ_ x y=>x=y) ρ (l.mapM f) (l.mapM f):=by
 rw[Array.mapM_eq_mapM_toList];refine af _ (Vq h _) ?_;rintro σ x _ _ rfl;exact ah rfl
def Pj off:∀{l D:List ac} (_:iK ok ρ l D) k {cs cs':Array ac},aA ok ρ cs cs'->
  aA ok ρ ((l.zipIdx k).foldl (λcs (x:ac×Nat)=>cs.setIfInBounds (off+x.2) x.1) cs) ((D.zipIdx k).foldl (λcs (x:ac×Nat)=>cs.setIfInBounds (off+x.2) x.1) cs'):=by
 intro l D h;induction h with
 |nil=>simp_all
 |cons d _ g=>intro k cs cs' j;exact g _<|j.set d _
def y7 (d:Nat->Option (Nat×Nat)):∀{l D:List (Nat×ac)} {cs cs':Array ac},l.map (·.1)=D.map (·.1)->iK ok ρ (l.map (·.2)) (D.map (·.2))->aA ok ρ cs cs'->
  (bj d cs l=none/\bj d cs' D=none)\/∃r r',bj d cs l=some r/\bj d cs' D=some r'/\aA ok ρ r r':=by
 intro l;induction l with
 |nil=>
  intro D cs cs' e _ g;cases D with
  |nil=>exact bo ⟨cs,cs',rfl,rfl,g⟩
  |cons _ _=>grind
 |cons a l s=>
  intro D cs cs' e h g;cases D with
  |nil=>grind
  |cons b D=>
   let⟨i,v⟩:=a;let⟨U,C⟩:=b;simp at e;obtain⟨rfl,e⟩:=e;cases h with
   |cons k h=>
    unfold bj;cases w:d i with
    |none=>grind
    |some x=>
     let⟨j,m⟩:=x;simp only;rw[<-k.cells.size,<-g.size];split
     .grind
     refine s e h ?_;have:=Pj j k.cells.list 0 g;rw[<-b9,<-b9,cb,cb]at this;exact this
def De (t)(h:aq ok ρ v C):ag afn P ok str (λσ x y=>dD σ x y) ρ (newVar t v) (newVar t C):=lF t h.cells
def r_ (t:aa)(h:aq ok ρ v C):ag afn P ok str (aq ok) ρ (c5 t v) (c5 t C):=by
 exact af _ (De t h)<|λσ a a' _ r=>ah<|.ptr r
def Rf (d:afn.toTables=P.toTables)(t:aa)(g:E9 P t):ag afn P ok str (aq ok) ρ (cV t true<|bW #[]) (cV t true<|bW #[]):=by
 exact af _ (jY d t g)<|λσ v C _ h=>af _ (De t h)<|λτ a a' _ r=>ah<|.ptr r
def Rh (hT:afn.toTables=P.toTables)(t:aa)(hz:E9 P t){l D:Array (Nat×ac)}(e:l.toList.map (·.1)=D.toList.map (·.1))(h:iK ok ρ (l.toList.map (·.2)) (D.toList.map (·.2))):
  ag afn P ok str (aq ok) ρ (cX t l) (cX t D):=by
 refine af _ (jY hT t hz)<|λσ z z' l1 Ok=>af _ (am hT t) ?_
 rintro τ d _ l2 ⟨rfl,hd⟩;cases d with
 |struct fields=>
  refine af _ (Rr (λa=>?_) fields) ?_
  .refine af _ (di hT _) ?_;rintro υ n _ _ ⟨rfl,_⟩;exact ah rfl
  rintro υ places _ l3 rfl;rcases y7 (λx=>places[x]?) e ((h.mono<|l1.trans l2).mono l3) ((Ok.mono<|l2.trans l3).cells)with⟨h1,h2⟩|⟨r,r',h1,h2,h3⟩
  .simp[h1];exact mq
  simp[h1,h2];exact ah (.agg h3.size h3.at_)
 |array n elem=>
  refine af _ (di hT _) ?_;rintro υ size _ l3 ⟨rfl,_⟩;rcases y7 (λi=>some (i*size,size)) e ((h.mono<|l1.trans l2).mono l3) ((Ok.mono<|l2.trans l3).cells)with⟨h1,h2⟩|⟨r,r',h1,h2,h3⟩
  .simp[h1];exact mq
  simp[h1,h2];exact ah (.agg h3.size h3.at_)
 |_=>exact .halt _ _
def AO {z d:Array ac}(h:aA ok ρ z d) n:aA ok ρ ((bH n).map (z[·%z.size]!)) ((bH n).map (d[·%d.size]!)):=by
 refine aA.map (λi=>?_) _;rw[h.size.symm];simp only[Array.getElem!_eq_getD];cases g:z[i%z.size]? with
 |none=>
  rw[bN,bN,g,h.none g];exact qU rfl
 |some x=>
  let⟨A,j,r⟩:=h.get g;simp_all
def BH (hT:afn.toTables=P.toTables)(t:aa) n (hz:Hy P t){l D:Array (Nat×ac)}(e:l.toList.map (·.1)=D.toList.map (·.1))(h:iK ok ρ (l.toList.map (·.2)) (D.toList.map (·.2))):
  ag afn P ok str (aq ok) ρ (cq t n l) (cq t n D):=by
 refine af _ (am hT t) ?_;rintro τ d _ l1 ⟨rfl,hd⟩;cases d with
 |slice elem=>
  have Ok:E9 P elem=true:=by unfold Hy at hz;grind
  refine af _ (di hT _) ?_;rintro υ size _ l2 ⟨rfl,_⟩;have fin:∀{φ:Ren} {z z':Array ac},τ.le φ->aA ok φ z z'->ag afn P ok str (aq ok) φ
    (match bj (λi=>some (i*size,size)) ((bH<|n*size).map (z[·%z.size]!)) l.toList with|some cells=>(do pure (.slice (some<|<-c7 elem cells) n n))|_=>b2 "buildSlice: a part of the wrong size")
    (match bj (λi=>some (i*size,size)) ((bH<|n*size).map (z'[·%z'.size]!)) D.toList with|some cells=>(do pure (.slice (some<|<-c7 elem cells) n n))|_=>b2 "buildSlice: a part of the wrong size"):=by
   intro φ z z' lφ Ol;rcases y7 (λi=>some (i*size,size)) e (h.mono<|l1.trans lφ) (AO Ol<|n*size)with⟨h1,h2⟩|⟨r,r',h1,h2,h3⟩
   .simp[h1];exact mq
   .simp[h1,h2];exact af _ (lF elem h3)<|λψ a a' _ r=>ah<|.slice _ _ r
  dsimp only;split
  .exact kQ
  split
  .exact fin l2 aA.nil
  exact af _ (jY hT _ Ok)<|λφ z z' l3 Ol=>fin (l2.trans l3) Ol.cells
 |_=>exact .halt _ _
def mn n:ag afn P ok str (λ_ _ _=>True) ρ (dm n) (dm n):=by
 unfold dm;split
 .exact ag.mark rfl (.pure trivial)
 exact ah trivial
def EL (hT:afn.toTables=P.toTables)(t:aa)(hz:Hy P t){a a' b B:ac}(h:aq ok ρ a a')(h':aq ok ρ b B):ag afn P ok str (aq ok) ρ (cw t a b) (cw t a' B):=by
 refine af _ (am hT t) ?_;rintro σ d _ l1 ⟨rfl,hd⟩;cases d with
 |slice elem=>
  have Ok:E9 P elem=true:=by unfold Hy at hz;grind
  refine af _ (kG<|h.mono l1) ?_;rintro τ x _ l2 rfl;refine af _ (kG<|(h'.mono l1).mono l2) ?_;rintro υ y _ l3 rfl;refine af _ (bP hT _) ?_;rintro φ N _ l4 ⟨rfl,_⟩;dsimp only;split
  .split
   .exact ij hT (.error _) rfl
   split
   .exact ij hT (.error _) rfl
   .exact ag.choose _ λn=>ij hT (.error _) rfl
  refine af _ (mn _)<|λψ _ _ l5 _=>af _ (di hT _) ?_
  rintro χ size _ l6 ⟨rfl,_⟩;split
  .exact aW (af _ (lF elem<|AO aA.nil _) λω r r' _ hr=>ah<|.slice _ _ hr)
  refine af _ (jY hT _ Ok)<|λκ z z' l7 Ol=>aW<|af _ (lF elem<|AO Ol.cells _) ?_
  exact λω r r' _ hr=>ah (.slice _ _ hr)
 |_=>exact .halt _ _
end
section
variable {ok:Ctx}{ρ:Ren}
def jX (s:afn.toTables=P.toTables)(h:aq ok ρ v C) y (c:b4):ag afn P ok str (λ_ x y=>x=y) ρ (bE v y c) (bE C y c):=by
 refine af _ (px h) ?_;rintro σ ⟨k,i⟩ _ _ rfl;dsimp only;split
 .exact ah rfl
 exact n8 s _ _ _ _
inductive nC (ok:Ctx)(ρ:Ren):Option ac->Option ac->Prop
 |none:nC ok ρ none none
 |some {v C:ac}:aq ok ρ v C->nC ok ρ (some v) (some C)
def nC.mono {σ:Ren}{v C}(h:nC ok ρ v C)(l:ρ.le σ):nC ok σ v C:=by
 cases h with
 |none=>exact .none
 |some h=>exact .some<|h.mono l
def Xn (lo:Option ac)(m h:Nat)(c:b4):Sem (Nat×Nat×Nat):=match lo with|some v=>(do let l <-bE v h c;pure (l,h,m))|none=>(do let l <-pure 0;pure (l,h,m))
def J0 (s:afn.toTables=P.toTables)(Z:nC ok ρ lo z)(m h:Nat)(c:b4):ag afn P ok str (λ_ x y=>x=y) ρ (Xn lo m h c) (Xn z m h c):=by
 cases Z with
 |none=>exact aW (ah rfl)
 |some hv=>
  refine af _ (jX s hv _ _) ?_;rintro τ x _ _ rfl;exact ah rfl
def gO (d:afn.toTables=P.toTables)(b:Bool)(g cap:Nat)(j:nC ok ρ lo z)(w:nC ok ρ hi T)(E:nC ok ρ R q):
  ag afn P ok str (λ_ x y=>x=y) ρ (cn b g cap lo hi R) (cn b g cap z T q):=by
 cases E with
 |none=>
  refine aW ?_;cases w with
  |none=>exact aW (J0 d j _ _ _)
  |some s=>
   refine af _ (jX d s _ _) ?_;rintro τ x _ l rfl;exact J0 d (j.mono l) _ _ _
 |some F=>
  refine af _ (jX d F _ _) ?_;rintro τ x _ l rfl;cases w with
  |none=>exact .halt _ _
  |some s=>
   refine af _ (jX d (s.mono l) _ _) ?_;rintro υ y _ D rfl;exact J0 d (j.mono<|l.trans D) _ _ _
def J2 (hT:afn.toTables=P.toTables)(t:aa)(h:aq ok ρ v C)(h1:nC ok ρ lo z)(h2:nC ok ρ hi T)(h3:nC ok ρ R q):
  ag afn P ok str (aq ok) ρ (cE t v lo hi R) (cE t C z T q):=by
 have tail:∀{σ:Ren} {a a':a9} (l m n size:Nat),dD σ a a'->ag afn P ok str (aq ok) σ (pure<|.slice (some (if m=l then a else a.add (l*size))) (n-l)<|m-l) (pure<|.slice (some (if m=l then a' else a'.add (l*size))) (n-l)<|m-l):=by
  intro σ a a' l m n size r;split
  .exact ah (.slice _ _ r)
  exact ah<|.slice _ _<|r.add _
 refine af _ (am hT t) ?_;rintro σ d _ l1 ⟨rfl,hd⟩;have aea:ag afn P ok str (aq ok) σ (c0 t v lo hi R) (c0 t C z T q):=by
  refine af _ (am hT t) ?_;rintro τ d _ l2 ⟨rfl,hd⟩;have hv:=(h.mono l1).mono l2;have g1:=(h1.mono l1).mono l2;have g2:=(h2.mono l1).mono l2;have g3:=(h3.mono l1).mono l2;cases d with
  |string=>
   cases hv with
   |string s=>
    cases g3 with
    |none=>
     refine af _ (gO hT false s.size s.size g1 g2 .none) ?_;rintro υ ⟨l,hh,m⟩ _ _ rfl;exact ah (.string _)
    |some _=>exact .halt _ _
   |_=>exact .halt _ _
  |slice elem=>
   cases hv with
   |dr len cap=>
    refine af _ (gO hT true len cap g1 g2 g3) ?_;rintro υ ⟨l,hh,m⟩ _ _ rfl;refine af _ (di hT _) ?_;rintro φ size _ _ ⟨rfl,_⟩;split
    .exact ah (.dr _ _)
    exact ah (.dr _ _)
   |slice len cap r=>
    refine af _ (gO hT true len cap g1 g2 g3) ?_;rintro υ ⟨l,hh,m⟩ _ l3 rfl;refine af _ (di hT _) ?_;rintro φ size _ l4 ⟨rfl,_⟩;split
    .exact ah (.slice _ _<|(r.mono l3).mono l4)
    exact ah (.slice _ _<|((r.mono l3).mono l4).add _)
   |_=>exact .halt _ _
  |pointer arr=>
   refine af _ (vO hT hv)<|λυ a a' l3 r=>af _ (am hT _) ?_
   rintro φ d2 _ l4 ⟨rfl,_⟩;cases d2 with
   |array n elem=>
    refine af _ (gO hT false n n (g1.mono<|l3.trans l4) (g2.mono<|l3.trans l4)<|g3.mono<|l3.trans l4) ?_;rintro ψ ⟨l,hh,m⟩ _ l5 rfl;refine af _ (di hT _) ?_;rintro χ size _ l6 ⟨rfl,_⟩;exact tail _ _ _ _ (((r.mono l4).mono l5).mono l6)
   |_=>exact .halt _ _
  |_=>exact .halt _ _
 cases d with
 |array n elem=>
  refine af _ (uW<|h.mono l1)<|λυ a a' l3 r=>af _ (gO hT false n n ((h1.mono l1).mono l3) ((h2.mono l1).mono l3)<|(h3.mono l1).mono l3) ?_
  rintro ψ ⟨l,hh,m⟩ _ l5 rfl;refine af _ (di hT _) ?_;rintro χ size _ l6 ⟨rfl,_⟩;exact tail _ _ _ _ ((r.mono l5).mono l6)
 |_=>omega
def JW (h:aq ok ρ v C) i:ag afn P ok str (aq ok) ρ (bV v i) (bV C i):=by
 cases h with
 |@tuple xs u e h=>
  have g:aA ok ρ xs u:=⟨e,h⟩;unfold bV;cases d:xs[i]? with
  |none=>simp[d];exact .halt _ _
  |some x=>
   let⟨A,j,r⟩:=g.get d;simp[d,j];exact ah r
 |_=>exact .halt _ _
def yp (hT:afn.toTables=P.toTables)(t:aa)(h:aA ok ρ cs cs') off:ag afn P ok str (aq ok) ρ (dn t cs off) (dn t cs' off):=by
 refine af _ (Ha hT t) ?_;rintro σ b _ l rfl;split
 .refine af _ (di hT t) ?_;rintro τ n _ D ⟨rfl,_⟩;have:=((h.mono l).mono D).extract off<|off+n;exact ah<|.agg this.size this.at_
 cases hx:cs[off]? with
 |none=>exact .halt _ _
 |some x=>
  let⟨A,eX,r⟩:=(h.mono l).get hx;simp[eX];exact ah r
def Rp (hT:afn.toTables=P.toTables)(t:aa){i:ac}(h:aq ok ρ v C)(hi:aq ok ρ i U):ag afn P ok str (aq ok) ρ (c2 t v i) (c2 t C U):=by
 refine af _ (px hi) ?_;rintro σ ⟨k,n⟩ _ l rfl;refine af _ (am hT t) ?_;rintro τ d _ l1 ⟨rfl,hd⟩;have hv:=(h.mono l).mono l1;cases d with
 |array len elem=>
  cases hv with
  |agg e hc=>
   dsimp only;split
   .refine af _ (di hT _) ?_;rintro υ size _ l2 ⟨rfl,_⟩;exact yp hT _ (aA.mono ⟨e,hc⟩ l2) _
   exact n8 hT _ _ _ _
  |_=>exact .halt _ _
 |string=>
  cases hv with
  |string s=>
   dsimp only;split
   .exact ah (.int _ _)
   exact n8 hT _ _ _ _
  |_=>exact .halt _ _
 |_=>exact .halt _ _
def Rx (op:UnOp)(h:aq ok ρ v C):ag afn P ok str (aq ok) ρ (dz op v) (dz op C):=by
 cases h with
 |bool b=>cases op<;>first|exact ah (.bool _)|exact .halt _ _
 |int k n=>cases op<;>first|exact ah (.int _ _)|exact .halt _ _|(simp;exact ah<|.int _ _)|(simp;exact ah<|.int _ _)
 |_=>cases op<;>exact .halt _ _
end
section
variable {ok:Ctx}{ρ:Ren}
def dD.beq {b:a9}(h:dD ρ a a')(d:dD ρ b B):(a'==B)=(a==b):=by
 have g:a'=B<->a=b:=by
  constructor
  .rintro rfl;have j:=ρ.inj _ _ _ h.blk d.blk;have k:a.off=b.off:=by rw[<-h.off,<-d.off]
   have m:a.spot=b.spot:=by rw[<-h.spot,<-d.spot]
   cases a;simp_all
  rintro rfl;have j:a'.block=B.block:=by have:=h.blk;rw[d.blk]at this;grind
  have k:a'.off=B.off:=by rw[h.off,d.off]
  have m:a'.spot=B.spot:=by rw[h.spot,d.spot]
  cases a';simp_all
 grind
def dD.BZ {b:a9}(h:dD ρ a a')(d:dD ρ b B):(a'.block==B.block)=(a.block==b.block):=by
 by_cases e:a.block=b.block
 .have:a'.block=B.block:=by have:=h.blk;rw[e,d.blk]at this;grind
  grind
 have:a'.block≠B.block:=λx=>e<|ρ.inj _ _ _ h.blk<|x▸d.blk
 grind
def Df (h:ρ r=some r'):ag afn P ok str (λ_ x y=>x=none/\y=none) ρ (viewAt r) (viewAt r'):=by
 refine ag.shape h λs=>?_
 cases s with
 |some x=>exact .pure ⟨rfl,rfl⟩
 |none=>
  refine ag.getObj h λo J ho=>?_
  cases ho<;>exact .pure ⟨rfl,rfl⟩
inductive Ic (ρ:Ren):Option (a9×Bool)->Option (a9×Bool)->Prop
 |none:Ic ρ none none
 |some {a a':a9} (b:Bool):dD ρ a a'->Ic ρ (some (a,b)) (some (a',b))
def xl (h:ρ r=some r'):ag afn P ok str (λσ x y=>ρ.le σ/\Ic σ x y) ρ (numberAt r) (numberAt r'):=by
 refine ag.shape h λs=>?_
 cases s with
 |some x=>exact .pure ⟨Ren.le_refl _,.none⟩
 |none=>
  refine ag.getObj h λo J ho=>?_
  cases ho<;>first|exact .pure ⟨Ren.le_refl _,.none⟩|(rename_i b r;exact .pure ⟨Ren.le_refl _,.some b r⟩)
def lE (h:dD ρ a a'):ag afn P ok str (λσ x y=>ρ.le σ/\dD σ x.1 y.1/\x.2=y.2) ρ (aV a) (aV a'):=by
 refine af _ (xl h.blk) ?_;rintro σ x y l ⟨_,d⟩;cases d with
 |none=>exact ah ⟨l,h.mono l,rfl⟩
 |some b r=>exact ah ⟨l,r,rfl⟩
def NF (h:dD ρ a a'):ag afn P ok str (λσ _ _=>ρ.le σ) ρ (noView a) (noView a'):=by
 refine ag.shape h.blk λs=>?_
 cases s with
 |some x=>exact .pure (Ren.le_refl _)
 |none=>
  refine ag.getObj h.blk λo J ho=>?_
  cases ho<;>exact .pure<|Ren.le_refl _
omit [Gl] in
def rY (g:afn.toTables=P.toTables):∀d e o,bI afn d e o=bI P d e o:=by
 intro d;induction d with
 |zero=>intro e o;rfl
 |succ d j=>intro e o;simp only[bI,tG g,a6,bp,g,j];rfl
def vP (d:afn.toTables=P.toTables)(h:dD ρ a a'):ag afn P ok str (λ_ x y=>x=y) ρ (dN a) (dN a'):=by
 unfold dN;rw[h.spot];cases a.spot with
 |some s=>exact ah rfl
 |none=>
  refine ag.program<|aW<|af _ (NF h) ?_;rintro σ _ _ l _;refine ag.shape (l _ _ h.blk) λs=>?_
  cases s with
  |none=>exact .halt _ _
  |some x=>
   let⟨e,n⟩:=x;show ag afn P ok str _ σ (if afn.cellsOf e=0 then pure 0 else match bI afn afn.depth e _ with|some b=>pure _|_=>b2 "byteOf: no such cell")
    (if P.cellsOf e=0 then pure 0 else match bI P P.depth e _ with|some b=>pure _|_=>b2 "byteOf: no such cell")
   rw[h.off,rY d,show afn.cellsOf e=P.cellsOf e by grind [a6],show afn.bytesOf e=P.bytesOf e by unfold bp;rw[d],show afn.depth=P.depth by unfold cv;rw[d]];split
   .exact ah rfl
   split
   .exact ah rfl
   exact kQ
def DN (P:ao)(t:aa):Bool:=match P.underlying t with|some .bool|some .string|some (.int _)|some (.slice _)=>true|_=>false
def XC (x9:p:=by
  refine af _ (vP hT r) ?_;rintro φ n _ l3 rfl;refine af _ (vP hT<|r2.mono l3) ?_;rintro χ m _ _ rfl;exact ah rfl):p:=x9
def XY (x9:p:=by
  dsimp only;split<;>first|exact .halt _ _|(exfalso;simp_all;done)|exact ah rfl):p:=x9
def Lz (hT:afn.toTables=P.toTables)(hG:P.globals.size=Gl.n) d (t)(ht:DN P t)(Z:aq ok ρ x A)(s:aq ok ρ y f):ag afn P ok str (λ_ x y=>x=y) ρ (ad d t x y) (ad d t A f):=by
 cases d with
 |zero=>exact .halt _ _
 |succ d=>
  unfold ad;refine af _ (am hT t) ?_;rintro σ u _ l ⟨rfl,hu⟩;have Z:=Z.mono l;have s:=s.mono l;unfold DN at ht;rw[hu]at ht;cases u with
  |bool=>cases Z<;>(first|exact .halt _ _|(cases s<;>(first|exact .halt _ _|exact ah rfl)))
  |string=>cases Z<;>(first|exact .halt _ _|(cases s<;>(first|exact .halt _ _|exact ah rfl)))
  |slice e=>cases Z<;>(first|exact .halt _ _|(cases s<;>(first|exact .halt _ _|exact ah rfl)))
  |int k=>
   cases Z with
   |int k1 a=>
    cases s with
    |int k2 b=>
     dsimp only;split
     .exact ah rfl
     .exact kQ
    |ptr r=>
     by_cases e:a=0
     .subst e;exact ah rfl
     .exact XY
    |_=>exact .halt _ _
   |@ptr a a' r=>
    cases s with
    |int k2 b=>
     by_cases e:b=0
     .subst e;exact ah rfl
     .exact XY
    |@ptr b B r2=>
     refine af _ (lE r) ?_;rintro τ ⟨a,_⟩ ⟨a',_⟩ _ ⟨l1,r,_⟩;refine af _ (lE<|r2.mono l1) ?_;rintro υ ⟨b,_⟩ ⟨B,_⟩ _ ⟨l2,r2,_⟩;have r:=r.mono l2;have r2:=r2;refine ag.program<|aW ?_;have hg:decide (a'.block<P.globals.size)=decide (a.block<afn.globals.size):=by
      rw[hT,hG];have:=υ.IP _ _ r.blk;exact decide_eq_decide.2 this.symm
     rw[r.BZ r2,hg];split
     .exact XC
     refine af _ (bP hT t) ?_;rintro φ i _ l3 ⟨rfl,_⟩;split
     .rw[(r.mono l3).beq (r2.mono l3)];split
      .exact ah rfl
      .exact kQ
     .exact kQ
    |_=>exact .halt _ _
   |_=>cases s<;>exact .halt _ _
  |_=>cases ht
def Wh (P:ao)(t:aa):Bool:=match P.underlying t with|some (.struct s)=>!P.stoodInHeld t&&s.all (λf=>DN P f.type)|_=>false
def Nv (hT:afn.toTables=P.toTables)(hG:P.globals.size=Gl.n) d:∀(l:List Field) (_:l.all (λf=>DN P f.type)) {ρ:Ren} {xs u s Z:Array ac},aA ok ρ xs u->aA ok ρ s Z->
  ag afn P ok str (λ_ x y=>x=y) ρ
   (forIn l ((none:Option Bool),()) λf _=>do
    if f.name≠ "_" then
     if !(<-ad d f.type (<-dn f.type xs f.offset) (<-dn f.type s f.offset))then pure (cf (some false,()))else pure (bn (none,()))
    else pure (bn (none,())))
   (forIn l ((none:Option Bool),()) λf _=>do
    if f.name≠ "_" then
     if !(<-ad d f.type (<-dn f.type u f.offset) (<-dn f.type Z f.offset))then pure (cf (some false,()))else pure (bn (none,()))
    else pure (bn (none,()))):=by
 intro l;induction l with
 |nil=>intro _ ρ xs u s Z hx hy;exact ah rfl
 |cons f l ih=>
  intro hl ρ xs u s Z hx hy;simp only[List.all_cons,a5]at hl;simp only[List.forIn_cons];by_cases hn:f.name≠ "_"
  .simp only[if_pos hn];refine af (λτ x y=>x=y/\(x=.done (some false,())\/x=.yield (none,()))) ?_ ?_
   .refine af _ (yp hT f.type hx f.offset)<|λτ a a' l1 ha=>af _ (yp hT f.type (hy.mono l1) f.offset)<|λυ b B l2 hb=>af _ (Lz hT hG d f.type hl.1 (ha.mono l2) hb) ?_
    rintro φ r _ l3 rfl;cases r
    .exact ah ⟨rfl,a4 rfl⟩
    exact ah ⟨rfl,bo rfl⟩
   rintro τ x _ l1 ⟨rfl,rfl|rfl⟩
   .exact ah rfl
   exact ih hl.2 (hx.mono l1)<|hy.mono l1
  simp only[if_neg hn];exact ih hl.2 hx hy
def u_ (hT:afn.toTables=P.toTables)(hG:P.globals.size=Gl.n) d (t)(Z:Wh P t)(hx:aq ok ρ x A)(hy:aq ok ρ y f):ag afn P ok str (λ_ x y=>x=y) ρ (ad d t x y) (ad d t A f):=by
 cases d with
 |zero=>exact .halt _ _
 |succ d=>
  unfold ad;refine af _ (am hT t) ?_;rintro σ u _ l ⟨rfl,hu⟩;have hy:=hy.mono l;unfold Wh at Z;rw[hu]at Z;cases u with
  |struct fs=>
   simp only[a5,cp]at Z;cases (hx.mono l)with
   |agg e1 h1=>
    cases hy with
    |agg e2 h2=>
     dsimp only;refine ag.program<|aW ?_;rw[Z.1];split
     .exact kQ
     .rw[if_neg aP,<-cc,<-cc];refine af _ (Nv hT hG d fs.toList (by simpa using Z.2) ⟨e1,h1⟩ ⟨e2,h2⟩) ?_;rintro τ s _ _ rfl;split<;>exact ah rfl
    |_=>exact .halt _ _
   |_=>cases hy<;>exact .halt _ _
  |_=>cases Z
def N6 (P:ao)(t:aa):Bool:=DN P t||Wh P t
def t_ (s:afn.toTables=P.toTables)(Z:P.globals.size=Gl.n) d (t)(ht:N6 P t)(hx:aq ok ρ x A)(hy:aq ok ρ y f):ag afn P ok str (λ_ x y=>x=y) ρ (ad d t x y) (ad d t A f):=(Bool.or_eq_true_iff.1 ht).elim (λh=>Lz s Z d t h hx hy) λh=>u_ s Z d t h hx hy
omit [Gl] in
def A0 (g:afn.toTables=P.toTables):∀d e o,cI afn d e o=cI P d e o:=by
 intro d;induction d with
 |zero=>intro e o;rfl
 |succ d j=>grind [cI,tG,a6,bp]
omit [Gl] in
def yP (s:afn.toTables=P.toTables)(d e c o:Nat) n:bA afn d e c o n=bA P d e c o n:=by
 simp only[bA,a6,bp,s,rY s,A0 s];rfl
def sB (g:afn.toTables=P.toTables)(j:Array aa)(t:aa)(h:aq ok ρ v C)(w:aq ok ρ n O):ag afn P ok str (λσ x y=>aq ok σ x y/\x≠hole) ρ (bb j t #[v,n]) (bb j t #[C,O]):=by
 cases h with
 |kP=>
  refine af _ (kG w) ?_;rintro σ m _ l rfl;dsimp only;split
  .exact kQ
  split
  .exact kQ
  exact kQ
 |@ptr a a' r=>
  refine af _ (kG w) ?_;rintro σ m _ l rfl;have r:=r.mono l;dsimp only;split
  .refine af _ (Df r.blk) ?_;rintro τ _ _ E ⟨rfl,rfl⟩;exact .pure ⟨.ptr<|r.mono E,by simp[hole]⟩
  split
  .exact kQ
  refine ag.shape r.blk λs=>?_
  cases s with
  |none=>exact .halt _ _
  |some x=>
   let⟨e,n⟩:=x;refine ag.program ?_;show ag afn P ok str _ σ (match bA afn afn.depth e _ a.off m with|some d=>pure _|none=>bv _)
    (match bA P P.depth e _ a'.off m with|some d=>pure _|none=>bv _)
   rw[yP g,r.off,show afn.cellsOf e=P.cellsOf e by grind [a6],show afn.depth=P.depth by unfold cv;rw[g]];split
   .exact .pure ⟨.ptr ⟨r.blk,rfl,r.spot⟩,by simp[hole]⟩
   exact kQ
 |_=>exact .halt _ _
def pA (g:afn.toTables=P.toTables)(d:Array aa)(t:aa)(h:aq ok ρ v C)(j:aq ok ρ n O):ag afn P ok str (aq ok) ρ (bb d t #[v,n]) (bb d t #[C,O]):=
 (sB g d t h j).mono λ_ _ _ h=>h.1
def G7 (b)(r:dD ρ a a'):ag afn P ok str (aq ok) ρ (asNumber a b) (asNumber a' b):=by
 exact ag.new (.number b r)<|λσ x y _ e=>.pure<|.ptr ⟨e,rfl,rfl⟩
def fV (hT:afn.toTables=P.toTables)(t:aa)(h:aq ok ρ v C)(hn:aq ok ρ n O):ag afn P ok str (aq ok) ρ (dx t v n) (dx t C O):=by
 refine af _ (am hT t) ?_;rintro σ d _ l ⟨rfl,_⟩;have h:=h.mono l;have hn:=hn.mono l;dsimp only;split
 .exact kQ
 cases h with
 |@ptr a a' r=>
  refine af _ (lE r) ?_;rintro τ ⟨b,z⟩ ⟨B,z'⟩ l1 ⟨_,r,e⟩;subst e;refine af _ (sB hT #[] t (.ptr r)<|hn.mono l1) ?_;rintro υ x A l2 ⟨hx,hne⟩;cases hx with
  |hole _=>grind
  |ptr r=>exact G7 _ r
  |kP=>exact ah .kP
  |bool b=>exact ah (.bool b)
  |int k n=>exact ah (.int k n)
  |string s=>exact ah (.string s)
  |dr l c=>exact ah (.dr l c)
  |slice n c h=>exact ah (.slice n c h)
  |map h=>exact ah (.map h)
  |nilFunc=>exact ah .nilFunc
  |nilIface=>exact ah .nilIface
  |iface t h=>exact ah (.iface t h)
  |func a b c d e=>exact ah (.func a b c d e)
  |agg e h=>exact ah (.agg e h)
  |tuple e h=>exact ah (.tuple e h)
 |kP=>exact pA hT #[] t .kP hn
 |_=>exact .halt _ _
def xM (d:afn.toTables=P.toTables)(t:aa)(r:dD ρ a a')(g:aq ok ρ n O):ag afn P ok str (aq ok) ρ (dp t (be a) n) (dp t (be a') O):=by
 refine af _ (xl r.blk) ?_;rintro σ x y l ⟨_,h⟩;cases h with
 |none=>exact pA d #[] t (.ptr<|r.mono l) (g.mono l)
 |some b _=>exact .halt _ _
def uX (hT:afn.toTables=P.toTables)(h:P.globals.size=Gl.n){b:a9}(r:dD ρ a a')(r2:dD ρ b B):ag afn P ok str (λ_ x y=>x=y) ρ (c4 a b) (c4 a' B):=by
 refine ag.program<|aW ?_;have d:decide (a'.block>=P.globals.size)=decide (a.block>=afn.globals.size):=by
  have:=ρ.IP _ _ r.blk;grind
 have g:(a'.block !=B.block)=(a.block !=b.block):=by unfold bne;rw[r.BZ r2]
 rw[g,d];split
 .exact kQ
 exact XC
end
section
variable {ok:Ctx}{ρ:Ren}
def Rm {A}{s:Sem α}{s':Sem β}(h:∃z,s=.halt z/\ends z):ag afn P ok str A ρ s s':=by
 obtain⟨z,rfl,d⟩:=h;exact .halt _ _ d
def acn (x9:p:=by
  cases op<;>first|exact ah (.int _ _)|exact .halt _ _):p:=x9
def G9 (op:br)(k:bs)(a b:Int):ag afn P ok str (aq ok) ρ (c9 op k a b) (c9 op k a b):=by
 exact acn
def XO (x9:p:=by
  split
  .exact ij hT (.error _) rfl
  .cases op<;>first|exact ah (.int _ _)|exact .halt _ _):p:=x9
def NC (hT:afn.toTables=P.toTables)(op:br)(k:bs)(a b:Int):ag afn P ok str (aq ok) ρ (cz op k a b) (cz op k a b):=by
 unfold cz;exact XO
def JZ (op:br)(k:bs)(a b:Int):ag afn P ok str (aq ok) ρ (db op k a b) (db op k a b):=by
 exact acn
def NA (op:br)(a b:Int):ag afn P ok str (aq ok) ρ (dt op a b) (dt op a b):=by
 cases op<;>first|exact ah (.bool _)|exact .halt _ _
def Hd (hT:afn.toTables=P.toTables)(op:br)(k k':bs)(a b:Int):ag afn P ok str (aq ok) ρ (cT op k a k' b) (cT op k a k' b):=by
 unfold cT;exact XO
def xp (op:br)(a b:ByteArray):ag afn P ok str (aq ok) ρ (ch op a b) (ch op a b):=by
 cases op with
 |add=>
  unfold ch;dsimp only;split
  .exact kQ
  .exact ah (.string _)
 |_=>first|exact ah (.bool _)|exact .halt _ _
def Vp (d:afn.toTables=P.toTables)(g:br)(t:aa)(k k':bs)(a b:Int):ag afn P ok str (aq ok) ρ (ax g t (b0 k a)<|b0 k' b) (ax g t (b0 k a)<|b0 k' b):=by
 cases g with
 |shl=>simp only[ax];exact Hd d _ _ _ _ _
 |shr=>simp only[ax];exact Hd d _ _ _ _ _
 |_=>
  simp only[ax];split
  .exact kQ
  .first|exact G9 _ _ _ _|exact NC d _ _ _ _|exact JZ _ _ _ _|exact NA _ _ _
def G8 (s:afn.toTables=P.toTables)(Z:P.globals.size=Gl.n)(t)(ht:N6 P t)(hx:aq ok ρ x A)(hy:aq ok ρ y f):ag afn P ok str (λ_ x y=>x=y) ρ (av t x y) (av t A f):=t_ s Z _ t ht hx hy
def Fa:br->Bool|.eql|.neq=>true|_=>false
def mK (P:ao)(d:br)(t:aa):Bool:=if Fa d then N6 P t else true
def JP (hT:afn.toTables=P.toTables)(hG:P.globals.size=Gl.n)(k:bs){b:a9}(r:dD ρ a a')(r2:dD ρ b B):ag afn P ok str (aq ok) ρ (dc k a b) (dc k a' B):=by
 refine af _ (uX hT hG r r2) ?_;rintro σ x _ _ rfl;exact ah<|.int _ _
def pw (hT:afn.toTables=P.toTables)(hG:P.globals.size=Gl.n)(op:br){b:a9}(r:dD ρ a a')(r2:dD ρ b B):ag afn P ok str (aq ok) ρ (dd op a b) (dd op a' B):=by
 refine af _ (uX hT hG r r2) ?_;rintro σ x _ _ rfl;cases op<;>first|exact ah (.bool _)|exact .halt _ _
def JO (hT:afn.toTables=P.toTables)(k:bs) n (r:dD ρ a a'):ag afn P ok str (aq ok) ρ (df k a n) (df k a' n):=by
 refine ag.shape r.blk λs=>?_
 cases s with
 |none=>exact .halt _ _
 |some x=>
  let⟨e,m⟩:=x;refine aW<|af _ (bP hT e) ?_;rintro σ i _ l ⟨rfl,_⟩;dsimp only;split
  .exact kQ
  refine af _ (vP hT<|r.mono l) ?_;rintro τ x _ _ rfl;exact ah<|.int _ _
omit [Gl] in
def Fl (d:br)(t:aa) y (g:¬Fa d)(j:∀k a,x≠.int k a)(m:∀a,x≠.string a)(s:∀a,x≠.pointer a)(w:∀k a,x≠.float k a)(E:∀k a b,x≠.complex k a b):∃h,ax d t x y=.halt h/\ends h:=by
 unfold ax;split<;>first|exact absurd rfl (j _ _)|exact absurd rfl (m _)|exact absurd rfl (s _)|exact absurd rfl (w _ _)|exact absurd rfl (E _ _ _)|exact absurd rfl g|exact⟨_,rfl,rfl⟩
omit [Gl] in
def gP {r:Result α}(h:Result.stops r)(k:α->a2->Result β):Result.stops (r.andThen k):=by
 cases r with
 |ok a w=>cases h
 |halt x w=>exact h
omit [Gl] in
def IG (j:afn.toTables=P.toTables)(t:aa)(d:N6 P t) x (V:a2):Result.stops ((av t x hole).run afn V)/\Result.stops ((av t hole x).run afn V):=by
 have g:afn.underlying t=P.underlying t:=by unfold b6;rw[j]
 unfold N6 DN Wh at d;cases k:P.underlying t with
 |none=>grind
 |some u=>
  rw[k]at d g;have h:∀V,(b3 t).run afn V=.ok u V:=λV=>by simp[b3,g]
  constructor
  .show Result.stops ((ad (9999+1) t x hole).run afn V)=true;unfold ad;rw[au,h];cases u<;>first|(simp at d;done)|(cases x<;>first|rfl|(rename_i a _ _;cases a<;>rfl)|(rename_i a;cases a<;>rfl))
  .show Result.stops ((ad (9999+1) t hole x).run afn V)=true;unfold ad;rw[au,h];cases u<;>first|(simp at d;done)|(cases x<;>first|rfl|(rename_i a _ _;cases a<;>rfl)|(rename_i a;cases a<;>rfl))
omit [Gl] in
def oA (j:afn.toTables=P.toTables)(d:br)(t:aa)(g:mK P d t) x (V:a2):Result.stops ((ax d t x hole).run afn V)/\Result.stops ((ax d t hole x).run afn V):=by
 by_cases he:Fa d=true
 .unfold mK at g;rw[if_pos he]at g;have h:=IG j t g x V;cases d<;>first|cases he;done|skip
  .constructor
   .have e:ax .eql t x hole=(do pure (bS<|<-av t x hole)):=by cases x<;>rfl
    rw[e,au];exact gP h.1 _
   have e:ax .eql t hole x=(do pure (bS<|<-av t hole x)):=by cases x<;>rfl
   rw[e,au];exact gP h.2 _
  constructor
  .have e:ax .neq t x hole=(do pure (bS<|!(<-av t x hole))):=by cases x<;>rfl
   rw[e,au];exact gP h.1 _
  have e:ax .neq t hole x=(do pure (bS<|!(<-av t hole x))):=by cases x<;>rfl
  rw[e,au];exact gP h.2 _
 .constructor<;>(cases d<;>first|exact absurd rfl he|(cases x<;>first|rfl|(rename_i a _ _;cases a<;>rfl)|(rename_i a;cases a<;>rfl)))
def I_ (x9:p:=by
  simp only[binOp];refine af _ (number r) ?_;intro σ x y _ h;exact JO hT _ _ h):p:=x9
def acv (x9:p:=by
  intro h;unfold mK at ht;rw[if_pos h]at ht;refine af _ (G8 hT hG t ht hx hy) ?_;rintro σ b _ _ rfl;exact ah<|.bool _):p:=x9
def Rg (hT:afn.toTables=P.toTables)(hG:P.globals.size=Gl.n)(op:br)(t:aa)(ht:mK P op t)(hx:aq ok ρ x A)(hy:aq ok ρ y f):
  ag afn P ok str (aq ok) ρ (ax op t x y) (ax op t A f):=by
 by_cases hxh:x=hole
 .subst hxh;exact .dead _ _ λV=>(oA hT op t ht y V).2
 by_cases hyh:y=hole
 .subst hyh;exact .dead _ _ λV=>(oA hT op t ht x V).1
 have Sc:Fa op=true->ag afn P ok str (aq ok) ρ (do pure (.bool<|<-av t x y)) (do pure (.bool<|<-av t A f)):=by
  exact acv
 have Bt:Fa op=true->ag afn P ok str (aq ok) ρ (do pure (.bool<|!(<-av t x y))) (do pure (.bool<|!(<-av t A f))):=by
  exact acv
 have number:∀{σ:Ren} {a a':a9},dD σ a a'->ag afn P ok str (λτ x y=>dD τ x.1 y.1) σ (aV a) (aV a'):=λr=>(lE r).mono λ_ _ _ h=>h.2.1
 cases hx with
 |hole _=>grind
 |int k a=>
  cases hy with
  |hole _=>grind
  |int k' b=>exact Vp hT op t k k' a b
  |@ptr b B r=>
   cases op with
   |eql=>exact Sc rfl
   |neq=>exact Bt rfl
   |add=>simp only[ax];exact fV hT t (.ptr r) (.int k a)
   |and=>
    exact I_
   |_=>exact .halt _ _
  |kP=>
   cases op with
   |eql=>exact Sc rfl
   |neq=>exact Bt rfl
   |add=>simp only[ax];exact fV hT t .kP (.int k a)
   |_=>exact .halt _ _
  |_=>cases op<;>first|exact Sc rfl|exact Bt rfl|exact .halt _ _
 |string a=>
  cases hy with
  |hole _=>exact absurd rfl hyh
  |string b=>cases op<;>(simp only[ax];exact xp _ _ _)
  |_=>cases op<;>first|exact Sc rfl|exact Bt rfl|exact .halt _ _
 |@ptr a a' r=>
  cases hy with
  |hole _=>exact absurd rfl hyh
  |int k b=>
   cases op with
   |eql=>exact Sc rfl
   |neq=>exact Bt rfl
   |add=>
    simp only[ax];refine af _ (am hT t) ?_;rintro σ d _ l ⟨rfl,_⟩;split
    .exact xM hT t (r.mono l) (.int k b)
    .exact fV hT t (.ptr<|r.mono l) (.int k b)
   |sub=>simp only[ax];exact fV hT t (.ptr r) (.int k _)
   |rem=>
    exact I_
   |and=>
    exact I_
   |_=>exact .halt _ _
  |@ptr b B r2=>
   have two:∀{s s':a9->a9->Sem ac},(∀{σ:Ren} {c c' d d':a9},dD σ c c'->dD σ d d'->ag afn P ok str (aq ok) σ (s c d) (s' c' d'))->
     ag afn P ok str (aq ok) ρ (do let c <-aV a;let d <-aV b;s c.1 d.1) (do let c <-aV a';let d <-aV B;s' c.1 d.1):=by
    intro s s' hs;refine af _ (lE r) ?_;rintro σ x y l ⟨_,h1,_⟩;refine af _ (lE<|r2.mono l) ?_;rintro τ x2 y2 l2 ⟨_,h2,_⟩;exact hs (h1.mono l2) h2
   cases op with
   |eql=>exact Sc rfl
   |neq=>exact Bt rfl
   |sub=>simp only[ax];exact two λh1 h2=>JP hT hG _ h1 h2
   |lss=>simp only[ax];exact two λh1 h2=>pw hT hG _ h1 h2
   |leq=>simp only[ax];exact two λh1 h2=>pw hT hG _ h1 h2
   |gtr=>simp only[ax];exact two λh1 h2=>pw hT hG _ h1 h2
   |geq=>simp only[ax];exact two λh1 h2=>pw hT hG _ h1 h2
   |_=>exact .halt _ _
  |_=>cases op<;>first|exact Sc rfl|exact Bt rfl|exact .halt _ _
 |kP=>
  cases hy with
  |hole _=>exact absurd rfl hyh
  |int k b=>
   cases op with
   |eql=>exact Sc rfl
   |neq=>exact Bt rfl
   |add=>
    simp only[ax];refine af _ (am hT t) ?_;rintro σ d _ l ⟨rfl,_⟩;split
    .exact pA hT #[] t .kP (.int k b)
    .exact fV hT t .kP (.int k b)
   |sub=>simp only[ax];exact fV hT t .kP (.int k _)
   |_=>exact .halt _ _
  |_=>cases op<;>first|exact Sc rfl|exact Bt rfl|exact .halt _ _
 |_=>
  by_cases he:Fa op=true
  .cases hy with
   |hole _=>exact absurd rfl hyh
   |_=>cases op<;>first|cases he;done|(simp only[ax];exact Sc rfl)|(simp only[ax];exact Bt rfl)
  .refine Rm (Fl op t y he ?_ ?_ ?_ ?_ ?_)<;>simp
end
section
variable {ok:Ctx}{ρ:Ren}
def QZ (P:ao)(t:aa):Bool:=
 match P.underlying t with
 |some (.slice _)|some .string=>true
 |_=>false
def Fi (P:ao)(d:Array aa):Bool:=
 match d[0]?,d[1]? with
 |some s,some x=>Hy P s&&QZ P x
 |_,_=>false
def uV (h:aq ok ρ x A):ag afn P ok str (λ_ x y=>x=y) ρ (cu x) (cu A):=by
 cases h with
 |dr l c=>exact ah rfl
 |slice l c r=>exact ah rfl
 |string s=>exact ah rfl
 |_=>exact .halt _ _
def eC (size n:Nat)(h:aq ok ρ x A):ag afn P ok str (λσ x y=>aA ok σ x y) ρ (b5 size n x) (b5 size n A):=by
 cases h with
 |dr l c=>exact ah aA.nil
 |slice l c r=>exact py r _
 |string s=>exact ah ⟨rfl,λi x A h h'=>by
   rw[h]at h';cases h';rw[cd]at h;obtain⟨b,_,rfl⟩:=af3.1 h;exact .int _ _⟩
 |_=>exact .halt _ _
omit [Gl] in
def J5 {s:Sem α}{f:α->Sem β}(h:Result.stops (a3 P s V)):Result.stops (a3 P (s >>= f) V):=by
 rw[au];generalize a3 P s V=r at h;cases r with
 |ok a w=>cases h
 |halt x w=>exact h
omit [Gl] in
def Hh {s:Sem α}{f:α->Sem β}(h:∃a,a3 P s V=.ok a V)(Z:∀a w,Result.stops<|a3 P (f a) w):Result.stops (a3 P (s >>= f) V):=by
 let⟨a,h⟩:=h;simp_all
omit [Gl] in
def pi {s:Sem α}{f:α->Sem β}(h:∃a,a3 P s V=.ok a V)(Z:∀a,∃b,a3 P (f a) V=.ok b V):∃b,a3 P (s >>= f) V=.ok b V:=by
 let⟨a,h⟩:=h;simp_all
omit [Gl] in
def xY (P:ao)(a:α)(V:a2):∃b,a3 P (pure a:Sem α) V=.ok b V:=cO
omit [Gl] in
def zr (P:ao)(a:a9) k (V:a2):∃b,a3 P (dT a k) V=.ok b V:=by
 refine pi ⟨_,run_shape _ _ _⟩ λs=>?_
 cases s with
 |none=>simp_all
 |some q=>simp_all
omit [Gl] in
def Gi (P:ao)(aF pW n:Nat)(Z:Option a9) x (V:a2):∃b,a3 P (ce aF pW n Z x) V=.ok b V:=by
 unfold ce;cases Z with
 |none=>
  refine pi (xY _ true _) λs=>?_
  cases s
  .simp
  cases x with
  |slice a' l c=>
   cases a' with
   |none=>simp_all
   |some a'=>exact pi (zr _ _ _ _) λb=>xY _ _ _
  |_=>simp_all
 |some a=>
  refine pi (zr _ _ _ _) λb=>pi ⟨_,run_frozen _ _ _⟩ λc=>pi (xY _ _ _) λs=>?_
  cases s
  .simp
  cases x with
  |slice a' l c=>
   cases a' with
   |none=>simp_all
   |some a'=>exact pi (zr _ _ _ _) λb=>xY _ _ _
  |_=>simp_all
def j0 {z d:ac}(h:aq ok ρ z d) n:aA ok ρ (a1 z.cells n) (a1 d.cells n):=by
 have g:=h.cells;unfold a1;rw[<-g.size];refine⟨aP,λi x A j s=>?_⟩;rw[cd]at j s;obtain⟨k,hk,rfl⟩:=af3.1 j;obtain⟨F,w,rfl⟩:=af3.1 s;rw[hk]at w;by_cases L:z.cells.size=0
 .grind
 have Q:k%z.cells.size<z.cells.size:=Nat.mod_lt _ ab;have E:z.cells[k%z.cells.size]?=some z.cells[k%z.cells.size]!:=cO;have S:k%z.cells.size<d.cells.size:=by rw[<-g.size];omega
 exact g.at_ _ _ _ E cO
def SD (x9:p:=by
  exact af (λ_ _ _=>False) (ij hT _ rfl) λ_ _ _ _ h=>h.elim):p:=x9
def ab9 (x9:p:=by
  intro υ3 old adW k3 ho;refine af _ (eC size n<|(((rx.mono<|l4.trans l5).mono k1).mono k2).mono k3) ?_;intro υ4 new Qz k4 hn;refine af _ (jY hT elem hz) ?_;intro υ5 z z' k5 ZJ;refine af _ (lF elem<|aA.append (aA.append ((ho.mono k4).mono k5)<|hn.mono k5)<|j0 ZJ _) ?_;intro υ6 r r' k6 hr;exact ah<|.slice _ _ hr):p:=x9
def XX (x9:p:=by
  refine ag.dead _ _ λV=>J5 (Hh (Gi _ _ _ _ _ _ _) λb w=>?_)
  split
  .rfl
  .rfl):p:=x9
def Nu (hT:afn.toTables=P.toTables)(ts:Array aa)(t:aa)(hb:Fi P ts)(h:aA ok ρ xs u):ag afn P ok str (aq ok) ρ (aL ts t xs) (aL ts t u):=by
 unfold aL;unfold Fi at hb;cases h0:ts[0]? with
 |none=>grind
 |some sT=>
  cases h1:ts[1]? with
  |none=>grind
  |some xT=>
   rw[h0,h1]at hb;simp only[a5]at hb;cases hs:xs[0]? with
   |none=>exact .halt _ _
   |some s=>
    let⟨s',nQ,rs⟩:=h.get hs;cases hx:xs[1]? with
    |none=>exact .halt _ _
    |some x=>
     let⟨A,eX,rx⟩:=h.get hx;rw[nQ,eX];dsimp only;refine af _ (am hT sT) ?_;rintro σ d _ l ⟨rfl,hd⟩;have rs:=rs.mono l;have rx:=rx.mono l;cases d with
     |slice elem=>
      have hz:E9 P elem=true:=by have:=hb.1;unfold Hy at this;rw[hd]at this;exact this
      cases rs with
      |dr pW G2=>
       dsimp only;refine af _ (di hT elem) ?_;rintro σ1 size _ l1 ⟨rfl,_⟩;refine af _ (am hT xT) ?_;rintro R7 d2 _ l2 ⟨rfl,WC⟩;have rx:=(rx.mono l1).mono l2;have D6:=hb.2;unfold QZ at D6;rw[WC]at D6;cases d2<;>first|cases D6|skip
       all_goals
        refine aW ?_;simp only[a0,if_false,cA,if_true,false_or];refine af _ (uV rx) ?_;rintro σ3 n _ l3 rfl;have rx:=rx.mono l3;split
        .refine af _ (eC size n rx) ?_;intro τ new Qz l4 hn;exact ah<|.dr _ _
        refine af _ (bP hT elem) ?_;rintro τ i _ l4 ⟨rfl,_⟩;split
        .exact SD
        refine af _ (bP hT elem) ?_;rintro τ1 i1 _ l5 ⟨rfl,_⟩;split
        .exact XX
        refine ag.choose _ λJy=>aW<|af _ (bP hT elem) ?_
        rintro υ1 i _ k1 ⟨rfl,_⟩;refine af _ (mn _) ?_;intro υ2 _ _ k2 _;refine af _ (eC size pW<|.dr _ _) ?_;exact ab9
      |@slice a a' pW G2 ra=>
       dsimp only;refine af _ (di hT elem) ?_;rintro σ1 size _ l1 ⟨rfl,_⟩;refine af _ (am hT xT) ?_;rintro R7 d2 _ l2 ⟨rfl,WC⟩;have rx:=(rx.mono l1).mono l2;have ra:=(ra.mono l1).mono l2;have D6:=hb.2;unfold QZ at D6;rw[WC]at D6;cases d2<;>first|cases D6|skip
       all_goals
        refine aW ?_;simp only[a0,if_false,cA,if_true,false_or];refine af _ (uV rx) ?_;rintro σ3 n _ l3 rfl;have rx:=rx.mono l3;have ra:=ra.mono l3;split
        .refine af _ (eC size n rx) ?_;intro τ new Qz l4 hn;refine af _ (iy _ _ ((ra.mono l4).add _) 0 hn.list) ?_;intro τ2 _ _ l5 _;exact ah<|.slice _ _<|(ra.mono l4).mono l5
        refine af _ (bP hT elem) ?_;rintro τ i _ l4 ⟨rfl,_⟩;split
        .exact SD
        refine af _ (bP hT elem) ?_;rintro τ1 i1 _ l5 ⟨rfl,_⟩;split
        .exact XX
        .refine ag.choose _ λJy=>aW<|af _ (bP hT elem) ?_
         rintro υ1 i _ k1 ⟨rfl,_⟩;refine af _ (mn _) ?_;intro υ2 _ _ k2 _;refine af _ (eC size pW<|.slice _ _<|((ra.mono<|l4.trans l5).mono k1).mono k2) ?_;exact ab9
      |_=>exact .halt _ _
     |_=>exact .halt _ _
end
section
variable {ok:Ctx}{ρ:Ren}
def OV (P:ao)(ts:Array aa):Bool:=
 match ts[0]? with
 |some s=>(match P.underlying s with|some (.slice e)=>E9 P e|_=>false)
 |_=>false
def Rl (hT:afn.toTables=P.toTables)(ts:Array aa)(t:aa)(hb:OV P ts)(h:aA ok ρ xs u):ag afn P ok str (aq ok) ρ (bM ts t xs) (bM ts t u):=by
 unfold bM;unfold OV at hb;cases h0:ts[0]? with
 |none=>grind
 |some sT=>
  rw[h0]at hb;simp only at hb;cases hs:xs[0]? with
  |none=>exact .halt _ _
  |some s=>
   obtain⟨s',nQ,rs⟩:=h.get hs;rw[nQ];dsimp only;refine af _ (am hT sT) ?_;rintro σ d _ l ⟨rfl,hd⟩;have rs:=rs.mono l;have fin:∀{υ:Ren},ag afn P ok str (aq ok) υ (pure (.tuple #[]):Sem ac) (pure<|.tuple #[]):=ah<|.tuple rfl λi x A hx _=>cO;cases d with
   |slice elem=>
    have hz:E9 P elem=true:=by rw[hd]at hb;omega
    cases rs with
    |dr n c=>grind
    |@slice a a' n c ra=>
     cases n with
     |zero=>grind
     |succ n=>
      refine af _ (jY hT elem hz) ?_;intro υ z z' k ZJ;exact af _ (iy _ _ (ra.mono k) 0 (j0 ZJ _).list) (λυ _ _ _ _=>fin)
    |map h=>
     refine ag.getObj h λo J ho=>?_
     cases ho with
     |map k _=>exact .setObj h (.map k .nil) fin
     |_=>exact .halt _ _
    |_=>exact .halt _ _
   |_=>grind
def KC (P:ao)(ts:Array aa):Bool:=
 match ts[0]?,ts[1]? with
 |some s,some x=>(match P.underlying s with|some (.slice e)=>E9 P e|_=>false)&&(match P.underlying x with|some (.int _)=>true|_=>false)
 |_,_=>false
def acd (x9:p:=by
  intro υ3 old adW k3 ho;refine af _ (vz _ size) ?_;intro υ4 new Qz k4 hn;refine af _ (jY hT elem hz) ?_;intro υ5 z z' k5 ZJ;refine af _ (lF elem<|aA.append (aA.append ((ho.mono k4).mono k5)<|hn.mono k5)<|j0 ZJ _) ?_;intro υ6 r r' k6 hr;exact ah<|.slice _ _ hr):p:=x9
def XD (x9:p:=by
  refine ag.choose _ λmade=>?_
  refine aW ?_;exact af (λ_ _ _=>False) (ij hT _ rfl) λ_ _ _ _ h=>h.elim):p:=x9
def JQ (hT:afn.toTables=P.toTables)(ts:Array aa)(t:aa)(hb:KC P ts)(h:aA ok ρ xs u):ag afn P ok str (aq ok) ρ (aL ts t xs) (aL ts t u):=by
 unfold aL;unfold KC at hb;cases h0:ts[0]? with
 |none=>rw[h0]at hb;simp at hb
 |some sT=>
  cases h1:ts[1]? with
  |none=>rw[h0,h1]at hb;simp at hb
  |some xT=>
   rw[h0,h1]at hb;simp only[a5]at hb;cases hs:xs[0]? with
   |none=>exact .halt _ _
   |some s=>
    let⟨s',nQ,rs⟩:=h.get hs;cases hx:xs[1]? with
    |none=>exact .halt _ _
    |some x=>
     let⟨A,eX,rx⟩:=h.get hx;rw[nQ,eX];dsimp only;refine af _ (am hT sT) ?_;rintro σ d _ l ⟨rfl,hd⟩;have rs:=rs.mono l;have rx:=rx.mono l;cases d with
     |slice elem=>
      have hz:E9 P elem=true:=by have:=hb.1;rw[hd]at this;exact this
      have vz:∀{υ:Ren} (n size:Nat),ag afn P ok str (λσ x y=>aA ok σ x y) υ (if n*size=0 then pure #[]else do pure (a1 (<-bB elem).cells n)) (if n*size=0 then pure #[]else do pure (a1 (<-bB elem).cells n)):=by
       intro υ n size;split
       .exact ah aA.nil
       .refine af _ (jY hT elem hz) ?_;intro υ1 z z' k ZJ;exact ah<|j0 ZJ _
      cases rs with
      |dr pW G2=>
       dsimp only;refine af _ (di hT elem) ?_;rintro σ1 size _ l1 ⟨rfl,_⟩;refine af _ (am hT xT) ?_;rintro R7 d2 _ l2 ⟨rfl,WC⟩;have rx:=(rx.mono l1).mono l2;have D6:=hb.2;rw[WC]at D6;cases d2<;>first|cases D6|skip
       refine aW ?_;simp only[if_true,cM,a0,if_false,true_or,and_true];refine af _ (kG rx) ?_;rintro σ3 v _ l3 rfl;split
       .exact SD
       .refine af _ (bP hT elem) ?_;rintro σ4 i4 _ l4 ⟨rfl,_⟩;split
        .exact XD
        .refine aW ?_;split
         .refine af _ (vz _ size) ?_;intro τ new Qz l5 hn;exact ah<|.dr _ _
         .refine af _ (bP hT elem) ?_;rintro τ i _ l5 ⟨rfl,_⟩;split
          .exact SD
          .refine af _ (bP hT elem) ?_;rintro τ1 i1 _ l6 ⟨rfl,_⟩;split
           .exact SD
           .refine ag.choose _ λJy=>?_
            refine aW ?_;refine af _ (bP hT elem) ?_;rintro υ1 i _ k1 ⟨rfl,_⟩;refine af _ (mn _) ?_;intro υ2 _ _ k2 _;refine af _ (eC size pW<|.dr _ _) ?_;exact acd
      |@slice a a' pW G2 ra=>
       dsimp only;refine af _ (di hT elem) ?_;rintro σ1 size _ l1 ⟨rfl,_⟩;refine af _ (am hT xT) ?_;rintro R7 d2 _ l2 ⟨rfl,WC⟩;have rx:=(rx.mono l1).mono l2;have ra:=(ra.mono l1).mono l2;have D6:=hb.2;rw[WC]at D6;cases d2<;>first|cases D6|skip
       refine aW ?_;rw[if_pos rfl,if_pos rfl];refine af _ (kG rx) ?_;rintro σ3 v _ l3 rfl;by_cases aF:IntKind.i64.wrap v<0
       .rw[if_pos aF,if_pos aF];exact SD
       rw[if_neg aF,if_neg aF];refine af _ (bP hT elem) ?_;rintro σ4 i4 _ l4 ⟨rfl,_⟩;by_cases Wy:IntKind.i64.wrap v*i4.bytes>2^48
       .rw[if_pos Wy,if_pos Wy];exact XD
       .rw[if_neg Wy,if_neg Wy];refine aW ?_;simp only[if_true,cM,a0,if_false,true_or,and_true];split
        .refine af _ (vz _ size) ?_;intro τ new Qz l5 hn;refine af _ (iy _ _ ((((ra.mono l3).mono l4).mono l5).add _) 0 hn.list) ?_;intro τ2 _ _ l6 _;exact ah<|.slice _ _<|(((ra.mono l3).mono l4).mono l5).mono l6
        .refine af _ (bP hT elem) ?_;rintro τ i _ l5 ⟨rfl,_⟩;split
         .exact SD
         .refine af _ (bP hT elem) ?_;rintro τ1 i1 _ l6 ⟨rfl,_⟩;split
          .exact SD
          .refine ag.choose _ λJy=>?_
           refine aW ?_;refine af _ (bP hT elem) ?_;rintro υ1 i _ k1 ⟨rfl,_⟩;refine af _ (mn _) ?_;intro υ2 _ _ k2 _;refine af _ (eC size pW<|.slice _ _<|(((((ra.mono l3).mono l4).mono l5).mono l6).mono k1).mono k2) ?_;exact acd
      |_=>exact .halt _ _
     |_=>exact .halt _ _
def O0 (P:ao)(ts:Array aa):Bool:=
 match ts[0]? with
 |some s=>(match P.underlying s with|some (.slice _)=>true|_=>false)
 |_=>false
def Vo (hT:afn.toTables=P.toTables)(ts:Array aa)(t:aa)(hb:O0 P ts)(h:aA ok ρ xs u):ag afn P ok str (aq ok) ρ (bO ts t xs) (bO ts t u):=by
 unfold bO;unfold O0 at hb;cases h0:ts[0]? with
 |none=>grind
 |some sT=>
  rw[h0]at hb;simp only at hb;cases hs:xs[0]? with
  |none=>exact .halt _ _
  |some s=>
   let⟨s',nQ,rs⟩:=h.get hs;rw[nQ];cases hx:xs[1]? with
   |none=>exact .halt _ _
   |some x=>
    let⟨A,eX,rx⟩:=h.get hx;rw[eX];dsimp only;refine af _ (am hT sT) ?_;rintro σ d _ l ⟨rfl,hd⟩;have rs:=rs.mono l;have rx:=rx.mono l;cases d with
    |slice elem=>
     cases rs with
     |dr n c=>
      refine af _ (uV rx) ?_;rintro σ1 k _ l1 rfl;refine af _ (di hT elem) ?_;rintro R7 z _ l2 ⟨rfl,_⟩;refine af _ (eC _ _<|(rx.mono l1).mono l2) ?_;intro σ3 ys vc l3 hy;exact ah (.int _ _)
     |@slice a a' n c ra=>
      refine af _ (uV rx) ?_;rintro σ1 k _ l1 rfl;refine af _ (di hT elem) ?_;rintro R7 z _ l2 ⟨rfl,_⟩;refine af _ (eC _ _<|(rx.mono l1).mono l2) ?_;intro σ3 ys vc l3 hy;refine af _ (iy _ _ (((ra.mono l1).mono l2).mono l3) 0 hy.list) ?_;intro σ4 _ _ l4 _;exact ah (.int _ _)
     |_=>exact .halt _ _
    |_=>grind
def wK (P:ao)(d:br)(t:aa)(y:ds):Bool:=Fa d&&(match P.underlying t with|some (.interface _)=>true|_=>false)&&(match y with|.const .nilIface=>true|_=>false)
omit [Gl] in
def K1 {d:br}{y:ds}(h:wK P d t y):y=.const .nilIface:=by
 unfold wK at h;grind
def XH (x9:p:=by
  cases h with
  |nilIface=>simp;exact ah trivial
  |hole _=>exact(hh rfl).elim
  |_=>exact ah trivial):p:=x9
def X0 (x9:p:=by
  rw[this,this];refine af _ (heq hσ hh) ?_;rintro _ x _ _ rfl;exact ah<|.bool _):p:=x9
def Rn (L:afn.toTables=P.toTables)(g:br)(t:aa)(x y:ds)(j:wK P g t y){a a':ac}(h:aq ok ρ a a'):
  ag afn P ok str (aq ok) ρ (do co g t x y a .nilIface;ax g t a .nilIface) (do co g t x y a' .nilIface;ax g t a' .nilIface):=by
 have S:=K1 j;subst S;unfold wK at j;rw[agd,agd]at j;let⟨⟨s,h2⟩,_⟩:=j;obtain⟨w,Z⟩:∃w,P.underlying t=some (.interface w):=by
  grind
 have E:afn.underlying t=some (.interface w):=by rw[tG L];omega
 have heq:∀{σ:Ren} {a a':ac},aq ok σ a a'->a≠hole->ag afn P ok str (λ_ x y=>x=y) σ (av t a .nilIface) (av t a' .nilIface):=by
  intro σ a a' h F;show ag afn P ok str _ σ (ad (9999+1) t a .nilIface) (ad (9999+1) t a' .nilIface);unfold ad;refine af _ (am L t) ?_;rintro τ d _ _ ⟨rfl,Q⟩;rw[Z]at Q;obtain rfl:=afQ Q;cases h with
  |hole _=>exact(F rfl).elim
  |nilIface=>exact ah rfl
  |iface t h=>exact ah rfl
  |_=>exact .halt _ _
 by_cases hh:a=hole
 .subst hh;refine .dead _ _ λV=>?_
  have e:(av t hole .nilIface).run afn V=.halt (.stuck "==: the operands do not fit the type, or the type is not comparable") V:=by
   show(ad (9999+1) t hole .nilIface).run afn V=_;unfold ad;rw[au,run_underlying E];rfl
  rw[au];cases g with
  |eql=>show Result.stops ((do pure (bS<|<-av t hole .nilIface):Sem ac).run afn V)=true;rw[au,e];rfl
  |neq=>show Result.stops ((do pure (bS<|!(<-av t hole .nilIface)):Sem ac).run afn V)=true;rw[au,e];rfl
  |_=>cases s
 have hg:ag afn P ok str (λ_ _ _=>True) ρ (co g t x (.const .nilIface) a .nilIface) (co g t x (.const .nilIface) a' .nilIface):=by
  unfold co;cases g with
  |eql=>
   exact XH
  |neq=>
   exact XH
  |_=>cases s
 refine af _ hg ?_;intro σ _ _ l _;have hσ:=h.mono l;cases g with
 |eql=>
  have:∀v:ac,ax .eql t v .nilIface=(do pure (bS<|<-av t v .nilIface)):=λv=>by cases v<;>rfl
  exact X0
 |neq=>
  have:∀v:ac,ax .neq t v .nilIface=(do pure (bS<|!(<-av t v .nilIface))):=λv=>by cases v<;>rfl
  exact X0
 |_=>cases s
end
end
def AG {d}(h:Made.reckonStruct N d=some i):i.methods=#[]:=by
 grind [Made.reckonStruct,bind,aB,pure,a8]
def XR (x9:p:=by
  simp[bind,Option.bind_eq_some_iff,pure]at h;let⟨_,_,_,_,h⟩:=h;cases h;rfl):p:=x9
def Am {d}(h:Made.reckon N d=some i):i.methods=#[]:=by
 unfold Made.reckon at h;cases d with
 |struct Z=>exact AG h
 |pointer e=>
  simp[bind,aB,pure]at h;let⟨j,_,h⟩:=h;split at h
  .grind
  .split at h
   .grind
   let⟨s,_,h⟩:=af4.1 h;cases h;rfl
  let⟨s,_,h⟩:=af4.1 h;cases h;rfl
 |slice e=>
  exact XR
 |map k e=>
  simp[bind,aB,pure]at h;let⟨_,_,_,_,_,_,_,_,h⟩:=h;cases h;rfl
 |chan k e=>
  exact XR
 |func a b c=>
  simp[bind,aB,pure]at h;let⟨_,_,h⟩:=h;cases h;rfl
 |array n e=>
  simp[bind,aB,pure]at h;grind
 |_=>grind
theorem Ej {T:Tables}(g:¬t<T.types.size)(h:T.info? t=some i):i.methods=#[]:=by
 unfold Tables.info? at h;rw[if_neg g]at h;have:Made.depth=99+1:=rfl;rw[this]at h;unfold Made.infoAt at h;rw[if_neg g]at h;let⟨d,_,h⟩:=af4.1 h;exact Am h
def Qw (fn:bR->Bool)(m:Method):Bool:=m.path.all (λs=>!s.deref)&&(match m.func with|some (f,_)=>fn f|none=>false)
def zU (P:ao)(fn:bR->Bool)(name:String):Bool:=P.types.all λi=>i.methods.all λm=>m.name !=name||Qw fn m
def MW {fn:bR->Bool}{name:String}(h:zU P fn name)(hi:P.info? t=some i){m:Method}(g:i.methods.find? (·.name==name)=some m):Qw fn m:=by
 by_cases d:t<P.types.size
 .unfold Tables.info? at hi;rw[if_pos d]at hi;unfold zU at h;grind [ci,bne,Array.getElem_of_mem]
 grind [Ej]
section
variable [Gl]{ok:Ctx}{ρ:Ren}
def Nw (Z:afn.toTables=P.toTables):∀l (_:l.all (λs=>!s.deref)) {ρ:Ren} (t:aa) {v C:ac},aq ok ρ v C->
  ag afn P ok str (λσ x y=>x.1=y.1/\∃u u',x.2=.val u/\y.2=.val u'/\aq ok σ u u') ρ (dS l t<|.val v) (dS l t<|.val C):=by
 intro l;induction l with
 |nil=>intro _ ρ t v C h;exact ah ⟨rfl,v,C,rfl,rfl,h⟩
 |cons s l ih=>
  intro hl ρ t v C h;simp only[List.all_cons,a5,cp]at hl;unfold dS;refine af _ (am Z s.struct) ?_;rintro σ d _ le ⟨rfl,_⟩;cases d with
  |struct fs=>
   dsimp only;cases hf:fs[s.index]? with
   |none=>exact .halt _ _
   |some f=>
    simp only[hl.1,a0,if_false];cases h with
    |agg e h=>
     dsimp only;refine af _ (yp Z f.type (aA.mono ⟨e,h⟩ le) f.offset) ?_;grind
    |_=>exact .halt _ _
  |_=>exact .halt _ _
def Vu (g:afn.toTables=P.toTables)(t:aa)(k:Bool)(w:Option String)(h:aq ok ρ v C):ag afn P ok str (aq ok) ρ (cK t (.val v) k w) (cK t (.val C) k w):=by
 unfold cK;refine af _ (am g t) ?_;rintro σ d _ s ⟨rfl,_⟩;replace h:=h.mono s;cases d with
 |pointer e=>
  cases k with
  |true=>exact ah h
  |false=>
   have j:∀{τ:Ren} {x y:ac},aq ok τ x y->ag afn P ok str (aq ok) τ (do cS e (<-c8 x)) (do cS e (<-c8 y)):=by
    intro τ x y m;exact af _ (vO g m)<|λυ a a' _ r=>tC g e r
   dsimp only;refine aW ?_;cases w with
   |none=>grind
   |some name=>
    refine af (aq ok) ?_ λτ x y _ m=>j m;unfold dU;cases h with
    |ptr r=>exact ah (.ptr r)
    |kP=>
     refine ag.choose _ λn=>aW ?_
     split
     .dsimp only;split
      .exact af (λ_ _ _=>False) (ij g .nilDeref rfl) (λ_ _ _ _ h=>h.elim)
      refine af _ (am g _) ?_;rintro τ d _ l ⟨rfl,_⟩;cases d with
      |pointer u=>
       refine af _ (bP g u) ?_;rintro υ i _ l ⟨rfl,_⟩;split
       .split
        .try dsimp only
         split
         .exact ij g (.plain _) rfl
         .exact kQ
        .exact kQ
       .exact kQ
      |_=>grind
     grind
    |_=>exact .halt _ _
 |_=>cases k<;>first|exact ah h|exact .halt _ _
def NE (s:afn.toTables=P.toTables) n (t name)(Z:zU P ok.fn name)(h:aq ok ρ v C):
  ag afn P ok str (λσ x y=>x.1=y.1/\ok.fn x.1/\aq ok σ x.2 y.2) ρ (method n t v name) (method n t C name):=by
 cases n with
 |zero=>exact .halt _ _
 |succ n=>
  refine af _ (bP s t) ?_;rintro σ i _ le ⟨rfl,hi⟩;cases hf:i.methods.find? (·.name==name)with
  |none=>exact .halt _ _
  |some m=>
   have hk:=MW Z hi hf;unfold Qw at hk;rw[agd]at hk;refine af _ (Nw s m.path.toList cO t<|h.mono le) ?_;rintro τ ⟨xt,_⟩ ⟨_,_⟩ l ⟨rfl,u,u',rfl,rfl,hu⟩;cases hg:m.func with
   |none=>grind
   |some q=>
    let⟨f,pr⟩:=q;rw[hg]at hk;exact af _ (Vu s xt pr _ hu)<|λυ x y _ hx=>ah ⟨rfl,hk.2,hx⟩
def vU (g:afn.toTables=P.toTables)(t:aa)(h:aq ok ρ v C):ag afn P ok str (aq ok) ρ (ca t v) (ca t C):=by
 refine af _ (am g t) ?_;rintro σ d _ j ⟨rfl,_⟩;cases d<;>first|exact ah (.iface t<|h.mono j)|exact .halt _ _
def uZ {a a' b B:ac}(h:aq ok ρ a a')(h':aq ok ρ b B):aq ok ρ (.tuple #[a,b]) (.tuple #[a',B]):=by
 have:=(aA.nil.push h).push h';exact .tuple this.size this.at_
def BJ (hT:afn.toTables=P.toTables)(t a:aa)(hz:E9 P a)(h:aq ok ρ v C):ag afn P ok str (aq ok) ρ (bF v t a true) (bF C t a true):=by
 unfold bF;dsimp only;have fails:∀{σ:Ren},ag afn P ok str (aq ok) σ (do pure (.tuple #[<-bB a,false]):Sem ac) (do pure (.tuple #[<-bB a,false])):=by
  intro σ;refine af _ (jY hT a hz) ?_;intro τ x y _ hx;exact ah<|uZ hx<|.bool _
 refine af _ (am hT a) ?_;rintro σ d _ le ⟨rfl,_⟩;replace h:=h.mono le;simp only[if_true];cases d with
 |interface w=>
  cases h with
  |nilIface=>grind
  |iface t h=>
   dsimp only;refine af _ (bP hT t) ?_;rintro τ i _ l ⟨rfl,_⟩;split
   .exact ah (uZ (.iface t<|h.mono l)<|.bool _)
   grind
  |_=>exact .halt _ _
 |_=>
  cases h with
  |nilIface=>grind
  |iface t h=>dsimp only;split<;>first|exact ah (uZ h<|.bool _)|exact fails
  |_=>exact .halt _ _
end
