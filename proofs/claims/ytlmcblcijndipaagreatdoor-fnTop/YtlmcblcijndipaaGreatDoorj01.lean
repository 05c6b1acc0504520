import Derived.Test.YtlmcblcijndipaaGreatDoorj00
import Derived.Calls
import Derived.Laws.Sem
import Derived.ArgAppend
set_option linter.unusedVariables false
set_option linter.defProp false
set_option maxHeartbeats 1000000
namespace Go.Proofs.YtlmcblcijndipaaGreatDoor
open Go
variable {a a' b':Addr}{cs cs' xs xs':Array Value}{str:Bool}{e:Event}{l l':List Value}{b c r r':Nat}{o o':Obj}{K1 hi lo mx mx' nJ:Option Value}{P P0:Program}{α β γ δ:Type}{t:TypeId}{info:TypeId->Option TypeInfo}{i:TypeInfo}{i' n n' v v' x x' y y':Value}{V V1 W:World}
section
class Gl where
 n:Nat
 ov:Nat:=1000000001
variable [Gl]
structure Ren where
 to:Nat->Option Nat
 inj:∀b b' c,to b=some c->to b'=some c->b=b'
 D8:∀b c,to b=some c->(b<Gl.n<->c<Gl.n)
instance :CoeFun Ren (λ_=>Nat->Option Nat):=⟨Ren.to⟩
def Ren.le (ρ σ:Ren):Prop:=∀b c,ρ b=some c->σ b=some c
def Ren.le_refl (ρ:Ren):ρ.le ρ:=λ_ _ h=>h
def Ren.le.trans {ρ σ τ:Ren}(h:ρ.le σ)(h':σ.le τ):ρ.le τ:=λb c e=>h' b c<|h b c e
def Ren.ext (ρ:Ren)(n m:Nat)(h:∀b c,ρ b=some c->b≠n/\c≠m)(hn:Gl.n<=n)(hm:Gl.n<=m):Ren:=⟨λb=>if b=n then some m else ρ b,λb b' c hb dt=>by
 split at hb<;>split at dt
 .omega
 .simp only[Option.some.injEq]at hb;exact absurd hb.symm (h _ _ dt).2
 .simp only[Option.some.injEq]at dt;exact absurd dt.symm (h _ _ hb).2
 .exact ρ.inj _ _ _ hb dt,λb c hb=>by
 split at hb
 .simp only[Option.some.injEq]at hb;omega
 .exact ρ.D8 _ _ hb⟩
structure dI (ρ:Ren)(a a':Addr):Prop where
 blk:ρ a.block=some a'.block
 off:a'.off=a.off
 spot:a'.spot=a.spot
def dI.mono {ρ σ:Ren}(h:dI ρ a a')(l:ρ.le σ):dI σ a a':=⟨l _ _ h.blk,h.off,h.spot⟩
def dI.add {ρ:Ren}(h:dI ρ a a')(n:Nat):dI ρ (a.add n) (a'.add n):=by
 unfold Addr.add;split
 .exact h
 .exact⟨h.blk,by simp[h.off],rfl⟩
structure Ctx where
 fn:FuncId->Bool
 aX:FuncId->Bool
 code:Code->Bool
inductive wM (ok:Ctx)(ρ:Ren):Fn->Fn->Prop
 |func {f:FuncId}:ok.fn f=true->wM ok ρ (.func f) (.func f)
 |yield {l l':Nat}:ρ l=some l'->wM ok ρ (.yield l) (.yield l')
def hole:Value:=.func (.method "") #[.iface 1000000000<|.chan none] #[]
def ZK:Value->Bool
 |.agg _|.tuple _|.pointer none|.nilFunc|.nilIface|.bool _|.int _ _|.string _|.slice none _ _=>false
 |_=>true
inductive aw (ok:Ctx)(ρ:Ren):Value->Value->Prop
 |hole {v:Value}:ZK v=true->aw ok ρ hole v
 |bool (b:Bool):aw ok ρ (.bool b) (.bool b)
 |int (k:IntKind) (n:Int):aw ok ρ (.int k n) (.int k n)
 |string (s:ByteArray):aw ok ρ (.string s) (.string s)
 |mD:aw ok ρ (.pointer none) (.pointer none)
 |ptr {a a':Addr}:dI ρ a a'->aw ok ρ (.pointer<|some a) (.pointer<|some a')
 |dH (l c:Nat):aw ok ρ (.slice none l c) (.slice none l c)
 |slice {a a':Addr} (l c:Nat):dI ρ a a'->aw ok ρ (.slice (some a) l c) (.slice (some a') l c)
 |nilFunc:aw ok ρ .nilFunc .nilFunc
 |nilIface:aw ok ρ .nilIface .nilIface
 |iface (t:TypeId) {v v':Value}:aw ok ρ v v'->aw ok ρ (.iface t v) (.iface t v')
 |func {f f':Fn} {xs xs' ys Dt:Array Value}:wM ok ρ f f'->xs.size=xs'.size->(∀(i:Nat) (x x':Value),xs[i]?=some x->xs'[i]?=some x'->aw ok ρ x x')->
   ys.size=Dt.size->(∀(i:Nat) (x x':Value),ys[i]?=some x->Dt[i]?=some x'->aw ok ρ x x')->aw ok ρ (.func f xs ys) (.func f' xs' Dt)
 |agg {xs xs':Array Value}:xs.size=xs'.size->(∀(i:Nat) (x x':Value),xs[i]?=some x->xs'[i]?=some x'->aw ok ρ x x')->aw ok ρ (.agg xs) (.agg xs')
 |tuple {xs xs':Array Value}:xs.size=xs'.size->(∀(i:Nat) (x x':Value),xs[i]?=some x->xs'[i]?=some x'->aw ok ρ x x')->aw ok ρ (.tuple xs) (.tuple xs')
structure ax (ok:Ctx)(ρ:Ren)(xs xs':Array Value):Prop where
 size:xs.size=xs'.size
 at_:∀(i:Nat) (x x':Value),xs[i]?=some x->xs'[i]?=some x'->aw ok ρ x x'
section
variable {ok:Ctx}{ρ σ:Ren}
def wM.mono {f f':Fn}(h:wM ok ρ f f')(l:ρ.le σ):wM ok σ f f':=by
 cases h with
 |func h=>exact .func h
 |yield h=>exact .yield<|l _ _ h
def aw.mono (h:aw ok ρ v v')(l:ρ.le σ):aw ok σ v v':=by
 induction h with
 |hole h=>exact .hole h
 |bool b=>exact .bool b
 |int k n=>exact .int k n
 |string s=>exact .string s
 |mD=>exact .mD
 |ptr h=>exact .ptr (h.mono l)
 |dH l c=>exact .dH l c
 |slice n c h=>exact .slice n c (h.mono l)
 |nilFunc=>exact .nilFunc
 |nilIface=>exact .nilIface
 |iface t _ ih=>exact .iface t ih
 |func hf e1 _ e2 _ i1 i2=>exact .func (hf.mono l) e1 i1 e2 i2
 |agg e _ ih=>exact .agg e ih
 |tuple e _ ih=>exact .tuple e ih
def ax.mono (h:ax ok ρ xs xs')(l:ρ.le σ):ax ok σ xs xs':=⟨h.size,λi x x' a b=>(h.at_ i x x' a b).mono l⟩
def ax.get (h:ax ok ρ xs xs'){i:Nat}(hx:xs[i]?=some x):∃x',xs'[i]?=some x'/\aw ok ρ x x':=by
 have ay:i<xs.size:=(ac5.1 hx).1;have h':xs'[i]?=some (xs'[i]'(by rw[<-h.size];exact ay)):=ada _
 exact⟨_,h',h.at_ _ _ _ hx h'⟩
def ax.none (h:ax ok ρ xs xs'){i:Nat}(hx:xs[i]?=none):xs'[i]?=none:=by
 rw[Array.getElem?_eq_none_iff]at hx⊢;rw[<-h.size];exact hx
def lL:aw ok ρ undef undef:=.tuple rfl λi x x' h=>by simp at h
def ax.getD (h:ax ok ρ xs xs')(i:Nat):aw ok ρ (xs.getD i undef) (xs'.getD i undef):=by
 cases hx:xs[i]? with
 |none=>simp only[Array.getD_eq_getD_getElem?,hx,h.none hx,Option.getD_none];exact lL
 |some x=>
  let⟨x',dK,r⟩:=h.get hx;simp only[Array.getD_eq_getD_getElem?,hx,dK,Option.getD_some];exact r
def ax.nil:ax ok ρ #[] #[]:=⟨rfl,λi x x' h=>by simp at h⟩
def ax.push (h:ax ok ρ xs xs')(hv:aw ok ρ v v'):ax ok ρ (xs.push v) (xs'.push v'):=by
 refine⟨by simp[h.size],λi x x' hx dK=>?_⟩;rw[Array.getElem?_push]at hx dK;rw[<-h.size]at dK;split at hx
 .rename_i e;simp only[Option.some.injEq]at hx;rw[if_pos e]at dK;simp only[Option.some.injEq]at dK;subst hx;subst dK;exact hv
 .rename_i e;rw[if_neg e]at dK;exact h.at_ i x x' hx dK
def ax.set (h:ax ok ρ xs xs')(hv:aw ok ρ v v')(j:Nat):ax ok ρ (xs.setIfInBounds j v) (xs'.setIfInBounds j v'):=by
 refine⟨by simp[h.size],λi x x' hx dK=>?_⟩;rw[Array.getElem?_setIfInBounds]at hx dK;rw[<-h.size]at dK;by_cases e:j=i
 .rw[if_pos e]at hx dK;split at hx
  .rename_i hl;rw[if_pos hl]at dK;simp only[Option.some.injEq]at hx dK;subst hx;subst dK;exact hv
  .cases hx
 .rw[if_neg e]at hx dK;exact h.at_ i x x' hx dK
def ax.append {ys Dt:Array Value}(h:ax ok ρ xs xs')(h':ax ok ρ ys Dt):ax ok ρ (xs++ys) (xs'++Dt):=by
 refine⟨by simp[h.size,h'.size],λi x x' hx dK=>?_⟩;rw[Array.getElem?_append]at hx dK;rw[<-h.size]at dK;by_cases e:i<xs.size
 .rw[if_pos e]at hx dK;exact h.at_ i x x' hx dK
 .rw[if_neg e]at hx dK;exact h'.at_ _ x x' hx dK
def ax.extract (h:ax ok ρ xs xs')(i j:Nat):ax ok ρ (xs.extract i j) (xs'.extract i j):=by
 refine⟨by simp[h.size],λk x x' hx dK=>?_⟩;rw[Array.getElem?_extract]at hx dK;rw[<-h.size]at dK;split at hx
 .rename_i e;rw[if_pos e]at dK;exact h.at_ _ x x' hx dK
 .cases hx
def ax.replicate (hv:aw ok ρ v v')(n:Nat):ax ok ρ (Array.replicate n v) (Array.replicate n v'):=by
 refine⟨aG,λi x x' hx dK=>?_⟩;rw[Array.getElem?_replicate]at hx dK;split at hx
 .rename_i e;rw[if_pos e]at dK;simp only[Option.some.injEq]at hx dK;subst hx;subst dK;exact hv
 .cases hx
def ax.map {f f':α->Value}(h:∀a,aw ok ρ (f a)<|f' a)(xs:Array α):ax ok ρ (xs.map f) (xs.map f'):=by
 refine⟨aG,λi x x' hx dK=>?_⟩;rw[Array.getElem?_map]at hx dK;cases e:xs[i]? with
 |none=>rw[e]at hx;cases hx
 |some a=>
  rw[e]at hx dK;simp only[Option.map_some,Option.some.injEq]at hx dK;subst hx;subst dK;exact h a
def aw.cells (h:aw ok ρ v v'):ax ok ρ v.cells v'.cells:=by
 have one:∀{x x':Value},aw ok ρ x x'->ax ok ρ #[x] #[x']:=λh=>ax.nil.push h
 cases h with
 |hole h=>
  have e:v'.cells=#[v']:=by cases v'<;>first|rfl|cases h
  rw[e];exact one (.hole h)
 |agg e h=>exact⟨e,h⟩
 |bool b=>exact one (.bool b)
 |int k n=>exact one (.int k n)
 |string s=>exact one (.string s)
 |mD=>exact one .mD
 |ptr h=>exact one (.ptr h)
 |dH l c=>exact one (.dH l c)
 |slice n c h=>exact one (.slice n c h)
 |nilFunc=>exact one .nilFunc
 |nilIface=>exact one .nilIface
 |iface t h=>exact one (.iface t h)
 |func a b c d e=>exact one (.func a b c d e)
 |tuple e h=>exact one<|.tuple e h
end
inductive Af (ok:Ctx)(ρ:Ren):Target->Target->Prop
 |fn {f f':Fn} {xs xs':Array Value}:wM ok ρ f f'->ax ok ρ xs xs'->Af ok ρ (.fn f xs) (.fn f' xs')
 |nil:Af ok ρ .nil .nil
 |builtin (b:Builtin) (a:Array TypeId) (t:TypeId) (c:Array Bool):Af ok ρ (.builtin b a t c) (.builtin b a t c)
 |collected {r r':Nat}:ρ r=some r'->Af ok ρ (.collected r) (.collected r')
structure aao (ok:Ctx)(ρ:Ren)(d d':Deferred):Prop where
 target:Af ok ρ d.target d'.target
 args:ax ok ρ d.args d'.args
inductive Mp (ok:Ctx)(ρ:Ren):List Deferred->List Deferred->Prop
 |nil:Mp ok ρ [] []
 |cons {d d':Deferred} {l l':List Deferred}:aao ok ρ d d'->Mp ok ρ l l'->Mp ok ρ (d::l) (d'::l')
structure DL (ok:Ctx)(ρ:Ren)(r r':Loop):Prop where
 state:r'.state=r.state
 pending:r'.pending=r.pending
 fn:r'.fn=r.fn
 tmps:ax ok ρ r.tmps r'.tmps
 params:r'.params=r.params
 assign:r'.assign=r.assign
 body:r'.body=r.body
 defers:ρ r.defers=some r'.defers
 aX:ok.aX r.fn=true
 G_:ok.code r.assign=true
 H':ok.code r.body=true
 ok3:∀c,r.pending=some c->ok.code c=true
def aaq (str:Bool)(n:Nat)(z z':Nat×Nat):Prop:=(z'=if str then z else(0,0))\/(str=true/\z=(0,n)/\0<n)
inductive mV (ok:Ctx)(str:Bool)(ρ:Ren):Obj->Obj->Prop
 |cells {c c':Array Value} {e:TypeId} {z z':Nat×Nat}:ax ok ρ c c'->aaq str c.size z z'->mV ok str ρ (.cells c e z) (.cells c' e z')
 |stringIter (s:ByteArray) (p:Nat):mV ok str ρ (.stringIter s p) (.stringIter s p)
 |loop {r r':Loop}:DL ok ρ r r'->mV ok str ρ (.loop r) (.loop r')
 |taken:mV ok str ρ (.deferred none) (.deferred none)
 |number {a a':Addr} (lost:Bool):dI ρ a a'->mV ok str ρ (.number a lost) (.number a' lost)
 |deferred:mV ok str ρ (.deferred<|some []) (.deferred<|some [])
section
variable {ok:Ctx}{ρ σ:Ren}
def DL.mono {r r':Loop}(h:DL ok ρ r r')(l:ρ.le σ):DL ok σ r r':=⟨h.state,h.pending,h.fn,h.tmps.mono l,h.params,h.assign,h.body,l _ _ h.defers,h.aX,h.G_,h.H',h.ok3⟩
def mV.mono (h:mV ok str ρ o o')(l:ρ.le σ):mV ok str σ o o':=by
 cases h with
 |cells h z=>exact .cells (h.mono l) z
 |stringIter s p=>exact .stringIter s p
 |loop h=>exact .loop (h.mono l)
 |taken=>exact .taken
 |number b h=>exact .number b (h.mono l)
 |deferred=>exact .deferred
def mV.kinds (h:mV ok str ρ o o'):((∃c e z,o=.cells c e z)/\(∃c e z,o'=.cells c e z))\/((∀c e z,o≠.cells c e z)/\(∀c e z,o'≠.cells c e z)):=by
 cases h with
 |cells _ _=>exact .inl ⟨⟨_,_,_,rfl⟩,⟨_,_,_,rfl⟩⟩
 |_=>exact .inr ⟨aG,aG⟩
def mV.chan (h:mV ok str ρ o o'):o'.isChan=false:=by cases h<;>rfl
end
structure bN (ok:Ctx)(str:Bool)(ρ:Ren)(V W:World):Prop where
 heap:∀b c,ρ b=some c->∃o o',V.heap[b]?=some o/\W.heap[c]?=some o'/\mV ok str ρ o o'
 tape:V.tape=W.tape
 drawn:V.drawn=W.drawn
 gV:Gl.n<=V
 gW:Gl.n<=W
def Ro (V:World)(b:Nat):Prop:=∃c e,V.heap[b]?=some (.cells c e (0,c.size))
structure iX (ρ:Ren)(V W:World)(σ:Ren)(V' W':World):Prop where
 le:ρ.le σ
 keep:∀c,c<W.heap.size->(∀b,ρ b≠some c)->W'.heap[c]?=W.heap[c]?
 ro:∀b c,ρ b=some c->Ro V b->V'.heap[b]?=V.heap[b]?/\W'.heap[c]?=W.heap[c]?
 size:W.heap.size<=W'
 A5:V.heap.size<=V'
 new:∀b c,σ b=some c->ρ b=some c\/(V.heap.size<=b/\W.heap.size<=c)
 tape:W'.tape=W.tape
 os:W'.os=W.os
 out:W'.output=W.output
def iX.refl (ρ:Ren)(V W:World):iX ρ V W ρ V W:=⟨Ren.le_refl ρ,λ_ _ _=>rfl,λ_ _ _ _=>⟨rfl,rfl⟩,ac3 _,ac3 _,λ_ _ h=>.inl h,rfl,rfl,rfl⟩
def iX.trans {ρ σ τ:Ren}{W1 V2 W2:World}(h:iX ρ V W σ V1 W1)(h':iX σ V1 W1 τ V2 W2):iX ρ V W τ V2 W2:=by
 refine⟨h.le.trans h'.le,λc hc hn=>?_,λb c hb hr=>?_,ac6 h.size h'.size,ac6 h.A5 h'.A5,λb c hb=>?_,h'.tape.trans h.tape,h'.os.trans h.os,h'.out.trans h.out⟩
 .rw[h'.keep c (ac4 hc h.size) (λb hb=>?_),h.keep c hc hn];rcases h.new b c hb with e|e
  .exact hn b e
  .omega
 .have h1:=h.ro b c hb hr;have h2:=h'.ro b c (h.le b c hb) (by let⟨x,e,hx⟩:=hr;exact⟨x,e,by rw[h1.1];exact hx⟩);exact⟨h2.1.trans h1.1,h2.2.trans h1.2⟩
 .rcases h'.new b c hb with e|e
  .exact h.new b c e
  .exact .inr ⟨ac6 h.A5 e.1,ac6 h.size e.2⟩
end
section
section
variable [Gl]
section
variable (P0 P:Program)(ok:Ctx)(str:Bool)
def Mg:Mark->Bool
 |.noRoom|.extern _=>true
 |_=>false
def ends:Halt->Bool
 |.stuck _=>true
 |.unsupported (.initOrder _)=>false
 |.unsupported _=>true
 |_=>false
def Result.stops:Result α->Bool
 |.ok _ _=>false
 |.halt h _=>ends h
inductive af {α β:Type}(A:Ren->α->β->Prop):Ren->Sem α->Sem β->Prop
 |pure {ρ:Ren} {a:α} {b:β}:A ρ a b->af A ρ (.pure a) (.pure b)
 |load {ρ:Ren} {a a':Addr} {k:Value->Sem α} {k':Value->Sem β}:dI ρ a a'->(∀v v',aw ok ρ v v'->af A ρ (k v) (k' v'))->af A ρ (.load .plain a k) (.load .plain a' k')
 |store {ρ:Ren} {a a':Addr} {v v':Value} {k:Sem α} {k':Sem β}:dI ρ a a'->aw ok ρ v v'->af A ρ k k'->af A ρ (.store .plain a v k) (.store .plain a' v' k')
 |new {ρ:Ren} {o o':Obj} {k:Nat->Sem α} {k':Nat->Sem β}:mV ok str ρ o o'->(∀σ b c,ρ.le σ->σ b=some c->af A σ (k b) (k' c))->af A ρ (.new o k) (.new o' k')
 |shape {ρ:Ren} {r r':Nat} {k:Option (TypeId×Nat)->Sem α} {k':Option (TypeId×Nat)->Sem β}:ρ r=some r'->(∀s,af A ρ (k s)<|k' s)->af A ρ (.shape r k) (.shape r' k')
 |dead {ρ:Ren} (s:Sem α) (s':Sem β):(∀V:World,Result.stops (s.run P0 V)=true)->af A ρ s s'
 |getObj {ρ:Ren} {r r':Nat} {k:Obj->Sem α} {k':Obj->Sem β}:ρ r=some r'->(∀o o',mV ok str ρ o o'->af A ρ (k o) (k' o'))->af A ρ (.getObj r k) (.getObj r' k')
 |setObj {ρ:Ren} {r r':Nat} {o o':Obj} {k:Sem α} {k':Sem β}:ρ r=some r'->mV ok str ρ o o'->af A ρ k k'->af A ρ (.setObj r o k) (.setObj r' o' k')
 |choose {ρ:Ren} (q:Question) {k:Nat->Sem α} {k':Nat->Sem β}:(∀n,af A ρ (k n)<|k' n)->af A ρ (.choose q k) (.choose q k')
 |program {ρ:Ren} {k:Program->Sem α} {k':Program->Sem β}:af A ρ (k P0) (k' P)->af A ρ (.program k) (.program k')
 |mark {ρ:Ren} {m:Mark} {k:Sem α} {k':Sem β}:Mg m=true->af A ρ k k'->af A ρ (.mark m k) (.mark m k')
 |panic {ρ:Ren} {v v':Value}:aw ok ρ v v'->af A ρ (.halt<|.panic v) (.halt<|.panic v')
 |halt {ρ:Ren} (h:Halt) (s:Sem β) (he:ends h=true:=by rfl):af A ρ (.halt h) s
end
section
variable {ok:Ctx}{ρ:Ren}
def af.mono {A B:Ren->α->β->Prop}{s:Sem α}{s':Sem β}(h:af P0 P ok str A ρ s s')(hB:∀σ a b,A σ a b->B σ a b):af P0 P ok str B ρ s s':=by
 induction h with
 |pure h=>exact .pure (hB _ _ _ h)
 |load a _ ih=>exact .load a ih
 |store a v _ ih=>exact .store a v ih
 |new o _ ih=>exact .new o ih
 |shape r _ ih=>exact .shape r ih
 |dead s s' h=>exact .dead s s' h
 |getObj r _ ih=>exact .getObj r ih
 |setObj r o _ ih=>exact .setObj r o ih
 |choose q _ ih=>exact .choose q ih
 |program _ ih=>exact .program ih
 |mark hm _ ih=>exact .mark hm ih
 |panic h=>exact .panic h
 |halt h s he=>exact .halt h s he
def af.bind' {A:Ren->α->β->Prop}{B:Ren->γ->δ->Prop}{s:Sem α}{s':Sem β}{f:α->Sem γ}{f':β->Sem δ}(h:af P0 P ok str A ρ s s')
  (hf:∀σ a b,ρ.le σ->A σ a b->af P0 P ok str B σ (f a) (f' b)):af P0 P ok str B ρ (Sem.bind s f) (Sem.bind s' f'):=by
 induction h with
 |pure h=>exact hf _ _ _ (Ren.le_refl _) h
 |load a _ ih=>exact .load a λv v' hv=>ih v v' hv hf
 |store a v _ ih=>exact .store a v (ih hf)
 |new o _ ih=>exact .new o λσ b c l e=>ih σ b c l e λτ a b l' h=>hf τ a b (l.trans l') h
 |shape r _ ih=>exact .shape r λs=>ih s hf
 |dead s s' h=>
  refine .dead _ _ λV=>?_
  have h1:=h V;show Result.stops (Sem.run P0 (s >>= f) V)=true;rw[Sem.run_bind];generalize s.run P0 V=r at h1;cases r with
  |ok a w=>cases h1
  |halt x w=>exact h1
 |getObj r _ ih=>exact .getObj r λo o' h=>ih o o' h hf
 |setObj r o _ ih=>exact .setObj r o (ih hf)
 |choose q _ ih=>exact .choose q λn=>ih n hf
 |program _ ih=>exact .program (ih hf)
 |mark hm _ ih=>exact .mark hm (ih hf)
 |panic h=>exact .panic h
 |halt h s he=>exact .halt h _ he
def af.bind {A:Ren->α->β->Prop}{B:Ren->γ->δ->Prop}{s:Sem α}{s':Sem β}{f:α->Sem γ}{f':β->Sem δ}(h:af P0 P ok str A ρ s s')
  (hf:∀σ a b,ρ.le σ->A σ a b->af P0 P ok str B σ (f a) (f' b)):af P0 P ok str B ρ (s >>= f) (s' >>= f'):=af.bind' h hf
def pg (σ:Ren)(V:World)(e:Event):Prop:=
 (e.sync=false/\∃a a',e.loc=.cell a'/\dI σ a a'/\(e.write=true->¬Ro V a.block))\/(e.sync=false/\∃r r',e.loc=.obj r'/\σ r=some r'/\¬Ro V r)\/∃m,Mg m=true/\e=⟨.mark m,false,true⟩
def pg.mono {σ τ:Ren}(h:pg σ V e)(l:σ.le τ):pg τ V e:=by
 rcases h with⟨s,a,a',e1,r,w⟩|⟨s,r,r',e1,h,n⟩|h
 .exact .inl ⟨s,a,a',e1,r.mono l,w⟩
 .exact .inr (.inl ⟨s,r,r',e1,l _ _ h,n⟩)
 .exact .inr (.inr h)
def pg.back {σ:Ren}(h:pg σ V1 e)(hb:∀b,Ro V b->Ro V1 b):pg σ V e:=by
 rcases h with⟨s,a,a',e1,r,w⟩|⟨s,r,r',e1,h,n⟩|h
 .exact .inl ⟨s,a,a',e1,r,λx y=>w x<|hb _ y⟩
 .exact .inr (.inl ⟨s,r,r',e1,h,λy=>n<|hb _ y⟩)
 .exact .inr (.inr h)
def bN.load (h:bN ok str ρ V W)(r:dI ρ a a')(hv:V.cell? a=some v):∃v',W.cell? a'=some v'/\aw ok ρ v v':=by
 let⟨o,o',h1,h2,h3⟩:=h.heap _ _ r.blk;unfold World.cell? at hv⊢;rw[h1]at hv;rw[h2];cases h3 with
 |cells hc hz=>
  simp only at hv⊢;rw[r.spot,r.off];split at hv
  .cases hv
  .rename_i hs;rw[if_neg hs];exact hc.get hv
 |_=>cases hv
def bN.far (h:bN ok str ρ V W)(r:ρ a.block=some c)(b:Bool)(p:Program):∃x,V.farLoad p a b=.error (.stuck x):=by
 let⟨o,o',h1,h2,h3⟩:=h.heap _ _ r;unfold World.farLoad World.noCell;rw[h1];cases h3<;>exact⟨_,rfl⟩
def bN.YD (h:bN ok str ρ V W)(r:ρ a.block=some c)(v:Value)(b:Bool)(p:Program):∃x,V.farStore p a v b=.error (.stuck x):=by
 let⟨o,o',h1,h2,h3⟩:=h.heap _ _ r;unfold World.farStore World.noCell;rw[h1];cases h3<;>exact⟨_,rfl⟩
def bN.thaw (h:bN ok str ρ V W)(r:dI ρ a a')(hx:V.cell? a=some x)(hv:V.frozen? a=false):W.frozen? a'=false:=by
 let⟨o,o',h1,h2,h3⟩:=h.heap _ _ r.blk;unfold World.cell? at hx;unfold World.frozen? at hv⊢;rw[h1]at hv hx;rw[h2];cases h3 with
 |@cells c c' e z z' hc hz=>
  rcases hz with hz|⟨_,hz,_⟩
  .subst hz;let⟨lo,hi⟩:=z;simp only at hv⊢;cases str with
   |true=>simp only[if_true,r.off];exact hv
   |false=>simp
  .subst hz;simp only at hx hv;split at hx
   .cases hx
   .have:=(ac5.1 hx).1;simp[this]at hv
 |_=>rfl
def bN.shape (h:bN ok str ρ V W)(r:ρ b=some c):W.shape? c=V.shape? b:=by
 let⟨o,o',h1,h2,h3⟩:=h.heap _ _ r;unfold World.shape?;rw[h1,h2];cases h3 with
 |cells hc hz=>simp only[hc.size]
 |_=>rfl
omit [Gl] in
def iu (V:World)(a:Addr)(v:Value)(b:Nat):(V.setCell a v).heap[b]?=if a.block=b then(V.heap[b]?).map (λo=>match o with|.cells c elem frozen=>.cells (if a.spot.isSome then c else c.setIfInBounds a.off v) elem frozen|o=>o)else V.heap[b]?:=by
 unfold World.setCell;simp only[Array.getElem?_modify];rfl
omit [Gl] in
def nA (V:World)(a:Addr)(v:Value):(V.setCell a v).heap.size=V.heap.size:=by simp[World.setCell]
def bN.store (h:bN ok str ρ V W)(r:dI ρ a a')(hv:aw ok ρ v v'):bN ok str ρ (V.setCell a v) (W.setCell a' v'):=by
 refine⟨λb c hb=>?_,h.tape,h.drawn,by rw[nA];exact h.gV,by rw[nA];exact h.gW⟩;let⟨o,o',h1,h2,h3⟩:=h.heap _ _ hb;rw[iu,iu,h1,h2];by_cases e:a.block=b
 .subst e;have ec:a'.block=c:=by have:=r.blk;rw[hb]at this;exact(ac9 this).symm
  subst ec;rw[if_pos rfl,if_pos rfl];cases h3 with
  |cells hc hz=>
   refine⟨_,_,rfl,rfl,.cells ?_<|by split<;>(try simp only[Array.size_setIfInBounds])<;>exact hz⟩;rw[r.spot,r.off];split
   .exact hc
   .exact hc.set hv _
  |stringIter s p=>exact⟨_,_,rfl,rfl,.stringIter s p⟩
  |loop h=>exact⟨_,_,rfl,rfl,.loop h⟩
  |taken=>exact⟨_,_,rfl,rfl,.taken⟩
  |number b h=>exact⟨_,_,rfl,rfl,.number b h⟩
  |deferred=>exact⟨_,_,rfl,rfl,.deferred⟩
 .have ec:a'.block≠c:=λe'=>e (ρ.inj _ _ _ (e'▸r.blk) hb)
  rw[if_neg e,if_neg ec];exact⟨o,o',rfl,rfl,h3⟩
def iX.store (_h:bN ok str ρ V W)(r:dI ρ a a')(hc:V.cell? a=some x)(hf:V.frozen? a=false):iX ρ V W ρ (V.setCell a v) (W.setCell a' v'):=by
 have key:¬Ro V a.block:=by
  rintro⟨c,e,hr⟩;unfold World.cell? at hc;unfold World.frozen? at hf;rw[hr]at hc hf;simp only at hc hf;split at hc
  .cases hc
  .have:=(ac5.1 hc).1;simp[this]at hf
 refine⟨Ren.le_refl ρ,λc hc hn=>?_,λb c hb hr=>?_,by rw[nA];exact ac3 _,by rw[nA];exact ac3 _,λb c hb=>.inl hb,rfl,rfl,rfl⟩
 .rw[iu,if_neg (λe=>hn _<|e▸r.blk)]
 .have e:a.block≠b:=λe=>key (e▸hr)
  have ec:a'.block≠c:=λe'=>e<|ρ.inj _ _ _ (e'▸r.blk) hb
  rw[iu,iu,if_neg e,if_neg ec];exact⟨rfl,rfl⟩
omit [Gl] in
def pW (hc:V.cell? a=some x)(hf:V.frozen? a=false):¬Ro V a.block:=by
 rintro⟨c,e,hr⟩;unfold World.cell? at hc;unfold World.frozen? at hf;rw[hr]at hc hf;simp only at hc hf;split at hc
 .cases hc
 .have:=(ac5.1 hc).1;simp[this]at hf
def bN.lt (h:bN ok str ρ V W)(hb:ρ b=some c):b<V/\c<W:=by
 let⟨o,o',h1,h2,_⟩:=h.heap _ _ hb;exact⟨(ac5.1 h1).1,(ac5.1 h2).1⟩
def bN.fresh (h:bN ok str ρ V W)(b c:Nat)(hb:ρ b=some c):b≠V.heap.size/\c≠W.heap.size:=by
 have:=h.lt hb;omega
def bN.ext (h:bN ok str ρ V W):Ren:=ρ.ext V.heap.size W.heap.size h.fresh h.gV h.gW
def bN.Nh (h:bN ok str ρ V W):h.ext V.heap.size=some W.heap.size:=by simp[bN.ext,Ren.ext]
def bN.Ni (h:bN ok str ρ V W)(hb:h.ext b=some c):(b=V.heap.size/\c=W.heap.size)\/(b≠V.heap.size/\ρ b=some c):=by
 simp only[bN.ext,Ren.ext]at hb;split at hb
 .rename_i e;exact .inl ⟨e,(ac9 hb).symm⟩
 .rename_i e;exact .inr ⟨e,hb⟩
def bN.GI (h:bN ok str ρ V W):ρ.le h.ext:=by
 intro b c hb;have:=(h.lt hb).1;simp only[bN.ext,Ren.ext];rw[if_neg ab];exact hb
def bN.new (h:bN ok str ρ V W)(ho:mV ok str ρ o o'):
  bN ok str h.ext {V with heap:=V.heap.push o} {W with heap:=W.heap.push o'}/\
   iX ρ V W h.ext {V with heap:=V.heap.push o} {W with heap:=W.heap.push o'}:=by
 have hle:=h.GI;refine⟨⟨λb c hb=>?_,h.tape,h.drawn,by have:=h.gV;simp only[Array.size_push];omega,by have:=h.gW;simp only[Array.size_push];omega⟩,hle,λc hc _=>?_,λb c hb _=>?_,aG,aG,λb c hb=>?_,rfl,rfl,rfl⟩
 .rcases h.Ni hb with⟨rfl,rfl⟩|⟨e,hb⟩
  .exact⟨o,o',aG,aG,ho.mono hle⟩
  .let⟨x,x',h1,h2,h3⟩:=h.heap _ _ hb;have hl:=h.lt hb;refine⟨x,x',?_,?_,h3.mono hle⟩
   .simp only;rw[Array.getElem?_push,if_neg ab];exact h1
   .simp only;rw[Array.getElem?_push,if_neg ab];exact h2
 .simp only;rw[Array.getElem?_push,if_neg ab]
 .have hl:=h.lt hb;simp only;rw[Array.getElem?_push,if_neg ab,Array.getElem?_push,if_neg ab];exact⟨rfl,rfl⟩
 .rcases h.Ni hb with⟨rfl,rfl⟩|⟨e,hb⟩
  .exact .inr ⟨ac3 _,ac3 _⟩
  .exact .inl hb
def bN.getObj (h:bN ok str ρ V W)(hb:ρ b=some c)(ho:V.heap[b]?=some o):∃o',W.heap[c]?=some o'/\mV ok str ρ o o':=by
 let⟨x,x',h1,h2,h3⟩:=h.heap _ _ hb;rw[h1]at ho;cases ho;exact⟨x',h2,h3⟩
def bN.setObj (h:bN ok str ρ V W)(hb:ρ b=some c)(ho:mV ok str ρ o o'):
  bN ok str ρ {V with heap:=V.heap.setIfInBounds b o} {W with heap:=W.heap.setIfInBounds c o'}:=by
 have hl:=h.lt hb;refine⟨λb' c' dt=>?_,h.tape,h.drawn,by simpa using h.gV,by simpa using h.gW⟩;let⟨x,x',h1,h2,h3⟩:=h.heap _ _ dt;simp only[Array.getElem?_setIfInBounds];by_cases e:b=b'
 .subst e;have ec:c=c':=by rw[hb]at dt;exact ac9 dt
  subst ec;rw[if_pos rfl,if_pos rfl,if_pos hl.1,if_pos hl.2];exact⟨_,_,rfl,rfl,ho⟩
 .have ec:c≠c':=λe'=>e (ρ.inj _ _ _ (e'▸hb) dt)
  rw[if_neg e,if_neg ec];exact⟨x,x',h1,h2,h3⟩
def iX.setObj (_h:bN ok str ρ V W)(hb:ρ b=some c){x:Obj}(hx:V.heap[b]?=some x)(hn:∀cs e z,x≠.cells cs e z):
  iX ρ V W ρ {V with heap:=V.heap.setIfInBounds b o} {W with heap:=W.heap.setIfInBounds c o'}:=by
 refine⟨Ren.le_refl ρ,λc' _ Ci=>?_,λb' c' dt hr=>?_,aG,aG,λ_ _ hb=>.inl hb,rfl,rfl,rfl⟩
 .simp only[Array.getElem?_setIfInBounds];rw[if_neg (λe=>Ci _<|e▸hb)]
 .have e:b≠b':=by
   rintro rfl;let⟨cs,e,hr⟩:=hr;rw[hx]at hr;exact hn _ _ _<|ac9 hr
  have ec:c≠c':=λe'=>e<|ρ.inj _ _ _ (e'▸hb) dt
  simp only[Array.getElem?_setIfInBounds];rw[if_neg e,if_neg ec];exact⟨rfl,rfl⟩
inductive Mx (ok:Ctx)(str:Bool){α β:Type}(A:Ren->α->β->Prop)(σ:Ren):Result α->Result β->World->World->Prop
 |ok {a:α} {b:β} {V W:World}:A σ a b->bN ok str σ V W->Mx ok str A σ (.ok a V) (.ok b W) V W
 |panic {v v':Value} {V W:World}:aw ok σ v v'->bN ok str σ V W->Mx ok str A σ (.halt (.panic v) V) (.halt (.panic v') W) V W
def af.sound {A:Ren->α->β->Prop}{s:Sem α}{s':Sem β}(h:af P0 P ok str A ρ s s'):
  ∀{V W:World} (es jI:Array Event) {r:Result α} {e1:Array Event},bN ok str ρ V W->s.runT P0 V es=(r,e1)->Result.stops r=true\/
   ∃σ r' V' W' d',s'.runT P W jI=(r',jI++d')/\Mx ok str A σ r r' V' W'/\iX ρ V W σ V' W'/\∀e∈d',pg σ V e:=by
 induction h with
 |@pure ρ a b hA=>
  intro V W es jI x e1 hw hr;simp only[Sem.runT,Prod.mk.injEq]at hr;obtain⟨rfl,_⟩:=hr;exact .inr ⟨ρ,_,V,W,#[],by simp[Sem.runT],.ok hA hw,iX.refl _ _ _,aG⟩
 |@load ρ a a' k k' ra _ ih=>
  intro V W es jI x e1 hw hr;simp only[Sem.runT]at hr;cases hc:V.cell? a with
  |none=>
   rw[hc]at hr;let⟨y,hy⟩:=hw.far ra.blk (Mode.plain==Mode.atomic) P0;simp only[hy,Prod.mk.injEq]at hr;obtain⟨rfl,_⟩:=hr;exact .inl rfl
  |some v=>
   rw[hc]at hr;let⟨v',AE,rv⟩:=hw.load ra hc;rcases ih v v' rv _ (jI.push ⟨.cell a',false,false⟩) hw hr with h|⟨σ,b,V',W',d',h1,h2,h4,h5⟩
   .exact .inl h
   .refine .inr ⟨σ,b,V',W',#[⟨.cell a',false,false⟩]++d',?_,h2,h4,λe he=>?_⟩
    .simp only[Sem.runT,AE];rw[show(Mode.plain==Mode.atomic)=false from rfl,h1];simp
    .rcases Array.mem_append.1 he with he|he
     .rw[Array.mem_singleton]at he;subst he;exact .inl ⟨rfl,a,a',rfl,ra.mono h4.le,λe=>by cases e⟩
     .exact h5 e he
 |@store ρ a a' v v' k k' ra rv _ ih=>
  intro V W es jI x e1 hw hr;by_cases hn:(∃cs,v=.agg cs)\/(∃cs,v=.tuple cs)
  .rcases hn with⟨cs,rfl⟩|⟨cs,rfl⟩
   .simp only[Sem.runT,Prod.mk.injEq]at hr;obtain⟨rfl,_⟩:=hr;exact .inl rfl
   .simp only[Sem.runT,Prod.mk.injEq]at hr;obtain⟨rfl,_⟩:=hr;exact .inl rfl
  have n1:∀cs,v≠.agg cs:=λcs e=>hn<|.inl ⟨cs,e⟩
  have n2:∀cs,v≠.tuple cs:=λcs e=>hn<|.inr ⟨cs,e⟩
  have n1':∀cs,v'≠.agg cs:=by rintro cs rfl;cases rv with|hole h=>cases h|agg _ _=>exact n1 _ rfl
  have n2':∀cs,v'≠.tuple cs:=by rintro cs rfl;cases rv with|hole h=>cases h|tuple _ _=>exact n2 _ rfl
  have fH:(match V.cell? a with
   |some _=>if V.frozen? a then(Result.halt (.unsupported<|.unsafePointer "a write to bytes that a string shares") V,es)else k.runT P0 (V.setCell a v) (es.push ⟨.cell a,true,false⟩)
   |none=>match V.farStore P0 a v (Mode.plain==Mode.atomic)with
    |.ok (w,Dh)=>k.runT P0 w (es++Dh.toArray.map (⟨.cell ·,true,Mode.plain==Mode.atomic⟩))
    |.error h=>(.halt h V,es))=(x,e1):=by
   rw[<-hr];cases v<;>first|exact absurd rfl (n1 _)|exact absurd rfl (n2 _)|(simp only[Sem.runT];rfl)
  cases hc:V.cell? a with
  |none=>
   rw[hc]at fH;let⟨y,hy⟩:=hw.YD ra.blk v (Mode.plain==Mode.atomic) P0;simp only[hy,Prod.mk.injEq]at fH;obtain⟨rfl,_⟩:=fH;exact .inl rfl
  |some y=>
   rw[hc]at fH;simp only at fH;cases hf:V.frozen? a with
   |true=>
    rw[hf]at fH;simp only[if_true,Prod.mk.injEq]at fH;obtain⟨rfl,_⟩:=fH;exact .inl rfl
   |false=>
    rw[hf]at fH;rcases ih _ (jI.push ⟨.cell a',true,false⟩) (hw.store ra rv) fH with h|⟨σ,b,V',W',d',h1,h2,h4,h5⟩
    .exact .inl h
    .have hK:=iX.store (v:=v) (v':=v') hw ra hc hf;let⟨y',G7,_⟩:=hw.load ra hc;have hz:=hw.thaw ra hc hf;refine .inr ⟨σ,b,V',W',#[⟨.cell a',true,false⟩]++d',?_,h2,hK.trans h4,λe he=>?_⟩
     .have:(Sem.store .plain a' v' k').runT P W jI=k'.runT P (W.setCell a' v') (jI.push ⟨.cell a',true,false⟩):=by
       cases v'<;>first|exact absurd rfl (n1' _)|exact absurd rfl (n2' _)|(simp only[Sem.runT,G7,hz];rfl)
      rw[this,h1];simp
     .rcases Array.mem_append.1 he with he|he
      .rw[Array.mem_singleton]at he;subst he;exact .inl ⟨rfl,a,a',rfl,ra.mono h4.le,λ_=>pW hc hf⟩
      .refine(h5 e he).back λb hro=>?_
       let⟨c,el,hro⟩:=hro;have hne:a.block≠b:=λe'=>pW hc hf<|e'▸⟨c,el,hro⟩
       exact⟨c,el,by rw[iu,if_neg hne];exact hro⟩
 |@new ρ o o' k k' ro _ ih=>
  intro V W es jI x e1 hw hr;simp only[Sem.runT]at hr;let⟨N6,PX⟩:=hw.new ro;rcases ih _ V.heap.size W.heap.size hw.GI hw.Nh _ jI N6 hr with h|⟨σ,b,V',W',d',h1,h2,h4,h5⟩
  .exact .inl h
  .refine .inr ⟨σ,b,V',W',d',by simp only[Sem.runT];exact h1,h2,PX.trans h4,λe he=>?_⟩;refine(h5 e he).back λb hro=>?_
   let⟨c,el,hro⟩:=hro;refine⟨c,el,?_⟩;have:=(ac5.1 hro).1;simp only;rw[Array.getElem?_push,if_neg ab];exact hro
 |@shape ρ r r' k k' fH _ ih=>
  intro V W es jI x e1 hw hr;simp only[Sem.runT]at hr⊢;rw[hw.shape fH];exact ih _ _ jI hw hr
 |dead s s' h=>
  intro V W es jI x e1 hw hr;have h1:=Sem.runT_fst P0 s V es;rw[hr]at h1;exact .inl (by have:=h V;rw[<-h1]at this;exact this)
 |@getObj ρ r r' k k' fH _ ih=>
  intro V W es jI x e1 hw hr;cases ho:V.heap[r]? with
  |none=>simp only[Sem.runT,ho,Prod.mk.injEq]at hr;obtain⟨rfl,_⟩:=hr;exact .inl rfl
  |some o=>
   let⟨o',NN,ro⟩:=hw.getObj fH ho;rcases ro.kinds with⟨⟨c,e,z,rfl⟩,_⟩|⟨n1,n2⟩
   .simp only[Sem.runT,ho,Prod.mk.injEq]at hr;obtain⟨rfl,_⟩:=hr;exact .inl rfl
   .have nL:(k o).runT P0 V (es.push ⟨.obj r,false,o.isChan⟩)=(x,e1):=by
     rw[<-hr];cases o<;>first|exact absurd rfl (n1 _ _ _)|simp only[Sem.runT,ho]
    rcases ih _ _ ro _ (jI.push ⟨.obj r',false,o'.isChan⟩) hw nL with h|⟨σ,b,V',W',d',h1,h2,h4,h5⟩
    .exact .inl h
    .refine .inr ⟨σ,b,V',W',#[⟨.obj r',false,o'.isChan⟩]++d',?_,h2,h4,λe he=>?_⟩
     .have:(Sem.getObj r' k').runT P W jI=(k' o').runT P W (jI.push ⟨.obj r',false,o'.isChan⟩):=by
       cases o'<;>first|exact absurd rfl (n2 _ _ _)|simp only[Sem.runT,NN]
      rw[this,h1];simp
     .rcases Array.mem_append.1 he with he|he
      .rw[Array.mem_singleton]at he;subst he;exact .inr<|.inl ⟨ro.chan,r,r',rfl,h4.le _ _ fH,λ⟨c,e,z⟩=>n1 _ _ _<|ac9<|ho.symm.trans z⟩
      .exact h5 e he
 |@setObj ρ r r' o o' k k' fH ro _ ih=>
  intro V W es jI x e1 hw hr;cases hx:V.heap[r]? with
  |none=>simp only[Sem.runT,hx,Prod.mk.injEq]at hr;obtain⟨rfl,_⟩:=hr;exact .inl rfl
  |some y=>
   let⟨y',G7,ry⟩:=hw.getObj fH hx;rcases ry.kinds with⟨⟨c,e,z,rfl⟩,_⟩|⟨n1,n2⟩
   .simp only[Sem.runT,hx,Prod.mk.injEq]at hr;obtain⟨rfl,_⟩:=hr;exact .inl rfl
   .have nL:k.runT P0 {V with heap:=V.heap.setIfInBounds r o} (es.push ⟨.obj r,true,o.isChan⟩)=(x,e1):=by
     rw[<-hr];cases y<;>first|exact absurd rfl (n1 _ _ _)|simp only[Sem.runT,hx]
    have DA:o'.isChan=false:=ro.chan;rcases ih _ (jI.push ⟨.obj r',true,o'.isChan⟩) (hw.setObj fH ro) nL with h|⟨σ,b,V',W',d',h1,h2,h4,h5⟩
    .exact .inl h
    .have hK:=iX.setObj (o:=o) (o':=o') hw fH hx n1;refine .inr ⟨σ,b,V',W',#[⟨.obj r',true,o'.isChan⟩]++d',?_,h2,hK.trans h4,λe he=>?_⟩
     .have:(Sem.setObj r' o' k').runT P W jI=k'.runT P {W with heap:=W.heap.setIfInBounds r' o'} (jI.push ⟨.obj r',true,o'.isChan⟩):=by
       cases y'<;>first|exact absurd rfl (n2 _ _ _)|simp only[Sem.runT,G7]
      rw[this,h1];simp
     .rcases Array.mem_append.1 he with he|he
      .rw[Array.mem_singleton]at he;subst he;exact .inr<|.inl ⟨DA,r,r',rfl,h4.le _ _ fH,λ⟨c,e,z⟩=>n1 _ _ _<|ac9<|hx.symm.trans z⟩
      .refine(h5 e he).back λb hro=>?_
       let⟨c,el,hro⟩:=hro;refine⟨c,el,?_⟩;have hne:r≠b:=by
        rintro rfl;rw[hx]at hro;exact n1 _ _ _<|ac9 hro
       simp only[Array.getElem?_setIfInBounds];rw[if_neg hne];exact hro
 |@choose ρ q k k' _ ih=>
  intro V W es jI x e1 hw hr;simp only[Sem.runT]at hr⊢;split at hr
  .rename_i hq;rw[if_pos hq];exact ih _ _ jI hw hr
  .rename_i hq;have e:W.tape W.drawn q=V.tape V.drawn q:=by rw[hw.tape,hw.drawn]
   rw[if_neg hq,e];have hw':bN ok str ρ {V with drawn:=V.drawn+1} {W with drawn:=W.drawn+1}:=⟨hw.heap,hw.tape,by simp only[hw.drawn],hw.gV,hw.gW⟩;rcases ih _ _ jI hw' hr with h|⟨σ,b,V',W',d',h1,h2,h4,h5⟩
   .exact .inl h
   .exact .inr ⟨σ,b,V',W',d',h1,h2,⟨h4.le,h4.keep,h4.ro,h4.size,h4.A5,h4.new,h4.tape,h4.os,h4.out⟩,h5⟩
 |@program ρ k k' _ ih=>
  intro V W es jI x e1 hw hr;simp only[Sem.runT]at hr⊢;exact ih _ jI hw hr
 |@mark ρ m k k' hm _ ih=>
  intro V W es jI x e1 hw hr;simp only[Sem.runT]at hr;rcases ih _ (jI.push ⟨.mark m,false,true⟩) hw hr with h|⟨σ,b,V',W',d',h1,h2,h4,h5⟩
  .exact .inl h
  .refine .inr ⟨σ,b,V',W',#[⟨.mark m,false,true⟩]++d',?_,h2,h4,λe he=>?_⟩
   .simp only[Sem.runT];rw[h1];simp
   .rcases Array.mem_append.1 he with he|he
    .rw[Array.mem_singleton]at he;exact .inr<|.inr ⟨m,hm,he⟩
    .exact h5 e he
 |@panic ρ v v' hv=>
  intro V W es jI x e1 hw hr;simp only[Sem.runT,Prod.mk.injEq]at hr;obtain⟨rfl,_⟩:=hr;exact .inr ⟨ρ,_,V,W,#[],by simp[Sem.runT],.panic hv hw,iX.refl _ _ _,aG⟩
 |halt h s he=>
  intro V W es jI x e1 hw hr;simp only[Sem.runT,Prod.mk.injEq]at hr;obtain⟨rfl,_⟩:=hr;exact .inl he
end
def us:Value->Bool
 |.bool _|.int _ _|.string _|.pointer none|.slice none _ _|.nilFunc|.nilIface=>true
 |_=>false
def CW:Value->Bool
 |.agg cs=>cs.all us
 |.tuple cs=>cs.all us
 |v=>us v
def qg {ok:Ctx}{ρ:Ren}(h:us v=true):aw ok ρ v v:=by
 match v,h with
 |.bool b,_=>exact .bool b
 |.int k n,_=>exact .int k n
 |.string s,_=>exact .string s
 |.pointer none,_=>exact .mD
 |.slice none l c,_=>exact .dH l c
 |.nilFunc,_=>exact .nilFunc
 |.nilIface,_=>exact .nilIface
def vA {ok:Ctx}{ρ:Ren}(h:cs.all us=true):ax ok ρ cs cs:=by
 refine⟨rfl,λi x x' hx dK=>?_⟩;rw[hx]at dK;cases dK;rw[Array.all_eq_true]at h;obtain⟨hl,rfl⟩:=ac5.1 hx;exact qg<|h i hl
def sH {ok:Ctx}{ρ:Ren}(h:CW v=true):aw ok ρ v v:=by
 cases v with
 |agg cs=>exact .agg rfl (vA (ok:=ok) (ρ:=ρ) h).at_
 |tuple cs=>exact .tuple rfl (vA (ok:=ok) (ρ:=ρ) h).at_
 |_=>exact qg h
inductive iG (ok:Ctx)(ρ:Ren):List Value->List Value->Prop
 |nil:iG ok ρ [] []
 |cons {v v':Value} {l l':List Value}:aw ok ρ v v'->iG ok ρ l l'->iG ok ρ (v::l) (v'::l')
def iG.mono {ok:Ctx}{ρ σ:Ren}(h:iG ok ρ l l')(le:ρ.le σ):iG ok σ l l':=by
 induction h with
 |nil=>exact .nil
 |cons h _ ih=>exact .cons (h.mono le) ih
def F9 (P:Program)(t:TypeId):Bool:=match P.info? t with|some i=>(match i.zero with|some v=>CW v|none=>true)|none=>true
def FV (P:Program)(t:TypeId):Bool:=match P.underlying t with|some (.slice e)=>F9 P e|_=>true
section
variable {ok:Ctx}{ρ:Ren}
def ax.list (h:ax ok ρ xs xs'):iG ok ρ xs.toList xs'.toList:=by
 have:∀(l l':List Value),l.length=l'.length->(∀(i:Nat) (x x':Value),l[i]?=some x->l'[i]?=some x'->aw ok ρ x x')->iG ok ρ l l':=by
  intro l;induction l with
  |nil=>intro l' e _;cases l' with
   |nil=>exact .nil
   |cons _ _=>cases e
  |cons a l ih=>intro l' e hh;cases l' with
   |nil=>cases e
   |cons b l'=>exact .cons (hh 0 a b rfl rfl)<|ih l' (by simpa using e) λi x x' hx dK=>hh (i+1) x x' (by simpa using hx)<|by simpa using dK
 exact this _ _ (by rw[Array.length_toList,Array.length_toList];exact h.size) λi x x' hx dK=>h.at_ i x x' (by simpa using hx)<|by simpa using dK
def iG.array (h:iG ok ρ l l'):ax ok ρ l.toArray l'.toArray:=by
 induction h with
 |nil=>exact ax.nil
 |@cons a b l l' h _ ih=>
  have:=(ax.nil.push h).append ih;simpa using this
omit [Gl] in
def uD (hT:P0.toTables=P.toTables)(t:TypeId):P0.underlying t=P.underlying t:=by
 unfold Program.underlying;rw[hT]
def lH {A:Ren->α->β->Prop}{why:String}{s:Sem β}:af P0 P ok str A ρ (stuck why:Sem α) s:=.halt (.stuck why) _
def Pk {A:Ren->α->β->Prop}{u:Unsupported}{s:Sem β}(hu:ends (.unsupported u)=true:=by rfl):af P0 P ok str A ρ (unsupported u:Sem α) s:=.halt (.unsupported u) _ hu
def ag {A:Ren->α->β->Prop}{a:α}{b:β}(h:A ρ a b):af P0 P ok str A ρ (pure a:Sem α) (pure b:Sem β):=.pure h
def ae (A:Ren->α->β->Prop){B:Ren->γ->δ->Prop}{s:Sem α}{s':Sem β}{f:α->Sem γ}{f':β->Sem δ}(h:af P0 P ok str A ρ s s')
  (hf:∀σ a b,ρ.le σ->A σ a b->af P0 P ok str B σ (f a) (f' b)):af P0 P ok str B ρ (s >>= f) (s' >>= f'):=af.bind h hf
def ba {B:Ren->γ->δ->Prop}{a:α}{b:β}{f:α->Sem γ}{f':β->Sem δ}(h:af P0 P ok str B ρ (f a) (f' b)):af P0 P ok str B ρ (pure a >>= f) (pure b >>= f'):=h
def bH (hT:P0.toTables=P.toTables)(t:TypeId):af P0 P ok str (λ_ x y=>x=y/\P.info? t=some x) ρ (typeInfo t) (typeInfo t):=by
 refine af.program ?_;show af P0 P ok str _ ρ (match P0.info? t with|some i=>pure i|none=>stuck "no such type") (match P.info? t with|some i=>pure i|none=>stuck "no such type");rw[hT];cases h:P.info? t with
 |none=>exact lH
 |some i=>exact ag ⟨rfl,rfl⟩
def ar (hT:P0.toTables=P.toTables)(t:TypeId):af P0 P ok str (λ_ x y=>x=y/\P.underlying t=some x) ρ (underlying t) (underlying t):=by
 refine af.program ?_;show af P0 P ok str _ ρ (match P0.underlying t with|some i=>pure i|none=>stuck "no such type") (match P.underlying t with|some i=>pure i|none=>stuck "no such type");rw[uD hT];cases h:P.underlying t with
 |none=>exact lH
 |some i=>exact ag ⟨rfl,rfl⟩
def dc (hT:P0.toTables=P.toTables)(t:TypeId):af P0 P ok str (λ_ x y=>x=y/\∃i,P.info? t=some i/\i.size=x) ρ (sizeOf t) (sizeOf t):=by
 refine ae _ (bH hT t) ?_;rintro σ a b _ ⟨rfl,h⟩;exact ag ⟨rfl,a,h,rfl⟩
def Fw (hT:P0.toTables=P.toTables)(t:TypeId):af P0 P ok str (λ_ x y=>x=y) ρ (isAgg t) (isAgg t):=by
 refine ae _ (ar hT t) ?_;rintro σ a b _ ⟨rfl,h⟩;split<;>exact ag rfl
def iU (hT:P0.toTables=P.toTables)(t:TypeId)(hz:F9 P t=true):af P0 P ok str (aw ok) ρ (zeroValue t) (zeroValue t):=by
 refine ae _ (bH hT t) ?_;rintro σ a b _ ⟨rfl,h⟩;unfold F9 at hz;rw[h]at hz;simp only at hz;cases e:a.zero with
 |none=>exact Pk
 |some v=>rw[e]at hz;exact ag<|sH hz
def JS (r:dI ρ a a'):af P0 P ok str (aw ok) ρ (load a) (load a'):=.load r λ_ _ h=>.pure h
def Pi (r:dI ρ a a')(h:aw ok ρ v v'):af P0 P ok str (λ_ _ _=>True) ρ (store a v) (store a' v'):=.store r h<|.pure trivial
def Fz (n:Nat):∀{ρ:Ren} (_:dI ρ a a') (i:Nat) {acc Qx:Array Value},ax ok ρ acc Qx->af P0 P ok str (λσ x y=>ax ok σ x y) ρ (loadCellsFrom a i n acc) (loadCellsFrom a' i n Qx):=by
 induction n with
 |zero=>intro ρ r i acc Qx h;exact ag h
 |succ n ih=>
  intro ρ r i acc Qx h;refine ae _ (JS<|r.add i) ?_;intro σ x y l hv;exact ih (r.mono l) (i+1)<|(h.mono l).push hv
def tK (r:dI ρ a a')(n:Nat):af P0 P ok str (λσ x y=>ax ok σ x y) ρ (loadCells a n) (loadCells a' n):=Fz n r 0 ax.nil
def gT:∀(vs X3:List Value) {ρ:Ren} (_:dI ρ a a') (i:Nat),iG ok ρ vs X3->af P0 P ok str (λ_ _ _=>True) ρ (storeCells a vs i) (storeCells a' X3 i):=by
 intro vs;induction vs with
 |nil=>intro X3 ρ r i h;cases h;exact ag trivial
 |cons v vs ih=>
  intro X3 ρ r i h;cases h with
  |cons hv h=>
   rename_i v' X3;refine ae _ (Pi (r.add i) hv) ?_;intro σ x y l _;exact ih X3 (r.mono l) (i+1)<|h.mono l
def sD (hT:P0.toTables=P.toTables)(t:TypeId)(r:dI ρ a a'):af P0 P ok str (aw ok) ρ (loadVar t a) (loadVar t a'):=by
 refine ae _ (Fw hT t) ?_;rintro σ x y l rfl;split
 .refine ae _ (dc hT t) ?_;rintro τ n m l' ⟨rfl,_⟩;refine ae _ (tK ((r.mono l).mono l') n) ?_;intro υ cs cs' _ h;exact ag<|.agg h.size h.at_
 .exact JS (r.mono l)
def FE (hT:P0.toTables=P.toTables)(t:TypeId)(r:dI ρ a a')(hv:aw ok ρ v v'):af P0 P ok str (λ_ _ _=>True) ρ (storeVar t a v) (storeVar t a' v'):=by
 refine ae _ (dc hT t) ?_;rintro σ n m l ⟨rfl,_⟩;rw[hv.cells.size];split
 .exact .halt _ _
 .exact gT _ _ (r.mono l) 0 (hv.mono l).cells.list
def iw (t:TypeId)(h:ax ok ρ cs cs'):af P0 P ok str (λσ x y=>dI σ x y) ρ (newRow t cs) (newRow t cs'):=by
 refine af.new (.cells h<|.inl (by cases str<;>rfl)) ?_;intro σ b c _ e;exact .pure ⟨e,rfl,rfl⟩
def abF:RuntimeError->Bool
 |.bounds ..|.error _|.plain _|.nilDeref=>true
 |_=>false
def eY (hT:P0.toTables=P.toTables){A:Ren->α->β->Prop}(e:RuntimeError)(he:abF e=true):af P0 P ok str A ρ (runtimePanic e:Sem α) (runtimePanic e:Sem β):=by
 refine af.program<|ba ?_;rw[hT];cases e with
 |bounds x y s c=>exact .panic (.iface _<|sH<|by simp[CW,us])
 |error m=>exact .panic (.iface _<|.string _)
 |plain m=>exact .panic (.iface _<|.string _)
 |nilDeref=>exact .panic (.iface _<|.string _)
 |_=>cases he
def tL (h:aw ok ρ v v'):af P0 P ok str (λσ x y=>dI σ x y) ρ (Instr.sureAddr v) (Instr.sureAddr v'):=by
 cases h with
 |ptr r=>exact ag r
 |_=>exact .halt _ _
def uy (hT:P0.toTables=P.toTables)(h:aw ok ρ v v'):af P0 P ok str (λσ x y=>dI σ x y) ρ (asAddr v) (asAddr v'):=by
 cases h with
 |ptr r=>exact ag r
 |mD=>exact eY hT .nilDeref rfl
 |_=>exact .halt _ _
def oN (h:aw ok ρ v v'):af P0 P ok str (λ_ x y=>x=y) ρ (asIntOf v) (asIntOf v'):=by
 cases h with
 |int k n=>exact ag rfl
 |_=>exact .halt _ _
def nB (h:aw ok ρ v v'):af P0 P ok str (λ_ x y=>x=y) ρ (asInt v) (asInt v'):=by
 refine ae _ (oN h) ?_;rintro σ x y _ rfl;exact ag rfl
def A7 (h:aw ok ρ v v'):af P0 P ok str (λ_ x y=>x=y) ρ (asBool v) (asBool v'):=by
 cases h with
 |bool b=>exact ag rfl
 |_=>exact .halt _ _
def W_ (h:aw ok ρ v v'):af P0 P ok str (λσ x y=>ax ok σ x y) ρ (asAgg v) (asAgg v'):=by
 cases h with
 |agg e h=>exact ag ⟨e,h⟩
 |_=>exact .halt _ _
def nC (hT:P0.toTables=P.toTables){A:Ren->α->β->Prop}(k:IntKind)(x y:Int)(c:BoundsCode):af P0 P ok str A ρ (boundsPanic k x y c:Sem α) (boundsPanic k x y c:Sem β):=by
 unfold boundsPanic;dsimp only;split
 .exact af.choose _ λn=>eY hT (.bounds (IntKind.i64.wrap x) y (n==1) c) rfl
 .exact eY hT (.bounds (IntKind.i64.wrap x) y (k !=.u64) c) rfl
def Ik (hT:P0.toTables=P.toTables)(s:TypeId)(f:Nat)(hf:∀fs x i,P.underlying s=some (.struct fs)->fs[f]?=some x->P.info? x.type=some i->i.size≠0)(h:aw ok ρ v v'):
  af P0 P ok str (aw ok) ρ (Instr.fieldAt s v f) (Instr.fieldAt s v' f):=by
 refine ae _ (ar hT s) ?_;rintro σ d _ l ⟨rfl,hd⟩;split
 .rename_i fs;cases e:fs[f]? with
  |none=>exact lH
  |some x=>
   refine ae _ (tL<|h.mono l) ?_;intro τ a a' l' r;refine ae (λσ x y=>dI σ x y) ?_ ?_
   .refine ae _ (dc hT _) ?_;rintro υ n _ l'' ⟨rfl,i,hi,hn⟩;have:=hf fs x i hd e hi;rw[if_neg ab,if_neg ab];exact ag<|(r.mono l'').add _
   .intro υ b b' _ rb;exact ag<|.ptr rb
 .exact lH
def Il (hT:P0.toTables=P.toTables)(t:TypeId){i:Value}(h:aw ok ρ v v')(hi:aw ok ρ i i'):af P0 P ok str (aw ok) ρ (Instr.indexAt t v i) (Instr.indexAt t v' i'):=by
 refine ae _ (oN hi) ?_;rintro σ ⟨k,n⟩ _ l rfl;refine ae _ (ar hT t) ?_;rintro τ d _ l1 ⟨rfl,hd⟩;have h':=(h.mono l).mono l1;have some_:∀{φ:Ren} {a a':Addr} (len:Nat) (elem:TypeId) (Xd:Bool),dI φ a a'->af P0 P ok str (aw ok) φ
   (if 0<=n/\n<(len:Int)then(do pure (.pointer<|some<|a.add<|n.toNat*(<-sizeOf elem)))else if Xd=true then unsupported (.noEntry "op/indexAddr.an index out of range at an array of length 0 or 1 (ledger 616)")else boundsPanic k n len .index)
   (if 0<=n/\n<(len:Int)then(do pure (.pointer<|some<|a'.add<|n.toNat*(<-sizeOf elem)))else if Xd=true then unsupported (.noEntry "op/indexAddr.an index out of range at an array of length 0 or 1 (ledger 616)")else boundsPanic k n len .index):=by
  intro φ a a' len elem Xd r;split
  .refine ae _ (dc hT _) ?_;rintro ψ m _ l4 ⟨rfl,_⟩;exact ag<|.ptr<|(r.mono l4).add _
  .split
   .exact .halt _ _
   .exact nC hT _ _ _ _
 cases d with
 |array len elem=>
  refine ae _ (tL h') ?_;intro υ a a' l2 r;refine ba<|ae _ (ar hT t) ?_;rintro φ d' _ l3 ⟨rfl,_⟩;exact some_ len elem _ (r.mono l3)
 |slice elem=>
  cases h' with
  |dH len c=>
   refine ba<|ae _ (ar hT t) ?_;rintro φ d' _ l3 ⟨rfl,_⟩;exact nC hT _ _ _ _
  |slice len c r=>
   refine ba<|ae _ (ar hT t) ?_;rintro φ d' _ l3 ⟨rfl,_⟩;exact some_ len elem _ (r.mono l3)
  |_=>exact .halt _ _
 |_=>exact .halt _ _
end
section
variable {ok:Ctx}{ρ:Ren}
def Sk {f:α->Sem γ}(h:∀{σ:Ren} a,af P0 P ok str (λ_ x y=>x=y) σ (f a)<|f a):∀(l:List α) {ρ:Ren},af P0 P ok str (λ_ x y=>x=y) ρ (l.mapM f) (l.mapM f):=by
 intro l;induction l with
 |nil=>intro ρ;simp only[List.mapM_nil];exact ag rfl
 |cons a l ih=>
  intro ρ;simp only[List.mapM_cons];refine ae _ (h a) ?_;rintro σ x _ _ rfl;refine ae _ ih ?_;rintro τ xs _ _ rfl;exact ag rfl
def Pe {f:α->Sem γ}(h:∀{σ:Ren} a,af P0 P ok str (λ_ x y=>x=y) σ (f a)<|f a)(l:Array α):af P0 P ok str (λ_ x y=>x=y) ρ (l.mapM f) (l.mapM f):=by
 rw[Array.mapM_eq_mapM_toList];refine ae _ (Sk h _) ?_;rintro σ x _ _ rfl;exact ag rfl
def Nn (off:Nat):∀{l l':List Value} (_:iG ok ρ l l') (k:Nat) {cs cs':Array Value},ax ok ρ cs cs'->
  ax ok ρ ((l.zipIdx k).foldl (λcs (x:Value×Nat)=>cs.setIfInBounds (off+x.2) x.1) cs) ((l'.zipIdx k).foldl (λcs (x:Value×Nat)=>cs.setIfInBounds (off+x.2) x.1) cs'):=by
 intro l l' h;induction h with
 |nil=>intro k cs cs' hc;exact hc
 |cons hv _ ih=>intro k cs cs' hc;exact ih (k+1)<|hc.set hv _
def xj (place:Nat->Option (Nat×Nat)):∀{l l':List (Nat×Value)} {cs cs':Array Value},l.map (·.1)=l'.map (·.1)->iG ok ρ (l.map (·.2)) (l'.map (·.2))->ax ok ρ cs cs'->
  (Instr.fill place cs l=none/\Instr.fill place cs' l'=none)\/∃r r',Instr.fill place cs l=some r/\Instr.fill place cs' l'=some r'/\ax ok ρ r r':=by
 intro l;induction l with
 |nil=>
  intro l' cs cs' e _ hc;cases l' with
  |nil=>exact .inr ⟨cs,cs',rfl,rfl,hc⟩
  |cons _ _=>simp at e
 |cons a l ih=>
  intro l' cs cs' e h hc;cases l' with
  |nil=>simp at e
  |cons b l'=>
   let⟨i,v⟩:=a;let⟨i',v'⟩:=b;simp only[List.map_cons,List.cons.injEq]at e;obtain⟨rfl,e⟩:=e;simp only[List.map_cons]at h;cases h with
   |cons hv h=>
    unfold Instr.fill;cases hp:place i with
    |none=>exact .inl ⟨rfl,rfl⟩
    |some x=>
     let⟨off,size⟩:=x;simp only;rw[<-hv.cells.size,<-hc.size];split
     .exact .inl ⟨rfl,rfl⟩
     .refine ih e h ?_;have:=Nn off hv.cells.list 0 hc;rw[<-Array.toList_zipIdx,<-Array.toList_zipIdx,Array.foldl_toList,Array.foldl_toList]at this;exact this
def A8 (t:TypeId)(h:aw ok ρ v v'):af P0 P ok str (λσ x y=>dI σ x y) ρ (newVar t v) (newVar t v'):=iw t h.cells
def WT (t:TypeId)(h:aw ok ρ v v'):af P0 P ok str (aw ok) ρ (Instr.box t v) (Instr.box t v'):=by
 refine ae _ (A8 t h) ?_;intro σ a a' _ r;exact ag<|.ptr r
def O7 (hT:P0.toTables=P.toTables)(t:TypeId)(hz:F9 P t=true):af P0 P ok str (aw ok) ρ (Instr.alloc t true<|.tuple #[]) (Instr.alloc t true<|.tuple #[]):=by
 refine ae _ (iU hT t hz) ?_;intro σ v v' _ h;refine ae _ (A8 t h) ?_;intro τ a a' _ r;exact ag<|.ptr r
def O9 (hT:P0.toTables=P.toTables)(t:TypeId)(hz:F9 P t=true){l l':Array (Nat×Value)}(e:l.toList.map (·.1)=l'.toList.map (·.1))(h:iG ok ρ (l.toList.map (·.2)) (l'.toList.map (·.2))):
  af P0 P ok str (aw ok) ρ (Instr.build t l) (Instr.build t l'):=by
 refine ae _ (iU hT t hz) ?_;intro σ z z' l1 Ma;refine ae _ (ar hT t) ?_;rintro τ d _ l2 ⟨rfl,hd⟩;cases d with
 |struct fields=>
  refine ae _ (Pe (f:=λ(f:Field)=>(do pure (f.offset,<-sizeOf f.type):Sem (Nat×Nat))) (λa=>?_) fields) ?_
  .refine ae _ (dc hT _) ?_;rintro υ n _ _ ⟨rfl,_⟩;exact ag rfl
  .rintro υ places _ l3 rfl;rcases xj (ok:=ok) (ρ:=υ) (λx=>places[x]?) e ((h.mono<|l1.trans l2).mono l3) ((Ma.mono<|l2.trans l3).cells)with⟨h1,h2⟩|⟨r,r',h1,h2,h3⟩
   .simp only[h1];exact lH
   .simp only[h1,h2];exact ag (.agg h3.size h3.at_)
 |array n elem=>
  refine ae _ (dc hT _) ?_;rintro υ size _ l3 ⟨rfl,_⟩;rcases xj (ok:=ok) (ρ:=υ) (λi=>some (i*size,size)) e ((h.mono<|l1.trans l2).mono l3) ((Ma.mono<|l2.trans l3).cells)with⟨h1,h2⟩|⟨r,r',h1,h2,h3⟩
  .simp only[h1];exact lH
  .simp only[h1,h2];exact ag (.agg h3.size h3.at_)
 |_=>exact .halt _ _
def yZ {z z':Array Value}(h:ax ok ρ z z')(n:Nat):ax ok ρ ((Array.range n).map (z[·%z.size]!)) ((Array.range n).map (z'[·%z'.size]!)):=by
 refine ax.map (λi=>?_) _;have e:z'.size=z.size:=h.size.symm;rw[e];simp only[Array.getElem!_eq_getD];cases hx:z[i%z.size]? with
 |none=>
  rw[Array.getD_eq_getD_getElem?,Array.getD_eq_getD_getElem?,hx,h.none hx];exact qg rfl
 |some x=>
  let⟨x',dK,r⟩:=h.get hx;rw[Array.getD_eq_getD_getElem?,Array.getD_eq_getD_getElem?,hx,dK];exact r
def zO (hT:P0.toTables=P.toTables)(t:TypeId)(n:Nat)(hz:FV P t=true){l l':Array (Nat×Value)}(e:l.toList.map (·.1)=l'.toList.map (·.1))(h:iG ok ρ (l.toList.map (·.2)) (l'.toList.map (·.2))):
  af P0 P ok str (aw ok) ρ (Instr.buildSlice t n l) (Instr.buildSlice t n l'):=by
 refine ae _ (ar hT t) ?_;rintro τ d _ l1 ⟨rfl,hd⟩;cases d with
 |slice elem=>
  have Ma:F9 P elem=true:=by unfold FV at hz;rw[hd]at hz;exact hz
  refine ae _ (dc hT _) ?_;rintro υ size _ l2 ⟨rfl,_⟩;have fin:∀{φ:Ren} {z z':Array Value},τ.le φ->ax ok φ z z'->af P0 P ok str (aw ok) φ
    (match Instr.fill (λi=>some (i*size,size)) ((Array.range<|n*size).map (z[·%z.size]!)) l.toList with|some cells=>(do pure (.slice (some<|<-newRow elem cells) n n))|_=>stuck "buildSlice: a part of the wrong size")
    (match Instr.fill (λi=>some (i*size,size)) ((Array.range<|n*size).map (z'[·%z'.size]!)) l'.toList with|some cells=>(do pure (.slice (some<|<-newRow elem cells) n n))|_=>stuck "buildSlice: a part of the wrong size"):=by
   intro φ z z' lφ Mb;rcases xj (ok:=ok) (ρ:=φ) (λi=>some (i*size,size)) e (h.mono<|l1.trans lφ) (yZ Mb<|n*size)with⟨h1,h2⟩|⟨r,r',h1,h2,h3⟩
   .simp only[h1];exact lH
   .simp only[h1,h2];refine ae _ (iw elem h3) ?_;intro ψ a a' _ r;exact ag<|.slice _ _ r
  dsimp only;split
  .exact .halt _ _
  .split
   .exact fin l2 ax.nil
   .refine ae _ (iU hT _ Ma) ?_;intro φ z z' l3 Mb;exact fin (l2.trans l3) Mb.cells
 |_=>exact .halt _ _
def lF (n:Nat):af P0 P ok str (λ_ _ _=>True) ρ (askRoom n) (askRoom n):=by
 unfold askRoom;split
 .exact af.mark rfl (.pure trivial)
 .exact ag trivial
def C8 (hT:P0.toTables=P.toTables)(t:TypeId)(hz:FV P t=true){a a' b b':Value}(h:aw ok ρ a a')(h':aw ok ρ b b'):af P0 P ok str (aw ok) ρ (Instr.makeSlice t a b) (Instr.makeSlice t a' b'):=by
 refine ae _ (ar hT t) ?_;rintro σ d _ l1 ⟨rfl,hd⟩;cases d with
 |slice elem=>
  have Ma:F9 P elem=true:=by unfold FV at hz;rw[hd]at hz;exact hz
  refine ae _ (nB<|h.mono l1) ?_;rintro τ x _ l2 rfl;refine ae _ (nB<|(h'.mono l1).mono l2) ?_;rintro υ y _ l3 rfl;refine ae _ (bH hT _) ?_;rintro φ info _ l4 ⟨rfl,_⟩;dsimp only;split
  .split
   .exact eY hT (.error _) rfl
   .split
    .exact eY hT (.error _) rfl
    .exact af.choose _ λn=>eY hT (.error _) rfl
  .refine ae _ (lF _) ?_;intro ψ _ _ l5 _;refine ae _ (dc hT _) ?_;rintro χ size _ l6 ⟨rfl,_⟩;split
   .refine ba (ae _ (iw elem<|yZ ax.nil _) ?_);intro ω r r' _ hr;exact ag<|.slice _ _ hr
   .refine ae _ (iU hT _ Ma) ?_;intro κ z z' l7 Mb;refine ba<|ae _ (iw elem<|yZ Mb.cells _) ?_;intro ω r r' _ hr;exact ag (.slice _ _ hr)
 |_=>exact .halt _ _
end
section
variable {ok:Ctx}{ρ:Ren}
def jy (hT:P0.toTables=P.toTables)(h:aw ok ρ v v')(y:Nat)(c:BoundsCode):af P0 P ok str (λ_ x y=>x=y) ρ (Instr.sliceBound v y c) (Instr.sliceBound v' y c):=by
 refine ae _ (oN h) ?_;rintro σ ⟨k,i⟩ _ _ rfl;dsimp only;split
 .exact ag rfl
 .exact nC hT _ _ _ _
inductive mW (ok:Ctx)(ρ:Ren):Option Value->Option Value->Prop
 |none:mW ok ρ none none
 |some {v v':Value}:aw ok ρ v v'->mW ok ρ (some v) (some v')
def mW.mono {σ:Ren}{v v':Option Value}(h:mW ok ρ v v')(l:ρ.le σ):mW ok σ v v':=by
 cases h with
 |none=>exact .none
 |some h=>exact .some<|h.mono l
def TR (lo:Option Value)(m h:Nat)(c:BoundsCode):Sem (Nat×Nat×Nat):=match lo with|some v=>(do let l <-Instr.sliceBound v h c;pure (l,h,m))|none=>(do let l <-pure 0;pure (l,h,m))
def In (hT:P0.toTables=P.toTables)(h1:mW ok ρ lo K1)(m h:Nat)(c:BoundsCode):af P0 P ok str (λ_ x y=>x=y) ρ (TR lo m h c) (TR K1 m h c):=by
 cases h1 with
 |none=>exact ba (ag rfl)
 |some hv=>
  refine ae _ (jy hT hv _ _) ?_;rintro τ x _ _ rfl;exact ag rfl
def gA (hT:P0.toTables=P.toTables)(b:Bool)(len cap:Nat)(h1:mW ok ρ lo K1)(h2:mW ok ρ hi nJ)(h3:mW ok ρ mx mx'):
  af P0 P ok str (λ_ x y=>x=y) ρ (Instr.sliceBounds b len cap lo hi mx) (Instr.sliceBounds b len cap K1 nJ mx'):=by
 unfold Instr.sliceBounds;cases h3 with
 |none=>
  refine ba ?_;cases h2 with
  |none=>exact ba (In hT h1 _ _ _)
  |some hv=>
   refine ae _ (jy hT hv _ _) ?_;rintro τ x _ l rfl;exact In hT (h1.mono l) _ _ _
 |some hm=>
  refine ae _ (jy hT hm _ _) ?_;rintro τ x _ l rfl;cases h2 with
  |none=>exact .halt _ _
  |some hv=>
   refine ae _ (jy hT (hv.mono l) _ _) ?_;rintro υ y _ l' rfl;exact In hT (h1.mono<|l.trans l') _ _ _
def Io (hT:P0.toTables=P.toTables)(t:TypeId)(h:aw ok ρ v v')(h1:mW ok ρ lo K1)(h2:mW ok ρ hi nJ)(h3:mW ok ρ mx mx'):
  af P0 P ok str (aw ok) ρ (Instr.sliceAt t v lo hi mx) (Instr.sliceAt t v' K1 nJ mx'):=by
 have tail:∀{σ:Ren} {a a':Addr} (l m n size:Nat),dI σ a a'->af P0 P ok str (aw ok) σ (pure<|.slice (some (if m=l then a else a.add (l*size))) (n-l)<|m-l) (pure<|.slice (some (if m=l then a' else a'.add (l*size))) (n-l)<|m-l):=by
  intro σ a a' l m n size r;split
  .exact ag (.slice _ _ r)
  .exact ag (.slice _ _<|r.add _)
 refine ae _ (ar hT t) ?_;rintro σ d _ l1 ⟨rfl,hd⟩;have WR:af P0 P ok str (aw ok) σ (Instr.slice t v lo hi mx) (Instr.slice t v' K1 nJ mx'):=by
  refine ae _ (ar hT t) ?_;rintro τ d _ l2 ⟨rfl,hd⟩;have hv:=(h.mono l1).mono l2;have g1:=(h1.mono l1).mono l2;have g2:=(h2.mono l1).mono l2;have g3:=(h3.mono l1).mono l2;cases d with
  |string=>
   cases hv with
   |string s=>
    dsimp only;cases g3 with
    |none=>
     simp only[Option.isSome_none,Bool.false_eq_true,if_false];refine ae _ (gA hT false s.size s.size g1 g2 .none) ?_;rintro υ ⟨l,hh,m⟩ _ _ rfl;exact ag (.string _)
    |some _=>exact .halt _ _
   |_=>exact .halt _ _
  |slice elem=>
   cases hv with
   |dH len cap=>
    refine ae _ (gA hT true len cap g1 g2 g3) ?_;rintro υ ⟨l,hh,m⟩ _ _ rfl;refine ae _ (dc hT _) ?_;rintro φ size _ _ ⟨rfl,_⟩;split
    .exact ag (.dH _ _)
    .exact ag (.dH _ _)
   |slice len cap r=>
    refine ae _ (gA hT true len cap g1 g2 g3) ?_;rintro υ ⟨l,hh,m⟩ _ l3 rfl;refine ae _ (dc hT _) ?_;rintro φ size _ l4 ⟨rfl,_⟩;split
    .exact ag (.slice _ _<|(r.mono l3).mono l4)
    .exact ag (.slice _ _<|((r.mono l3).mono l4).add _)
   |_=>exact .halt _ _
  |pointer arr=>
   refine ae _ (uy hT hv) ?_;intro υ a a' l3 r;refine ae _ (ar hT _) ?_;rintro φ d2 _ l4 ⟨rfl,_⟩;cases d2 with
   |array n elem=>
    refine ae _ (gA hT false n n (g1.mono<|l3.trans l4) (g2.mono<|l3.trans l4)<|g3.mono<|l3.trans l4) ?_;rintro ψ ⟨l,hh,m⟩ _ l5 rfl;refine ae _ (dc hT _) ?_;rintro χ size _ l6 ⟨rfl,_⟩;exact tail _ _ _ _ (((r.mono l4).mono l5).mono l6)
   |_=>exact .halt _ _
  |_=>exact .halt _ _
 cases d with
 |array n elem=>
  refine ae _ (tL<|h.mono l1) ?_;intro υ a a' l3 r;refine ae _ (gA hT false n n ((h1.mono l1).mono l3) ((h2.mono l1).mono l3)<|(h3.mono l1).mono l3) ?_;rintro ψ ⟨l,hh,m⟩ _ l5 rfl;refine ae _ (dc hT _) ?_;rintro χ size _ l6 ⟨rfl,_⟩;exact tail _ _ _ _ ((r.mono l5).mono l6)
 |_=>exact WR
def Ij (h:aw ok ρ v v')(i:Nat):af P0 P ok str (aw ok) ρ (Instr.extract v i) (Instr.extract v' i):=by
 cases h with
 |@tuple xs xs' e h=>
  have hh:ax ok ρ xs xs':=⟨e,h⟩;unfold Instr.extract;cases hx:xs[i]? with
  |none=>simp only[hx];exact .halt _ _
  |some x=>
   let⟨x',dK,r⟩:=hh.get hx;simp only[hx,dK];exact ag r
 |_=>exact .halt _ _
def wD (hT:P0.toTables=P.toTables)(t:TypeId)(h:ax ok ρ cs cs')(off:Nat):af P0 P ok str (aw ok) ρ (part t cs off) (part t cs' off):=by
 refine ae _ (Fw hT t) ?_;rintro σ b _ l rfl;split
 .refine ae _ (dc hT t) ?_;rintro τ n _ l' ⟨rfl,_⟩;have:=((h.mono l).mono l').extract off<|off+n;exact ag<|.agg this.size this.at_
 .cases hx:cs[off]? with
  |none=>exact .halt _ _
  |some x=>
   let⟨x',dK,r⟩:=(h.mono l).get hx;simp only[dK];exact ag r
def Pd (hT:P0.toTables=P.toTables)(t:TypeId){i:Value}(h:aw ok ρ v v')(hi:aw ok ρ i i'):af P0 P ok str (aw ok) ρ (Instr.index t v i) (Instr.index t v' i'):=by
 refine ae _ (oN hi) ?_;rintro σ ⟨k,n⟩ _ l rfl;refine ae _ (ar hT t) ?_;rintro τ d _ l1 ⟨rfl,hd⟩;have hv:=(h.mono l).mono l1;cases d with
 |array len elem=>
  cases hv with
  |agg e hc=>
   dsimp only;split
   .refine ae _ (dc hT _) ?_;rintro υ size _ l2 ⟨rfl,_⟩;exact wD hT _ (ax.mono ⟨e,hc⟩ l2) _
   .exact nC hT _ _ _ _
  |_=>exact .halt _ _
 |string=>
  cases hv with
  |string s=>
   dsimp only;split
   .exact ag (.int _ _)
   .exact nC hT _ _ _ _
  |_=>exact .halt _ _
 |_=>exact .halt _ _
def Pj (op:UnOp)(h:aw ok ρ v v'):af P0 P ok str (aw ok) ρ (Op.unary op v) (Op.unary op v'):=by
 cases h with
 |bool b=>cases op<;>first|exact ag (.bool _)|exact .halt _ _
 |int k n=>cases op<;>first|exact ag (.int _ _)|exact .halt _ _|(simp only[Op.unary,Op.intArith];exact ag<|.int _ _)|(simp only[Op.unary,Op.intBits];exact ag<|.int _ _)
 |_=>cases op<;>exact .halt _ _
end
section
variable {ok:Ctx}{ρ:Ren}
def dI.beq {b:Addr}(h:dI ρ a a')(h':dI ρ b b'):(a'==b')=(a==b):=by
 have key:a'=b'<->a=b:=by
  constructor
  .rintro rfl;have hb:=ρ.inj _ _ _ h.blk h'.blk;have ho:a.off=b.off:=by rw[<-h.off,<-h'.off]
   have hs:a.spot=b.spot:=by rw[<-h.spot,<-h'.spot]
   cases a;cases b;simp_all
  .rintro rfl;have hb:a'.block=b'.block:=by have:=h.blk;rw[h'.blk]at this;exact(ac9 this).symm
   have ho:a'.off=b'.off:=by rw[h.off,h'.off]
   have hs:a'.spot=b'.spot:=by rw[h.spot,h'.spot]
   cases a';cases b';simp_all
 by_cases e:a=b
 .rw[beq_iff_eq.2 e,beq_iff_eq.2 (key.2 e)]
 .rw[beq_eq_false_iff_ne.2 e,beq_eq_false_iff_ne.2 (λx=>e<|key.1 x)]
def dI.Al {b:Addr}(h:dI ρ a a')(h':dI ρ b b'):(a'.block==b'.block)=(a.block==b.block):=by
 by_cases e:a.block=b.block
 .have:a'.block=b'.block:=by have:=h.blk;rw[e,h'.blk]at this;exact(ac9 this).symm
  rw[beq_iff_eq.2 e,beq_iff_eq.2 this]
 .have:a'.block≠b'.block:=λx=>e (ρ.inj _ _ _ h.blk<|x▸h'.blk)
  rw[beq_eq_false_iff_ne.2 e,beq_eq_false_iff_ne.2 this]
def LD (h:ρ r=some r'):af P0 P ok str (λ_ x y=>x=none/\y=none) ρ (viewAt r) (viewAt r'):=by
 refine af.shape h λs=>?_
 cases s with
 |some x=>exact .pure ⟨rfl,rfl⟩
 |none=>
  refine af.getObj h λo o' ho=>?_
  cases ho<;>exact .pure ⟨rfl,rfl⟩
inductive Gf (ρ:Ren):Option (Addr×Bool)->Option (Addr×Bool)->Prop
 |none:Gf ρ none none
 |some {a a':Addr} (b:Bool):dI ρ a a'->Gf ρ (some (a,b)) (some (a',b))
def vw (h:ρ r=some r'):af P0 P ok str (λσ x y=>ρ.le σ/\Gf σ x y) ρ (numberAt r) (numberAt r'):=by
 refine af.shape h λs=>?_
 cases s with
 |some x=>exact .pure ⟨Ren.le_refl _,.none⟩
 |none=>
  refine af.getObj h λo o' ho=>?_
  cases ho<;>first|exact .pure ⟨Ren.le_refl _,.none⟩|(rename_i b r;exact .pure ⟨Ren.le_refl _,.some b r⟩)
def kJ (h:dI ρ a a'):af P0 P ok str (λσ x y=>ρ.le σ/\dI σ x.1 y.1/\x.2=y.2) ρ (behindNumber a) (behindNumber a'):=by
 refine ae _ (vw h.blk) ?_;rintro σ x y l ⟨_,hn⟩;cases hn with
 |none=>exact ag ⟨l,h.mono l,rfl⟩
 |some b r=>exact ag ⟨l,r,rfl⟩
def LC (h:dI ρ a a'):af P0 P ok str (λσ _ _=>ρ.le σ) ρ (noView a) (noView a'):=by
 refine af.shape h.blk λs=>?_
 cases s with
 |some x=>exact .pure (Ren.le_refl _)
 |none=>
  refine af.getObj h.blk λo o' ho=>?_
  cases ho<;>exact .pure<|Ren.le_refl _
omit [Gl] in
def qP (hT:P0.toTables=P.toTables):∀d e o,byteOfCell P0 d e o=byteOfCell P d e o:=by
 intro d;induction d with
 |zero=>intro e o;rfl
 |succ d ih=>intro e o;simp only[byteOfCell,uD hT,Program.cellsOf,Program.bytesOf,hT,ih];rfl
def nD (hT:P0.toTables=P.toTables)(h:dI ρ a a'):af P0 P ok str (λ_ x y=>x=y) ρ (byteOf a) (byteOf a'):=by
 unfold byteOf;rw[h.spot];cases a.spot with
 |some s=>exact ag rfl
 |none=>
  refine af.program<|ba ?_;refine ae _ (LC h) ?_;rintro σ _ _ l _;refine af.shape (l _ _ h.blk) λs=>?_
  cases s with
  |none=>exact .halt _ _
  |some x=>
   let⟨e,n⟩:=x;show af P0 P ok str _ σ (if P0.cellsOf e=0 then pure 0 else match byteOfCell P0 P0.depth e (a.off%P0.cellsOf e)with|some b=>pure (a.off/P0.cellsOf e*P0.bytesOf e+b)|_=>stuck "byteOf: no such cell")
    (if P.cellsOf e=0 then pure 0 else match byteOfCell P P.depth e (a'.off%P.cellsOf e)with|some b=>pure (a'.off/P.cellsOf e*P.bytesOf e+b)|_=>stuck "byteOf: no such cell")
   rw[h.off,qP hT,show P0.cellsOf e=P.cellsOf e by unfold Program.cellsOf;rw[hT],show P0.bytesOf e=P.bytesOf e by unfold Program.bytesOf;rw[hT],show P0.depth=P.depth by unfold Program.depth;rw[hT]];split
   .exact ag rfl
   .split
    .exact ag rfl
    .exact .halt _ _
def BY (P:Program)(t:TypeId):Bool:=match P.underlying t with|some .bool|some .string|some (.int _)|some (.slice _)=>true|_=>false
def JR (hT:P0.toTables=P.toTables)(hG:P.globals.size=Gl.n)(d:Nat)(t:TypeId)(ht:BY P t=true)(hx:aw ok ρ x x')(hy:aw ok ρ y y'):af P0 P ok str (λ_ x y=>x=y) ρ (Op.equalIn d t x y) (Op.equalIn d t x' y'):=by
 cases d with
 |zero=>exact .halt _ _
 |succ d=>
  unfold Op.equalIn;refine ae _ (ar hT t) ?_;rintro σ u _ l ⟨rfl,hu⟩;have hx:=hx.mono l;have hy:=hy.mono l;unfold BY at ht;rw[hu]at ht;cases u with
  |bool=>cases hx<;>(first|exact .halt _ _|(cases hy<;>(first|exact .halt _ _|exact ag rfl)))
  |string=>cases hx<;>(first|exact .halt _ _|(cases hy<;>(first|exact .halt _ _|exact ag rfl)))
  |slice e=>cases hx<;>(first|exact .halt _ _|(cases hy<;>(first|exact .halt _ _|exact ag rfl)))
  |int k=>
   cases hx with
   |int k1 a=>
    cases hy with
    |int k2 b=>
     dsimp only;split
     .exact ag rfl
     .exact .halt _ _
    |ptr r=>
     by_cases e:a=0
     .subst e;exact ag rfl
     .dsimp only;split<;>first|exact .halt _ _|(exfalso;simp_all;done)|exact ag rfl
    |_=>exact .halt _ _
   |@ptr a a' r=>
    cases hy with
    |int k2 b=>
     by_cases e:b=0
     .subst e;exact ag rfl
     .dsimp only;split<;>first|exact .halt _ _|(exfalso;simp_all;done)|exact ag rfl
    |@ptr b b' r2=>
     refine ae _ (kJ r) ?_;rintro τ ⟨a,_⟩ ⟨a',_⟩ _ ⟨l1,r,_⟩;refine ae _ (kJ<|r2.mono l1) ?_;rintro υ ⟨b,_⟩ ⟨b',_⟩ _ ⟨l2,r2,_⟩;have r:dI υ a a':=r.mono l2;have r2:dI υ b b':=r2;refine af.program<|ba ?_;show af P0 P ok str _ υ (if(a.block==b.block&&decide (a.block<P0.globals.size))=true then(do let x <-byteOf a;let y <-byteOf b;pure (x==y))else _)
      (if(a'.block==b'.block&&decide (a'.block<P.globals.size))=true then(do let x <-byteOf a';let y <-byteOf b';pure (x==y))else _)
     have hg:decide (a'.block<P.globals.size)=decide (a.block<P0.globals.size):=by
      rw[hT,hG];have:=υ.D8 _ _ r.blk;exact decide_eq_decide.2 this.symm
     rw[r.Al r2,hg];split
     .refine ae _ (nD hT r) ?_;rintro φ n _ l3 rfl;refine ae _ (nD hT<|r2.mono l3) ?_;rintro χ m _ _ rfl;exact ag rfl
     .refine ae _ (bH hT t) ?_;rintro φ i _ l3 ⟨rfl,_⟩;split
      .rw[(r.mono l3).beq (r2.mono l3)];split
       .exact ag rfl
       .exact .halt _ _
      .exact .halt _ _
    |_=>exact .halt _ _
   |_=>cases hy<;>exact .halt _ _
  |_=>cases ht
def UX (P:Program)(t:TypeId):Bool:=match P.underlying t with|some (.struct fs)=>!P.stoodInHeld t&&fs.all (λf=>BY P f.type)|_=>false
def Lu (hT:P0.toTables=P.toTables)(hG:P.globals.size=Gl.n)(d:Nat):∀(l:List Field) (_:l.all (λf=>BY P f.type)=true) {ρ:Ren} {xs xs' ys Dt:Array Value},ax ok ρ xs xs'->ax ok ρ ys Dt->
  af P0 P ok str (λ_ x y=>x=y) ρ
   (forIn l ((none:Option Bool),()) λf _=>do
    if f.name≠ "_" then
     if !(<-Op.equalIn d f.type (<-part f.type xs f.offset) (<-part f.type ys f.offset))then pure (ForInStep.done (some false,()))else pure (ForInStep.yield (none,()))
    else pure (ForInStep.yield (none,())))
   (forIn l ((none:Option Bool),()) λf _=>do
    if f.name≠ "_" then
     if !(<-Op.equalIn d f.type (<-part f.type xs' f.offset) (<-part f.type Dt f.offset))then pure (ForInStep.done (some false,()))else pure (ForInStep.yield (none,()))
    else pure (ForInStep.yield (none,()))):=by
 intro l;induction l with
 |nil=>intro _ ρ xs xs' ys Dt hx hy;exact ag rfl
 |cons f l ih=>
  intro hl ρ xs xs' ys Dt hx hy;simp only[List.all_cons,Bool.and_eq_true]at hl;simp only[List.forIn_cons];by_cases hn:f.name≠ "_"
  .simp only[if_pos hn];refine ae (λτ x y=>x=y/\(x=.done (some false,())\/x=.yield (none,()))) ?_ ?_
   .refine ae _ (wD hT f.type hx f.offset) ?_;intro τ a a' l1 ha;refine ae _ (wD hT f.type (hy.mono l1) f.offset) ?_;intro υ b b' l2 hb;refine ae _ (JR hT hG d f.type hl.1 (ha.mono l2) hb) ?_;rintro φ r _ l3 rfl;cases r
    .exact ag ⟨rfl,.inl rfl⟩
    .exact ag ⟨rfl,.inr rfl⟩
   .rintro τ x _ l1 ⟨rfl,rfl|rfl⟩
    .exact ag rfl
    .exact ih hl.2 (hx.mono l1) (hy.mono l1)
  .simp only[if_neg hn];exact ih hl.2 hx hy
def WW (hT:P0.toTables=P.toTables)(hG:P.globals.size=Gl.n)(d:Nat)(t:TypeId)(ht:UX P t=true)(hx:aw ok ρ x x')(hy:aw ok ρ y y'):af P0 P ok str (λ_ x y=>x=y) ρ (Op.equalIn d t x y) (Op.equalIn d t x' y'):=by
 cases d with
 |zero=>exact .halt _ _
 |succ d=>
  unfold Op.equalIn;refine ae _ (ar hT t) ?_;rintro σ u _ l ⟨rfl,hu⟩;have hx:=hx.mono l;have hy:=hy.mono l;unfold UX at ht;rw[hu]at ht;cases u with
  |struct fs=>
   simp only[Bool.and_eq_true,Bool.not_eq_true']at ht;cases hx with
   |agg e1 h1=>
    cases hy with
    |agg e2 h2=>
     dsimp only;refine af.program<|ba ?_;rw[ht.1];split
     .exact .halt _ _
     .rw[if_neg aG,<-Array.forIn_toList,<-Array.forIn_toList];refine ae _ (Lu hT hG d fs.toList (by simpa using ht.2) ⟨e1,h1⟩ ⟨e2,h2⟩) ?_;rintro τ s _ _ rfl;split<;>exact ag rfl
    |_=>exact .halt _ _
   |_=>cases hy<;>exact .halt _ _
  |_=>cases ht
def SX (P:Program)(t:TypeId):Bool:=BY P t||UX P t
def WV (hT:P0.toTables=P.toTables)(hG:P.globals.size=Gl.n)(d:Nat)(t:TypeId)(ht:SX P t=true)(hx:aw ok ρ x x')(hy:aw ok ρ y y'):af P0 P ok str (λ_ x y=>x=y) ρ (Op.equalIn d t x y) (Op.equalIn d t x' y'):=by
 unfold SX at ht;rcases Bool.or_eq_true_iff.1 ht with h|h
 .exact JR hT hG d t h hx hy
 .exact WW hT hG d t h hx hy
omit [Gl] in
def zl (hT:P0.toTables=P.toTables):∀d e o,cellOfByte P0 d e o=cellOfByte P d e o:=by
 intro d;induction d with
 |zero=>intro e o;rfl
 |succ d ih=>intro e o;simp only[cellOfByte,uD hT,Program.cellsOf,Program.bytesOf,hT,ih];rfl
omit [Gl] in
def wW (hT:P0.toTables=P.toTables)(d e c o:Nat)(n:Int):cellAtBytes P0 d e c o n=cellAtBytes P d e c o n:=by
 simp only[cellAtBytes,Program.cellsOf,Program.bytesOf,hT,qP hT,zl hT];rfl
def ri (hT:P0.toTables=P.toTables)(ts:Array TypeId)(t:TypeId)(h:aw ok ρ v v')(hn:aw ok ρ n n'):af P0 P ok str (λσ x y=>aw ok σ x y/\x≠hole) ρ (Builtin.unsafeAdd_ ts t #[v,n]) (Builtin.unsafeAdd_ ts t #[v',n']):=by
 cases h with
 |mD=>
  refine ae _ (nB hn) ?_;rintro σ m _ l rfl;dsimp only;split
  .exact .halt _ _
  .split
   .exact .halt _ _
   .exact .halt _ _
 |@ptr a a' r=>
  refine ae _ (nB hn) ?_;rintro σ m _ l rfl;have r:=r.mono l;dsimp only;split
  .refine ae _ (LD r.blk) ?_;rintro τ _ _ l1 ⟨rfl,rfl⟩;exact .pure ⟨.ptr<|r.mono l1,by simp[hole]⟩
  .split
   .exact .halt _ _
   .refine af.shape r.blk λs=>?_
    cases s with
    |none=>exact .halt _ _
    |some x=>
     let⟨e,n⟩:=x;refine af.program ?_;show af P0 P ok str _ σ (match cellAtBytes P0 P0.depth e (n/P0.cellsOf e) a.off m with|some off=>pure (Value.pointer<|some {a with off})|none=>unsupported<|.unsafePointer "Add")
      (match cellAtBytes P P.depth e (n/P.cellsOf e) a'.off m with|some off=>pure (Value.pointer<|some {a' with off})|none=>unsupported<|.unsafePointer "Add")
     rw[wW hT,r.off,show P0.cellsOf e=P.cellsOf e by unfold Program.cellsOf;rw[hT],show P0.depth=P.depth by unfold Program.depth;rw[hT]];split
     .exact .pure ⟨.ptr ⟨r.blk,rfl,r.spot⟩,by simp[hole]⟩
     .exact .halt _ _
 |_=>exact .halt _ _
def oP (hT:P0.toTables=P.toTables)(ts:Array TypeId)(t:TypeId)(h:aw ok ρ v v')(hn:aw ok ρ n n'):af P0 P ok str (aw ok) ρ (Builtin.unsafeAdd_ ts t #[v,n]) (Builtin.unsafeAdd_ ts t #[v',n']):=
 (ri hT ts t h hn).mono λ_ _ _ h=>h.1
def Ft (b:Bool)(r:dI ρ a a'):af P0 P ok str (aw ok) ρ (asNumber a b) (asNumber a' b):=by
 refine af.new (.number b r) ?_;intro σ x y _ e;exact .pure<|.ptr ⟨e,rfl,rfl⟩
def fE (hT:P0.toTables=P.toTables)(t:TypeId)(h:aw ok ρ v v')(hn:aw ok ρ n n'):af P0 P ok str (aw ok) ρ (movedNumber t v n) (movedNumber t v' n'):=by
 refine ae _ (ar hT t) ?_;rintro σ d _ l ⟨rfl,_⟩;have h:=h.mono l;have hn:=hn.mono l;dsimp only;split
 .exact .halt _ _
 .cases h with
  |@ptr a a' r=>
   refine ae _ (kJ r) ?_;rintro τ ⟨b,z⟩ ⟨b',z'⟩ l1 ⟨_,r,e⟩;simp only at e;subst e;refine ae _ (ri hT #[] t (.ptr r)<|hn.mono l1) ?_;rintro υ x x' l2 ⟨hx,hne⟩;cases hx with
   |hole _=>exact absurd rfl hne
   |ptr r=>exact Ft _ r
   |mD=>exact ag .mD
   |bool b=>exact ag (.bool b)
   |int k n=>exact ag (.int k n)
   |string s=>exact ag (.string s)
   |dH l c=>exact ag (.dH l c)
   |slice n c h=>exact ag (.slice n c h)
   |nilFunc=>exact ag .nilFunc
   |nilIface=>exact ag .nilIface
   |iface t h=>exact ag (.iface t h)
   |func a b c d e=>exact ag (.func a b c d e)
   |agg e h=>exact ag (.agg e h)
   |tuple e h=>exact ag (.tuple e h)
  |mD=>exact oP hT #[] t .mD hn
  |_=>exact .halt _ _
def vY (hT:P0.toTables=P.toTables)(t:TypeId)(r:dI ρ a a')(hn:aw ok ρ n n'):af P0 P ok str (aw ok) ρ (movedPointer t (.pointer<|some a) n) (movedPointer t (.pointer<|some a') n'):=by
 refine ae _ (vw r.blk) ?_;rintro σ x y l ⟨_,h⟩;cases h with
 |none=>exact oP hT #[] t (.ptr<|r.mono l) (hn.mono l)
 |some b _=>exact .halt _ _
def tM (hT:P0.toTables=P.toTables)(hG:P.globals.size=Gl.n){b:Addr}(r:dI ρ a a')(r2:dI ρ b b'):af P0 P ok str (λ_ x y=>x=y) ρ (Op.twoPlaces a b) (Op.twoPlaces a' b'):=by
 refine af.program<|ba ?_;show af P0 P ok str _ ρ (if(a.block !=b.block||decide (a.block>=P0.globals.size))=true then unsupported .addressObserved else(do let x <-byteOf a;let y <-byteOf b;pure (x,y)))
  (if(a'.block !=b'.block||decide (a'.block>=P.globals.size))=true then unsupported .addressObserved else(do let x <-byteOf a';let y <-byteOf b';pure (x,y)))
 have hg:decide (a'.block>=P.globals.size)=decide (a.block>=P0.globals.size):=by
  rw[hT,hG];have:=ρ.D8 _ _ r.blk;exact decide_eq_decide.2 ab
 have hb:(a'.block !=b'.block)=(a.block !=b.block):=by unfold bne;rw[r.Al r2]
 rw[hb,hg];split
 .exact .halt _ _
 .refine ae _ (nD hT r) ?_;rintro φ n _ l3 rfl;refine ae _ (nD hT<|r2.mono l3) ?_;rintro χ m _ _ rfl;exact ag rfl
end
section
variable {ok:Ctx}{ρ:Ren}
def Pb {A:Ren->α->β->Prop}{s:Sem α}{s':Sem β}(h:∃z,s=.halt z/\ends z=true):af P0 P ok str A ρ s s':=by
 obtain⟨z,rfl,hz⟩:=h;exact .halt _ _ hz
def Fv (op:BinOp)(k:IntKind)(a b:Int):af P0 P ok str (aw ok) ρ (Op.intArith op k a b) (Op.intArith op k a b):=by
 cases op<;>first|exact ag (.int _ _)|exact .halt _ _
def Lz (hT:P0.toTables=P.toTables)(op:BinOp)(k:IntKind)(a b:Int):af P0 P ok str (aw ok) ρ (Op.intDiv op k a b) (Op.intDiv op k a b):=by
 unfold Op.intDiv;split
 .exact eY hT (.error _) rfl
 .cases op<;>first|exact ag (.int _ _)|exact .halt _ _
def Im (op:BinOp)(k:IntKind)(a b:Int):af P0 P ok str (aw ok) ρ (Op.intBits op k a b) (Op.intBits op k a b):=by
 cases op<;>first|exact ag (.int _ _)|exact .halt _ _
def Ly (op:BinOp)(a b:Int):af P0 P ok str (aw ok) ρ (Op.intCmp op a b) (Op.intCmp op a b):=by
 cases op<;>first|exact ag (.bool _)|exact .halt _ _
def FD (hT:P0.toTables=P.toTables)(op:BinOp)(k k':IntKind)(a b:Int):af P0 P ok str (aw ok) ρ (Op.shift op k a k' b) (Op.shift op k a k' b):=by
 unfold Op.shift;split
 .exact eY hT (.error _) rfl
 .cases op<;>first|exact ag (.int _ _)|exact .halt _ _
def vy (op:BinOp)(a b:ByteArray):af P0 P ok str (aw ok) ρ (Op.stringOp op a b) (Op.stringOp op a b):=by
 cases op with
 |add=>
  unfold Op.stringOp;dsimp only;split
  .exact .halt _ _
  .exact ag (.string _)
 |_=>first|exact ag (.bool _)|exact .halt _ _
def Sj (hT:P0.toTables=P.toTables)(op:BinOp)(t:TypeId)(k k':IntKind)(a b:Int):af P0 P ok str (aw ok) ρ (binOp op t (.int k a)<|.int k' b) (binOp op t (.int k a)<|.int k' b):=by
 cases op with
 |shl=>simp only[binOp];exact FD hT _ _ _ _ _
 |shr=>simp only[binOp];exact FD hT _ _ _ _ _
 |_=>
  simp only[binOp];split
  .exact .halt _ _
  .first|exact Fv _ _ _ _|exact Lz hT _ _ _ _|exact Im _ _ _ _|exact Ly _ _ _
def Fu (hT:P0.toTables=P.toTables)(hG:P.globals.size=Gl.n)(t:TypeId)(ht:SX P t=true)(hx:aw ok ρ x x')(hy:aw ok ρ y y'):af P0 P ok str (λ_ x y=>x=y) ρ (Op.equal t x y) (Op.equal t x' y'):=WV hT hG _ t ht hx hy
def DH:BinOp->Bool|.eql|.neq=>true|_=>false
def kS (P:Program)(op:BinOp)(t:TypeId):Bool:=if DH op then SX P t else true
def Id (hT:P0.toTables=P.toTables)(hG:P.globals.size=Gl.n)(k:IntKind){b:Addr}(r:dI ρ a a')(r2:dI ρ b b'):af P0 P ok str (aw ok) ρ (Op.addrSub k a b) (Op.addrSub k a' b'):=by
 refine ae _ (tM hT hG r r2) ?_;rintro σ x _ _ rfl;exact ag<|.int _ _
def oL (hT:P0.toTables=P.toTables)(hG:P.globals.size=Gl.n)(op:BinOp){b:Addr}(r:dI ρ a a')(r2:dI ρ b b'):af P0 P ok str (aw ok) ρ (Op.addrCmp op a b) (Op.addrCmp op a' b'):=by
 refine ae _ (tM hT hG r r2) ?_;rintro σ x _ _ rfl;cases op<;>first|exact ag (.bool _)|exact .halt _ _
def sC (hT:P0.toTables=P.toTables)(k:IntKind)(n:Int)(r:dI ρ a a'):af P0 P ok str (aw ok) ρ (Op.addrMod k a n) (Op.addrMod k a' n):=by
 refine af.shape r.blk λs=>?_
 cases s with
 |none=>exact .halt _ _
 |some x=>
  let⟨e,m⟩:=x;refine ba<|ae _ (bH hT e) ?_;rintro σ i _ l ⟨rfl,_⟩;dsimp only;split
  .exact .halt _ _
  .refine ae _ (nD hT<|r.mono l) ?_;rintro τ x _ _ rfl;exact ag<|.int _ _
omit [Gl] in
def DQ (op:BinOp)(t:TypeId)(y:Value)(he:¬DH op=true)(n1:∀k a,x≠.int k a)(n2:∀a,x≠.string a)(n3:∀a,x≠.pointer a)(n4:∀k a,x≠.float k a)(n5:∀k a b,x≠.complex k a b):∃h,binOp op t x y=.halt h/\ends h=true:=by
 unfold binOp;split<;>first|exact absurd rfl (n1 _ _)|exact absurd rfl (n2 _)|exact absurd rfl (n3 _)|exact absurd rfl (n4 _ _)|exact absurd rfl (n5 _ _ _)|exact absurd rfl he|exact⟨_,rfl,rfl⟩
omit [Gl] in
def gC {r:Result α}(h:Result.stops r=true)(k:α->World->Result β):Result.stops (r.andThen k)=true:=by
 cases r with
 |ok a w=>cases h
 |halt x w=>exact h
omit [Gl] in
def GF (hT:P0.toTables=P.toTables)(t:TypeId)(ht:SX P t=true)(x:Value)(V:World):Result.stops ((Op.equal t x hole).run P0 V)=true/\Result.stops ((Op.equal t hole x).run P0 V)=true:=by
 have hu:P0.underlying t=P.underlying t:=by unfold Program.underlying;rw[hT]
 unfold SX BY UX at ht;cases hd:P.underlying t with
 |none=>rw[hd]at ht;cases ht
 |some u=>
  rw[hd]at ht hu;have hr:∀V,(underlying t).run P0 V=.ok u V:=λV=>by simp[underlying,hu]
  constructor
  .show Result.stops ((Op.equalIn (9999+1) t x hole).run P0 V)=true;unfold Op.equalIn;rw[Sem.run_bind,hr];cases u<;>first|(simp at ht;done)|(cases x<;>first|rfl|(rename_i a _ _;cases a<;>rfl)|(rename_i a;cases a<;>rfl))
  .show Result.stops ((Op.equalIn (9999+1) t hole x).run P0 V)=true;unfold Op.equalIn;rw[Sem.run_bind,hr];cases u<;>first|(simp at ht;done)|(cases x<;>first|rfl|(rename_i a _ _;cases a<;>rfl)|(rename_i a;cases a<;>rfl))
omit [Gl] in
def nR (hT:P0.toTables=P.toTables)(op:BinOp)(t:TypeId)(ht:kS P op t=true)(x:Value)(V:World):Result.stops ((binOp op t x hole).run P0 V)=true/\Result.stops ((binOp op t hole x).run P0 V)=true:=by
 by_cases he:DH op=true
 .unfold kS at ht;rw[if_pos he]at ht;have h:=GF hT t ht x V;cases op<;>first|cases he;done|skip
  .constructor
   .have e:binOp .eql t x hole=(do pure (.bool<|<-Op.equal t x hole)):=by cases x<;>rfl
    rw[e,Sem.run_bind];exact gC h.1 _
   .have e:binOp .eql t hole x=(do pure (.bool<|<-Op.equal t hole x)):=by cases x<;>rfl
    rw[e,Sem.run_bind];exact gC h.2 _
  .constructor
   .have e:binOp .neq t x hole=(do pure (.bool<|!(<-Op.equal t x hole))):=by cases x<;>rfl
    rw[e,Sem.run_bind];exact gC h.1 _
   .have e:binOp .neq t hole x=(do pure (.bool<|!(<-Op.equal t hole x))):=by cases x<;>rfl
    rw[e,Sem.run_bind];exact gC h.2 _
 .constructor<;>(cases op<;>first|exact absurd rfl he|(cases x<;>first|rfl|(rename_i a _ _;cases a<;>rfl)|(rename_i a;cases a<;>rfl)))
def O8 (hT:P0.toTables=P.toTables)(hG:P.globals.size=Gl.n)(op:BinOp)(t:TypeId)(ht:kS P op t=true)(hx:aw ok ρ x x')(hy:aw ok ρ y y'):
  af P0 P ok str (aw ok) ρ (binOp op t x y) (binOp op t x' y'):=by
 by_cases hxh:x=hole
 .subst hxh;exact .dead _ _ λV=>(nR hT op t ht y V).2
 by_cases XU:y=hole
 .subst XU;exact .dead _ _ λV=>(nR hT op t ht x V).1
 have I3:DH op=true->af P0 P ok str (aw ok) ρ (do pure (.bool<|<-Op.equal t x y)) (do pure (.bool<|<-Op.equal t x' y')):=by
  intro h;unfold kS at ht;rw[if_pos h]at ht;refine ae _ (Fu hT hG t ht hx hy) ?_;rintro σ b _ _ rfl;exact ag<|.bool _
 have zG:DH op=true->af P0 P ok str (aw ok) ρ (do pure (.bool<|!(<-Op.equal t x y))) (do pure (.bool<|!(<-Op.equal t x' y'))):=by
  intro h;unfold kS at ht;rw[if_pos h]at ht;refine ae _ (Fu hT hG t ht hx hy) ?_;rintro σ b _ _ rfl;exact ag<|.bool _
 have number:∀{σ:Ren} {a a':Addr},dI σ a a'->af P0 P ok str (λτ x y=>dI τ x.1 y.1) σ (behindNumber a) (behindNumber a'):=λr=>(kJ r).mono λ_ _ _ h=>h.2.1
 cases hx with
 |hole _=>exact absurd rfl hxh
 |int k a=>
  cases hy with
  |hole _=>exact absurd rfl XU
  |int k' b=>exact Sj hT op t k k' a b
  |@ptr b b' r=>
   cases op with
   |eql=>exact I3 rfl
   |neq=>exact zG rfl
   |add=>simp only[binOp];exact fE hT t (.ptr r) (.int k a)
   |and=>
    simp only[binOp];refine ae _ (number r) ?_;intro σ x y _ h;exact sC hT _ _ h
   |_=>exact .halt _ _
  |mD=>
   cases op with
   |eql=>exact I3 rfl
   |neq=>exact zG rfl
   |add=>simp only[binOp];exact fE hT t .mD (.int k a)
   |_=>exact .halt _ _
  |_=>cases op<;>first|exact I3 rfl|exact zG rfl|exact .halt _ _
 |string a=>
  cases hy with
  |hole _=>exact absurd rfl XU
  |string b=>cases op<;>(simp only[binOp];exact vy _ _ _)
  |_=>cases op<;>first|exact I3 rfl|exact zG rfl|exact .halt _ _
 |@ptr a a' r=>
  cases hy with
  |hole _=>exact absurd rfl XU
  |int k b=>
   cases op with
   |eql=>exact I3 rfl
   |neq=>exact zG rfl
   |add=>
    simp only[binOp];refine ae _ (ar hT t) ?_;rintro σ d _ l ⟨rfl,_⟩;split
    .exact vY hT t (r.mono l) (.int k b)
    .exact fE hT t (.ptr<|r.mono l) (.int k b)
   |sub=>simp only[binOp];exact fE hT t (.ptr r) (.int k _)
   |rem=>
    simp only[binOp];refine ae _ (number r) ?_;intro σ x y _ h;exact sC hT _ _ h
   |and=>
    simp only[binOp];refine ae _ (number r) ?_;intro σ x y _ h;exact sC hT _ _ h
   |_=>exact .halt _ _
  |@ptr b b' r2=>
   have two:∀{s s':Addr->Addr->Sem Value},(∀{σ:Ren} {c c' d d':Addr},dI σ c c'->dI σ d d'->af P0 P ok str (aw ok) σ (s c d) (s' c' d'))->
     af P0 P ok str (aw ok) ρ (do let c <-behindNumber a;let d <-behindNumber b;s c.1 d.1) (do let c <-behindNumber a';let d <-behindNumber b';s' c.1 d.1):=by
    intro s s' hs;refine ae _ (kJ r) ?_;rintro σ x y l ⟨_,h1,_⟩;refine ae _ (kJ<|r2.mono l) ?_;rintro τ x2 y2 l2 ⟨_,h2,_⟩;exact hs (h1.mono l2) h2
   cases op with
   |eql=>exact I3 rfl
   |neq=>exact zG rfl
   |sub=>simp only[binOp];exact two λh1 h2=>Id hT hG _ h1 h2
   |lss=>simp only[binOp];exact two λh1 h2=>oL hT hG _ h1 h2
   |leq=>simp only[binOp];exact two λh1 h2=>oL hT hG _ h1 h2
   |gtr=>simp only[binOp];exact two λh1 h2=>oL hT hG _ h1 h2
   |geq=>simp only[binOp];exact two λh1 h2=>oL hT hG _ h1 h2
   |_=>exact .halt _ _
  |_=>cases op<;>first|exact I3 rfl|exact zG rfl|exact .halt _ _
 |mD=>
  cases hy with
  |hole _=>exact absurd rfl XU
  |int k b=>
   cases op with
   |eql=>exact I3 rfl
   |neq=>exact zG rfl
   |add=>
    simp only[binOp];refine ae _ (ar hT t) ?_;rintro σ d _ l ⟨rfl,_⟩;split
    .exact oP hT #[] t .mD (.int k b)
    .exact fE hT t .mD (.int k b)
   |sub=>simp only[binOp];exact fE hT t .mD (.int k _)
   |_=>exact .halt _ _
  |_=>cases op<;>first|exact I3 rfl|exact zG rfl|exact .halt _ _
 |_=>
  by_cases he:DH op=true
  .cases hy with
   |hole _=>exact absurd rfl XU
   |_=>cases op<;>first|cases he;done|(simp only[binOp];exact I3 rfl)|(simp only[binOp];exact zG rfl)
  .refine Pb (DQ op t y he ?_ ?_ ?_ ?_ ?_)<;>simp
end
section
variable {ok:Ctx}{ρ:Ren}
def OW (P:Program)(t:TypeId):Bool:=
 match P.underlying t with
 |some (.slice _)|some .string=>true
 |_=>false
def DO (P:Program)(ts:Array TypeId):Bool:=
 match ts[0]?,ts[1]? with
 |some s,some x=>FV P s&&OW P x
 |_,_=>false
def tJ (h:aw ok ρ x x'):af P0 P ok str (λ_ x y=>x=y) ρ (Builtin.lenOf x) (Builtin.lenOf x'):=by
 unfold Builtin.lenOf;cases h with
 |dH l c=>exact ag rfl
 |slice l c r=>exact ag rfl
 |string s=>exact ag rfl
 |_=>exact .halt _ _
def dN (size n:Nat)(h:aw ok ρ x x'):af P0 P ok str (λσ x y=>ax ok σ x y) ρ (Builtin.firstCells size n x) (Builtin.firstCells size n x'):=by
 unfold Builtin.firstCells;cases h with
 |dH l c=>exact ag ax.nil
 |slice l c r=>exact tK r _
 |string s=>exact ag ⟨rfl,λi x x' h h'=>by
   rw[h]at h';cases h';rw[Array.getElem?_map]at h;obtain⟨b,_,rfl⟩:=adn.1 h;exact .int _ _⟩
 |_=>exact .halt _ _
omit [Gl] in
def yS {s:Sem α}{f:α->Sem β}(h:Result.stops (Sem.run P s V)=true):Result.stops (Sem.run P (s >>= f) V)=true:=by
 rw[Sem.run_bind];generalize Sem.run P s V=r at h;cases r with
 |ok a w=>cases h
 |halt x w=>exact h
omit [Gl] in
def vz {s:Sem α}{f:α->Sem β}(h:∃a,Sem.run P s V=.ok a V)(hf:∀a w,Result.stops (Sem.run P (f a) w)=true):Result.stops (Sem.run P (s >>= f) V)=true:=by
 let⟨a,h⟩:=h;rw[Sem.run_bind,h];exact hf a V
omit [Gl] in
def oD {s:Sem α}{f:α->Sem β}(h:∃a,Sem.run P s V=.ok a V)(hf:∀a,∃b,Sem.run P (f a) V=.ok b V):∃b,Sem.run P (s >>= f) V=.ok b V:=by
 let⟨a,h⟩:=h;rw[Sem.run_bind,h];exact hf a
omit [Gl] in
def g9 (P:Program)(a:α)(V:World):∃b,Sem.run P (pure a:Sem α) V=.ok b V:=⟨a,Sem.run_pure _ _ _⟩
omit [Gl] in
def xI (P:Program)(a:Addr)(k:Nat)(V:World):∃b,Sem.run P (Builtin.holdsCells a k) V=.ok b V:=by
 unfold Builtin.holdsCells;refine oD ⟨_,run_shape _ _ _⟩ λs=>?_
 cases s with
 |none=>exact g9 _ _ _
 |some q=>exact g9 _ _ _
omit [Gl] in
def vg (P:Program)(size oK n:Nat)(base:Option Addr)(x:Value)(V:World):∃b,Sem.run P (Builtin.mayShare size oK n base x) V=.ok b V:=by
 unfold Builtin.mayShare;cases base with
 |none=>
  dsimp only;refine oD (g9 _ true _) λthere=>?_
  cases there
  .exact g9 _ _ _
  .cases x with
   |slice a' l c=>
    cases a' with
    |none=>exact g9 _ _ _
    |some a'=>exact oD (s:=Builtin.holdsCells a'<|n*size) (xI _ _ _ _) λb=>g9 _ _ _
   |_=>exact g9 _ _ _
 |some a=>
  dsimp only;refine oD (s:=Builtin.holdsCells a<|oK*size) (xI _ _ _ _) λb=>?_
  refine oD ⟨_,run_frozen _ _ _⟩ λc=>?_
  refine oD (g9 _ (b&&!c) _) λthere=>?_
  cases there
  .exact g9 _ _ _
  .cases x with
   |slice a' l c=>
    cases a' with
    |none=>exact g9 _ _ _
    |some a'=>exact oD (s:=Builtin.holdsCells a'<|n*size) (xI _ _ _ _) λb=>g9 _ _ _
   |_=>exact g9 _ _ _
def fX {z z':Value}(h:aw ok ρ z z')(n:Nat):ax ok ρ (Builtin.zeroCells z.cells n) (Builtin.zeroCells z'.cells n):=by
 have hc:=h.cells;unfold Builtin.zeroCells;rw[<-hc.size];refine⟨aG,λi x x' hx dK=>?_⟩;rw[Array.getElem?_map]at hx dK;obtain⟨k,hk,rfl⟩:=adn.1 hx;obtain⟨k',po,rfl⟩:=adn.1 dK;rw[hk]at po;cases po;by_cases gE:z.cells.size=0
 .rw[gE,Nat.mul_zero]at hk;simp at hk
 .have ay:k%z.cells.size<z.cells.size:=Nat.mod_lt _ ab;have g1:z.cells[k%z.cells.size]?=some z.cells[k%z.cells.size]!:=by simp[ay]
  have dq:k%z.cells.size<z'.cells.size:=by rw[<-hc.size];exact ay
  have g2:z'.cells[k%z.cells.size]?=some z'.cells[k%z.cells.size]!:=by simp[dq]
  exact hc.at_ _ _ _ g1 g2
def Lt (hT:P0.toTables=P.toTables)(ts:Array TypeId)(t:TypeId)(hb:DO P ts=true)(h:ax ok ρ xs xs'):af P0 P ok str (aw ok) ρ (Builtin.append_ ts t xs) (Builtin.append_ ts t xs'):=by
 unfold Builtin.append_;unfold DO at hb;cases h0:ts[0]? with
 |none=>rw[h0]at hb;simp at hb
 |some sT=>
  cases h1:ts[1]? with
  |none=>rw[h0,h1]at hb;simp at hb
  |some xT=>
   rw[h0,h1]at hb;simp only[Bool.and_eq_true]at hb;cases hs:xs[0]? with
   |none=>exact .halt _ _
   |some s=>
    let⟨s',mL,rs⟩:=h.get hs;cases hx:xs[1]? with
    |none=>exact .halt _ _
    |some x=>
     let⟨x',dK,rx⟩:=h.get hx;rw[mL,dK];dsimp only;refine ae _ (ar hT sT) ?_;rintro σ d _ l ⟨rfl,hd⟩;have rs:=rs.mono l;have rx:=rx.mono l;cases d with
     |slice elem=>
      have hz:F9 P elem=true:=by have:=hb.1;unfold FV at this;rw[hd]at this;exact this
      cases rs with
      |dH oK Fp=>
       dsimp only;refine ae _ (dc hT elem) ?_;rintro σ1 size _ l1 ⟨rfl,_⟩;refine ae _ (ar hT xT) ?_;rintro PN d2 _ l2 ⟨rfl,Vx⟩;have rx:=(rx.mono l1).mono l2;have F5:=hb.2;unfold OW at F5;rw[Vx]at F5;cases d2<;>first|cases F5|skip
       all_goals
        refine ba ?_;simp only[Bool.false_eq_true,if_false,Bool.not_false,if_true,false_or];refine ae _ (tJ rx) ?_;rintro σ3 n _ l3 rfl;have rx:=rx.mono l3;split
        .refine ae _ (dN size n rx) ?_;intro τ new Hu l4 hn;exact ag<|.dH _ _
        .refine ae _ (bH hT elem) ?_;rintro τ i _ l4 ⟨rfl,_⟩;split
         .exact ae (λ_ _ _=>False) (eY hT _ rfl) (λ_ _ _ _ h=>h.elim)
         .refine ae _ (bH hT elem) ?_;rintro τ1 i1 _ l5 ⟨rfl,_⟩;split
          .refine af.dead _ _ λV=>?_
           refine yS<|vz (vg _ _ _ _ _ _ _) λb w=>?_;split
           .rfl
           .rfl
          .refine af.choose _ λHv=>?_
           refine ba ?_;refine ae _ (bH hT elem) ?_;rintro υ1 i _ k1 ⟨rfl,_⟩;refine ae _ (lF _) ?_;intro υ2 _ _ k2 _;refine ae _ (dN size oK<|.dH _ _) ?_;intro υ3 old Wt k3 ho;refine ae _ (dN size n<|(((rx.mono<|l4.trans l5).mono k1).mono k2).mono k3) ?_;intro υ4 new Hu k4 hn;refine ae _ (iU hT elem hz) ?_;intro υ5 z z' k5 Ob;refine ae _ (iw elem<|ax.append (ax.append ((ho.mono k4).mono k5)<|hn.mono k5)<|fX Ob _) ?_;intro υ6 r r' k6 hr;exact ag (.slice _ _ hr)
      |@slice a a' oK Fp ra=>
       dsimp only;refine ae _ (dc hT elem) ?_;rintro σ1 size _ l1 ⟨rfl,_⟩;refine ae _ (ar hT xT) ?_;rintro PN d2 _ l2 ⟨rfl,Vx⟩;have rx:=(rx.mono l1).mono l2;have ra:=(ra.mono l1).mono l2;have F5:=hb.2;unfold OW at F5;rw[Vx]at F5;cases d2<;>first|cases F5|skip
       all_goals
        refine ba ?_;simp only[Bool.false_eq_true,if_false,Bool.not_false,if_true,false_or];refine ae _ (tJ rx) ?_;rintro σ3 n _ l3 rfl;have rx:=rx.mono l3;have ra:=ra.mono l3;split
        .refine ae _ (dN size n rx) ?_;intro τ new Hu l4 hn;refine ae _ (gT _ _ ((ra.mono l4).add _) 0 hn.list) ?_;intro τ2 _ _ l5 _;exact ag<|.slice _ _<|(ra.mono l4).mono l5
        .refine ae _ (bH hT elem) ?_;rintro τ i _ l4 ⟨rfl,_⟩;split
         .exact ae (λ_ _ _=>False) (eY hT _ rfl) (λ_ _ _ _ h=>h.elim)
         .refine ae _ (bH hT elem) ?_;rintro τ1 i1 _ l5 ⟨rfl,_⟩;split
          .refine af.dead _ _ λV=>?_
           refine yS<|vz (vg _ _ _ _ _ _ _) λb w=>?_;split
           .rfl
           .rfl
          .refine af.choose _ λHv=>?_
           refine ba ?_;refine ae _ (bH hT elem) ?_;rintro υ1 i _ k1 ⟨rfl,_⟩;refine ae _ (lF _) ?_;intro υ2 _ _ k2 _;refine ae _ (dN size oK<|.slice _ _<|((ra.mono<|l4.trans l5).mono k1).mono k2) ?_;intro υ3 old Wt k3 ho;refine ae _ (dN size n<|(((rx.mono<|l4.trans l5).mono k1).mono k2).mono k3) ?_;intro υ4 new Hu k4 hn;refine ae _ (iU hT elem hz) ?_;intro υ5 z z' k5 Ob;refine ae _ (iw elem<|ax.append (ax.append ((ho.mono k4).mono k5)<|hn.mono k5)<|fX Ob _) ?_;intro υ6 r r' k6 hr;exact ag (.slice _ _ hr)
      |_=>exact .halt _ _
     |_=>exact .halt _ _
end
section
variable {ok:Ctx}{ρ:Ren}
def MW (P:Program)(ts:Array TypeId):Bool:=
 match ts[0]? with
 |some s=>(match P.underlying s with|some (.slice e)=>F9 P e|_=>false)
 |_=>false
def Pa (hT:P0.toTables=P.toTables)(ts:Array TypeId)(t:TypeId)(hb:MW P ts=true)(h:ax ok ρ xs xs'):af P0 P ok str (aw ok) ρ (Builtin.clear_ ts t xs) (Builtin.clear_ ts t xs'):=by
 unfold Builtin.clear_;unfold MW at hb;cases h0:ts[0]? with
 |none=>rw[h0]at hb;simp at hb
 |some sT=>
  rw[h0]at hb;simp only at hb;cases hs:xs[0]? with
  |none=>exact .halt _ _
  |some s=>
   let⟨s',mL,rs⟩:=h.get hs;rw[mL];dsimp only;refine ae _ (ar hT sT) ?_;rintro σ d _ l ⟨rfl,hd⟩;have rs:=rs.mono l;have fin:∀{υ:Ren},af P0 P ok str (aw ok) υ (pure (.tuple #[]):Sem Value) (pure<|.tuple #[]):=ag (.tuple rfl λi x x' hx _=>by simp at hx);cases d with
   |slice elem=>
    have hz:F9 P elem=true:=by rw[hd]at hb;exact hb
    cases rs with
    |dH n c=>exact fin
    |@slice a a' n c ra=>
     cases n with
     |zero=>exact fin
     |succ n=>
      refine ae _ (iU hT elem hz) ?_;intro υ z z' k Ob;exact ae _ (gT _ _ (ra.mono k) 0 (fX Ob _).list) (λυ _ _ _ _=>fin)
    |_=>exact .halt _ _
   |_=>rw[hd]at hb;cases hb
def IX (P:Program)(ts:Array TypeId):Bool:=
 match ts[0]?,ts[1]? with
 |some s,some x=>(match P.underlying s with|some (.slice e)=>F9 P e|_=>false)&&(match P.underlying x with|some (.int _)=>true|_=>false)
 |_,_=>false
def Ie (hT:P0.toTables=P.toTables)(ts:Array TypeId)(t:TypeId)(hb:IX P ts=true)(h:ax ok ρ xs xs'):af P0 P ok str (aw ok) ρ (Builtin.append_ ts t xs) (Builtin.append_ ts t xs'):=by
 unfold Builtin.append_;unfold IX at hb;cases h0:ts[0]? with
 |none=>rw[h0]at hb;simp at hb
 |some sT=>
  cases h1:ts[1]? with
  |none=>rw[h0,h1]at hb;simp at hb
  |some xT=>
   rw[h0,h1]at hb;simp only[Bool.and_eq_true]at hb;cases hs:xs[0]? with
   |none=>exact .halt _ _
   |some s=>
    let⟨s',mL,rs⟩:=h.get hs;cases hx:xs[1]? with
    |none=>exact .halt _ _
    |some x=>
     let⟨x',dK,rx⟩:=h.get hx;rw[mL,dK];dsimp only;refine ae _ (ar hT sT) ?_;rintro σ d _ l ⟨rfl,hd⟩;have rs:=rs.mono l;have rx:=rx.mono l;cases d with
     |slice elem=>
      have hz:F9 P elem=true:=by have:=hb.1;rw[hd]at this;exact this
      have pi:∀{υ:Ren} (n size:Nat),af P0 P ok str (λσ x y=>ax ok σ x y) υ (if n*size=0 then pure #[]else do pure (Builtin.zeroCells (<-zeroValue elem).cells n)) (if n*size=0 then pure #[]else do pure (Builtin.zeroCells (<-zeroValue elem).cells n)):=by
       intro υ n size;split
       .exact ag ax.nil
       .refine ae _ (iU hT elem hz) ?_;intro υ1 z z' k Ob;exact ag<|fX Ob _
      cases rs with
      |dH oK Fp=>
       dsimp only;refine ae _ (dc hT elem) ?_;rintro σ1 size _ l1 ⟨rfl,_⟩;refine ae _ (ar hT xT) ?_;rintro PN d2 _ l2 ⟨rfl,Vx⟩;have rx:=(rx.mono l1).mono l2;have F5:=hb.2;rw[Vx]at F5;cases d2<;>first|cases F5|skip
       refine ba ?_;simp only[if_true,Bool.not_true,Bool.false_eq_true,if_false,true_or,and_true];refine ae _ (nB rx) ?_;rintro σ3 v _ l3 rfl;split
       .exact ae (λ_ _ _=>False) (eY hT _ rfl) (λ_ _ _ _ h=>h.elim)
       .refine ae _ (bH hT elem) ?_;rintro σ4 i4 _ l4 ⟨rfl,_⟩;split
        .refine af.choose _ λmade=>?_
         refine ba ?_;exact ae (λ_ _ _=>False) (eY hT _ rfl) λ_ _ _ _ h=>h.elim
        .refine ba ?_;split
         .refine ae _ (pi _ size) ?_;intro τ new Hu l5 hn;exact ag<|.dH _ _
         .refine ae _ (bH hT elem) ?_;rintro τ i _ l5 ⟨rfl,_⟩;split
          .exact ae (λ_ _ _=>False) (eY hT _ rfl) (λ_ _ _ _ h=>h.elim)
          .refine ae _ (bH hT elem) ?_;rintro τ1 i1 _ l6 ⟨rfl,_⟩;split
           .exact ae (λ_ _ _=>False) (eY hT _ rfl) (λ_ _ _ _ h=>h.elim)
           .refine af.choose _ λHv=>?_
            refine ba ?_;refine ae _ (bH hT elem) ?_;rintro υ1 i _ k1 ⟨rfl,_⟩;refine ae _ (lF _) ?_;intro υ2 _ _ k2 _;refine ae _ (dN size oK<|.dH _ _) ?_;intro υ3 old Wt k3 ho;refine ae _ (pi _ size) ?_;intro υ4 new Hu k4 hn;refine ae _ (iU hT elem hz) ?_;intro υ5 z z' k5 Ob;refine ae _ (iw elem<|ax.append (ax.append ((ho.mono k4).mono k5)<|hn.mono k5)<|fX Ob _) ?_;intro υ6 r r' k6 hr;exact ag (.slice _ _ hr)
      |@slice a a' oK Fp ra=>
       dsimp only;refine ae _ (dc hT elem) ?_;rintro σ1 size _ l1 ⟨rfl,_⟩;refine ae _ (ar hT xT) ?_;rintro PN d2 _ l2 ⟨rfl,Vx⟩;have rx:=(rx.mono l1).mono l2;have ra:=(ra.mono l1).mono l2;have F5:=hb.2;rw[Vx]at F5;cases d2<;>first|cases F5|skip
       refine ba ?_;rw[if_pos rfl,if_pos rfl];refine ae _ (nB rx) ?_;rintro σ3 v _ l3 rfl;by_cases ay:IntKind.i64.wrap v<0
       .rw[if_pos ay,if_pos ay];exact ae (λ_ _ _=>False) (eY hT _ rfl) λ_ _ _ _ h=>h.elim
       .rw[if_neg ay,if_neg ay];refine ae _ (bH hT elem) ?_;rintro σ4 i4 _ l4 ⟨rfl,_⟩;by_cases XB:IntKind.i64.wrap v*i4.bytes>2^48
        .rw[if_pos XB,if_pos XB];refine af.choose _ λmade=>?_
         refine ba ?_;exact ae (λ_ _ _=>False) (eY hT _ rfl) λ_ _ _ _ h=>h.elim
        .rw[if_neg XB,if_neg XB];refine ba ?_;simp only[if_true,Bool.not_true,Bool.false_eq_true,if_false,true_or,and_true];split
         .refine ae _ (pi _ size) ?_;intro τ new Hu l5 hn;refine ae _ (gT _ _ ((((ra.mono l3).mono l4).mono l5).add _) 0 hn.list) ?_;intro τ2 _ _ l6 _;exact ag<|.slice _ _<|(((ra.mono l3).mono l4).mono l5).mono l6
         .refine ae _ (bH hT elem) ?_;rintro τ i _ l5 ⟨rfl,_⟩;split
          .exact ae (λ_ _ _=>False) (eY hT _ rfl) (λ_ _ _ _ h=>h.elim)
          .refine ae _ (bH hT elem) ?_;rintro τ1 i1 _ l6 ⟨rfl,_⟩;split
           .exact ae (λ_ _ _=>False) (eY hT _ rfl) (λ_ _ _ _ h=>h.elim)
           .refine af.choose _ λHv=>?_
            refine ba ?_;refine ae _ (bH hT elem) ?_;rintro υ1 i _ k1 ⟨rfl,_⟩;refine ae _ (lF _) ?_;intro υ2 _ _ k2 _;refine ae _ (dN size oK<|.slice _ _<|(((((ra.mono l3).mono l4).mono l5).mono l6).mono k1).mono k2) ?_;intro υ3 old Wt k3 ho;refine ae _ (pi _ size) ?_;intro υ4 new Hu k4 hn;refine ae _ (iU hT elem hz) ?_;intro υ5 z z' k5 Ob;refine ae _ (iw elem<|ax.append (ax.append ((ho.mono k4).mono k5)<|hn.mono k5)<|fX Ob _) ?_;intro υ6 r r' k6 hr;exact ag (.slice _ _ hr)
      |_=>exact .halt _ _
     |_=>exact .halt _ _
def M7 (P:Program)(ts:Array TypeId):Bool:=
 match ts[0]? with
 |some s=>(match P.underlying s with|some (.slice _)=>true|_=>false)
 |_=>false
def Si (hT:P0.toTables=P.toTables)(ts:Array TypeId)(t:TypeId)(hb:M7 P ts=true)(h:ax ok ρ xs xs'):af P0 P ok str (aw ok) ρ (Builtin.copy_ ts t xs) (Builtin.copy_ ts t xs'):=by
 unfold Builtin.copy_;unfold M7 at hb;cases h0:ts[0]? with
 |none=>rw[h0]at hb;simp at hb
 |some sT=>
  rw[h0]at hb;simp only at hb;cases hs:xs[0]? with
  |none=>exact .halt _ _
  |some s=>
   let⟨s',mL,rs⟩:=h.get hs;rw[mL];cases hx:xs[1]? with
   |none=>exact .halt _ _
   |some x=>
    let⟨x',dK,rx⟩:=h.get hx;rw[dK];dsimp only;refine ae _ (ar hT sT) ?_;rintro σ d _ l ⟨rfl,hd⟩;have rs:=rs.mono l;have rx:=rx.mono l;cases d with
    |slice elem=>
     cases rs with
     |dH n c=>
      refine ae _ (tJ rx) ?_;rintro σ1 k _ l1 rfl;refine ae _ (dc hT elem) ?_;rintro PN z _ l2 ⟨rfl,_⟩;refine ae _ (dN _ _<|(rx.mono l1).mono l2) ?_;intro σ3 ys Dt l3 hy;exact ag (.int _ _)
     |@slice a a' n c ra=>
      refine ae _ (tJ rx) ?_;rintro σ1 k _ l1 rfl;refine ae _ (dc hT elem) ?_;rintro PN z _ l2 ⟨rfl,_⟩;refine ae _ (dN _ _<|(rx.mono l1).mono l2) ?_;intro σ3 ys Dt l3 hy;refine ae _ (gT _ _ (((ra.mono l1).mono l2).mono l3) 0 hy.list) ?_;intro σ4 _ _ l4 _;exact ag (.int _ _)
     |_=>exact .halt _ _
    |_=>rw[hd]at hb;cases hb
def vb (P:Program)(op:BinOp)(t:TypeId)(y:Operand):Bool:=DH op&&(match P.underlying t with|some (.interface _)=>true|_=>false)&&(match y with|.const .nilIface=>true|_=>false)
omit [Gl] in
def Jq {op:BinOp}{y:Operand}(h:vb P op t y=true):y=.const .nilIface:=by
 unfold vb at h;rw[adx]at h;have h2:=h.2;split at h2
 .rfl
 .cases h2
def Pc (hT:P0.toTables=P.toTables)(op:BinOp)(t:TypeId)(x y:Operand)(hn:vb P op t y=true){a a':Value}(h:aw ok ρ a a'):
  af P0 P ok str (aw ok) ρ (do eqGuard op t x y a .nilIface;binOp op t a .nilIface) (do eqGuard op t x y a' .nilIface;binOp op t a' .nilIface):=by
 have hy:=Jq hn;subst hy;unfold vb at hn;rw[adx,adx]at hn;let⟨⟨h1,h2⟩,_⟩:=hn;obtain⟨ms,hu⟩:∃ms,P.underlying t=some (.interface ms):=by
  split at h2
  .rename_i ms hu;exact⟨ms,hu⟩
  .cases h2
 have hu0:P0.underlying t=some (.interface ms):=by rw[uD hT];exact hu
 have heq:∀{σ:Ren} {a a':Value},aw ok σ a a'->a≠hole->af P0 P ok str (λ_ x y=>x=y) σ (Op.equal t a .nilIface) (Op.equal t a' .nilIface):=by
  intro σ a a' h hne;show af P0 P ok str _ σ (Op.equalIn (9999+1) t a .nilIface) (Op.equalIn (9999+1) t a' .nilIface);unfold Op.equalIn;refine ae _ (ar hT t) ?_;rintro τ d _ _ ⟨rfl,hd⟩;rw[hu]at hd;obtain rfl:=ac9 hd;cases h with
  |hole _=>exact(hne rfl).elim
  |nilIface=>exact ag rfl
  |iface t h=>exact ag rfl
  |_=>exact .halt _ _
 by_cases hh:a=hole
 .subst hh;refine .dead _ _ λV=>?_
  have e:(Op.equal t hole .nilIface).run P0 V=.halt (.stuck "==: the operands do not fit the type, or the type is not comparable") V:=by
   show(Op.equalIn (9999+1) t hole .nilIface).run P0 V=_;unfold Op.equalIn;rw[Sem.run_bind,run_underlying hu0];rfl
  rw[Sem.run_bind];cases op with
  |eql=>show Result.stops ((do pure (.bool<|<-Op.equal t hole .nilIface):Sem Value).run P0 V)=true;rw[Sem.run_bind,e];rfl
  |neq=>show Result.stops ((do pure (.bool<|!(<-Op.equal t hole .nilIface)):Sem Value).run P0 V)=true;rw[Sem.run_bind,e];rfl
  |_=>cases h1
 .have hg:af P0 P ok str (λ_ _ _=>True) ρ (eqGuard op t x (.const .nilIface) a .nilIface) (eqGuard op t x (.const .nilIface) a' .nilIface):=by
   unfold eqGuard;cases op with
   |eql=>
    cases h with
    |nilIface=>simp;exact ag trivial
    |hole _=>exact(hh rfl).elim
    |_=>exact ag trivial
   |neq=>
    cases h with
    |nilIface=>simp;exact ag trivial
    |hole _=>exact(hh rfl).elim
    |_=>exact ag trivial
   |_=>cases h1
  refine ae _ hg ?_;intro σ _ _ l _;have hσ:=h.mono l;cases op with
  |eql=>
   have:∀v:Value,binOp .eql t v .nilIface=(do pure (.bool<|<-Op.equal t v .nilIface)):=λv=>by cases v<;>rfl
   rw[this,this];refine ae _ (heq hσ hh) ?_;rintro _ x _ _ rfl;exact ag (.bool _)
  |neq=>
   have:∀v:Value,binOp .neq t v .nilIface=(do pure (.bool<|!(<-Op.equal t v .nilIface))):=λv=>by cases v<;>rfl
   rw[this,this];refine ae _ (heq hσ hh) ?_;rintro _ x _ _ rfl;exact ag (.bool _)
  |_=>cases h1
end
end
def yT {fs:Array Field}(h:Made.reckonStruct info fs=some i):i.methods=#[]:=by
 unfold Made.reckonStruct at h;simp only[bind,Option.bind_eq_some_iff]at h;let⟨r,_,h⟩:=h;split at h<;>(simp only[pure,Option.some.injEq]at h;subst h;rfl)
def yz {d:TypeDesc}(h:Made.reckon info d=some i):i.methods=#[]:=by
 unfold Made.reckon at h;cases d with
 |struct fs=>exact yT h
 |pointer e=>
  simp only[bind,Option.bind_eq_some_iff,pure]at h;let⟨j,_,h⟩:=h;split at h
  .cases h
  .split at h
   .cases h
   .let⟨s,_,h⟩:=ado.1 h;cases h;rfl
  .let⟨s,_,h⟩:=ado.1 h;cases h;rfl
 |slice e=>
  simp only[bind,Option.bind_eq_some_iff,pure]at h;let⟨_,_,_,_,h⟩:=h;cases h;rfl
 |map k e=>
  simp only[bind,Option.bind_eq_some_iff,pure]at h;let⟨_,_,_,_,_,_,_,_,h⟩:=h;cases h;rfl
 |chan k e=>
  simp only[bind,Option.bind_eq_some_iff,pure]at h;let⟨_,_,_,_,h⟩:=h;cases h;rfl
 |func a b c=>
  simp only[bind,Option.bind_eq_some_iff,pure]at h;let⟨_,_,h⟩:=h;cases h;rfl
 |array n e=>
  simp only[bind,Option.bind_eq_some_iff,pure]at h;let⟨_,_,_,_,h⟩:=h;cases h;rfl
 |_=>cases h
def CA {T:Tables}(ht:¬t<T.types.size)(h:T.info? t=some i):i.methods=#[]:=by
 unfold Tables.info? at h;rw[if_neg ht]at h;have:Made.depth=99+1:=rfl;rw[this]at h;unfold Made.infoAt at h;rw[if_neg ht]at h;let⟨d,_,h⟩:=ado.1 h;exact yz h
def Oq (fn:FuncId->Bool)(m:Method):Bool:=m.path.all (λs=>!s.deref)&&(match m.func with|some (f,_)=>fn f|none=>false)
def yd (P:Program)(fn:FuncId->Bool)(name:String):Bool:=P.types.all λi=>i.methods.all λm=>m.name !=name||Oq fn m
def K4 {fn:FuncId->Bool}{name:String}(h:yd P fn name=true)(hi:P.info? t=some i){m:Method}(hm:i.methods.find? (·.name==name)=some m):Oq fn m=true:=by
 by_cases ht:t<P.types.size
 .unfold Tables.info? at hi;rw[if_pos ht]at hi;unfold yd at h;rw[Array.all_eq_true]at h;let⟨_,e⟩:=ac5.1 hi;have h1:=h t ht;rw[e,Array.all_eq_true]at h1;let⟨k,hk,e2⟩:=Array.getElem_of_mem<|Array.mem_of_find?_eq_some hm;have h2:=h1 k hk;rw[e2]at h2;have h3:(m.name==name)=true:=by simpa using Array.find?_some hm
  rw[bne,h3]at h2;simpa using h2
 .rw[CA ht hi]at hm;simp at hm
section
variable [Gl]{ok:Ctx}{ρ:Ren}
def Lw (hT:P0.toTables=P.toTables):∀(l:List FieldStep) (_:l.all (λs=>!s.deref)=true) {ρ:Ren} (t:TypeId) {v v':Value},aw ok ρ v v'->
  af P0 P ok str (λσ x y=>x.1=y.1/\∃u u',x.2=.val u/\y.2=.val u'/\aw ok σ u u') ρ (follow l t<|.val v) (follow l t<|.val v'):=by
 intro l;induction l with
 |nil=>intro _ ρ t v v' h;exact ag ⟨rfl,v,v',rfl,rfl,h⟩
 |cons s l ih=>
  intro hl ρ t v v' h;simp only[List.all_cons,Bool.and_eq_true,Bool.not_eq_true']at hl;unfold follow;refine ae _ (ar hT s.struct) ?_;rintro σ d _ le ⟨rfl,_⟩;cases d with
  |struct fs=>
   dsimp only;cases hf:fs[s.index]? with
   |none=>exact .halt _ _
   |some f=>
    simp only[hl.1,Bool.false_eq_true,if_false];cases h with
    |agg e h=>
     dsimp only;refine ae _ (wD hT f.type (ax.mono ⟨e,h⟩ le) f.offset) ?_;intro τ x y _ hx;exact ih hl.2 f.type hx
    |_=>exact .halt _ _
  |_=>exact .halt _ _
def Sn (hT:P0.toTables=P.toTables)(t:TypeId)(pr:Bool)(w:Option String)(h:aw ok ρ v v'):af P0 P ok str (aw ok) ρ (receiverAt t (.val v) pr w) (receiverAt t (.val v') pr w):=by
 unfold receiverAt;refine ae _ (ar hT t) ?_;rintro σ d _ le ⟨rfl,_⟩;replace h:=h.mono le;cases d with
 |pointer e=>
  cases pr with
  |true=>exact ag h
  |false=>
   have tail:∀{τ:Ren} {x y:Value},aw ok τ x y->af P0 P ok str (aw ok) τ (do loadVar e (<-asAddr x)) (do loadVar e (<-asAddr y)):=by
    intro τ x y hx;refine ae _ (uy hT hx) ?_;intro υ a a' _ r;exact sD hT e r
   dsimp only;refine ba ?_;cases w with
   |none=>exact ba (tail h)
   |some name=>
    refine ae (aw ok) ?_ λτ x y _ hx=>tail hx;unfold Builtin.ssaWrapNilChk_;cases h with
    |ptr r=>exact ag (.ptr r)
    |mD=>
     refine af.choose _ λn=>?_
     refine ba ?_;split
     .dsimp only;split
      .exact ae (λ_ _ _=>False) (eY hT .nilDeref rfl) (λ_ _ _ _ h=>h.elim)
      .refine ae _ (ar hT _) ?_;rintro τ d _ l ⟨rfl,_⟩;cases d with
       |pointer u=>
        refine ae _ (bH hT u) ?_;rintro υ i _ l ⟨rfl,_⟩;split
        .split
         .try dsimp only
          split
          .exact eY hT (.plain _) rfl
          .exact .halt _ _
         .exact .halt _ _
        .exact .halt _ _
       |_=>exact .halt _ _
     .rename_i hh;exact(hh t rfl).elim
    |_=>exact .halt _ _
 |_=>cases pr<;>first|exact ag h|exact .halt _ _
def LA (hT:P0.toTables=P.toTables)(n:Nat)(t:TypeId)(name:String)(hm:yd P ok.fn name=true)(h:aw ok ρ v v'):
  af P0 P ok str (λσ x y=>x.1=y.1/\ok.fn x.1=true/\aw ok σ x.2 y.2) ρ (method n t v name) (method n t v' name):=by
 cases n with
 |zero=>exact .halt _ _
 |succ n=>
  unfold method;refine ae _ (bH hT t) ?_;rintro σ i _ le ⟨rfl,hi⟩;cases hf:i.methods.find? (·.name==name)with
  |none=>exact .halt _ _
  |some m=>
   have hk:=K4 hm hi hf;unfold Oq at hk;rw[adx]at hk;refine ae _ (Lw hT m.path.toList (by rw[<-Array.all_toList]at hk;exact hk.1) t<|h.mono le) ?_;rintro τ ⟨xt,_⟩ ⟨_,_⟩ l ⟨rfl,u,u',rfl,rfl,hu⟩;cases hg:m.func with
   |none=>rw[hg]at hk;cases hk.2
   |some q=>
    let⟨f,pr⟩:=q;rw[hg]at hk;refine ae _ (Sn hT xt pr _ hu) ?_;intro υ x y _ hx;exact ag ⟨rfl,hk.2,hx⟩
def uA (hT:P0.toTables=P.toTables)(t:TypeId)(h:aw ok ρ v v'):af P0 P ok str (aw ok) ρ (Instr.makeInterface t v) (Instr.makeInterface t v'):=by
 unfold Instr.makeInterface;refine ae _ (ar hT t) ?_;rintro σ d _ le ⟨rfl,_⟩;cases d<;>first|exact ag (.iface t<|h.mono le)|exact .halt _ _
def Dl {a a' b b':Value}(h:aw ok ρ a a')(h':aw ok ρ b b'):aw ok ρ (.tuple #[a,b]) (.tuple #[a',b']):=by
 have:=(ax.nil.push h).push h';exact .tuple this.size this.at_
def zQ (hT:P0.toTables=P.toTables)(t a:TypeId)(hz:F9 P a=true)(h:aw ok ρ v v'):af P0 P ok str (aw ok) ρ (Instr.typeAssert v t a true) (Instr.typeAssert v' t a true):=by
 unfold Instr.typeAssert;dsimp only;have fails:∀{σ:Ren},af P0 P ok str (aw ok) σ (do pure (.tuple #[<-zeroValue a,false]):Sem Value) (do pure (.tuple #[<-zeroValue a,false])):=by
  intro σ;refine ae _ (iU hT a hz) ?_;intro τ x y _ hx;exact ag<|Dl hx<|.bool _
 refine ae _ (ar hT a) ?_;rintro σ d _ le ⟨rfl,_⟩;replace h:=h.mono le;simp only[if_true];cases d with
 |interface w=>
  cases h with
  |nilIface=>exact fails
  |iface t h=>
   dsimp only;refine ae _ (bH hT t) ?_;rintro τ i _ l ⟨rfl,_⟩;split
   .exact ag (Dl (.iface t<|h.mono l)<|.bool _)
   .exact fails
  |_=>exact .halt _ _
 |_=>
  cases h with
  |nilIface=>exact fails
  |iface t h=>dsimp only;split<;>first|exact ag (Dl h<|.bool _)|exact fails
  |_=>exact .halt _ _
end
