import Derived.Test.YtlmcblcijndipaaGreatDoora00
import Derived.Calls
import Derived.Laws.Sem
import Derived.ArgAppend
set_option linter.unusedVariables false
set_option linter.defProp false
set_option maxHeartbeats 1000000
namespace Go.Proofs.YtlmcblcijndipaaGreatDoor
open Go
variable {a a' b':Addr}{cs cs' xs xs':Array Value}{str:Bool}{e:Event}{l l':List Value}{b c r r':Nat}{o o':Obj}{Cw hi lo mx mx' oH:Option Value}{P P0:Program}{α β γ δ:Type}{t:TypeId}{info:TypeId->Option TypeInfo}{i:TypeInfo}{i' n n' v v' x x' y y':Value}{V V1 W:World}
section
class Gl where
 n:Nat
 ov:Nat:=1000000001
variable [Gl]
structure Ren where
 to:Nat->Option Nat
 inj:∀b b' c,to b=some c->to b'=some c->b=b'
 DL:∀b c,to b=some c->(b<Gl.n<->c<Gl.n)
instance :CoeFun Ren (λ_=>Nat->Option Nat):=⟨Ren.to⟩
def Ren.le (ρ σ:Ren):Prop:=∀b c,ρ b=some c->σ b=some c
def Ren.le_refl (ρ:Ren):ρ.le ρ:=λ_ _ h=>h
def Ren.le.trans {ρ σ τ:Ren}(h:ρ.le σ)(h':σ.le τ):ρ.le τ:=λb c e=>h' b c<|h b c e
def Ren.ext (ρ:Ren)(n m:Nat)(h:∀b c,ρ b=some c->b≠n/\c≠m)(hn:Gl.n<=n)(hm:Gl.n<=m):Ren:=⟨λb=>if b=n then some m else ρ b,λb b' c hb dw=>by
 split at hb<;>split at dw
 .omega
 .simp only[Option.some.injEq]at hb;exact absurd hb.symm (h _ _ dw).2
 .simp only[Option.some.injEq]at dw;exact absurd dw.symm (h _ _ hb).2
 .exact ρ.inj _ _ _ hb dw,λb c hb=>by
 split at hb
 .simp only[Option.some.injEq]at hb;omega
 .exact ρ.DL _ _ hb⟩
structure dI (ρ:Ren)(a a':Addr):Prop where
 blk:ρ a.block=some a'.block
 off:a'.off=a.off
 spot:a'.spot=a.spot
def dI.mono {ρ σ:Ren}(h:dI ρ a a')(l:ρ.le σ):dI σ a a':=⟨l _ _ h.blk,h.off,h.spot⟩
def dI.add {ρ:Ren}(h:dI ρ a a')(n:Nat):dI ρ (a.add n) (a'.add n):=by
 unfold Addr.add;split
 .exact h
 .exact⟨h.blk,by simp[h.off],rfl⟩
structure Ctx where
 fn:FuncId->Bool
 bh:FuncId->Bool
 code:Code->Bool
inductive wi (ok:Ctx)(ρ:Ren):Fn->Fn->Prop
 |func {f:FuncId}:ok.fn f=true->wi ok ρ (.func f) (.func f)
 |yield {l l':Nat}:ρ l=some l'->wi ok ρ (.yield l) (.yield l')
def hole:Value:=.func (.method "") #[.iface 1000000000<|.chan none] #[]
def Y0:Value->Bool
 |.agg _|.tuple _|.pointer none|.nilFunc|.nilIface|.bool _|.int _ _|.string _|.slice none _ _=>false
 |_=>true
inductive ar (ok:Ctx)(ρ:Ren):Value->Value->Prop
 |hole {v:Value}:Y0 v=true->ar ok ρ hole v
 |bool (b:Bool):ar ok ρ (.bool b) (.bool b)
 |int (k:IntKind) (n:Int):ar ok ρ (.int k n) (.int k n)
 |string (s:ByteArray):ar ok ρ (.string s) (.string s)
 |mz:ar ok ρ (.pointer none) (.pointer none)
 |ptr {a a':Addr}:dI ρ a a'->ar ok ρ (.pointer<|some a) (.pointer<|some a')
 |dH (l c:Nat):ar ok ρ (.slice none l c) (.slice none l c)
 |slice {a a':Addr} (l c:Nat):dI ρ a a'->ar ok ρ (.slice (some a) l c) (.slice (some a') l c)
 |nilFunc:ar ok ρ .nilFunc .nilFunc
 |nilIface:ar ok ρ .nilIface .nilIface
 |iface (t:TypeId) {v v':Value}:ar ok ρ v v'->ar ok ρ (.iface t v) (.iface t v')
 |func {f f':Fn} {xs xs' ys C6:Array Value}:wi ok ρ f f'->xs.size=xs'.size->(∀(i:Nat) (x x':Value),xs[i]?=some x->xs'[i]?=some x'->ar ok ρ x x')->
   ys.size=C6.size->(∀(i:Nat) (x x':Value),ys[i]?=some x->C6[i]?=some x'->ar ok ρ x x')->ar ok ρ (.func f xs ys) (.func f' xs' C6)
 |agg {xs xs':Array Value}:xs.size=xs'.size->(∀(i:Nat) (x x':Value),xs[i]?=some x->xs'[i]?=some x'->ar ok ρ x x')->ar ok ρ (.agg xs) (.agg xs')
 |tuple {xs xs':Array Value}:xs.size=xs'.size->(∀(i:Nat) (x x':Value),xs[i]?=some x->xs'[i]?=some x'->ar ok ρ x x')->ar ok ρ (.tuple xs) (.tuple xs')
structure ax (ok:Ctx)(ρ:Ren)(xs xs':Array Value):Prop where
 size:xs.size=xs'.size
 at_:∀(i:Nat) (x x':Value),xs[i]?=some x->xs'[i]?=some x'->ar ok ρ x x'
section
variable {ok:Ctx}{ρ σ:Ren}
def wi.mono {f f':Fn}(h:wi ok ρ f f')(l:ρ.le σ):wi ok σ f f':=by
 cases h with
 |func h=>exact .func h
 |yield h=>exact .yield<|l _ _ h
def ar.mono (h:ar ok ρ v v')(l:ρ.le σ):ar ok σ v v':=by
 induction h with
 |hole h=>exact .hole h
 |bool b=>exact .bool b
 |int k n=>exact .int k n
 |string s=>exact .string s
 |mz=>exact .mz
 |ptr h=>exact .ptr (h.mono l)
 |dH l c=>exact .dH l c
 |slice n c h=>exact .slice n c (h.mono l)
 |nilFunc=>exact .nilFunc
 |nilIface=>exact .nilIface
 |iface t _ ih=>exact .iface t ih
 |func hf e1 _ e2 _ i1 i2=>exact .func (hf.mono l) e1 i1 e2 i2
 |agg e _ ih=>exact .agg e ih
 |tuple e _ ih=>exact .tuple e ih
def ax.mono (h:ax ok ρ xs xs')(l:ρ.le σ):ax ok σ xs xs':=⟨h.size,λi x x' a b=>(h.at_ i x x' a b).mono l⟩
def ax.get (h:ax ok ρ xs xs'){i:Nat}(hx:xs[i]?=some x):∃x',xs'[i]?=some x'/\ar ok ρ x x':=by
 have aB:i<xs.size:=(ac7.1 hx).1;have h':xs'[i]?=some (xs'[i]'(by rw[<-h.size];exact aB)):=adc _
 exact⟨_,h',h.at_ _ _ _ hx h'⟩
def ax.none (h:ax ok ρ xs xs'){i:Nat}(hx:xs[i]?=none):xs'[i]?=none:=by
 rw[Array.getElem?_eq_none_iff]at hx⊢;rw[<-h.size];exact hx
def lF:ar ok ρ undef undef:=.tuple rfl λi x x' h=>by simp at h
def ax.getD (h:ax ok ρ xs xs')(i:Nat):ar ok ρ (xs.getD i undef) (xs'.getD i undef):=by
 cases hx:xs[i]? with
 |none=>simp only[Array.getD_eq_getD_getElem?,hx,h.none hx,Option.getD_none];exact lF
 |some x=>
  let⟨x',dG,r⟩:=h.get hx;simp only[Array.getD_eq_getD_getElem?,hx,dG,Option.getD_some];exact r
def ax.nil:ax ok ρ #[] #[]:=⟨rfl,λi x x' h=>by simp at h⟩
def ax.push (h:ax ok ρ xs xs')(hv:ar ok ρ v v'):ax ok ρ (xs.push v) (xs'.push v'):=by
 refine⟨by simp[h.size],λi x x' hx dG=>?_⟩;rw[Array.getElem?_push]at hx dG;rw[<-h.size]at dG;split at hx
 .rename_i e;simp only[Option.some.injEq]at hx;rw[if_pos e]at dG;simp only[Option.some.injEq]at dG;subst hx;subst dG;exact hv
 .rename_i e;rw[if_neg e]at dG;exact h.at_ i x x' hx dG
def ax.set (h:ax ok ρ xs xs')(hv:ar ok ρ v v')(j:Nat):ax ok ρ (xs.setIfInBounds j v) (xs'.setIfInBounds j v'):=by
 refine⟨by simp[h.size],λi x x' hx dG=>?_⟩;rw[Array.getElem?_setIfInBounds]at hx dG;rw[<-h.size]at dG;by_cases e:j=i
 .rw[if_pos e]at hx dG;split at hx
  .rename_i hl;rw[if_pos hl]at dG;simp only[Option.some.injEq]at hx dG;subst hx;subst dG;exact hv
  .cases hx
 .rw[if_neg e]at hx dG;exact h.at_ i x x' hx dG
def ax.append {ys C6:Array Value}(h:ax ok ρ xs xs')(h':ax ok ρ ys C6):ax ok ρ (xs++ys) (xs'++C6):=by
 refine⟨by simp[h.size,h'.size],λi x x' hx dG=>?_⟩;rw[Array.getElem?_append]at hx dG;rw[<-h.size]at dG;by_cases e:i<xs.size
 .rw[if_pos e]at hx dG;exact h.at_ i x x' hx dG
 .rw[if_neg e]at hx dG;exact h'.at_ _ x x' hx dG
def ax.extract (h:ax ok ρ xs xs')(i j:Nat):ax ok ρ (xs.extract i j) (xs'.extract i j):=by
 refine⟨by simp[h.size],λk x x' hx dG=>?_⟩;rw[Array.getElem?_extract]at hx dG;rw[<-h.size]at dG;split at hx
 .rename_i e;rw[if_pos e]at dG;exact h.at_ _ x x' hx dG
 .cases hx
def ax.replicate (hv:ar ok ρ v v')(n:Nat):ax ok ρ (Array.replicate n v) (Array.replicate n v'):=by
 refine⟨aF,λi x x' hx dG=>?_⟩;rw[Array.getElem?_replicate]at hx dG;split at hx
 .rename_i e;rw[if_pos e]at dG;simp only[Option.some.injEq]at hx dG;subst hx;subst dG;exact hv
 .cases hx
def ax.map {f f':α->Value}(h:∀a,ar ok ρ (f a)<|f' a)(xs:Array α):ax ok ρ (xs.map f) (xs.map f'):=by
 refine⟨aF,λi x x' hx dG=>?_⟩;rw[Array.getElem?_map]at hx dG;cases e:xs[i]? with
 |none=>rw[e]at hx;cases hx
 |some a=>
  rw[e]at hx dG;simp only[Option.map_some,Option.some.injEq]at hx dG;subst hx;subst dG;exact h a
def ar.cells (h:ar ok ρ v v'):ax ok ρ v.cells v'.cells:=by
 have one:∀{x x':Value},ar ok ρ x x'->ax ok ρ #[x] #[x']:=λh=>ax.nil.push h
 cases h with
 |hole h=>
  have e:v'.cells=#[v']:=by cases v'<;>first|rfl|cases h
  rw[e];exact one (.hole h)
 |agg e h=>exact⟨e,h⟩
 |bool b=>exact one (.bool b)
 |int k n=>exact one (.int k n)
 |string s=>exact one (.string s)
 |mz=>exact one .mz
 |ptr h=>exact one (.ptr h)
 |dH l c=>exact one (.dH l c)
 |slice n c h=>exact one (.slice n c h)
 |nilFunc=>exact one .nilFunc
 |nilIface=>exact one .nilIface
 |iface t h=>exact one (.iface t h)
 |func a b c d e=>exact one (.func a b c d e)
 |tuple e h=>exact one<|.tuple e h
end
inductive zW (ok:Ctx)(ρ:Ren):Target->Target->Prop
 |fn {f f':Fn} {xs xs':Array Value}:wi ok ρ f f'->ax ok ρ xs xs'->zW ok ρ (.fn f xs) (.fn f' xs')
 |nil:zW ok ρ .nil .nil
 |builtin (b:Builtin) (a:Array TypeId) (t:TypeId) (c:Array Bool):zW ok ρ (.builtin b a t c) (.builtin b a t c)
 |collected {r r':Nat}:ρ r=some r'->zW ok ρ (.collected r) (.collected r')
structure aad (ok:Ctx)(ρ:Ren)(d d':Deferred):Prop where
 target:zW ok ρ d.target d'.target
 args:ax ok ρ d.args d'.args
inductive Lw (ok:Ctx)(ρ:Ren):List Deferred->List Deferred->Prop
 |nil:Lw ok ρ [] []
 |cons {d d':Deferred} {l l':List Deferred}:aad ok ρ d d'->Lw ok ρ l l'->Lw ok ρ (d::l) (d'::l')
structure Dt (ok:Ctx)(ρ:Ren)(r r':Loop):Prop where
 state:r'.state=r.state
 pending:r'.pending=r.pending
 fn:r'.fn=r.fn
 tmps:ax ok ρ r.tmps r'.tmps
 params:r'.params=r.params
 assign:r'.assign=r.assign
 body:r'.body=r.body
 defers:ρ r.defers=some r'.defers
 bh:ok.bh r.fn=true
 ZQ:ok.code r.assign=true
 ZR:ok.code r.body=true
 ok3:∀c,r.pending=some c->ok.code c=true
def aaf (str:Bool)(n:Nat)(z z':Nat×Nat):Prop:=(z'=if str then z else(0,0))\/(str=true/\z=(0,n)/\0<n)
inductive mP (ok:Ctx)(str:Bool)(ρ:Ren):Obj->Obj->Prop
 |cells {c c':Array Value} {e:TypeId} {z z':Nat×Nat}:ax ok ρ c c'->aaf str c.size z z'->mP ok str ρ (.cells c e z) (.cells c' e z')
 |stringIter (s:ByteArray) (p:Nat):mP ok str ρ (.stringIter s p) (.stringIter s p)
 |loop {r r':Loop}:Dt ok ρ r r'->mP ok str ρ (.loop r) (.loop r')
 |taken:mP ok str ρ (.deferred none) (.deferred none)
 |number {a a':Addr} (lost:Bool):dI ρ a a'->mP ok str ρ (.number a lost) (.number a' lost)
 |deferred:mP ok str ρ (.deferred<|some []) (.deferred<|some [])
section
variable {ok:Ctx}{ρ σ:Ren}
def Dt.mono {r r':Loop}(h:Dt ok ρ r r')(l:ρ.le σ):Dt ok σ r r':=⟨h.state,h.pending,h.fn,h.tmps.mono l,h.params,h.assign,h.body,l _ _ h.defers,h.bh,h.ZQ,h.ZR,h.ok3⟩
def mP.mono (h:mP ok str ρ o o')(l:ρ.le σ):mP ok str σ o o':=by
 cases h with
 |cells h z=>exact .cells (h.mono l) z
 |stringIter s p=>exact .stringIter s p
 |loop h=>exact .loop (h.mono l)
 |taken=>exact .taken
 |number b h=>exact .number b (h.mono l)
 |deferred=>exact .deferred
def mP.kinds (h:mP ok str ρ o o'):((∃c e z,o=.cells c e z)/\(∃c e z,o'=.cells c e z))\/((∀c e z,o≠.cells c e z)/\(∀c e z,o'≠.cells c e z)):=by
 cases h with
 |cells _ _=>exact .inl ⟨⟨_,_,_,rfl⟩,⟨_,_,_,rfl⟩⟩
 |_=>exact .inr ⟨aF,aF⟩
def mP.chan (h:mP ok str ρ o o'):o'.isChan=false:=by cases h<;>rfl
end
structure bO (ok:Ctx)(str:Bool)(ρ:Ren)(V W:World):Prop where
 heap:∀b c,ρ b=some c->∃o o',V.heap[b]?=some o/\W.heap[c]?=some o'/\mP ok str ρ o o'
 tape:V.tape=W.tape
 drawn:V.drawn=W.drawn
 gV:Gl.n<=V
 gW:Gl.n<=W
def Ro (V:World)(b:Nat):Prop:=∃c e,V.heap[b]?=some (.cells c e (0,c.size))
structure iY (ρ:Ren)(V W:World)(σ:Ren)(V' W':World):Prop where
 le:ρ.le σ
 keep:∀c,c<W.heap.size->(∀b,ρ b≠some c)->W'.heap[c]?=W.heap[c]?
 ro:∀b c,ρ b=some c->Ro V b->V'.heap[b]?=V.heap[b]?/\W'.heap[c]?=W.heap[c]?
 size:W.heap.size<=W'
 AY:V.heap.size<=V'
 new:∀b c,σ b=some c->ρ b=some c\/(V.heap.size<=b/\W.heap.size<=c)
 tape:W'.tape=W.tape
 os:W'.os=W.os
 out:W'.output=W.output
def iY.refl (ρ:Ren)(V W:World):iY ρ V W ρ V W:=⟨Ren.le_refl ρ,λ_ _ _=>rfl,λ_ _ _ _=>⟨rfl,rfl⟩,ac5 _,ac5 _,λ_ _ h=>.inl h,rfl,rfl,rfl⟩
def iY.trans {ρ σ τ:Ren}{W1 V2 W2:World}(h:iY ρ V W σ V1 W1)(h':iY σ V1 W1 τ V2 W2):iY ρ V W τ V2 W2:=by
 refine⟨h.le.trans h'.le,λc hc hn=>?_,λb c hb hr=>?_,ac8 h.size h'.size,ac8 h.AY h'.AY,λb c hb=>?_,h'.tape.trans h.tape,h'.os.trans h.os,h'.out.trans h.out⟩
 .rw[h'.keep c (ac6 hc h.size) (λb hb=>?_),h.keep c hc hn];rcases h.new b c hb with e|e
  .exact hn b e
  .omega
 .have h1:=h.ro b c hb hr;have h2:=h'.ro b c (h.le b c hb) (by let⟨x,e,hx⟩:=hr;exact⟨x,e,by rw[h1.1];exact hx⟩);exact⟨h2.1.trans h1.1,h2.2.trans h1.2⟩
 .rcases h'.new b c hb with e|e
  .exact h.new b c e
  .exact .inr ⟨ac8 h.AY e.1,ac8 h.size e.2⟩
end
section
section
variable [Gl]
section
variable (P0 P:Program)(ok:Ctx)(str:Bool)
def Ls:Mark->Bool
 |.noRoom|.extern _=>true
 |_=>false
def ends:Halt->Bool
 |.stuck _=>true
 |.unsupported (.initOrder _)=>false
 |.unsupported _=>true
 |_=>false
def Result.stops:Result α->Bool
 |.ok _ _=>false
 |.halt h _=>ends h
inductive af {α β:Type}(A:Ren->α->β->Prop):Ren->Sem α->Sem β->Prop
 |pure {ρ:Ren} {a:α} {b:β}:A ρ a b->af A ρ (.pure a) (.pure b)
 |load {ρ:Ren} {a a':Addr} {k:Value->Sem α} {k':Value->Sem β}:dI ρ a a'->(∀v v',ar ok ρ v v'->af A ρ (k v) (k' v'))->af A ρ (.load .plain a k) (.load .plain a' k')
 |store {ρ:Ren} {a a':Addr} {v v':Value} {k:Sem α} {k':Sem β}:dI ρ a a'->ar ok ρ v v'->af A ρ k k'->af A ρ (.store .plain a v k) (.store .plain a' v' k')
 |new {ρ:Ren} {o o':Obj} {k:Nat->Sem α} {k':Nat->Sem β}:mP ok str ρ o o'->(∀σ b c,ρ.le σ->σ b=some c->af A σ (k b) (k' c))->af A ρ (.new o k) (.new o' k')
 |shape {ρ:Ren} {r r':Nat} {k:Option (TypeId×Nat)->Sem α} {k':Option (TypeId×Nat)->Sem β}:ρ r=some r'->(∀s,af A ρ (k s)<|k' s)->af A ρ (.shape r k) (.shape r' k')
 |dead {ρ:Ren} (s:Sem α) (s':Sem β):(∀V:World,Result.stops (s.run P0 V)=true)->af A ρ s s'
 |getObj {ρ:Ren} {r r':Nat} {k:Obj->Sem α} {k':Obj->Sem β}:ρ r=some r'->(∀o o',mP ok str ρ o o'->af A ρ (k o) (k' o'))->af A ρ (.getObj r k) (.getObj r' k')
 |setObj {ρ:Ren} {r r':Nat} {o o':Obj} {k:Sem α} {k':Sem β}:ρ r=some r'->mP ok str ρ o o'->af A ρ k k'->af A ρ (.setObj r o k) (.setObj r' o' k')
 |choose {ρ:Ren} (q:Question) {k:Nat->Sem α} {k':Nat->Sem β}:(∀n,af A ρ (k n)<|k' n)->af A ρ (.choose q k) (.choose q k')
 |program {ρ:Ren} {k:Program->Sem α} {k':Program->Sem β}:af A ρ (k P0) (k' P)->af A ρ (.program k) (.program k')
 |mark {ρ:Ren} {m:Mark} {k:Sem α} {k':Sem β}:Ls m=true->af A ρ k k'->af A ρ (.mark m k) (.mark m k')
 |panic {ρ:Ren} {v v':Value}:ar ok ρ v v'->af A ρ (.halt<|.panic v) (.halt<|.panic v')
 |halt {ρ:Ren} (h:Halt) (s:Sem β) (he:ends h=true:=by rfl):af A ρ (.halt h) s
end
section
variable {ok:Ctx}{ρ:Ren}
def af.mono {A B:Ren->α->β->Prop}{s:Sem α}{s':Sem β}(h:af P0 P ok str A ρ s s')(hB:∀σ a b,A σ a b->B σ a b):af P0 P ok str B ρ s s':=by
 induction h with
 |pure h=>exact .pure (hB _ _ _ h)
 |load a _ ih=>exact .load a ih
 |store a v _ ih=>exact .store a v ih
 |new o _ ih=>exact .new o ih
 |shape r _ ih=>exact .shape r ih
 |dead s s' h=>exact .dead s s' h
 |getObj r _ ih=>exact .getObj r ih
 |setObj r o _ ih=>exact .setObj r o ih
 |choose q _ ih=>exact .choose q ih
 |program _ ih=>exact .program ih
 |mark hm _ ih=>exact .mark hm ih
 |panic h=>exact .panic h
 |halt h s he=>exact .halt h s he
def af.bind' {A:Ren->α->β->Prop}{B:Ren->γ->δ->Prop}{s:Sem α}{s':Sem β}{f:α->Sem γ}{f':β->Sem δ}(h:af P0 P ok str A ρ s s')
  (hf:∀σ a b,ρ.le σ->A σ a b->af P0 P ok str B σ (f a) (f' b)):af P0 P ok str B ρ (Sem.bind s f) (Sem.bind s' f'):=by
 induction h with
 |pure h=>exact hf _ _ _ (Ren.le_refl _) h
 |load a _ ih=>exact .load a λv v' hv=>ih v v' hv hf
 |store a v _ ih=>exact .store a v (ih hf)
 |new o _ ih=>exact .new o λσ b c l e=>ih σ b c l e λτ a b l' h=>hf τ a b (l.trans l') h
 |shape r _ ih=>exact .shape r λs=>ih s hf
 |dead s s' h=>
  refine .dead _ _ λV=>?_
  have h1:=h V;show Result.stops (Sem.run P0 (s >>= f) V)=true;rw[Sem.run_bind];generalize s.run P0 V=r at h1;cases r with
  |ok a w=>cases h1
  |halt x w=>exact h1
 |getObj r _ ih=>exact .getObj r λo o' h=>ih o o' h hf
 |setObj r o _ ih=>exact .setObj r o (ih hf)
 |choose q _ ih=>exact .choose q λn=>ih n hf
 |program _ ih=>exact .program (ih hf)
 |mark hm _ ih=>exact .mark hm (ih hf)
 |panic h=>exact .panic h
 |halt h s he=>exact .halt h _ he
def af.bind {A:Ren->α->β->Prop}{B:Ren->γ->δ->Prop}{s:Sem α}{s':Sem β}{f:α->Sem γ}{f':β->Sem δ}(h:af P0 P ok str A ρ s s')
  (hf:∀σ a b,ρ.le σ->A σ a b->af P0 P ok str B σ (f a) (f' b)):af P0 P ok str B ρ (s >>= f) (s' >>= f'):=af.bind' h hf
def oN (σ:Ren)(V:World)(e:Event):Prop:=
 (e.sync=false/\∃a a',e.loc=.cell a'/\dI σ a a'/\(e.write=true->¬Ro V a.block))\/(e.sync=false/\∃r r',e.loc=.obj r'/\σ r=some r'/\¬Ro V r)\/∃m,Ls m=true/\e=⟨.mark m,false,true⟩
def oN.mono {σ τ:Ren}(h:oN σ V e)(l:σ.le τ):oN τ V e:=by
 rcases h with⟨s,a,a',e1,r,w⟩|⟨s,r,r',e1,h,n⟩|h
 .exact .inl ⟨s,a,a',e1,r.mono l,w⟩
 .exact .inr (.inl ⟨s,r,r',e1,l _ _ h,n⟩)
 .exact .inr (.inr h)
def oN.back {σ:Ren}(h:oN σ V1 e)(hb:∀b,Ro V b->Ro V1 b):oN σ V e:=by
 rcases h with⟨s,a,a',e1,r,w⟩|⟨s,r,r',e1,h,n⟩|h
 .exact .inl ⟨s,a,a',e1,r,λx y=>w x<|hb _ y⟩
 .exact .inr (.inl ⟨s,r,r',e1,h,λy=>n<|hb _ y⟩)
 .exact .inr (.inr h)
def bO.load (h:bO ok str ρ V W)(r:dI ρ a a')(hv:V.cell? a=some v):∃v',W.cell? a'=some v'/\ar ok ρ v v':=by
 let⟨o,o',h1,h2,h3⟩:=h.heap _ _ r.blk;unfold World.cell? at hv⊢;rw[h1]at hv;rw[h2];cases h3 with
 |cells hc hz=>
  simp only at hv⊢;rw[r.spot,r.off];split at hv
  .cases hv
  .rename_i hs;rw[if_neg hs];exact hc.get hv
 |_=>cases hv
def bO.far (h:bO ok str ρ V W)(r:ρ a.block=some c)(b:Bool)(p:Program):∃x,V.farLoad p a b=.error (.stuck x):=by
 let⟨o,o',h1,h2,h3⟩:=h.heap _ _ r;unfold World.farLoad World.noCell;rw[h1];cases h3<;>exact⟨_,rfl⟩
def bO.XL (h:bO ok str ρ V W)(r:ρ a.block=some c)(v:Value)(b:Bool)(p:Program):∃x,V.farStore p a v b=.error (.stuck x):=by
 let⟨o,o',h1,h2,h3⟩:=h.heap _ _ r;unfold World.farStore World.noCell;rw[h1];cases h3<;>exact⟨_,rfl⟩
def bO.thaw (h:bO ok str ρ V W)(r:dI ρ a a')(hx:V.cell? a=some x)(hv:V.frozen? a=false):W.frozen? a'=false:=by
 let⟨o,o',h1,h2,h3⟩:=h.heap _ _ r.blk;unfold World.cell? at hx;unfold World.frozen? at hv⊢;rw[h1]at hv hx;rw[h2];cases h3 with
 |@cells c c' e z z' hc hz=>
  rcases hz with hz|⟨_,hz,_⟩
  .subst hz;let⟨lo,hi⟩:=z;simp only at hv⊢;cases str with
   |true=>simp only[if_true,r.off];exact hv
   |false=>simp
  .subst hz;simp only at hx hv;split at hx
   .cases hx
   .have:=(ac7.1 hx).1;simp[this]at hv
 |_=>rfl
def bO.shape (h:bO ok str ρ V W)(r:ρ b=some c):W.shape? c=V.shape? b:=by
 let⟨o,o',h1,h2,h3⟩:=h.heap _ _ r;unfold World.shape?;rw[h1,h2];cases h3 with
 |cells hc hz=>simp only[hc.size]
 |_=>rfl
omit [Gl] in
def ip (V:World)(a:Addr)(v:Value)(b:Nat):(V.setCell a v).heap[b]?=if a.block=b then(V.heap[b]?).map (λo=>match o with|.cells c elem frozen=>.cells (if a.spot.isSome then c else c.setIfInBounds a.off v) elem frozen|o=>o)else V.heap[b]?:=by
 unfold World.setCell;simp only[Array.getElem?_modify];rfl
omit [Gl] in
def nt (V:World)(a:Addr)(v:Value):(V.setCell a v).heap.size=V.heap.size:=by simp[World.setCell]
def bO.store (h:bO ok str ρ V W)(r:dI ρ a a')(hv:ar ok ρ v v'):bO ok str ρ (V.setCell a v) (W.setCell a' v'):=by
 refine⟨λb c hb=>?_,h.tape,h.drawn,by rw[nt];exact h.gV,by rw[nt];exact h.gW⟩;let⟨o,o',h1,h2,h3⟩:=h.heap _ _ hb;rw[ip,ip,h1,h2];by_cases e:a.block=b
 .subst e;have ec:a'.block=c:=by have:=r.blk;rw[hb]at this;exact(adb this).symm
  subst ec;rw[if_pos rfl,if_pos rfl];cases h3 with
  |cells hc hz=>
   refine⟨_,_,rfl,rfl,.cells ?_<|by split<;>(try simp only[Array.size_setIfInBounds])<;>exact hz⟩;rw[r.spot,r.off];split
   .exact hc
   .exact hc.set hv _
  |stringIter s p=>exact⟨_,_,rfl,rfl,.stringIter s p⟩
  |loop h=>exact⟨_,_,rfl,rfl,.loop h⟩
  |taken=>exact⟨_,_,rfl,rfl,.taken⟩
  |number b h=>exact⟨_,_,rfl,rfl,.number b h⟩
  |deferred=>exact⟨_,_,rfl,rfl,.deferred⟩
 .have ec:a'.block≠c:=λe'=>e (ρ.inj _ _ _ (e'▸r.blk) hb)
  rw[if_neg e,if_neg ec];exact⟨o,o',rfl,rfl,h3⟩
def iY.store (_h:bO ok str ρ V W)(r:dI ρ a a')(hc:V.cell? a=some x)(hf:V.frozen? a=false):iY ρ V W ρ (V.setCell a v) (W.setCell a' v'):=by
 have key:¬Ro V a.block:=by
  rintro⟨c,e,hr⟩;unfold World.cell? at hc;unfold World.frozen? at hf;rw[hr]at hc hf;simp only at hc hf;split at hc
  .cases hc
  .have:=(ac7.1 hc).1;simp[this]at hf
 refine⟨Ren.le_refl ρ,λc hc hn=>?_,λb c hb hr=>?_,by rw[nt];exact ac5 _,by rw[nt];exact ac5 _,λb c hb=>.inl hb,rfl,rfl,rfl⟩
 .rw[ip,if_neg (λe=>hn _<|e▸r.blk)]
 .have e:a.block≠b:=λe=>key (e▸hr)
  have ec:a'.block≠c:=λe'=>e<|ρ.inj _ _ _ (e'▸r.blk) hb
  rw[ip,ip,if_neg e,if_neg ec];exact⟨rfl,rfl⟩
omit [Gl] in
def pR (hc:V.cell? a=some x)(hf:V.frozen? a=false):¬Ro V a.block:=by
 rintro⟨c,e,hr⟩;unfold World.cell? at hc;unfold World.frozen? at hf;rw[hr]at hc hf;simp only at hc hf;split at hc
 .cases hc
 .have:=(ac7.1 hc).1;simp[this]at hf
def bO.lt (h:bO ok str ρ V W)(hb:ρ b=some c):b<V/\c<W:=by
 let⟨o,o',h1,h2,_⟩:=h.heap _ _ hb;exact⟨(ac7.1 h1).1,(ac7.1 h2).1⟩
def bO.fresh (h:bO ok str ρ V W)(b c:Nat)(hb:ρ b=some c):b≠V.heap.size/\c≠W.heap.size:=by
 have:=h.lt hb;omega
def bO.ext (h:bO ok str ρ V W):Ren:=ρ.ext V.heap.size W.heap.size h.fresh h.gV h.gW
def bO.Mm (h:bO ok str ρ V W):h.ext V.heap.size=some W.heap.size:=by simp[bO.ext,Ren.ext]
def bO.Mn (h:bO ok str ρ V W)(hb:h.ext b=some c):(b=V.heap.size/\c=W.heap.size)\/(b≠V.heap.size/\ρ b=some c):=by
 simp only[bO.ext,Ren.ext]at hb;split at hb
 .rename_i e;exact .inl ⟨e,(adb hb).symm⟩
 .rename_i e;exact .inr ⟨e,hb⟩
def bO.Ge (h:bO ok str ρ V W):ρ.le h.ext:=by
 intro b c hb;have:=(h.lt hb).1;simp only[bO.ext,Ren.ext];rw[if_neg aa];exact hb
def bO.new (h:bO ok str ρ V W)(ho:mP ok str ρ o o'):
  bO ok str h.ext {V with heap:=V.heap.push o} {W with heap:=W.heap.push o'}/\
   iY ρ V W h.ext {V with heap:=V.heap.push o} {W with heap:=W.heap.push o'}:=by
 have hle:=h.Ge;refine⟨⟨λb c hb=>?_,h.tape,h.drawn,by have:=h.gV;simp only[Array.size_push];omega,by have:=h.gW;simp only[Array.size_push];omega⟩,hle,λc hc _=>?_,λb c hb _=>?_,aF,aF,λb c hb=>?_,rfl,rfl,rfl⟩
 .rcases h.Mn hb with⟨rfl,rfl⟩|⟨e,hb⟩
  .exact⟨o,o',aF,aF,ho.mono hle⟩
  .let⟨x,x',h1,h2,h3⟩:=h.heap _ _ hb;have hl:=h.lt hb;refine⟨x,x',?_,?_,h3.mono hle⟩
   .simp only;rw[Array.getElem?_push,if_neg aa];exact h1
   .simp only;rw[Array.getElem?_push,if_neg aa];exact h2
 .simp only;rw[Array.getElem?_push,if_neg aa]
 .have hl:=h.lt hb;simp only;rw[Array.getElem?_push,if_neg aa,Array.getElem?_push,if_neg aa];exact⟨rfl,rfl⟩
 .rcases h.Mn hb with⟨rfl,rfl⟩|⟨e,hb⟩
  .exact .inr ⟨ac5 _,ac5 _⟩
  .exact .inl hb
def bO.getObj (h:bO ok str ρ V W)(hb:ρ b=some c)(ho:V.heap[b]?=some o):∃o',W.heap[c]?=some o'/\mP ok str ρ o o':=by
 let⟨x,x',h1,h2,h3⟩:=h.heap _ _ hb;rw[h1]at ho;cases ho;exact⟨x',h2,h3⟩
def bO.setObj (h:bO ok str ρ V W)(hb:ρ b=some c)(ho:mP ok str ρ o o'):
  bO ok str ρ {V with heap:=V.heap.setIfInBounds b o} {W with heap:=W.heap.setIfInBounds c o'}:=by
 have hl:=h.lt hb;refine⟨λb' c' dw=>?_,h.tape,h.drawn,by simpa using h.gV,by simpa using h.gW⟩;let⟨x,x',h1,h2,h3⟩:=h.heap _ _ dw;simp only[Array.getElem?_setIfInBounds];by_cases e:b=b'
 .subst e;have ec:c=c':=by rw[hb]at dw;exact adb dw
  subst ec;rw[if_pos rfl,if_pos rfl,if_pos hl.1,if_pos hl.2];exact⟨_,_,rfl,rfl,ho⟩
 .have ec:c≠c':=λe'=>e (ρ.inj _ _ _ (e'▸hb) dw)
  rw[if_neg e,if_neg ec];exact⟨x,x',h1,h2,h3⟩
def iY.setObj (_h:bO ok str ρ V W)(hb:ρ b=some c){x:Obj}(hx:V.heap[b]?=some x)(hn:∀cs e z,x≠.cells cs e z):
  iY ρ V W ρ {V with heap:=V.heap.setIfInBounds b o} {W with heap:=W.heap.setIfInBounds c o'}:=by
 refine⟨Ren.le_refl ρ,λc' _ BW=>?_,λb' c' dw hr=>?_,aF,aF,λ_ _ hb=>.inl hb,rfl,rfl,rfl⟩
 .simp only[Array.getElem?_setIfInBounds];rw[if_neg (λe=>BW _<|e▸hb)]
 .have e:b≠b':=by
   rintro rfl;let⟨cs,e,hr⟩:=hr;rw[hx]at hr;exact hn _ _ _<|adb hr
  have ec:c≠c':=λe'=>e<|ρ.inj _ _ _ (e'▸hb) dw
  simp only[Array.getElem?_setIfInBounds];rw[if_neg e,if_neg ec];exact⟨rfl,rfl⟩
inductive LA (ok:Ctx)(str:Bool){α β:Type}(A:Ren->α->β->Prop)(σ:Ren):Result α->Result β->World->World->Prop
 |ok {a:α} {b:β} {V W:World}:A σ a b->bO ok str σ V W->LA ok str A σ (.ok a V) (.ok b W) V W
 |panic {v v':Value} {V W:World}:ar ok σ v v'->bO ok str σ V W->LA ok str A σ (.halt (.panic v) V) (.halt (.panic v') W) V W
def af.sound {A:Ren->α->β->Prop}{s:Sem α}{s':Sem β}(h:af P0 P ok str A ρ s s'):
  ∀{V W:World} (es jL:Array Event) {r:Result α} {e1:Array Event},bO ok str ρ V W->s.runT P0 V es=(r,e1)->Result.stops r=true\/
   ∃σ r' V' W' d',s'.runT P W jL=(r',jL++d')/\LA ok str A σ r r' V' W'/\iY ρ V W σ V' W'/\∀e∈d',oN σ V e:=by
 induction h with
 |@pure ρ a b hA=>
  intro V W es jL x e1 hw hr;simp only[Sem.runT,Prod.mk.injEq]at hr;obtain⟨rfl,_⟩:=hr;exact .inr ⟨ρ,_,V,W,#[],by simp[Sem.runT],.ok hA hw,iY.refl _ _ _,aF⟩
 |@load ρ a a' k k' ra _ ih=>
  intro V W es jL x e1 hw hr;simp only[Sem.runT]at hr;cases hc:V.cell? a with
  |none=>
   rw[hc]at hr;let⟨y,hy⟩:=hw.far ra.blk (Mode.plain==Mode.atomic) P0;simp only[hy,Prod.mk.injEq]at hr;obtain⟨rfl,_⟩:=hr;exact .inl rfl
  |some v=>
   rw[hc]at hr;let⟨v',Ay,rv⟩:=hw.load ra hc;rcases ih v v' rv _ (jL.push ⟨.cell a',false,false⟩) hw hr with h|⟨σ,b,V',W',d',h1,h2,h4,h5⟩
   .exact .inl h
   .refine .inr ⟨σ,b,V',W',#[⟨.cell a',false,false⟩]++d',?_,h2,h4,λe he=>?_⟩
    .simp only[Sem.runT,Ay];rw[show(Mode.plain==Mode.atomic)=false from rfl,h1];simp
    .rcases Array.mem_append.1 he with he|he
     .rw[Array.mem_singleton]at he;subst he;exact .inl ⟨rfl,a,a',rfl,ra.mono h4.le,λe=>by cases e⟩
     .exact h5 e he
 |@store ρ a a' v v' k k' ra rv _ ih=>
  intro V W es jL x e1 hw hr;by_cases hn:(∃cs,v=.agg cs)\/(∃cs,v=.tuple cs)
  .rcases hn with⟨cs,rfl⟩|⟨cs,rfl⟩
   .simp only[Sem.runT,Prod.mk.injEq]at hr;obtain⟨rfl,_⟩:=hr;exact .inl rfl
   .simp only[Sem.runT,Prod.mk.injEq]at hr;obtain⟨rfl,_⟩:=hr;exact .inl rfl
  have n1:∀cs,v≠.agg cs:=λcs e=>hn<|.inl ⟨cs,e⟩
  have n2:∀cs,v≠.tuple cs:=λcs e=>hn<|.inr ⟨cs,e⟩
  have n1':∀cs,v'≠.agg cs:=by rintro cs rfl;cases rv with|hole h=>cases h|agg _ _=>exact n1 _ rfl
  have n2':∀cs,v'≠.tuple cs:=by rintro cs rfl;cases rv with|hole h=>cases h|tuple _ _=>exact n2 _ rfl
  have gG:(match V.cell? a with
   |some _=>if V.frozen? a then(Result.halt (.unsupported<|.unsafePointer "a write to bytes that a string shares") V,es)else k.runT P0 (V.setCell a v) (es.push ⟨.cell a,true,false⟩)
   |none=>match V.farStore P0 a v (Mode.plain==Mode.atomic)with
    |.ok (w,CX)=>k.runT P0 w (es++CX.toArray.map (⟨.cell ·,true,Mode.plain==Mode.atomic⟩))
    |.error h=>(.halt h V,es))=(x,e1):=by
   rw[<-hr];cases v<;>first|exact absurd rfl (n1 _)|exact absurd rfl (n2 _)|(simp only[Sem.runT];rfl)
  cases hc:V.cell? a with
  |none=>
   rw[hc]at gG;let⟨y,hy⟩:=hw.XL ra.blk v (Mode.plain==Mode.atomic) P0;simp only[hy,Prod.mk.injEq]at gG;obtain⟨rfl,_⟩:=gG;exact .inl rfl
  |some y=>
   rw[hc]at gG;simp only at gG;cases hf:V.frozen? a with
   |true=>
    rw[hf]at gG;simp only[if_true,Prod.mk.injEq]at gG;obtain⟨rfl,_⟩:=gG;exact .inl rfl
   |false=>
    rw[hf]at gG;rcases ih _ (jL.push ⟨.cell a',true,false⟩) (hw.store ra rv) gG with h|⟨σ,b,V',W',d',h1,h2,h4,h5⟩
    .exact .inl h
    .have hK:=iY.store (v:=v) (v':=v') hw ra hc hf;let⟨y',GH,_⟩:=hw.load ra hc;have hz:=hw.thaw ra hc hf;refine .inr ⟨σ,b,V',W',#[⟨.cell a',true,false⟩]++d',?_,h2,hK.trans h4,λe he=>?_⟩
     .have:(Sem.store .plain a' v' k').runT P W jL=k'.runT P (W.setCell a' v') (jL.push ⟨.cell a',true,false⟩):=by
       cases v'<;>first|exact absurd rfl (n1' _)|exact absurd rfl (n2' _)|(simp only[Sem.runT,GH,hz];rfl)
      rw[this,h1];simp
     .rcases Array.mem_append.1 he with he|he
      .rw[Array.mem_singleton]at he;subst he;exact .inl ⟨rfl,a,a',rfl,ra.mono h4.le,λ_=>pR hc hf⟩
      .refine(h5 e he).back λb hro=>?_
       let⟨c,el,hro⟩:=hro;have hne:a.block≠b:=λe'=>pR hc hf<|e'▸⟨c,el,hro⟩
       exact⟨c,el,by rw[ip,if_neg hne];exact hro⟩
 |@new ρ o o' k k' ro _ ih=>
  intro V W es jL x e1 hw hr;simp only[Sem.runT]at hr;let⟨FE,Fx⟩:=hw.new ro;rcases ih _ V.heap.size W.heap.size hw.Ge hw.Mm _ jL FE hr with h|⟨σ,b,V',W',d',h1,h2,h4,h5⟩
  .exact .inl h
  .refine .inr ⟨σ,b,V',W',d',by simp only[Sem.runT];exact h1,h2,Fx.trans h4,λe he=>?_⟩;refine(h5 e he).back λb hro=>?_
   let⟨c,el,hro⟩:=hro;refine⟨c,el,?_⟩;have:=(ac7.1 hro).1;simp only;rw[Array.getElem?_push,if_neg aa];exact hro
 |@shape ρ r r' k k' gG _ ih=>
  intro V W es jL x e1 hw hr;simp only[Sem.runT]at hr⊢;rw[hw.shape gG];exact ih _ _ jL hw hr
 |dead s s' h=>
  intro V W es jL x e1 hw hr;have h1:=Sem.runT_fst P0 s V es;rw[hr]at h1;exact .inl (by have:=h V;rw[<-h1]at this;exact this)
 |@getObj ρ r r' k k' gG _ ih=>
  intro V W es jL x e1 hw hr;cases ho:V.heap[r]? with
  |none=>simp only[Sem.runT,ho,Prod.mk.injEq]at hr;obtain⟨rfl,_⟩:=hr;exact .inl rfl
  |some o=>
   let⟨o',MV,ro⟩:=hw.getObj gG ho;rcases ro.kinds with⟨⟨c,e,z,rfl⟩,_⟩|⟨n1,n2⟩
   .simp only[Sem.runT,ho,Prod.mk.injEq]at hr;obtain⟨rfl,_⟩:=hr;exact .inl rfl
   .have nD:(k o).runT P0 V (es.push ⟨.obj r,false,o.isChan⟩)=(x,e1):=by
     rw[<-hr];cases o<;>first|exact absurd rfl (n1 _ _ _)|simp only[Sem.runT,ho]
    rcases ih _ _ ro _ (jL.push ⟨.obj r',false,o'.isChan⟩) hw nD with h|⟨σ,b,V',W',d',h1,h2,h4,h5⟩
    .exact .inl h
    .refine .inr ⟨σ,b,V',W',#[⟨.obj r',false,o'.isChan⟩]++d',?_,h2,h4,λe he=>?_⟩
     .have:(Sem.getObj r' k').runT P W jL=(k' o').runT P W (jL.push ⟨.obj r',false,o'.isChan⟩):=by
       cases o'<;>first|exact absurd rfl (n2 _ _ _)|simp only[Sem.runT,MV]
      rw[this,h1];simp
     .rcases Array.mem_append.1 he with he|he
      .rw[Array.mem_singleton]at he;subst he;exact .inr<|.inl ⟨ro.chan,r,r',rfl,h4.le _ _ gG,λ⟨c,e,z⟩=>n1 _ _ _<|adb<|ho.symm.trans z⟩
      .exact h5 e he
 |@setObj ρ r r' o o' k k' gG ro _ ih=>
  intro V W es jL x e1 hw hr;cases hx:V.heap[r]? with
  |none=>simp only[Sem.runT,hx,Prod.mk.injEq]at hr;obtain⟨rfl,_⟩:=hr;exact .inl rfl
  |some y=>
   let⟨y',GH,ry⟩:=hw.getObj gG hx;rcases ry.kinds with⟨⟨c,e,z,rfl⟩,_⟩|⟨n1,n2⟩
   .simp only[Sem.runT,hx,Prod.mk.injEq]at hr;obtain⟨rfl,_⟩:=hr;exact .inl rfl
   .have nD:k.runT P0 {V with heap:=V.heap.setIfInBounds r o} (es.push ⟨.obj r,true,o.isChan⟩)=(x,e1):=by
     rw[<-hr];cases y<;>first|exact absurd rfl (n1 _ _ _)|simp only[Sem.runT,hx]
    have Db:o'.isChan=false:=ro.chan;rcases ih _ (jL.push ⟨.obj r',true,o'.isChan⟩) (hw.setObj gG ro) nD with h|⟨σ,b,V',W',d',h1,h2,h4,h5⟩
    .exact .inl h
    .have hK:=iY.setObj (o:=o) (o':=o') hw gG hx n1;refine .inr ⟨σ,b,V',W',#[⟨.obj r',true,o'.isChan⟩]++d',?_,h2,hK.trans h4,λe he=>?_⟩
     .have:(Sem.setObj r' o' k').runT P W jL=k'.runT P {W with heap:=W.heap.setIfInBounds r' o'} (jL.push ⟨.obj r',true,o'.isChan⟩):=by
       cases y'<;>first|exact absurd rfl (n2 _ _ _)|simp only[Sem.runT,GH]
      rw[this,h1];simp
     .rcases Array.mem_append.1 he with he|he
      .rw[Array.mem_singleton]at he;subst he;exact .inr<|.inl ⟨Db,r,r',rfl,h4.le _ _ gG,λ⟨c,e,z⟩=>n1 _ _ _<|adb<|hx.symm.trans z⟩
      .refine(h5 e he).back λb hro=>?_
       let⟨c,el,hro⟩:=hro;refine⟨c,el,?_⟩;have hne:r≠b:=by
        rintro rfl;rw[hx]at hro;exact n1 _ _ _<|adb hro
       simp only[Array.getElem?_setIfInBounds];rw[if_neg hne];exact hro
 |@choose ρ q k k' _ ih=>
  intro V W es jL x e1 hw hr;simp only[Sem.runT]at hr⊢;split at hr
  .rename_i hq;rw[if_pos hq];exact ih _ _ jL hw hr
  .rename_i hq;have e:W.tape W.drawn q=V.tape V.drawn q:=by rw[hw.tape,hw.drawn]
   rw[if_neg hq,e];have hw':bO ok str ρ {V with drawn:=V.drawn+1} {W with drawn:=W.drawn+1}:=⟨hw.heap,hw.tape,by simp only[hw.drawn],hw.gV,hw.gW⟩;rcases ih _ _ jL hw' hr with h|⟨σ,b,V',W',d',h1,h2,h4,h5⟩
   .exact .inl h
   .exact .inr ⟨σ,b,V',W',d',h1,h2,⟨h4.le,h4.keep,h4.ro,h4.size,h4.AY,h4.new,h4.tape,h4.os,h4.out⟩,h5⟩
 |@program ρ k k' _ ih=>
  intro V W es jL x e1 hw hr;simp only[Sem.runT]at hr⊢;exact ih _ jL hw hr
 |@mark ρ m k k' hm _ ih=>
  intro V W es jL x e1 hw hr;simp only[Sem.runT]at hr;rcases ih _ (jL.push ⟨.mark m,false,true⟩) hw hr with h|⟨σ,b,V',W',d',h1,h2,h4,h5⟩
  .exact .inl h
  .refine .inr ⟨σ,b,V',W',#[⟨.mark m,false,true⟩]++d',?_,h2,h4,λe he=>?_⟩
   .simp only[Sem.runT];rw[h1];simp
   .rcases Array.mem_append.1 he with he|he
    .rw[Array.mem_singleton]at he;exact .inr<|.inr ⟨m,hm,he⟩
    .exact h5 e he
 |@panic ρ v v' hv=>
  intro V W es jL x e1 hw hr;simp only[Sem.runT,Prod.mk.injEq]at hr;obtain⟨rfl,_⟩:=hr;exact .inr ⟨ρ,_,V,W,#[],by simp[Sem.runT],.panic hv hw,iY.refl _ _ _,aF⟩
 |halt h s he=>
  intro V W es jL x e1 hw hr;simp only[Sem.runT,Prod.mk.injEq]at hr;obtain⟨rfl,_⟩:=hr;exact .inl he
end
def ub:Value->Bool
 |.bool _|.int _ _|.string _|.pointer none|.slice none _ _|.nilFunc|.nilIface=>true
 |_=>false
def CE:Value->Bool
 |.agg cs=>cs.all ub
 |.tuple cs=>cs.all ub
 |v=>ub v
def qb {ok:Ctx}{ρ:Ren}(h:ub v=true):ar ok ρ v v:=by
 match v,h with
 |.bool b,_=>exact .bool b
 |.int k n,_=>exact .int k n
 |.string s,_=>exact .string s
 |.pointer none,_=>exact .mz
 |.slice none l c,_=>exact .dH l c
 |.nilFunc,_=>exact .nilFunc
 |.nilIface,_=>exact .nilIface
def vh {ok:Ctx}{ρ:Ren}(h:cs.all ub=true):ax ok ρ cs cs:=by
 refine⟨rfl,λi x x' hx dG=>?_⟩;rw[hx]at dG;cases dG;rw[Array.all_eq_true]at h;obtain⟨hl,rfl⟩:=ac7.1 hx;exact qb<|h i hl
def so {ok:Ctx}{ρ:Ren}(h:CE v=true):ar ok ρ v v:=by
 cases v with
 |agg cs=>exact .agg rfl (vh (ok:=ok) (ρ:=ρ) h).at_
 |tuple cs=>exact .tuple rfl (vh (ok:=ok) (ρ:=ρ) h).at_
 |_=>exact qb h
inductive iD (ok:Ctx)(ρ:Ren):List Value->List Value->Prop
 |nil:iD ok ρ [] []
 |cons {v v':Value} {l l':List Value}:ar ok ρ v v'->iD ok ρ l l'->iD ok ρ (v::l) (v'::l')
def iD.mono {ok:Ctx}{ρ σ:Ren}(h:iD ok ρ l l')(le:ρ.le σ):iD ok σ l l':=by
 induction h with
 |nil=>exact .nil
 |cons h _ ih=>exact .cons (h.mono le) ih
def FF (P:Program)(t:TypeId):Bool:=match P.info? t with|some i=>(match i.zero with|some v=>CE v|none=>true)|none=>true
def Fq (P:Program)(t:TypeId):Bool:=match P.underlying t with|some (.slice e)=>FF P e|_=>true
section
variable {ok:Ctx}{ρ:Ren}
def ax.list (h:ax ok ρ xs xs'):iD ok ρ xs.toList xs'.toList:=by
 have:∀(l l':List Value),l.length=l'.length->(∀(i:Nat) (x x':Value),l[i]?=some x->l'[i]?=some x'->ar ok ρ x x')->iD ok ρ l l':=by
  intro l;induction l with
  |nil=>intro l' e _;cases l' with
   |nil=>exact .nil
   |cons _ _=>cases e
  |cons a l ih=>intro l' e hh;cases l' with
   |nil=>cases e
   |cons b l'=>exact .cons (hh 0 a b rfl rfl)<|ih l' (by simpa using e) λi x x' hx dG=>hh (i+1) x x' (by simpa using hx)<|by simpa using dG
 exact this _ _ (by rw[Array.length_toList,Array.length_toList];exact h.size) λi x x' hx dG=>h.at_ i x x' (by simpa using hx)<|by simpa using dG
def iD.array (h:iD ok ρ l l'):ax ok ρ l.toArray l'.toArray:=by
 induction h with
 |nil=>exact ax.nil
 |@cons a b l l' h _ ih=>
  have:=(ax.nil.push h).append ih;simpa using this
omit [Gl] in
def ur (hT:P0.toTables=P.toTables)(t:TypeId):P0.underlying t=P.underlying t:=by
 unfold Program.underlying;rw[hT]
def ly {A:Ren->α->β->Prop}{why:String}{s:Sem β}:af P0 P ok str A ρ (stuck why:Sem α) s:=.halt (.stuck why) _
def OA {A:Ren->α->β->Prop}{u:Unsupported}{s:Sem β}(hu:ends (.unsupported u)=true:=by rfl):af P0 P ok str A ρ (unsupported u:Sem α) s:=.halt (.unsupported u) _ hu
def ag {A:Ren->α->β->Prop}{a:α}{b:β}(h:A ρ a b):af P0 P ok str A ρ (pure a:Sem α) (pure b:Sem β):=.pure h
def ae (A:Ren->α->β->Prop){B:Ren->γ->δ->Prop}{s:Sem α}{s':Sem β}{f:α->Sem γ}{f':β->Sem δ}(h:af P0 P ok str A ρ s s')
  (hf:∀σ a b,ρ.le σ->A σ a b->af P0 P ok str B σ (f a) (f' b)):af P0 P ok str B ρ (s >>= f) (s' >>= f'):=af.bind h hf
def aZ {B:Ren->γ->δ->Prop}{a:α}{b:β}{f:α->Sem γ}{f':β->Sem δ}(h:af P0 P ok str B ρ (f a) (f' b)):af P0 P ok str B ρ (pure a >>= f) (pure b >>= f'):=h
def bK (hT:P0.toTables=P.toTables)(t:TypeId):af P0 P ok str (λ_ x y=>x=y/\P.info? t=some x) ρ (typeInfo t) (typeInfo t):=by
 refine af.program ?_;show af P0 P ok str _ ρ (match P0.info? t with|some i=>pure i|none=>stuck "no such type") (match P.info? t with|some i=>pure i|none=>stuck "no such type");rw[hT];cases h:P.info? t with
 |none=>exact ly
 |some i=>exact ag ⟨rfl,rfl⟩
def an (hT:P0.toTables=P.toTables)(t:TypeId):af P0 P ok str (λ_ x y=>x=y/\P.underlying t=some x) ρ (underlying t) (underlying t):=by
 refine af.program ?_;show af P0 P ok str _ ρ (match P0.underlying t with|some i=>pure i|none=>stuck "no such type") (match P.underlying t with|some i=>pure i|none=>stuck "no such type");rw[ur hT];cases h:P.underlying t with
 |none=>exact ly
 |some i=>exact ag ⟨rfl,rfl⟩
def dg (hT:P0.toTables=P.toTables)(t:TypeId):af P0 P ok str (λ_ x y=>x=y/\∃i,P.info? t=some i/\i.size=x) ρ (sizeOf t) (sizeOf t):=by
 refine ae _ (bK hT t) ?_;rintro σ a b _ ⟨rfl,h⟩;exact ag ⟨rfl,a,h,rfl⟩
def EY (hT:P0.toTables=P.toTables)(t:TypeId):af P0 P ok str (λ_ x y=>x=y) ρ (isAgg t) (isAgg t):=by
 refine ae _ (an hT t) ?_;rintro σ a b _ ⟨rfl,h⟩;split<;>exact ag rfl
def iQ (hT:P0.toTables=P.toTables)(t:TypeId)(hz:FF P t=true):af P0 P ok str (ar ok) ρ (zeroValue t) (zeroValue t):=by
 refine ae _ (bK hT t) ?_;rintro σ a b _ ⟨rfl,h⟩;unfold FF at hz;rw[h]at hz;simp only at hz;cases e:a.zero with
 |none=>exact OA
 |some v=>rw[e]at hz;exact ag<|so hz
def Jk (r:dI ρ a a'):af P0 P ok str (ar ok) ρ (load a) (load a'):=.load r λ_ _ h=>.pure h
def Oy (r:dI ρ a a')(h:ar ok ρ v v'):af P0 P ok str (λ_ _ _=>True) ρ (store a v) (store a' v'):=.store r h<|.pure trivial
def EZ (n:Nat):∀{ρ:Ren} (_:dI ρ a a') (i:Nat) {acc PD:Array Value},ax ok ρ acc PD->af P0 P ok str (λσ x y=>ax ok σ x y) ρ (loadCellsFrom a i n acc) (loadCellsFrom a' i n PD):=by
 induction n with
 |zero=>intro ρ r i acc PD h;exact ag h
 |succ n ih=>
  intro ρ r i acc PD h;refine ae _ (Jk<|r.add i) ?_;intro σ x y l hv;exact ih (r.mono l) (i+1)<|(h.mono l).push hv
def tu (r:dI ρ a a')(n:Nat):af P0 P ok str (λσ x y=>ax ok σ x y) ρ (loadCells a n) (loadCells a' n):=EZ n r 0 ax.nil
def gR:∀(vs Xa:List Value) {ρ:Ren} (_:dI ρ a a') (i:Nat),iD ok ρ vs Xa->af P0 P ok str (λ_ _ _=>True) ρ (storeCells a vs i) (storeCells a' Xa i):=by
 intro vs;induction vs with
 |nil=>intro Xa ρ r i h;cases h;exact ag trivial
 |cons v vs ih=>
  intro Xa ρ r i h;cases h with
  |cons hv h=>
   rename_i v' Xa;refine ae _ (Oy (r.add i) hv) ?_;intro σ x y l _;exact ih Xa (r.mono l) (i+1)<|h.mono l
def rZ (hT:P0.toTables=P.toTables)(t:TypeId)(r:dI ρ a a'):af P0 P ok str (ar ok) ρ (loadVar t a) (loadVar t a'):=by
 refine ae _ (EY hT t) ?_;rintro σ x y l rfl;split
 .refine ae _ (dg hT t) ?_;rintro τ n m l' ⟨rfl,_⟩;refine ae _ (tu ((r.mono l).mono l') n) ?_;intro υ cs cs' _ h;exact ag<|.agg h.size h.at_
 .exact Jk (r.mono l)
def E2 (hT:P0.toTables=P.toTables)(t:TypeId)(r:dI ρ a a')(hv:ar ok ρ v v'):af P0 P ok str (λ_ _ _=>True) ρ (storeVar t a v) (storeVar t a' v'):=by
 refine ae _ (dg hT t) ?_;rintro σ n m l ⟨rfl,_⟩;rw[hv.cells.size];split
 .exact .halt _ _
 .exact gR _ _ (r.mono l) 0 (hv.mono l).cells.list
def ir (t:TypeId)(h:ax ok ρ cs cs'):af P0 P ok str (λσ x y=>dI σ x y) ρ (newRow t cs) (newRow t cs'):=by
 refine af.new (.cells h<|.inl (by cases str<;>rfl)) ?_;intro σ b c _ e;exact .pure ⟨e,rfl,rfl⟩
def aby:RuntimeError->Bool
 |.bounds ..|.error _|.plain _|.nilDeref=>true
 |_=>false
def eT (hT:P0.toTables=P.toTables){A:Ren->α->β->Prop}(e:RuntimeError)(he:aby e=true):af P0 P ok str A ρ (runtimePanic e:Sem α) (runtimePanic e:Sem β):=by
 refine af.program<|aZ ?_;rw[hT];cases e with
 |bounds x y s c=>exact .panic (.iface _<|so<|by simp[CE,ub])
 |error m=>exact .panic (.iface _<|.string _)
 |plain m=>exact .panic (.iface _<|.string _)
 |nilDeref=>exact .panic (.iface _<|.string _)
 |_=>cases he
def tv (h:ar ok ρ v v'):af P0 P ok str (λσ x y=>dI σ x y) ρ (Instr.sureAddr v) (Instr.sureAddr v'):=by
 cases h with
 |ptr r=>exact ag r
 |_=>exact .halt _ _
def ui (hT:P0.toTables=P.toTables)(h:ar ok ρ v v'):af P0 P ok str (λσ x y=>dI σ x y) ρ (asAddr v) (asAddr v'):=by
 cases h with
 |ptr r=>exact ag r
 |mz=>exact eT hT .nilDeref rfl
 |_=>exact .halt _ _
def oq (h:ar ok ρ v v'):af P0 P ok str (λ_ x y=>x=y) ρ (asIntOf v) (asIntOf v'):=by
 cases h with
 |int k n=>exact ag rfl
 |_=>exact .halt _ _
def nu (h:ar ok ρ v v'):af P0 P ok str (λ_ x y=>x=y) ρ (asInt v) (asInt v'):=by
 refine ae _ (oq h) ?_;rintro σ x y _ rfl;exact ag rfl
def A2 (h:ar ok ρ v v'):af P0 P ok str (λ_ x y=>x=y) ρ (asBool v) (asBool v'):=by
 cases h with
 |bool b=>exact ag rfl
 |_=>exact .halt _ _
def a_ (h:ar ok ρ v v'):af P0 P ok str (λσ x y=>ax ok σ x y) ρ (asAgg v) (asAgg v'):=by
 cases h with
 |agg e h=>exact ag ⟨e,h⟩
 |_=>exact .halt _ _
def nv (hT:P0.toTables=P.toTables){A:Ren->α->β->Prop}(k:IntKind)(x y:Int)(c:BoundsCode):af P0 P ok str A ρ (boundsPanic k x y c:Sem α) (boundsPanic k x y c:Sem β):=by
 unfold boundsPanic;dsimp only;split
 .exact af.choose _ λn=>eT hT (.bounds (IntKind.i64.wrap x) y (n==1) c) rfl
 .exact eT hT (.bounds (IntKind.i64.wrap x) y (k !=.u64) c) rfl
def Hm (hT:P0.toTables=P.toTables)(s:TypeId)(f:Nat)(hf:∀fs x i,P.underlying s=some (.struct fs)->fs[f]?=some x->P.info? x.type=some i->i.size≠0)(h:ar ok ρ v v'):
  af P0 P ok str (ar ok) ρ (Instr.fieldAt s v f) (Instr.fieldAt s v' f):=by
 refine ae _ (an hT s) ?_;rintro σ d _ l ⟨rfl,hd⟩;split
 .rename_i fs;cases e:fs[f]? with
  |none=>exact ly
  |some x=>
   refine ae _ (tv<|h.mono l) ?_;intro τ a a' l' r;refine ae (λσ x y=>dI σ x y) ?_ ?_
   .refine ae _ (dg hT _) ?_;rintro υ n _ l'' ⟨rfl,i,hi,hn⟩;have:=hf fs x i hd e hi;rw[if_neg aa,if_neg aa];exact ag<|(r.mono l'').add _
   .intro υ b b' _ rb;exact ag<|.ptr rb
 .exact ly
def Hn (hT:P0.toTables=P.toTables)(t:TypeId){i:Value}(h:ar ok ρ v v')(hi:ar ok ρ i i'):af P0 P ok str (ar ok) ρ (Instr.indexAt t v i) (Instr.indexAt t v' i'):=by
 refine ae _ (oq hi) ?_;rintro σ ⟨k,n⟩ _ l rfl;refine ae _ (an hT t) ?_;rintro τ d _ l1 ⟨rfl,hd⟩;have h':=(h.mono l).mono l1;have some_:∀{φ:Ren} {a a':Addr} (len:Nat) (elem:TypeId) (VQ:Bool),dI φ a a'->af P0 P ok str (ar ok) φ
   (if 0<=n/\n<(len:Int)then(do pure (.pointer<|some<|a.add<|n.toNat*(<-sizeOf elem)))else if VQ=true then unsupported (.noEntry "op/indexAddr.an index out of range at an array of length 0 or 1 (ledger 616)")else boundsPanic k n len .index)
   (if 0<=n/\n<(len:Int)then(do pure (.pointer<|some<|a'.add<|n.toNat*(<-sizeOf elem)))else if VQ=true then unsupported (.noEntry "op/indexAddr.an index out of range at an array of length 0 or 1 (ledger 616)")else boundsPanic k n len .index):=by
  intro φ a a' len elem VQ r;split
  .refine ae _ (dg hT _) ?_;rintro ψ m _ l4 ⟨rfl,_⟩;exact ag<|.ptr<|(r.mono l4).add _
  .split
   .exact .halt _ _
   .exact nv hT _ _ _ _
 cases d with
 |array len elem=>
  refine ae _ (tv h') ?_;intro υ a a' l2 r;refine aZ<|ae _ (an hT t) ?_;rintro φ d' _ l3 ⟨rfl,_⟩;exact some_ len elem _ (r.mono l3)
 |slice elem=>
  cases h' with
  |dH len c=>
   refine aZ<|ae _ (an hT t) ?_;rintro φ d' _ l3 ⟨rfl,_⟩;exact nv hT _ _ _ _
  |slice len c r=>
   refine aZ<|ae _ (an hT t) ?_;rintro φ d' _ l3 ⟨rfl,_⟩;exact some_ len elem _ (r.mono l3)
  |_=>exact .halt _ _
 |_=>exact .halt _ _
end
section
variable {ok:Ctx}{ρ:Ren}
def Ri {f:α->Sem γ}(h:∀{σ:Ren} a,af P0 P ok str (λ_ x y=>x=y) σ (f a)<|f a):∀(l:List α) {ρ:Ren},af P0 P ok str (λ_ x y=>x=y) ρ (l.mapM f) (l.mapM f):=by
 intro l;induction l with
 |nil=>intro ρ;simp only[List.mapM_nil];exact ag rfl
 |cons a l ih=>
  intro ρ;simp only[List.mapM_cons];refine ae _ (h a) ?_;rintro σ x _ _ rfl;refine ae _ ih ?_;rintro τ xs _ _ rfl;exact ag rfl
def Ov {f:α->Sem γ}(h:∀{σ:Ren} a,af P0 P ok str (λ_ x y=>x=y) σ (f a)<|f a)(l:Array α):af P0 P ok str (λ_ x y=>x=y) ρ (l.mapM f) (l.mapM f):=by
 rw[Array.mapM_eq_mapM_toList];refine ae _ (Ri h _) ?_;rintro σ x _ _ rfl;exact ag rfl
def Mw (off:Nat):∀{l l':List Value} (_:iD ok ρ l l') (k:Nat) {cs cs':Array Value},ax ok ρ cs cs'->
  ax ok ρ ((l.zipIdx k).foldl (λcs (x:Value×Nat)=>cs.setIfInBounds (off+x.2) x.1) cs) ((l'.zipIdx k).foldl (λcs (x:Value×Nat)=>cs.setIfInBounds (off+x.2) x.1) cs'):=by
 intro l l' h;induction h with
 |nil=>intro k cs cs' hc;exact hc
 |cons hv _ ih=>intro k cs cs' hc;exact ih (k+1)<|hc.set hv _
def wQ (place:Nat->Option (Nat×Nat)):∀{l l':List (Nat×Value)} {cs cs':Array Value},l.map (·.1)=l'.map (·.1)->iD ok ρ (l.map (·.2)) (l'.map (·.2))->ax ok ρ cs cs'->
  (Instr.fill place cs l=none/\Instr.fill place cs' l'=none)\/∃r r',Instr.fill place cs l=some r/\Instr.fill place cs' l'=some r'/\ax ok ρ r r':=by
 intro l;induction l with
 |nil=>
  intro l' cs cs' e _ hc;cases l' with
  |nil=>exact .inr ⟨cs,cs',rfl,rfl,hc⟩
  |cons _ _=>simp at e
 |cons a l ih=>
  intro l' cs cs' e h hc;cases l' with
  |nil=>simp at e
  |cons b l'=>
   let⟨i,v⟩:=a;let⟨i',v'⟩:=b;simp only[List.map_cons,List.cons.injEq]at e;obtain⟨rfl,e⟩:=e;simp only[List.map_cons]at h;cases h with
   |cons hv h=>
    unfold Instr.fill;cases hp:place i with
    |none=>exact .inl ⟨rfl,rfl⟩
    |some x=>
     let⟨off,size⟩:=x;simp only;rw[<-hv.cells.size,<-hc.size];split
     .exact .inl ⟨rfl,rfl⟩
     .refine ih e h ?_;have:=Mw off hv.cells.list 0 hc;rw[<-Array.toList_zipIdx,<-Array.toList_zipIdx,Array.foldl_toList,Array.foldl_toList]at this;exact this
def A3 (t:TypeId)(h:ar ok ρ v v'):af P0 P ok str (λσ x y=>dI σ x y) ρ (newVar t v) (newVar t v'):=ir t h.cells
def VE (t:TypeId)(h:ar ok ρ v v'):af P0 P ok str (ar ok) ρ (Instr.box t v) (Instr.box t v'):=by
 refine ae _ (A3 t h) ?_;intro σ a a' _ r;exact ag<|.ptr r
def Ol (hT:P0.toTables=P.toTables)(t:TypeId)(hz:FF P t=true):af P0 P ok str (ar ok) ρ (Instr.alloc t true<|.tuple #[]) (Instr.alloc t true<|.tuple #[]):=by
 refine ae _ (iQ hT t hz) ?_;intro σ v v' _ h;refine ae _ (A3 t h) ?_;intro τ a a' _ r;exact ag<|.ptr r
def On (hT:P0.toTables=P.toTables)(t:TypeId)(hz:FF P t=true){l l':Array (Nat×Value)}(e:l.toList.map (·.1)=l'.toList.map (·.1))(h:iD ok ρ (l.toList.map (·.2)) (l'.toList.map (·.2))):
  af P0 P ok str (ar ok) ρ (Instr.build t l) (Instr.build t l'):=by
 refine ae _ (iQ hT t hz) ?_;intro σ z z' l1 Lp;refine ae _ (an hT t) ?_;rintro τ d _ l2 ⟨rfl,hd⟩;cases d with
 |struct fields=>
  refine ae _ (Ov (f:=λ(f:Field)=>(do pure (f.offset,<-sizeOf f.type):Sem (Nat×Nat))) (λa=>?_) fields) ?_
  .refine ae _ (dg hT _) ?_;rintro υ n _ _ ⟨rfl,_⟩;exact ag rfl
  .rintro υ places _ l3 rfl;rcases wQ (ok:=ok) (ρ:=υ) (λx=>places[x]?) e ((h.mono<|l1.trans l2).mono l3) ((Lp.mono<|l2.trans l3).cells)with⟨h1,h2⟩|⟨r,r',h1,h2,h3⟩
   .simp only[h1];exact ly
   .simp only[h1,h2];exact ag (.agg h3.size h3.at_)
 |array n elem=>
  refine ae _ (dg hT _) ?_;rintro υ size _ l3 ⟨rfl,_⟩;rcases wQ (ok:=ok) (ρ:=υ) (λi=>some (i*size,size)) e ((h.mono<|l1.trans l2).mono l3) ((Lp.mono<|l2.trans l3).cells)with⟨h1,h2⟩|⟨r,r',h1,h2,h3⟩
  .simp only[h1];exact ly
  .simp only[h1,h2];exact ag (.agg h3.size h3.at_)
 |_=>exact .halt _ _
def yL {z z':Array Value}(h:ax ok ρ z z')(n:Nat):ax ok ρ ((Array.range n).map (z[·%z.size]!)) ((Array.range n).map (z'[·%z'.size]!)):=by
 refine ax.map (λi=>?_) _;have e:z'.size=z.size:=h.size.symm;rw[e];simp only[Array.getElem!_eq_getD];cases hx:z[i%z.size]? with
 |none=>
  rw[Array.getD_eq_getD_getElem?,Array.getD_eq_getD_getElem?,hx,h.none hx];exact qb rfl
 |some x=>
  let⟨x',dG,r⟩:=h.get hx;rw[Array.getD_eq_getD_getElem?,Array.getD_eq_getD_getElem?,hx,dG];exact r
def zD (hT:P0.toTables=P.toTables)(t:TypeId)(n:Nat)(hz:Fq P t=true){l l':Array (Nat×Value)}(e:l.toList.map (·.1)=l'.toList.map (·.1))(h:iD ok ρ (l.toList.map (·.2)) (l'.toList.map (·.2))):
  af P0 P ok str (ar ok) ρ (Instr.buildSlice t n l) (Instr.buildSlice t n l'):=by
 refine ae _ (an hT t) ?_;rintro τ d _ l1 ⟨rfl,hd⟩;cases d with
 |slice elem=>
  have Lp:FF P elem=true:=by unfold Fq at hz;rw[hd]at hz;exact hz
  refine ae _ (dg hT _) ?_;rintro υ size _ l2 ⟨rfl,_⟩;have fin:∀{φ:Ren} {z z':Array Value},τ.le φ->ax ok φ z z'->af P0 P ok str (ar ok) φ
    (match Instr.fill (λi=>some (i*size,size)) ((Array.range<|n*size).map (z[·%z.size]!)) l.toList with|some cells=>(do pure (.slice (some<|<-newRow elem cells) n n))|_=>stuck "buildSlice: a part of the wrong size")
    (match Instr.fill (λi=>some (i*size,size)) ((Array.range<|n*size).map (z'[·%z'.size]!)) l'.toList with|some cells=>(do pure (.slice (some<|<-newRow elem cells) n n))|_=>stuck "buildSlice: a part of the wrong size"):=by
   intro φ z z' lφ Kh;rcases wQ (ok:=ok) (ρ:=φ) (λi=>some (i*size,size)) e (h.mono<|l1.trans lφ) (yL Kh<|n*size)with⟨h1,h2⟩|⟨r,r',h1,h2,h3⟩
   .simp only[h1];exact ly
   .simp only[h1,h2];refine ae _ (ir elem h3) ?_;intro ψ a a' _ r;exact ag<|.slice _ _ r
  dsimp only;split
  .exact .halt _ _
  .split
   .exact fin l2 ax.nil
   .refine ae _ (iQ hT _ Lp) ?_;intro φ z z' l3 Kh;exact fin (l2.trans l3) Kh.cells
 |_=>exact .halt _ _
def lw (n:Nat):af P0 P ok str (λ_ _ _=>True) ρ (askRoom n) (askRoom n):=by
 unfold askRoom;split
 .exact af.mark rfl (.pure trivial)
 .exact ag trivial
def CQ (hT:P0.toTables=P.toTables)(t:TypeId)(hz:Fq P t=true){a a' b b':Value}(h:ar ok ρ a a')(h':ar ok ρ b b'):af P0 P ok str (ar ok) ρ (Instr.makeSlice t a b) (Instr.makeSlice t a' b'):=by
 refine ae _ (an hT t) ?_;rintro σ d _ l1 ⟨rfl,hd⟩;cases d with
 |slice elem=>
  have Lp:FF P elem=true:=by unfold Fq at hz;rw[hd]at hz;exact hz
  refine ae _ (nu<|h.mono l1) ?_;rintro τ x _ l2 rfl;refine ae _ (nu<|(h'.mono l1).mono l2) ?_;rintro υ y _ l3 rfl;refine ae _ (bK hT _) ?_;rintro φ info _ l4 ⟨rfl,_⟩;dsimp only;split
  .split
   .exact eT hT (.error _) rfl
   .split
    .exact eT hT (.error _) rfl
    .exact af.choose _ λn=>eT hT (.error _) rfl
  .refine ae _ (lw _) ?_;intro ψ _ _ l5 _;refine ae _ (dg hT _) ?_;rintro χ size _ l6 ⟨rfl,_⟩;split
   .refine aZ (ae _ (ir elem<|yL ax.nil _) ?_);intro ω r r' _ hr;exact ag<|.slice _ _ hr
   .refine ae _ (iQ hT _ Lp) ?_;intro κ z z' l7 Kh;refine aZ<|ae _ (ir elem<|yL Kh.cells _) ?_;intro ω r r' _ hr;exact ag (.slice _ _ hr)
 |_=>exact .halt _ _
end
section
variable {ok:Ctx}{ρ:Ren}
def jB (hT:P0.toTables=P.toTables)(h:ar ok ρ v v')(y:Nat)(c:BoundsCode):af P0 P ok str (λ_ x y=>x=y) ρ (Instr.sliceBound v y c) (Instr.sliceBound v' y c):=by
 refine ae _ (oq h) ?_;rintro σ ⟨k,i⟩ _ _ rfl;dsimp only;split
 .exact ag rfl
 .exact nv hT _ _ _ _
inductive mQ (ok:Ctx)(ρ:Ren):Option Value->Option Value->Prop
 |none:mQ ok ρ none none
 |some {v v':Value}:ar ok ρ v v'->mQ ok ρ (some v) (some v')
def mQ.mono {σ:Ren}{v v':Option Value}(h:mQ ok ρ v v')(l:ρ.le σ):mQ ok σ v v':=by
 cases h with
 |none=>exact .none
 |some h=>exact .some<|h.mono l
def SL (lo:Option Value)(m h:Nat)(c:BoundsCode):Sem (Nat×Nat×Nat):=match lo with|some v=>(do let l <-Instr.sliceBound v h c;pure (l,h,m))|none=>(do let l <-pure 0;pure (l,h,m))
def Hp (hT:P0.toTables=P.toTables)(h1:mQ ok ρ lo Cw)(m h:Nat)(c:BoundsCode):af P0 P ok str (λ_ x y=>x=y) ρ (SL lo m h c) (SL Cw m h c):=by
 cases h1 with
 |none=>exact aZ (ag rfl)
 |some hv=>
  refine ae _ (jB hT hv _ _) ?_;rintro τ x _ _ rfl;exact ag rfl
def ge (hT:P0.toTables=P.toTables)(b:Bool)(len cap:Nat)(h1:mQ ok ρ lo Cw)(h2:mQ ok ρ hi oH)(h3:mQ ok ρ mx mx'):
  af P0 P ok str (λ_ x y=>x=y) ρ (Instr.sliceBounds b len cap lo hi mx) (Instr.sliceBounds b len cap Cw oH mx'):=by
 unfold Instr.sliceBounds;cases h3 with
 |none=>
  refine aZ ?_;cases h2 with
  |none=>exact aZ (Hp hT h1 _ _ _)
  |some hv=>
   refine ae _ (jB hT hv _ _) ?_;rintro τ x _ l rfl;exact Hp hT (h1.mono l) _ _ _
 |some hm=>
  refine ae _ (jB hT hm _ _) ?_;rintro τ x _ l rfl;cases h2 with
  |none=>exact .halt _ _
  |some hv=>
   refine ae _ (jB hT (hv.mono l) _ _) ?_;rintro υ y _ l' rfl;exact Hp hT (h1.mono<|l.trans l') _ _ _
def Hq (hT:P0.toTables=P.toTables)(t:TypeId)(h:ar ok ρ v v')(h1:mQ ok ρ lo Cw)(h2:mQ ok ρ hi oH)(h3:mQ ok ρ mx mx'):
  af P0 P ok str (ar ok) ρ (Instr.sliceAt t v lo hi mx) (Instr.sliceAt t v' Cw oH mx'):=by
 have tail:∀{σ:Ren} {a a':Addr} (l m n size:Nat),dI σ a a'->af P0 P ok str (ar ok) σ (pure<|.slice (some (if m=l then a else a.add (l*size))) (n-l)<|m-l) (pure<|.slice (some (if m=l then a' else a'.add (l*size))) (n-l)<|m-l):=by
  intro σ a a' l m n size r;split
  .exact ag (.slice _ _ r)
  .exact ag (.slice _ _<|r.add _)
 refine ae _ (an hT t) ?_;rintro σ d _ l1 ⟨rfl,hd⟩;have VD:af P0 P ok str (ar ok) σ (Instr.slice t v lo hi mx) (Instr.slice t v' Cw oH mx'):=by
  refine ae _ (an hT t) ?_;rintro τ d _ l2 ⟨rfl,hd⟩;have hv:=(h.mono l1).mono l2;have g1:=(h1.mono l1).mono l2;have g2:=(h2.mono l1).mono l2;have g3:=(h3.mono l1).mono l2;cases d with
  |string=>
   cases hv with
   |string s=>
    dsimp only;cases g3 with
    |none=>
     simp only[Option.isSome_none,Bool.false_eq_true,if_false];refine ae _ (ge hT false s.size s.size g1 g2 .none) ?_;rintro υ ⟨l,hh,m⟩ _ _ rfl;exact ag (.string _)
    |some _=>exact .halt _ _
   |_=>exact .halt _ _
  |slice elem=>
   cases hv with
   |dH len cap=>
    refine ae _ (ge hT true len cap g1 g2 g3) ?_;rintro υ ⟨l,hh,m⟩ _ _ rfl;refine ae _ (dg hT _) ?_;rintro φ size _ _ ⟨rfl,_⟩;split
    .exact ag (.dH _ _)
    .exact ag (.dH _ _)
   |slice len cap r=>
    refine ae _ (ge hT true len cap g1 g2 g3) ?_;rintro υ ⟨l,hh,m⟩ _ l3 rfl;refine ae _ (dg hT _) ?_;rintro φ size _ l4 ⟨rfl,_⟩;split
    .exact ag (.slice _ _<|(r.mono l3).mono l4)
    .exact ag (.slice _ _<|((r.mono l3).mono l4).add _)
   |_=>exact .halt _ _
  |pointer arr=>
   refine ae _ (ui hT hv) ?_;intro υ a a' l3 r;refine ae _ (an hT _) ?_;rintro φ d2 _ l4 ⟨rfl,_⟩;cases d2 with
   |array n elem=>
    refine ae _ (ge hT false n n (g1.mono<|l3.trans l4) (g2.mono<|l3.trans l4)<|g3.mono<|l3.trans l4) ?_;rintro ψ ⟨l,hh,m⟩ _ l5 rfl;refine ae _ (dg hT _) ?_;rintro χ size _ l6 ⟨rfl,_⟩;exact tail _ _ _ _ (((r.mono l4).mono l5).mono l6)
   |_=>exact .halt _ _
  |_=>exact .halt _ _
 cases d with
 |array n elem=>
  refine ae _ (tv<|h.mono l1) ?_;intro υ a a' l3 r;refine ae _ (ge hT false n n ((h1.mono l1).mono l3) ((h2.mono l1).mono l3)<|(h3.mono l1).mono l3) ?_;rintro ψ ⟨l,hh,m⟩ _ l5 rfl;refine ae _ (dg hT _) ?_;rintro χ size _ l6 ⟨rfl,_⟩;exact tail _ _ _ _ ((r.mono l5).mono l6)
 |_=>exact VD
def Hl (h:ar ok ρ v v')(i:Nat):af P0 P ok str (ar ok) ρ (Instr.extract v i) (Instr.extract v' i):=by
 cases h with
 |@tuple xs xs' e h=>
  have hh:ax ok ρ xs xs':=⟨e,h⟩;unfold Instr.extract;cases hx:xs[i]? with
  |none=>simp only[hx];exact .halt _ _
  |some x=>
   let⟨x',dG,r⟩:=hh.get hx;simp only[hx,dG];exact ag r
 |_=>exact .halt _ _
def vX (hT:P0.toTables=P.toTables)(t:TypeId)(h:ax ok ρ cs cs')(off:Nat):af P0 P ok str (ar ok) ρ (part t cs off) (part t cs' off):=by
 refine ae _ (EY hT t) ?_;rintro σ b _ l rfl;split
 .refine ae _ (dg hT t) ?_;rintro τ n _ l' ⟨rfl,_⟩;have:=((h.mono l).mono l').extract off<|off+n;exact ag<|.agg this.size this.at_
 .cases hx:cs[off]? with
  |none=>exact .halt _ _
  |some x=>
   let⟨x',dG,r⟩:=(h.mono l).get hx;simp only[dG];exact ag r
def Ou (hT:P0.toTables=P.toTables)(t:TypeId){i:Value}(h:ar ok ρ v v')(hi:ar ok ρ i i'):af P0 P ok str (ar ok) ρ (Instr.index t v i) (Instr.index t v' i'):=by
 refine ae _ (oq hi) ?_;rintro σ ⟨k,n⟩ _ l rfl;refine ae _ (an hT t) ?_;rintro τ d _ l1 ⟨rfl,hd⟩;have hv:=(h.mono l).mono l1;cases d with
 |array len elem=>
  cases hv with
  |agg e hc=>
   dsimp only;split
   .refine ae _ (dg hT _) ?_;rintro υ size _ l2 ⟨rfl,_⟩;exact vX hT _ (ax.mono ⟨e,hc⟩ l2) _
   .exact nv hT _ _ _ _
  |_=>exact .halt _ _
 |string=>
  cases hv with
  |string s=>
   dsimp only;split
   .exact ag (.int _ _)
   .exact nv hT _ _ _ _
  |_=>exact .halt _ _
 |_=>exact .halt _ _
def Oz (op:UnOp)(h:ar ok ρ v v'):af P0 P ok str (ar ok) ρ (Op.unary op v) (Op.unary op v'):=by
 cases h with
 |bool b=>cases op<;>first|exact ag (.bool _)|exact .halt _ _
 |int k n=>cases op<;>first|exact ag (.int _ _)|exact .halt _ _|(simp only[Op.unary,Op.intArith];exact ag<|.int _ _)|(simp only[Op.unary,Op.intBits];exact ag<|.int _ _)
 |_=>cases op<;>exact .halt _ _
end
section
variable {ok:Ctx}{ρ:Ren}
def dI.beq {b:Addr}(h:dI ρ a a')(h':dI ρ b b'):(a'==b')=(a==b):=by
 have key:a'=b'<->a=b:=by
  constructor
  .rintro rfl;have hb:=ρ.inj _ _ _ h.blk h'.blk;have ho:a.off=b.off:=by rw[<-h.off,<-h'.off]
   have hs:a.spot=b.spot:=by rw[<-h.spot,<-h'.spot]
   cases a;cases b;simp_all
  .rintro rfl;have hb:a'.block=b'.block:=by have:=h.blk;rw[h'.blk]at this;exact(adb this).symm
   have ho:a'.off=b'.off:=by rw[h.off,h'.off]
   have hs:a'.spot=b'.spot:=by rw[h.spot,h'.spot]
   cases a';cases b';simp_all
 by_cases e:a=b
 .rw[beq_iff_eq.2 e,beq_iff_eq.2 (key.2 e)]
 .rw[beq_eq_false_iff_ne.2 e,beq_eq_false_iff_ne.2 (λx=>e<|key.1 x)]
def dI.Ac {b:Addr}(h:dI ρ a a')(h':dI ρ b b'):(a'.block==b'.block)=(a.block==b.block):=by
 by_cases e:a.block=b.block
 .have:a'.block=b'.block:=by have:=h.blk;rw[e,h'.blk]at this;exact(adb this).symm
  rw[beq_iff_eq.2 e,beq_iff_eq.2 this]
 .have:a'.block≠b'.block:=λx=>e (ρ.inj _ _ _ h.blk<|x▸h'.blk)
  rw[beq_eq_false_iff_ne.2 e,beq_eq_false_iff_ne.2 this]
def KV (h:ρ r=some r'):af P0 P ok str (λ_ x y=>x=none/\y=none) ρ (viewAt r) (viewAt r'):=by
 refine af.shape h λs=>?_
 cases s with
 |some x=>exact .pure ⟨rfl,rfl⟩
 |none=>
  refine af.getObj h λo o' ho=>?_
  cases ho<;>exact .pure ⟨rfl,rfl⟩
inductive FN (ρ:Ren):Option (Addr×Bool)->Option (Addr×Bool)->Prop
 |none:FN ρ none none
 |some {a a':Addr} (b:Bool):dI ρ a a'->FN ρ (some (a,b)) (some (a',b))
def vd (h:ρ r=some r'):af P0 P ok str (λσ x y=>ρ.le σ/\FN σ x y) ρ (numberAt r) (numberAt r'):=by
 refine af.shape h λs=>?_
 cases s with
 |some x=>exact .pure ⟨Ren.le_refl _,.none⟩
 |none=>
  refine af.getObj h λo o' ho=>?_
  cases ho<;>first|exact .pure ⟨Ren.le_refl _,.none⟩|(rename_i b r;exact .pure ⟨Ren.le_refl _,.some b r⟩)
def kP (h:dI ρ a a'):af P0 P ok str (λσ x y=>ρ.le σ/\dI σ x.1 y.1/\x.2=y.2) ρ (behindNumber a) (behindNumber a'):=by
 refine ae _ (vd h.blk) ?_;rintro σ x y l ⟨_,hn⟩;cases hn with
 |none=>exact ag ⟨l,h.mono l,rfl⟩
 |some b r=>exact ag ⟨l,r,rfl⟩
def KU (h:dI ρ a a'):af P0 P ok str (λσ _ _=>ρ.le σ) ρ (noView a) (noView a'):=by
 refine af.shape h.blk λs=>?_
 cases s with
 |some x=>exact .pure (Ren.le_refl _)
 |none=>
  refine af.getObj h.blk λo o' ho=>?_
  cases ho<;>exact .pure<|Ren.le_refl _
omit [Gl] in
def qI (hT:P0.toTables=P.toTables):∀d e o,byteOfCell P0 d e o=byteOfCell P d e o:=by
 intro d;induction d with
 |zero=>intro e o;rfl
 |succ d ih=>intro e o;simp only[byteOfCell,ur hT,Program.cellsOf,Program.bytesOf,hT,ih];rfl
def nz (hT:P0.toTables=P.toTables)(h:dI ρ a a'):af P0 P ok str (λ_ x y=>x=y) ρ (byteOf a) (byteOf a'):=by
 unfold byteOf;rw[h.spot];cases a.spot with
 |some s=>exact ag rfl
 |none=>
  refine af.program<|aZ ?_;refine ae _ (KU h) ?_;rintro σ _ _ l _;refine af.shape (l _ _ h.blk) λs=>?_
  cases s with
  |none=>exact .halt _ _
  |some x=>
   let⟨e,n⟩:=x;show af P0 P ok str _ σ (if P0.cellsOf e=0 then pure 0 else match byteOfCell P0 P0.depth e (a.off%P0.cellsOf e)with|some b=>pure (a.off/P0.cellsOf e*P0.bytesOf e+b)|_=>stuck "byteOf: no such cell")
    (if P.cellsOf e=0 then pure 0 else match byteOfCell P P.depth e (a'.off%P.cellsOf e)with|some b=>pure (a'.off/P.cellsOf e*P.bytesOf e+b)|_=>stuck "byteOf: no such cell")
   rw[h.off,qI hT,show P0.cellsOf e=P.cellsOf e by unfold Program.cellsOf;rw[hT],show P0.bytesOf e=P.bytesOf e by unfold Program.bytesOf;rw[hT],show P0.depth=P.depth by unfold Program.depth;rw[hT]];split
   .exact ag rfl
   .split
    .exact ag rfl
    .exact .halt _ _
def BK (P:Program)(t:TypeId):Bool:=match P.underlying t with|some .bool|some .string|some (.int _)|some (.slice _)=>true|_=>false
def Jj (hT:P0.toTables=P.toTables)(hG:P.globals.size=Gl.n)(d:Nat)(t:TypeId)(ht:BK P t=true)(hx:ar ok ρ x x')(hy:ar ok ρ y y'):af P0 P ok str (λ_ x y=>x=y) ρ (Op.equalIn d t x y) (Op.equalIn d t x' y'):=by
 cases d with
 |zero=>exact .halt _ _
 |succ d=>
  unfold Op.equalIn;refine ae _ (an hT t) ?_;rintro σ u _ l ⟨rfl,hu⟩;have hx:=hx.mono l;have hy:=hy.mono l;unfold BK at ht;rw[hu]at ht;cases u with
  |bool=>cases hx<;>(first|exact .halt _ _|(cases hy<;>(first|exact .halt _ _|exact ag rfl)))
  |string=>cases hx<;>(first|exact .halt _ _|(cases hy<;>(first|exact .halt _ _|exact ag rfl)))
  |slice e=>cases hx<;>(first|exact .halt _ _|(cases hy<;>(first|exact .halt _ _|exact ag rfl)))
  |int k=>
   cases hx with
   |int k1 a=>
    cases hy with
    |int k2 b=>
     dsimp only;split
     .exact ag rfl
     .exact .halt _ _
    |ptr r=>
     by_cases e:a=0
     .subst e;exact ag rfl
     .dsimp only;split<;>first|exact .halt _ _|(exfalso;simp_all;done)|exact ag rfl
    |_=>exact .halt _ _
   |@ptr a a' r=>
    cases hy with
    |int k2 b=>
     by_cases e:b=0
     .subst e;exact ag rfl
     .dsimp only;split<;>first|exact .halt _ _|(exfalso;simp_all;done)|exact ag rfl
    |@ptr b b' r2=>
     refine ae _ (kP r) ?_;rintro τ ⟨a,_⟩ ⟨a',_⟩ _ ⟨l1,r,_⟩;refine ae _ (kP<|r2.mono l1) ?_;rintro υ ⟨b,_⟩ ⟨b',_⟩ _ ⟨l2,r2,_⟩;have r:dI υ a a':=r.mono l2;have r2:dI υ b b':=r2;refine af.program<|aZ ?_;show af P0 P ok str _ υ (if(a.block==b.block&&decide (a.block<P0.globals.size))=true then(do let x <-byteOf a;let y <-byteOf b;pure (x==y))else _)
      (if(a'.block==b'.block&&decide (a'.block<P.globals.size))=true then(do let x <-byteOf a';let y <-byteOf b';pure (x==y))else _)
     have hg:decide (a'.block<P.globals.size)=decide (a.block<P0.globals.size):=by
      rw[hT,hG];have:=υ.DL _ _ r.blk;exact decide_eq_decide.2 this.symm
     rw[r.Ac r2,hg];split
     .refine ae _ (nz hT r) ?_;rintro φ n _ l3 rfl;refine ae _ (nz hT<|r2.mono l3) ?_;rintro χ m _ _ rfl;exact ag rfl
     .refine ae _ (bK hT t) ?_;rintro φ i _ l3 ⟨rfl,_⟩;split
      .rw[(r.mono l3).beq (r2.mono l3)];split
       .exact ag rfl
       .exact .halt _ _
      .exact .halt _ _
    |_=>exact .halt _ _
   |_=>cases hy<;>exact .halt _ _
  |_=>cases ht
def TX (P:Program)(t:TypeId):Bool:=match P.underlying t with|some (.struct fs)=>!P.stoodInHeld t&&fs.all (λf=>BK P f.type)|_=>false
def KO (hT:P0.toTables=P.toTables)(hG:P.globals.size=Gl.n)(d:Nat):∀(l:List Field) (_:l.all (λf=>BK P f.type)=true) {ρ:Ren} {xs xs' ys C6:Array Value},ax ok ρ xs xs'->ax ok ρ ys C6->
  af P0 P ok str (λ_ x y=>x=y) ρ
   (forIn l ((none:Option Bool),()) λf _=>do
    if f.name≠ "_" then
     if !(<-Op.equalIn d f.type (<-part f.type xs f.offset) (<-part f.type ys f.offset))then pure (ForInStep.done (some false,()))else pure (ForInStep.yield (none,()))
    else pure (ForInStep.yield (none,())))
   (forIn l ((none:Option Bool),()) λf _=>do
    if f.name≠ "_" then
     if !(<-Op.equalIn d f.type (<-part f.type xs' f.offset) (<-part f.type C6 f.offset))then pure (ForInStep.done (some false,()))else pure (ForInStep.yield (none,()))
    else pure (ForInStep.yield (none,()))):=by
 intro l;induction l with
 |nil=>intro _ ρ xs xs' ys C6 hx hy;exact ag rfl
 |cons f l ih=>
  intro hl ρ xs xs' ys C6 hx hy;simp only[List.all_cons,Bool.and_eq_true]at hl;simp only[List.forIn_cons];by_cases hn:f.name≠ "_"
  .simp only[if_pos hn];refine ae (λτ x y=>x=y/\(x=.done (some false,())\/x=.yield (none,()))) ?_ ?_
   .refine ae _ (vX hT f.type hx f.offset) ?_;intro τ a a' l1 ha;refine ae _ (vX hT f.type (hy.mono l1) f.offset) ?_;intro υ b b' l2 hb;refine ae _ (Jj hT hG d f.type hl.1 (ha.mono l2) hb) ?_;rintro φ r _ l3 rfl;cases r
    .exact ag ⟨rfl,.inl rfl⟩
    .exact ag ⟨rfl,.inr rfl⟩
   .rintro τ x _ l1 ⟨rfl,rfl|rfl⟩
    .exact ag rfl
    .exact ih hl.2 (hx.mono l1) (hy.mono l1)
  .simp only[if_neg hn];exact ih hl.2 hx hy
def VH (hT:P0.toTables=P.toTables)(hG:P.globals.size=Gl.n)(d:Nat)(t:TypeId)(ht:TX P t=true)(hx:ar ok ρ x x')(hy:ar ok ρ y y'):af P0 P ok str (λ_ x y=>x=y) ρ (Op.equalIn d t x y) (Op.equalIn d t x' y'):=by
 cases d with
 |zero=>exact .halt _ _
 |succ d=>
  unfold Op.equalIn;refine ae _ (an hT t) ?_;rintro σ u _ l ⟨rfl,hu⟩;have hx:=hx.mono l;have hy:=hy.mono l;unfold TX at ht;rw[hu]at ht;cases u with
  |struct fs=>
   simp only[Bool.and_eq_true,Bool.not_eq_true']at ht;cases hx with
   |agg e1 h1=>
    cases hy with
    |agg e2 h2=>
     dsimp only;refine af.program<|aZ ?_;rw[ht.1];split
     .exact .halt _ _
     .rw[if_neg aF,<-Array.forIn_toList,<-Array.forIn_toList];refine ae _ (KO hT hG d fs.toList (by simpa using ht.2) ⟨e1,h1⟩ ⟨e2,h2⟩) ?_;rintro τ s _ _ rfl;split<;>exact ag rfl
    |_=>exact .halt _ _
   |_=>cases hy<;>exact .halt _ _
  |_=>cases ht
def R5 (P:Program)(t:TypeId):Bool:=BK P t||TX P t
def VG (hT:P0.toTables=P.toTables)(hG:P.globals.size=Gl.n)(d:Nat)(t:TypeId)(ht:R5 P t=true)(hx:ar ok ρ x x')(hy:ar ok ρ y y'):af P0 P ok str (λ_ x y=>x=y) ρ (Op.equalIn d t x y) (Op.equalIn d t x' y'):=by
 unfold R5 at ht;rcases Bool.or_eq_true_iff.1 ht with h|h
 .exact Jj hT hG d t h hx hy
 .exact VH hT hG d t h hx hy
omit [Gl] in
def yV (hT:P0.toTables=P.toTables):∀d e o,cellOfByte P0 d e o=cellOfByte P d e o:=by
 intro d;induction d with
 |zero=>intro e o;rfl
 |succ d ih=>intro e o;simp only[cellOfByte,ur hT,Program.cellsOf,Program.bytesOf,hT,ih];rfl
omit [Gl] in
def wD (hT:P0.toTables=P.toTables)(d e c o:Nat)(n:Int):cellAtBytes P0 d e c o n=cellAtBytes P d e c o n:=by
 simp only[cellAtBytes,Program.cellsOf,Program.bytesOf,hT,qI hT,yV hT];rfl
def qV (hT:P0.toTables=P.toTables)(ts:Array TypeId)(t:TypeId)(h:ar ok ρ v v')(hn:ar ok ρ n n'):af P0 P ok str (λσ x y=>ar ok σ x y/\x≠hole) ρ (Builtin.unsafeAdd_ ts t #[v,n]) (Builtin.unsafeAdd_ ts t #[v',n']):=by
 cases h with
 |mz=>
  refine ae _ (nu hn) ?_;rintro σ m _ l rfl;dsimp only;split
  .exact .halt _ _
  .split
   .exact .halt _ _
   .exact .halt _ _
 |@ptr a a' r=>
  refine ae _ (nu hn) ?_;rintro σ m _ l rfl;have r:=r.mono l;dsimp only;split
  .refine ae _ (KV r.blk) ?_;rintro τ _ _ l1 ⟨rfl,rfl⟩;exact .pure ⟨.ptr<|r.mono l1,by simp[hole]⟩
  .split
   .exact .halt _ _
   .refine af.shape r.blk λs=>?_
    cases s with
    |none=>exact .halt _ _
    |some x=>
     let⟨e,n⟩:=x;refine af.program ?_;show af P0 P ok str _ σ (match cellAtBytes P0 P0.depth e (n/P0.cellsOf e) a.off m with|some off=>pure (Value.pointer<|some {a with off})|none=>unsupported<|.unsafePointer "Add")
      (match cellAtBytes P P.depth e (n/P.cellsOf e) a'.off m with|some off=>pure (Value.pointer<|some {a' with off})|none=>unsupported<|.unsafePointer "Add")
     rw[wD hT,r.off,show P0.cellsOf e=P.cellsOf e by unfold Program.cellsOf;rw[hT],show P0.depth=P.depth by unfold Program.depth;rw[hT]];split
     .exact .pure ⟨.ptr ⟨r.blk,rfl,r.spot⟩,by simp[hole]⟩
     .exact .halt _ _
 |_=>exact .halt _ _
def oy (hT:P0.toTables=P.toTables)(ts:Array TypeId)(t:TypeId)(h:ar ok ρ v v')(hn:ar ok ρ n n'):af P0 P ok str (ar ok) ρ (Builtin.unsafeAdd_ ts t #[v,n]) (Builtin.unsafeAdd_ ts t #[v',n']):=
 (qV hT ts t h hn).mono λ_ _ _ h=>h.1
def EV (b:Bool)(r:dI ρ a a'):af P0 P ok str (ar ok) ρ (asNumber a b) (asNumber a' b):=by
 refine af.new (.number b r) ?_;intro σ x y _ e;exact .pure<|.ptr ⟨e,rfl,rfl⟩
def fF (hT:P0.toTables=P.toTables)(t:TypeId)(h:ar ok ρ v v')(hn:ar ok ρ n n'):af P0 P ok str (ar ok) ρ (movedNumber t v n) (movedNumber t v' n'):=by
 refine ae _ (an hT t) ?_;rintro σ d _ l ⟨rfl,_⟩;have h:=h.mono l;have hn:=hn.mono l;dsimp only;split
 .exact .halt _ _
 .cases h with
  |@ptr a a' r=>
   refine ae _ (kP r) ?_;rintro τ ⟨b,z⟩ ⟨b',z'⟩ l1 ⟨_,r,e⟩;simp only at e;subst e;refine ae _ (qV hT #[] t (.ptr r)<|hn.mono l1) ?_;rintro υ x x' l2 ⟨hx,hne⟩;cases hx with
   |hole _=>exact absurd rfl hne
   |ptr r=>exact EV _ r
   |mz=>exact ag .mz
   |bool b=>exact ag (.bool b)
   |int k n=>exact ag (.int k n)
   |string s=>exact ag (.string s)
   |dH l c=>exact ag (.dH l c)
   |slice n c h=>exact ag (.slice n c h)
   |nilFunc=>exact ag .nilFunc
   |nilIface=>exact ag .nilIface
   |iface t h=>exact ag (.iface t h)
   |func a b c d e=>exact ag (.func a b c d e)
   |agg e h=>exact ag (.agg e h)
   |tuple e h=>exact ag (.tuple e h)
  |mz=>exact oy hT #[] t .mz hn
  |_=>exact .halt _ _
def vE (hT:P0.toTables=P.toTables)(t:TypeId)(r:dI ρ a a')(hn:ar ok ρ n n'):af P0 P ok str (ar ok) ρ (movedPointer t (.pointer<|some a) n) (movedPointer t (.pointer<|some a') n'):=by
 refine ae _ (vd r.blk) ?_;rintro σ x y l ⟨_,h⟩;cases h with
 |none=>exact oy hT #[] t (.ptr<|r.mono l) (hn.mono l)
 |some b _=>exact .halt _ _
def tw (hT:P0.toTables=P.toTables)(hG:P.globals.size=Gl.n){b:Addr}(r:dI ρ a a')(r2:dI ρ b b'):af P0 P ok str (λ_ x y=>x=y) ρ (Op.twoPlaces a b) (Op.twoPlaces a' b'):=by
 refine af.program<|aZ ?_;show af P0 P ok str _ ρ (if(a.block !=b.block||decide (a.block>=P0.globals.size))=true then unsupported .addressObserved else(do let x <-byteOf a;let y <-byteOf b;pure (x,y)))
  (if(a'.block !=b'.block||decide (a'.block>=P.globals.size))=true then unsupported .addressObserved else(do let x <-byteOf a';let y <-byteOf b';pure (x,y)))
 have hg:decide (a'.block>=P.globals.size)=decide (a.block>=P0.globals.size):=by
  rw[hT,hG];have:=ρ.DL _ _ r.blk;exact decide_eq_decide.2 aa
 have hb:(a'.block !=b'.block)=(a.block !=b.block):=by unfold bne;rw[r.Ac r2]
 rw[hb,hg];split
 .exact .halt _ _
 .refine ae _ (nz hT r) ?_;rintro φ n _ l3 rfl;refine ae _ (nz hT<|r2.mono l3) ?_;rintro χ m _ _ rfl;exact ag rfl
end
section
variable {ok:Ctx}{ρ:Ren}
def Oq {A:Ren->α->β->Prop}{s:Sem α}{s':Sem β}(h:∃z,s=.halt z/\ends z=true):af P0 P ok str A ρ s s':=by
 obtain⟨z,rfl,hz⟩:=h;exact .halt _ _ hz
def EX (op:BinOp)(k:IntKind)(a b:Int):af P0 P ok str (ar ok) ρ (Op.intArith op k a b) (Op.intArith op k a b):=by
 cases op<;>first|exact ag (.int _ _)|exact .halt _ _
def KS (hT:P0.toTables=P.toTables)(op:BinOp)(k:IntKind)(a b:Int):af P0 P ok str (ar ok) ρ (Op.intDiv op k a b) (Op.intDiv op k a b):=by
 unfold Op.intDiv;split
 .exact eT hT (.error _) rfl
 .cases op<;>first|exact ag (.int _ _)|exact .halt _ _
def Ho (op:BinOp)(k:IntKind)(a b:Int):af P0 P ok str (ar ok) ρ (Op.intBits op k a b) (Op.intBits op k a b):=by
 cases op<;>first|exact ag (.int _ _)|exact .halt _ _
def KR (op:BinOp)(a b:Int):af P0 P ok str (ar ok) ρ (Op.intCmp op a b) (Op.intCmp op a b):=by
 cases op<;>first|exact ag (.bool _)|exact .halt _ _
def E1 (hT:P0.toTables=P.toTables)(op:BinOp)(k k':IntKind)(a b:Int):af P0 P ok str (ar ok) ρ (Op.shift op k a k' b) (Op.shift op k a k' b):=by
 unfold Op.shift;split
 .exact eT hT (.error _) rfl
 .cases op<;>first|exact ag (.int _ _)|exact .halt _ _
def ve (op:BinOp)(a b:ByteArray):af P0 P ok str (ar ok) ρ (Op.stringOp op a b) (Op.stringOp op a b):=by
 cases op with
 |add=>
  unfold Op.stringOp;dsimp only;split
  .exact .halt _ _
  .exact ag (.string _)
 |_=>first|exact ag (.bool _)|exact .halt _ _
def Rh (hT:P0.toTables=P.toTables)(op:BinOp)(t:TypeId)(k k':IntKind)(a b:Int):af P0 P ok str (ar ok) ρ (binOp op t (.int k a)<|.int k' b) (binOp op t (.int k a)<|.int k' b):=by
 cases op with
 |shl=>simp only[binOp];exact E1 hT _ _ _ _ _
 |shr=>simp only[binOp];exact E1 hT _ _ _ _ _
 |_=>
  simp only[binOp];split
  .exact .halt _ _
  .first|exact EX _ _ _ _|exact KS hT _ _ _ _|exact Ho _ _ _ _|exact KR _ _ _
def EW (hT:P0.toTables=P.toTables)(hG:P.globals.size=Gl.n)(t:TypeId)(ht:R5 P t=true)(hx:ar ok ρ x x')(hy:ar ok ρ y y'):af P0 P ok str (λ_ x y=>x=y) ρ (Op.equal t x y) (Op.equal t x' y'):=VG hT hG _ t ht hx hy
def Di:BinOp->Bool|.eql|.neq=>true|_=>false
def kU (P:Program)(op:BinOp)(t:TypeId):Bool:=if Di op then R5 P t else true
def Hf (hT:P0.toTables=P.toTables)(hG:P.globals.size=Gl.n)(k:IntKind){b:Addr}(r:dI ρ a a')(r2:dI ρ b b'):af P0 P ok str (ar ok) ρ (Op.addrSub k a b) (Op.addrSub k a' b'):=by
 refine ae _ (tw hT hG r r2) ?_;rintro σ x _ _ rfl;exact ag<|.int _ _
def oo (hT:P0.toTables=P.toTables)(hG:P.globals.size=Gl.n)(op:BinOp){b:Addr}(r:dI ρ a a')(r2:dI ρ b b'):af P0 P ok str (ar ok) ρ (Op.addrCmp op a b) (Op.addrCmp op a' b'):=by
 refine ae _ (tw hT hG r r2) ?_;rintro σ x _ _ rfl;cases op<;>first|exact ag (.bool _)|exact .halt _ _
def rY (hT:P0.toTables=P.toTables)(k:IntKind)(n:Int)(r:dI ρ a a'):af P0 P ok str (ar ok) ρ (Op.addrMod k a n) (Op.addrMod k a' n):=by
 refine af.shape r.blk λs=>?_
 cases s with
 |none=>exact .halt _ _
 |some x=>
  let⟨e,m⟩:=x;refine aZ<|ae _ (bK hT e) ?_;rintro σ i _ l ⟨rfl,_⟩;dsimp only;split
  .exact .halt _ _
  .refine ae _ (nz hT<|r.mono l) ?_;rintro τ x _ _ rfl;exact ag<|.int _ _
omit [Gl] in
def Dz (op:BinOp)(t:TypeId)(y:Value)(he:¬Di op=true)(n1:∀k a,x≠.int k a)(n2:∀a,x≠.string a)(n3:∀a,x≠.pointer a)(n4:∀k a,x≠.float k a)(n5:∀k a b,x≠.complex k a b):∃h,binOp op t x y=.halt h/\ends h=true:=by
 unfold binOp;split<;>first|exact absurd rfl (n1 _ _)|exact absurd rfl (n2 _)|exact absurd rfl (n3 _)|exact absurd rfl (n4 _ _)|exact absurd rfl (n5 _ _ _)|exact absurd rfl he|exact⟨_,rfl,rfl⟩
omit [Gl] in
def gh {r:Result α}(h:Result.stops r=true)(k:α->World->Result β):Result.stops (r.andThen k)=true:=by
 cases r with
 |ok a w=>cases h
 |halt x w=>exact h
omit [Gl] in
def Gc (hT:P0.toTables=P.toTables)(t:TypeId)(ht:R5 P t=true)(x:Value)(V:World):Result.stops ((Op.equal t x hole).run P0 V)=true/\Result.stops ((Op.equal t hole x).run P0 V)=true:=by
 have hu:P0.underlying t=P.underlying t:=by unfold Program.underlying;rw[hT]
 unfold R5 BK TX at ht;cases hd:P.underlying t with
 |none=>rw[hd]at ht;cases ht
 |some u=>
  rw[hd]at ht hu;have hr:∀V,(underlying t).run P0 V=.ok u V:=λV=>by simp[underlying,hu]
  constructor
  .show Result.stops ((Op.equalIn (9999+1) t x hole).run P0 V)=true;unfold Op.equalIn;rw[Sem.run_bind,hr];cases u<;>first|(simp at ht;done)|(cases x<;>first|rfl|(rename_i a _ _;cases a<;>rfl)|(rename_i a;cases a<;>rfl))
  .show Result.stops ((Op.equalIn (9999+1) t hole x).run P0 V)=true;unfold Op.equalIn;rw[Sem.run_bind,hr];cases u<;>first|(simp at ht;done)|(cases x<;>first|rfl|(rename_i a _ _;cases a<;>rfl)|(rename_i a;cases a<;>rfl))
omit [Gl] in
def nH (hT:P0.toTables=P.toTables)(op:BinOp)(t:TypeId)(ht:kU P op t=true)(x:Value)(V:World):Result.stops ((binOp op t x hole).run P0 V)=true/\Result.stops ((binOp op t hole x).run P0 V)=true:=by
 by_cases he:Di op=true
 .unfold kU at ht;rw[if_pos he]at ht;have h:=Gc hT t ht x V;cases op<;>first|cases he;done|skip
  .constructor
   .have e:binOp .eql t x hole=(do pure (.bool<|<-Op.equal t x hole)):=by cases x<;>rfl
    rw[e,Sem.run_bind];exact gh h.1 _
   .have e:binOp .eql t hole x=(do pure (.bool<|<-Op.equal t hole x)):=by cases x<;>rfl
    rw[e,Sem.run_bind];exact gh h.2 _
  .constructor
   .have e:binOp .neq t x hole=(do pure (.bool<|!(<-Op.equal t x hole))):=by cases x<;>rfl
    rw[e,Sem.run_bind];exact gh h.1 _
   .have e:binOp .neq t hole x=(do pure (.bool<|!(<-Op.equal t hole x))):=by cases x<;>rfl
    rw[e,Sem.run_bind];exact gh h.2 _
 .constructor<;>(cases op<;>first|exact absurd rfl he|(cases x<;>first|rfl|(rename_i a _ _;cases a<;>rfl)|(rename_i a;cases a<;>rfl)))
def Om (hT:P0.toTables=P.toTables)(hG:P.globals.size=Gl.n)(op:BinOp)(t:TypeId)(ht:kU P op t=true)(hx:ar ok ρ x x')(hy:ar ok ρ y y'):
  af P0 P ok str (ar ok) ρ (binOp op t x y) (binOp op t x' y'):=by
 by_cases hxh:x=hole
 .subst hxh;exact .dead _ _ λV=>(nH hT op t ht y V).2
 by_cases WR:y=hole
 .subst WR;exact .dead _ _ λV=>(nH hT op t ht x V).1
 have Mf:Di op=true->af P0 P ok str (ar ok) ρ (do pure (.bool<|<-Op.equal t x y)) (do pure (.bool<|<-Op.equal t x' y')):=by
  intro h;unfold kU at ht;rw[if_pos h]at ht;refine ae _ (EW hT hG t ht hx hy) ?_;rintro σ b _ _ rfl;exact ag<|.bool _
 have zv:Di op=true->af P0 P ok str (ar ok) ρ (do pure (.bool<|!(<-Op.equal t x y))) (do pure (.bool<|!(<-Op.equal t x' y'))):=by
  intro h;unfold kU at ht;rw[if_pos h]at ht;refine ae _ (EW hT hG t ht hx hy) ?_;rintro σ b _ _ rfl;exact ag<|.bool _
 have number:∀{σ:Ren} {a a':Addr},dI σ a a'->af P0 P ok str (λτ x y=>dI τ x.1 y.1) σ (behindNumber a) (behindNumber a'):=λr=>(kP r).mono λ_ _ _ h=>h.2.1
 cases hx with
 |hole _=>exact absurd rfl hxh
 |int k a=>
  cases hy with
  |hole _=>exact absurd rfl WR
  |int k' b=>exact Rh hT op t k k' a b
  |@ptr b b' r=>
   cases op with
   |eql=>exact Mf rfl
   |neq=>exact zv rfl
   |add=>simp only[binOp];exact fF hT t (.ptr r) (.int k a)
   |and=>
    simp only[binOp];refine ae _ (number r) ?_;intro σ x y _ h;exact rY hT _ _ h
   |_=>exact .halt _ _
  |mz=>
   cases op with
   |eql=>exact Mf rfl
   |neq=>exact zv rfl
   |add=>simp only[binOp];exact fF hT t .mz (.int k a)
   |_=>exact .halt _ _
  |_=>cases op<;>first|exact Mf rfl|exact zv rfl|exact .halt _ _
 |string a=>
  cases hy with
  |hole _=>exact absurd rfl WR
  |string b=>cases op<;>(simp only[binOp];exact ve _ _ _)
  |_=>cases op<;>first|exact Mf rfl|exact zv rfl|exact .halt _ _
 |@ptr a a' r=>
  cases hy with
  |hole _=>exact absurd rfl WR
  |int k b=>
   cases op with
   |eql=>exact Mf rfl
   |neq=>exact zv rfl
   |add=>
    simp only[binOp];refine ae _ (an hT t) ?_;rintro σ d _ l ⟨rfl,_⟩;split
    .exact vE hT t (r.mono l) (.int k b)
    .exact fF hT t (.ptr<|r.mono l) (.int k b)
   |sub=>simp only[binOp];exact fF hT t (.ptr r) (.int k _)
   |rem=>
    simp only[binOp];refine ae _ (number r) ?_;intro σ x y _ h;exact rY hT _ _ h
   |and=>
    simp only[binOp];refine ae _ (number r) ?_;intro σ x y _ h;exact rY hT _ _ h
   |_=>exact .halt _ _
  |@ptr b b' r2=>
   have two:∀{s s':Addr->Addr->Sem Value},(∀{σ:Ren} {c c' d d':Addr},dI σ c c'->dI σ d d'->af P0 P ok str (ar ok) σ (s c d) (s' c' d'))->
     af P0 P ok str (ar ok) ρ (do let c <-behindNumber a;let d <-behindNumber b;s c.1 d.1) (do let c <-behindNumber a';let d <-behindNumber b';s' c.1 d.1):=by
    intro s s' hs;refine ae _ (kP r) ?_;rintro σ x y l ⟨_,h1,_⟩;refine ae _ (kP<|r2.mono l) ?_;rintro τ x2 y2 l2 ⟨_,h2,_⟩;exact hs (h1.mono l2) h2
   cases op with
   |eql=>exact Mf rfl
   |neq=>exact zv rfl
   |sub=>simp only[binOp];exact two λh1 h2=>Hf hT hG _ h1 h2
   |lss=>simp only[binOp];exact two λh1 h2=>oo hT hG _ h1 h2
   |leq=>simp only[binOp];exact two λh1 h2=>oo hT hG _ h1 h2
   |gtr=>simp only[binOp];exact two λh1 h2=>oo hT hG _ h1 h2
   |geq=>simp only[binOp];exact two λh1 h2=>oo hT hG _ h1 h2
   |_=>exact .halt _ _
  |_=>cases op<;>first|exact Mf rfl|exact zv rfl|exact .halt _ _
 |mz=>
  cases hy with
  |hole _=>exact absurd rfl WR
  |int k b=>
   cases op with
   |eql=>exact Mf rfl
   |neq=>exact zv rfl
   |add=>
    simp only[binOp];refine ae _ (an hT t) ?_;rintro σ d _ l ⟨rfl,_⟩;split
    .exact oy hT #[] t .mz (.int k b)
    .exact fF hT t .mz (.int k b)
   |sub=>simp only[binOp];exact fF hT t .mz (.int k _)
   |_=>exact .halt _ _
  |_=>cases op<;>first|exact Mf rfl|exact zv rfl|exact .halt _ _
 |_=>
  by_cases he:Di op=true
  .cases hy with
   |hole _=>exact absurd rfl WR
   |_=>cases op<;>first|cases he;done|(simp only[binOp];exact Mf rfl)|(simp only[binOp];exact zv rfl)
  .refine Oq (Dz op t y he ?_ ?_ ?_ ?_ ?_)<;>simp
end
section
variable {ok:Ctx}{ρ:Ren}
def N9 (P:Program)(t:TypeId):Bool:=
 match P.underlying t with
 |some (.slice _)|some .string=>true
 |_=>false
def Dx (P:Program)(ts:Array TypeId):Bool:=
 match ts[0]?,ts[1]? with
 |some s,some x=>Fq P s&&N9 P x
 |_,_=>false
def tq (h:ar ok ρ x x'):af P0 P ok str (λ_ x y=>x=y) ρ (Builtin.lenOf x) (Builtin.lenOf x'):=by
 unfold Builtin.lenOf;cases h with
 |dH l c=>exact ag rfl
 |slice l c r=>exact ag rfl
 |string s=>exact ag rfl
 |_=>exact .halt _ _
def dO (size n:Nat)(h:ar ok ρ x x'):af P0 P ok str (λσ x y=>ax ok σ x y) ρ (Builtin.firstCells size n x) (Builtin.firstCells size n x'):=by
 unfold Builtin.firstCells;cases h with
 |dH l c=>exact ag ax.nil
 |slice l c r=>exact tu r _
 |string s=>exact ag ⟨rfl,λi x x' h h'=>by
   rw[h]at h';cases h';rw[Array.getElem?_map]at h;obtain⟨b,_,rfl⟩:=adp.1 h;exact .int _ _⟩
 |_=>exact .halt _ _
omit [Gl] in
def yH {s:Sem α}{f:α->Sem β}(h:Result.stops (Sem.run P s V)=true):Result.stops (Sem.run P (s >>= f) V)=true:=by
 rw[Sem.run_bind];generalize Sem.run P s V=r at h;cases r with
 |ok a w=>cases h
 |halt x w=>exact h
omit [Gl] in
def vf {s:Sem α}{f:α->Sem β}(h:∃a,Sem.run P s V=.ok a V)(hf:∀a w,Result.stops (Sem.run P (f a) w)=true):Result.stops (Sem.run P (s >>= f) V)=true:=by
 let⟨a,h⟩:=h;rw[Sem.run_bind,h];exact hf a V
omit [Gl] in
def ob {s:Sem α}{f:α->Sem β}(h:∃a,Sem.run P s V=.ok a V)(hf:∀a,∃b,Sem.run P (f a) V=.ok b V):∃b,Sem.run P (s >>= f) V=.ok b V:=by
 let⟨a,h⟩:=h;rw[Sem.run_bind,h];exact hf a
omit [Gl] in
def gX (P:Program)(a:α)(V:World):∃b,Sem.run P (pure a:Sem α) V=.ok b V:=⟨a,Sem.run_pure _ _ _⟩
omit [Gl] in
def xk (P:Program)(a:Addr)(k:Nat)(V:World):∃b,Sem.run P (Builtin.holdsCells a k) V=.ok b V:=by
 unfold Builtin.holdsCells;refine ob ⟨_,run_shape _ _ _⟩ λs=>?_
 cases s with
 |none=>exact gX _ _ _
 |some q=>exact gX _ _ _
omit [Gl] in
def uO (P:Program)(size ol n:Nat)(base:Option Addr)(x:Value)(V:World):∃b,Sem.run P (Builtin.mayShare size ol n base x) V=.ok b V:=by
 unfold Builtin.mayShare;cases base with
 |none=>
  dsimp only;refine ob (gX _ true _) λthere=>?_
  cases there
  .exact gX _ _ _
  .cases x with
   |slice a' l c=>
    cases a' with
    |none=>exact gX _ _ _
    |some a'=>exact ob (s:=Builtin.holdsCells a'<|n*size) (xk _ _ _ _) λb=>gX _ _ _
   |_=>exact gX _ _ _
 |some a=>
  dsimp only;refine ob (s:=Builtin.holdsCells a<|ol*size) (xk _ _ _ _) λb=>?_
  refine ob ⟨_,run_frozen _ _ _⟩ λc=>?_
  refine ob (gX _ (b&&!c) _) λthere=>?_
  cases there
  .exact gX _ _ _
  .cases x with
   |slice a' l c=>
    cases a' with
    |none=>exact gX _ _ _
    |some a'=>exact ob (s:=Builtin.holdsCells a'<|n*size) (xk _ _ _ _) λb=>gX _ _ _
   |_=>exact gX _ _ _
def fU {z z':Value}(h:ar ok ρ z z')(n:Nat):ax ok ρ (Builtin.zeroCells z.cells n) (Builtin.zeroCells z'.cells n):=by
 have hc:=h.cells;unfold Builtin.zeroCells;rw[<-hc.size];refine⟨aF,λi x x' hx dG=>?_⟩;rw[Array.getElem?_map]at hx dG;obtain⟨k,hk,rfl⟩:=adp.1 hx;obtain⟨k',pc,rfl⟩:=adp.1 dG;rw[hk]at pc;cases pc;by_cases gj:z.cells.size=0
 .rw[gj,Nat.mul_zero]at hk;simp at hk
 .have aB:k%z.cells.size<z.cells.size:=Nat.mod_lt _ aa;have g1:z.cells[k%z.cells.size]?=some z.cells[k%z.cells.size]!:=by simp[aB]
  have dr:k%z.cells.size<z'.cells.size:=by rw[<-hc.size];exact aB
  have g2:z'.cells[k%z.cells.size]?=some z'.cells[k%z.cells.size]!:=by simp[dr]
  exact hc.at_ _ _ _ g1 g2
def KN (hT:P0.toTables=P.toTables)(ts:Array TypeId)(t:TypeId)(hb:Dx P ts=true)(h:ax ok ρ xs xs'):af P0 P ok str (ar ok) ρ (Builtin.append_ ts t xs) (Builtin.append_ ts t xs'):=by
 unfold Builtin.append_;unfold Dx at hb;cases h0:ts[0]? with
 |none=>rw[h0]at hb;simp at hb
 |some sT=>
  cases h1:ts[1]? with
  |none=>rw[h0,h1]at hb;simp at hb
  |some xT=>
   rw[h0,h1]at hb;simp only[Bool.and_eq_true]at hb;cases hs:xs[0]? with
   |none=>exact .halt _ _
   |some s=>
    let⟨s',mJ,rs⟩:=h.get hs;cases hx:xs[1]? with
    |none=>exact .halt _ _
    |some x=>
     let⟨x',dG,rx⟩:=h.get hx;rw[mJ,dG];dsimp only;refine ae _ (an hT sT) ?_;rintro σ d _ l ⟨rfl,hd⟩;have rs:=rs.mono l;have rx:=rx.mono l;cases d with
     |slice elem=>
      have hz:FF P elem=true:=by have:=hb.1;unfold Fq at this;rw[hd]at this;exact this
      cases rs with
      |dH ol EQ=>
       dsimp only;refine ae _ (dg hT elem) ?_;rintro o_ size _ l1 ⟨rfl,_⟩;refine ae _ (an hT xT) ?_;rintro OX d2 _ l2 ⟨rfl,Sf⟩;have rx:=(rx.mono l1).mono l2;have Fz:=hb.2;unfold N9 at Fz;rw[Sf]at Fz;cases d2<;>first|cases Fz|skip
       all_goals
        refine aZ ?_;simp only[Bool.false_eq_true,if_false,Bool.not_false,if_true,false_or];refine ae _ (tq rx) ?_;rintro p_ n _ l3 rfl;have rx:=rx.mono l3;split
        .refine ae _ (dO size n rx) ?_;intro τ new G5 l4 hn;exact ag<|.dH _ _
        .refine ae _ (bK hT elem) ?_;rintro τ i _ l4 ⟨rfl,_⟩;split
         .exact ae (λ_ _ _=>False) (eT hT _ rfl) (λ_ _ _ _ h=>h.elim)
         .refine ae _ (bK hT elem) ?_;rintro τ1 i1 _ l5 ⟨rfl,_⟩;split
          .refine af.dead _ _ λV=>?_
           refine yH<|vf (uO _ _ _ _ _ _ _) λb w=>?_;split
           .rfl
           .rfl
          .refine af.choose _ λG6=>?_
           refine aZ ?_;refine ae _ (bK hT elem) ?_;rintro υ1 i _ k1 ⟨rfl,_⟩;refine ae _ (lw _) ?_;intro υ2 _ _ k2 _;refine ae _ (dO size ol<|.dH _ _) ?_;intro υ3 old Vh k3 ho;refine ae _ (dO size n<|(((rx.mono<|l4.trans l5).mono k1).mono k2).mono k3) ?_;intro υ4 new G5 k4 hn;refine ae _ (iQ hT elem hz) ?_;intro υ5 z z' k5 Nk;refine ae _ (ir elem<|ax.append (ax.append ((ho.mono k4).mono k5)<|hn.mono k5)<|fU Nk _) ?_;intro υ6 r r' k6 hr;exact ag (.slice _ _ hr)
      |@slice a a' ol EQ ra=>
       dsimp only;refine ae _ (dg hT elem) ?_;rintro o_ size _ l1 ⟨rfl,_⟩;refine ae _ (an hT xT) ?_;rintro OX d2 _ l2 ⟨rfl,Sf⟩;have rx:=(rx.mono l1).mono l2;have ra:=(ra.mono l1).mono l2;have Fz:=hb.2;unfold N9 at Fz;rw[Sf]at Fz;cases d2<;>first|cases Fz|skip
       all_goals
        refine aZ ?_;simp only[Bool.false_eq_true,if_false,Bool.not_false,if_true,false_or];refine ae _ (tq rx) ?_;rintro p_ n _ l3 rfl;have rx:=rx.mono l3;have ra:=ra.mono l3;split
        .refine ae _ (dO size n rx) ?_;intro τ new G5 l4 hn;refine ae _ (gR _ _ ((ra.mono l4).add _) 0 hn.list) ?_;intro q_ _ _ l5 _;exact ag<|.slice _ _<|(ra.mono l4).mono l5
        .refine ae _ (bK hT elem) ?_;rintro τ i _ l4 ⟨rfl,_⟩;split
         .exact ae (λ_ _ _=>False) (eT hT _ rfl) (λ_ _ _ _ h=>h.elim)
         .refine ae _ (bK hT elem) ?_;rintro τ1 i1 _ l5 ⟨rfl,_⟩;split
          .refine af.dead _ _ λV=>?_
           refine yH<|vf (uO _ _ _ _ _ _ _) λb w=>?_;split
           .rfl
           .rfl
          .refine af.choose _ λG6=>?_
           refine aZ ?_;refine ae _ (bK hT elem) ?_;rintro υ1 i _ k1 ⟨rfl,_⟩;refine ae _ (lw _) ?_;intro υ2 _ _ k2 _;refine ae _ (dO size ol<|.slice _ _<|((ra.mono<|l4.trans l5).mono k1).mono k2) ?_;intro υ3 old Vh k3 ho;refine ae _ (dO size n<|(((rx.mono<|l4.trans l5).mono k1).mono k2).mono k3) ?_;intro υ4 new G5 k4 hn;refine ae _ (iQ hT elem hz) ?_;intro υ5 z z' k5 Nk;refine ae _ (ir elem<|ax.append (ax.append ((ho.mono k4).mono k5)<|hn.mono k5)<|fU Nk _) ?_;intro υ6 r r' k6 hr;exact ag (.slice _ _ hr)
      |_=>exact .halt _ _
     |_=>exact .halt _ _
end
section
variable {ok:Ctx}{ρ:Ren}
def LZ (P:Program)(ts:Array TypeId):Bool:=
 match ts[0]? with
 |some s=>(match P.underlying s with|some (.slice e)=>FF P e|_=>false)
 |_=>false
def Oo (hT:P0.toTables=P.toTables)(ts:Array TypeId)(t:TypeId)(hb:LZ P ts=true)(h:ax ok ρ xs xs'):af P0 P ok str (ar ok) ρ (Builtin.clear_ ts t xs) (Builtin.clear_ ts t xs'):=by
 unfold Builtin.clear_;unfold LZ at hb;cases h0:ts[0]? with
 |none=>rw[h0]at hb;simp at hb
 |some sT=>
  rw[h0]at hb;simp only at hb;cases hs:xs[0]? with
  |none=>exact .halt _ _
  |some s=>
   let⟨s',mJ,rs⟩:=h.get hs;rw[mJ];dsimp only;refine ae _ (an hT sT) ?_;rintro σ d _ l ⟨rfl,hd⟩;have rs:=rs.mono l;have fin:∀{υ:Ren},af P0 P ok str (ar ok) υ (pure (.tuple #[]):Sem Value) (pure<|.tuple #[]):=ag (.tuple rfl λi x x' hx _=>by simp at hx);cases d with
   |slice elem=>
    have hz:FF P elem=true:=by rw[hd]at hb;exact hb
    cases rs with
    |dH n c=>exact fin
    |@slice a a' n c ra=>
     cases n with
     |zero=>exact fin
     |succ n=>
      refine ae _ (iQ hT elem hz) ?_;intro υ z z' k Nk;exact ae _ (gR _ _ (ra.mono k) 0 (fU Nk _).list) (λυ _ _ _ _=>fin)
    |_=>exact .halt _ _
   |_=>rw[hd]at hb;cases hb
def Io (P:Program)(ts:Array TypeId):Bool:=
 match ts[0]?,ts[1]? with
 |some s,some x=>(match P.underlying s with|some (.slice e)=>FF P e|_=>false)&&(match P.underlying x with|some (.int _)=>true|_=>false)
 |_,_=>false
def Hg (hT:P0.toTables=P.toTables)(ts:Array TypeId)(t:TypeId)(hb:Io P ts=true)(h:ax ok ρ xs xs'):af P0 P ok str (ar ok) ρ (Builtin.append_ ts t xs) (Builtin.append_ ts t xs'):=by
 unfold Builtin.append_;unfold Io at hb;cases h0:ts[0]? with
 |none=>rw[h0]at hb;simp at hb
 |some sT=>
  cases h1:ts[1]? with
  |none=>rw[h0,h1]at hb;simp at hb
  |some xT=>
   rw[h0,h1]at hb;simp only[Bool.and_eq_true]at hb;cases hs:xs[0]? with
   |none=>exact .halt _ _
   |some s=>
    let⟨s',mJ,rs⟩:=h.get hs;cases hx:xs[1]? with
    |none=>exact .halt _ _
    |some x=>
     let⟨x',dG,rx⟩:=h.get hx;rw[mJ,dG];dsimp only;refine ae _ (an hT sT) ?_;rintro σ d _ l ⟨rfl,hd⟩;have rs:=rs.mono l;have rx:=rx.mono l;cases d with
     |slice elem=>
      have hz:FF P elem=true:=by have:=hb.1;rw[hd]at this;exact this
      have oU:∀{υ:Ren} (n size:Nat),af P0 P ok str (λσ x y=>ax ok σ x y) υ (if n*size=0 then pure #[]else do pure (Builtin.zeroCells (<-zeroValue elem).cells n)) (if n*size=0 then pure #[]else do pure (Builtin.zeroCells (<-zeroValue elem).cells n)):=by
       intro υ n size;split
       .exact ag ax.nil
       .refine ae _ (iQ hT elem hz) ?_;intro υ1 z z' k Nk;exact ag<|fU Nk _
      cases rs with
      |dH ol EQ=>
       dsimp only;refine ae _ (dg hT elem) ?_;rintro o_ size _ l1 ⟨rfl,_⟩;refine ae _ (an hT xT) ?_;rintro OX d2 _ l2 ⟨rfl,Sf⟩;have rx:=(rx.mono l1).mono l2;have Fz:=hb.2;rw[Sf]at Fz;cases d2<;>first|cases Fz|skip
       refine aZ ?_;simp only[if_true,Bool.not_true,Bool.false_eq_true,if_false,true_or,and_true];refine ae _ (nu rx) ?_;rintro p_ v _ l3 rfl;split
       .exact ae (λ_ _ _=>False) (eT hT _ rfl) (λ_ _ _ _ h=>h.elim)
       .refine ae _ (bK hT elem) ?_;rintro σ4 i4 _ l4 ⟨rfl,_⟩;split
        .refine af.choose _ λmade=>?_
         refine aZ ?_;exact ae (λ_ _ _=>False) (eT hT _ rfl) λ_ _ _ _ h=>h.elim
        .refine aZ ?_;split
         .refine ae _ (oU _ size) ?_;intro τ new G5 l5 hn;exact ag<|.dH _ _
         .refine ae _ (bK hT elem) ?_;rintro τ i _ l5 ⟨rfl,_⟩;split
          .exact ae (λ_ _ _=>False) (eT hT _ rfl) (λ_ _ _ _ h=>h.elim)
          .refine ae _ (bK hT elem) ?_;rintro τ1 i1 _ l6 ⟨rfl,_⟩;split
           .exact ae (λ_ _ _=>False) (eT hT _ rfl) (λ_ _ _ _ h=>h.elim)
           .refine af.choose _ λG6=>?_
            refine aZ ?_;refine ae _ (bK hT elem) ?_;rintro υ1 i _ k1 ⟨rfl,_⟩;refine ae _ (lw _) ?_;intro υ2 _ _ k2 _;refine ae _ (dO size ol<|.dH _ _) ?_;intro υ3 old Vh k3 ho;refine ae _ (oU _ size) ?_;intro υ4 new G5 k4 hn;refine ae _ (iQ hT elem hz) ?_;intro υ5 z z' k5 Nk;refine ae _ (ir elem<|ax.append (ax.append ((ho.mono k4).mono k5)<|hn.mono k5)<|fU Nk _) ?_;intro υ6 r r' k6 hr;exact ag (.slice _ _ hr)
      |@slice a a' ol EQ ra=>
       dsimp only;refine ae _ (dg hT elem) ?_;rintro o_ size _ l1 ⟨rfl,_⟩;refine ae _ (an hT xT) ?_;rintro OX d2 _ l2 ⟨rfl,Sf⟩;have rx:=(rx.mono l1).mono l2;have ra:=(ra.mono l1).mono l2;have Fz:=hb.2;rw[Sf]at Fz;cases d2<;>first|cases Fz|skip
       refine aZ ?_;rw[if_pos rfl,if_pos rfl];refine ae _ (nu rx) ?_;rintro p_ v _ l3 rfl;by_cases aB:IntKind.i64.wrap v<0
       .rw[if_pos aB,if_pos aB];exact ae (λ_ _ _=>False) (eT hT _ rfl) λ_ _ _ _ h=>h.elim
       .rw[if_neg aB,if_neg aB];refine ae _ (bK hT elem) ?_;rintro σ4 i4 _ l4 ⟨rfl,_⟩;by_cases Ww:IntKind.i64.wrap v*i4.bytes>2^48
        .rw[if_pos Ww,if_pos Ww];refine af.choose _ λmade=>?_
         refine aZ ?_;exact ae (λ_ _ _=>False) (eT hT _ rfl) λ_ _ _ _ h=>h.elim
        .rw[if_neg Ww,if_neg Ww];refine aZ ?_;simp only[if_true,Bool.not_true,Bool.false_eq_true,if_false,true_or,and_true];split
         .refine ae _ (oU _ size) ?_;intro τ new G5 l5 hn;refine ae _ (gR _ _ ((((ra.mono l3).mono l4).mono l5).add _) 0 hn.list) ?_;intro q_ _ _ l6 _;exact ag<|.slice _ _<|(((ra.mono l3).mono l4).mono l5).mono l6
         .refine ae _ (bK hT elem) ?_;rintro τ i _ l5 ⟨rfl,_⟩;split
          .exact ae (λ_ _ _=>False) (eT hT _ rfl) (λ_ _ _ _ h=>h.elim)
          .refine ae _ (bK hT elem) ?_;rintro τ1 i1 _ l6 ⟨rfl,_⟩;split
           .exact ae (λ_ _ _=>False) (eT hT _ rfl) (λ_ _ _ _ h=>h.elim)
           .refine af.choose _ λG6=>?_
            refine aZ ?_;refine ae _ (bK hT elem) ?_;rintro υ1 i _ k1 ⟨rfl,_⟩;refine ae _ (lw _) ?_;intro υ2 _ _ k2 _;refine ae _ (dO size ol<|.slice _ _<|(((((ra.mono l3).mono l4).mono l5).mono l6).mono k1).mono k2) ?_;intro υ3 old Vh k3 ho;refine ae _ (oU _ size) ?_;intro υ4 new G5 k4 hn;refine ae _ (iQ hT elem hz) ?_;intro υ5 z z' k5 Nk;refine ae _ (ir elem<|ax.append (ax.append ((ho.mono k4).mono k5)<|hn.mono k5)<|fU Nk _) ?_;intro υ6 r r' k6 hr;exact ag (.slice _ _ hr)
      |_=>exact .halt _ _
     |_=>exact .halt _ _
def L5 (P:Program)(ts:Array TypeId):Bool:=
 match ts[0]? with
 |some s=>(match P.underlying s with|some (.slice _)=>true|_=>false)
 |_=>false
def Rg (hT:P0.toTables=P.toTables)(ts:Array TypeId)(t:TypeId)(hb:L5 P ts=true)(h:ax ok ρ xs xs'):af P0 P ok str (ar ok) ρ (Builtin.copy_ ts t xs) (Builtin.copy_ ts t xs'):=by
 unfold Builtin.copy_;unfold L5 at hb;cases h0:ts[0]? with
 |none=>rw[h0]at hb;simp at hb
 |some sT=>
  rw[h0]at hb;simp only at hb;cases hs:xs[0]? with
  |none=>exact .halt _ _
  |some s=>
   let⟨s',mJ,rs⟩:=h.get hs;rw[mJ];cases hx:xs[1]? with
   |none=>exact .halt _ _
   |some x=>
    let⟨x',dG,rx⟩:=h.get hx;rw[dG];dsimp only;refine ae _ (an hT sT) ?_;rintro σ d _ l ⟨rfl,hd⟩;have rs:=rs.mono l;have rx:=rx.mono l;cases d with
    |slice elem=>
     cases rs with
     |dH n c=>
      refine ae _ (tq rx) ?_;rintro o_ k _ l1 rfl;refine ae _ (dg hT elem) ?_;rintro OX z _ l2 ⟨rfl,_⟩;refine ae _ (dO _ _<|(rx.mono l1).mono l2) ?_;intro p_ ys C6 l3 hy;exact ag (.int _ _)
     |@slice a a' n c ra=>
      refine ae _ (tq rx) ?_;rintro o_ k _ l1 rfl;refine ae _ (dg hT elem) ?_;rintro OX z _ l2 ⟨rfl,_⟩;refine ae _ (dO _ _<|(rx.mono l1).mono l2) ?_;intro p_ ys C6 l3 hy;refine ae _ (gR _ _ (((ra.mono l1).mono l2).mono l3) 0 hy.list) ?_;intro σ4 _ _ l4 _;exact ag (.int _ _)
     |_=>exact .halt _ _
    |_=>rw[hd]at hb;cases hb
def uK (P:Program)(op:BinOp)(t:TypeId)(y:Operand):Bool:=Di op&&(match P.underlying t with|some (.interface _)=>true|_=>false)&&(match y with|.const .nilIface=>true|_=>false)
omit [Gl] in
def IU {op:BinOp}{y:Operand}(h:uK P op t y=true):y=.const .nilIface:=by
 unfold uK at h;rw[adz]at h;have h2:=h.2;split at h2
 .rfl
 .cases h2
def Ot (hT:P0.toTables=P.toTables)(op:BinOp)(t:TypeId)(x y:Operand)(hn:uK P op t y=true){a a':Value}(h:ar ok ρ a a'):
  af P0 P ok str (ar ok) ρ (do eqGuard op t x y a .nilIface;binOp op t a .nilIface) (do eqGuard op t x y a' .nilIface;binOp op t a' .nilIface):=by
 have hy:=IU hn;subst hy;unfold uK at hn;rw[adz,adz]at hn;let⟨⟨h1,h2⟩,_⟩:=hn;obtain⟨ms,hu⟩:∃ms,P.underlying t=some (.interface ms):=by
  split at h2
  .rename_i ms hu;exact⟨ms,hu⟩
  .cases h2
 have hu0:P0.underlying t=some (.interface ms):=by rw[ur hT];exact hu
 have heq:∀{σ:Ren} {a a':Value},ar ok σ a a'->a≠hole->af P0 P ok str (λ_ x y=>x=y) σ (Op.equal t a .nilIface) (Op.equal t a' .nilIface):=by
  intro σ a a' h hne;show af P0 P ok str _ σ (Op.equalIn (9999+1) t a .nilIface) (Op.equalIn (9999+1) t a' .nilIface);unfold Op.equalIn;refine ae _ (an hT t) ?_;rintro τ d _ _ ⟨rfl,hd⟩;rw[hu]at hd;obtain rfl:=adb hd;cases h with
  |hole _=>exact(hne rfl).elim
  |nilIface=>exact ag rfl
  |iface t h=>exact ag rfl
  |_=>exact .halt _ _
 by_cases hh:a=hole
 .subst hh;refine .dead _ _ λV=>?_
  have e:(Op.equal t hole .nilIface).run P0 V=.halt (.stuck "==: the operands do not fit the type, or the type is not comparable") V:=by
   show(Op.equalIn (9999+1) t hole .nilIface).run P0 V=_;unfold Op.equalIn;rw[Sem.run_bind,run_underlying hu0];rfl
  rw[Sem.run_bind];cases op with
  |eql=>show Result.stops ((do pure (.bool<|<-Op.equal t hole .nilIface):Sem Value).run P0 V)=true;rw[Sem.run_bind,e];rfl
  |neq=>show Result.stops ((do pure (.bool<|!(<-Op.equal t hole .nilIface)):Sem Value).run P0 V)=true;rw[Sem.run_bind,e];rfl
  |_=>cases h1
 .have hg:af P0 P ok str (λ_ _ _=>True) ρ (eqGuard op t x (.const .nilIface) a .nilIface) (eqGuard op t x (.const .nilIface) a' .nilIface):=by
   unfold eqGuard;cases op with
   |eql=>
    cases h with
    |nilIface=>simp;exact ag trivial
    |hole _=>exact(hh rfl).elim
    |_=>exact ag trivial
   |neq=>
    cases h with
    |nilIface=>simp;exact ag trivial
    |hole _=>exact(hh rfl).elim
    |_=>exact ag trivial
   |_=>cases h1
  refine ae _ hg ?_;intro σ _ _ l _;have hσ:=h.mono l;cases op with
  |eql=>
   have:∀v:Value,binOp .eql t v .nilIface=(do pure (.bool<|<-Op.equal t v .nilIface)):=λv=>by cases v<;>rfl
   rw[this,this];refine ae _ (heq hσ hh) ?_;rintro _ x _ _ rfl;exact ag (.bool _)
  |neq=>
   have:∀v:Value,binOp .neq t v .nilIface=(do pure (.bool<|!(<-Op.equal t v .nilIface))):=λv=>by cases v<;>rfl
   rw[this,this];refine ae _ (heq hσ hh) ?_;rintro _ x _ _ rfl;exact ag (.bool _)
  |_=>cases h1
end
end
def yI {fs:Array Field}(h:Made.reckonStruct info fs=some i):i.methods=#[]:=by
 unfold Made.reckonStruct at h;simp only[bind,Option.bind_eq_some_iff]at h;let⟨r,_,h⟩:=h;split at h<;>(simp only[pure,Option.some.injEq]at h;subst h;rfl)
def ye {d:TypeDesc}(h:Made.reckon info d=some i):i.methods=#[]:=by
 unfold Made.reckon at h;cases d with
 |struct fs=>exact yI h
 |pointer e=>
  simp only[bind,Option.bind_eq_some_iff,pure]at h;let⟨j,_,h⟩:=h;split at h
  .cases h
  .split at h
   .cases h
   .let⟨s,_,h⟩:=adq.1 h;cases h;rfl
  .let⟨s,_,h⟩:=adq.1 h;cases h;rfl
 |slice e=>
  simp only[bind,Option.bind_eq_some_iff,pure]at h;let⟨_,_,_,_,h⟩:=h;cases h;rfl
 |map k e=>
  simp only[bind,Option.bind_eq_some_iff,pure]at h;let⟨_,_,_,_,_,_,_,_,h⟩:=h;cases h;rfl
 |chan k e=>
  simp only[bind,Option.bind_eq_some_iff,pure]at h;let⟨_,_,_,_,h⟩:=h;cases h;rfl
 |func a b c=>
  simp only[bind,Option.bind_eq_some_iff,pure]at h;let⟨_,_,h⟩:=h;cases h;rfl
 |array n e=>
  simp only[bind,Option.bind_eq_some_iff,pure]at h;let⟨_,_,_,_,h⟩:=h;cases h;rfl
 |_=>cases h
def Co {T:Tables}(ht:¬t<T.types.size)(h:T.info? t=some i):i.methods=#[]:=by
 unfold Tables.info? at h;rw[if_neg ht]at h;have:Made.depth=99+1:=rfl;rw[this]at h;unfold Made.infoAt at h;rw[if_neg ht]at h;let⟨d,_,h⟩:=adq.1 h;exact ye h
def Ny (fn:FuncId->Bool)(m:Method):Bool:=m.path.all (λs=>!s.deref)&&(match m.func with|some (f,_)=>fn f|none=>false)
def xM (P:Program)(fn:FuncId->Bool)(name:String):Bool:=P.types.all λi=>i.methods.all λm=>m.name !=name||Ny fn m
def Kq {fn:FuncId->Bool}{name:String}(h:xM P fn name=true)(hi:P.info? t=some i){m:Method}(hm:i.methods.find? (·.name==name)=some m):Ny fn m=true:=by
 by_cases ht:t<P.types.size
 .unfold Tables.info? at hi;rw[if_pos ht]at hi;unfold xM at h;rw[Array.all_eq_true]at h;let⟨_,e⟩:=ac7.1 hi;have h1:=h t ht;rw[e,Array.all_eq_true]at h1;let⟨k,hk,e2⟩:=Array.getElem_of_mem<|Array.mem_of_find?_eq_some hm;have h2:=h1 k hk;rw[e2]at h2;have h3:(m.name==name)=true:=by simpa using Array.find?_some hm
  rw[bne,h3]at h2;simpa using h2
 .rw[Co ht hi]at hm;simp at hm
section
variable [Gl]{ok:Ctx}{ρ:Ren}
def KQ (hT:P0.toTables=P.toTables):∀(l:List FieldStep) (_:l.all (λs=>!s.deref)=true) {ρ:Ren} (t:TypeId) {v v':Value},ar ok ρ v v'->
  af P0 P ok str (λσ x y=>x.1=y.1/\∃u u',x.2=.val u/\y.2=.val u'/\ar ok σ u u') ρ (follow l t<|.val v) (follow l t<|.val v'):=by
 intro l;induction l with
 |nil=>intro _ ρ t v v' h;exact ag ⟨rfl,v,v',rfl,rfl,h⟩
 |cons s l ih=>
  intro hl ρ t v v' h;simp only[List.all_cons,Bool.and_eq_true,Bool.not_eq_true']at hl;unfold follow;refine ae _ (an hT s.struct) ?_;rintro σ d _ le ⟨rfl,_⟩;cases d with
  |struct fs=>
   dsimp only;cases hf:fs[s.index]? with
   |none=>exact .halt _ _
   |some f=>
    simp only[hl.1,Bool.false_eq_true,if_false];cases h with
    |agg e h=>
     dsimp only;refine ae _ (vX hT f.type (ax.mono ⟨e,h⟩ le) f.offset) ?_;intro τ x y _ hx;exact ih hl.2 f.type hx
    |_=>exact .halt _ _
  |_=>exact .halt _ _
def Rn (hT:P0.toTables=P.toTables)(t:TypeId)(pr:Bool)(w:Option String)(h:ar ok ρ v v'):af P0 P ok str (ar ok) ρ (receiverAt t (.val v) pr w) (receiverAt t (.val v') pr w):=by
 unfold receiverAt;refine ae _ (an hT t) ?_;rintro σ d _ le ⟨rfl,_⟩;replace h:=h.mono le;cases d with
 |pointer e=>
  cases pr with
  |true=>exact ag h
  |false=>
   have tail:∀{τ:Ren} {x y:Value},ar ok τ x y->af P0 P ok str (ar ok) τ (do loadVar e (<-asAddr x)) (do loadVar e (<-asAddr y)):=by
    intro τ x y hx;refine ae _ (ui hT hx) ?_;intro υ a a' _ r;exact rZ hT e r
   dsimp only;refine aZ ?_;cases w with
   |none=>exact aZ (tail h)
   |some name=>
    refine ae (ar ok) ?_ λτ x y _ hx=>tail hx;unfold Builtin.ssaWrapNilChk_;cases h with
    |ptr r=>exact ag (.ptr r)
    |mz=>
     refine af.choose _ λn=>?_
     refine aZ ?_;split
     .dsimp only;split
      .exact ae (λ_ _ _=>False) (eT hT .nilDeref rfl) (λ_ _ _ _ h=>h.elim)
      .refine ae _ (an hT _) ?_;rintro τ d _ l ⟨rfl,_⟩;cases d with
       |pointer u=>
        refine ae _ (bK hT u) ?_;rintro υ i _ l ⟨rfl,_⟩;split
        .split
         .try dsimp only
          split
          .exact eT hT (.plain _) rfl
          .exact .halt _ _
         .exact .halt _ _
        .exact .halt _ _
       |_=>exact .halt _ _
     .rename_i hh;exact(hh t rfl).elim
    |_=>exact .halt _ _
 |_=>cases pr<;>first|exact ag h|exact .halt _ _
def KT (hT:P0.toTables=P.toTables)(n:Nat)(t:TypeId)(name:String)(hm:xM P ok.fn name=true)(h:ar ok ρ v v'):
  af P0 P ok str (λσ x y=>x.1=y.1/\ok.fn x.1=true/\ar ok σ x.2 y.2) ρ (method n t v name) (method n t v' name):=by
 cases n with
 |zero=>exact .halt _ _
 |succ n=>
  unfold method;refine ae _ (bK hT t) ?_;rintro σ i _ le ⟨rfl,hi⟩;cases hf:i.methods.find? (·.name==name)with
  |none=>exact .halt _ _
  |some m=>
   have hk:=Kq hm hi hf;unfold Ny at hk;rw[adz]at hk;refine ae _ (KQ hT m.path.toList (by rw[<-Array.all_toList]at hk;exact hk.1) t<|h.mono le) ?_;rintro τ ⟨xt,_⟩ ⟨_,_⟩ l ⟨rfl,u,u',rfl,rfl,hu⟩;cases hg:m.func with
   |none=>rw[hg]at hk;cases hk.2
   |some q=>
    let⟨f,pr⟩:=q;rw[hg]at hk;refine ae _ (Rn hT xt pr _ hu) ?_;intro υ x y _ hx;exact ag ⟨rfl,hk.2,hx⟩
def uk (hT:P0.toTables=P.toTables)(t:TypeId)(h:ar ok ρ v v'):af P0 P ok str (ar ok) ρ (Instr.makeInterface t v) (Instr.makeInterface t v'):=by
 unfold Instr.makeInterface;refine ae _ (an hT t) ?_;rintro σ d _ le ⟨rfl,_⟩;cases d<;>first|exact ag (.iface t<|h.mono le)|exact .halt _ _
def CZ {a a' b b':Value}(h:ar ok ρ a a')(h':ar ok ρ b b'):ar ok ρ (.tuple #[a,b]) (.tuple #[a',b']):=by
 have:=(ax.nil.push h).push h';exact .tuple this.size this.at_
def zG (hT:P0.toTables=P.toTables)(t a:TypeId)(hz:FF P a=true)(h:ar ok ρ v v'):af P0 P ok str (ar ok) ρ (Instr.typeAssert v t a true) (Instr.typeAssert v' t a true):=by
 unfold Instr.typeAssert;dsimp only;have fails:∀{σ:Ren},af P0 P ok str (ar ok) σ (do pure (.tuple #[<-zeroValue a,false]):Sem Value) (do pure (.tuple #[<-zeroValue a,false])):=by
  intro σ;refine ae _ (iQ hT a hz) ?_;intro τ x y _ hx;exact ag<|CZ hx<|.bool _
 refine ae _ (an hT a) ?_;rintro σ d _ le ⟨rfl,_⟩;replace h:=h.mono le;simp only[if_true];cases d with
 |interface w=>
  cases h with
  |nilIface=>exact fails
  |iface t h=>
   dsimp only;refine ae _ (bK hT t) ?_;rintro τ i _ l ⟨rfl,_⟩;split
   .exact ag (CZ (.iface t<|h.mono l)<|.bool _)
   .exact fails
  |_=>exact .halt _ _
 |_=>
  cases h with
  |nilIface=>exact fails
  |iface t h=>dsimp only;split<;>first|exact ag (CZ h<|.bool _)|exact fails
  |_=>exact .halt _ _
end
