import Derived.Test.YtlmcblcijndipabGreatDoorAd00
import Derived.ArgAppend
set_option maxHeartbeats 1000000
namespace Go.Proofs.YtlmcblcijndipabGreatDoor
open Go
class Gl where
 n:Nat
 ov:Nat:=1000000001
variable [Gl]
structure Ren where
 to:Nat->Option Nat
 inj:∀b b' c,to b=some c->to b'=some c->b=b'
 glob:∀b c,to b=some c->(b<Gl.n<->c<Gl.n)
instance :CoeFun Ren (λ_=>Nat->Option Nat):=⟨Ren.to⟩
def Ren.le (ρ σ:Ren):Prop:=∀b c,ρ b=some c->σ b=some c
theorem Ren.le_refl (ρ:Ren):ρ.le ρ:=λ_ _ h=>h
theorem Ren.le.trans {ρ σ τ:Ren}(h:ρ.le σ)(h':σ.le τ):ρ.le τ:=λb c e=>h' b c (h b c e)
def Ren.ext (ρ:Ren)(n m:Nat)(h:∀b c,ρ b=some c->b≠n/\c≠m)(hn:Gl.n<=n)(hm:Gl.n<=m):Ren:=⟨λb=>if b=n then some m else ρ b,λb b' c hb hb'=>by
 split at hb<;>split at hb'
 .omega
 .simp only[Option.some.injEq]at hb;exact absurd hb.symm (h _ _ hb').2
 .simp only[Option.some.injEq]at hb';exact absurd hb'.symm (h _ _ hb).2
 .exact ρ.inj _ _ _ hb hb',λb c hb=>by
 split at hb
 .simp only[Option.some.injEq]at hb;omega
 .exact ρ.glob _ _ hb⟩
structure bm (ρ:Ren)(a a':Addr):Prop where
 blk:ρ a.block=some a'.block
 off:a'.off=a.off
 spot:a'.spot=a.spot
theorem bm.mono {ρ σ:Ren}{a a':Addr}(h:bm ρ a a')(l:ρ.le σ):bm σ a a':=⟨l _ _ h.blk,h.off,h.spot⟩
theorem bm.add {ρ:Ren}{a a':Addr}(h:bm ρ a a')(n:Nat):bm ρ (a.add n) (a'.add n):=by
 unfold Addr.add;split
 .exact h
 .exact⟨h.blk,by simp[h.off],rfl⟩
structure Ctx where
 fn:FuncId->Bool
 inn:FuncId->Bool
 code:Code->Bool
inductive nN (ok:Ctx)(ρ:Ren):Fn->Fn->Prop
 |func {f:FuncId}:ok.fn f=true->nN ok ρ (.func f) (.func f)
 |yield {l l':Nat}:ρ l=some l'->nN ok ρ (.yield l) (.yield l')
def hole:Value:=.func (.method "") #[.iface 1000000000 (.chan none)] #[]
def DS:Value->Bool
 |.agg _|.tuple _|.pointer none|.nilFunc|.nilIface|.bool _|.int _ _|.string _|.slice none _ _=>false
 |_=>true
inductive aj (ok:Ctx)(ρ:Ren):Value->Value->Prop
 |hole {v:Value}:DS v=true->aj ok ρ hole v
 |bool (b:Bool):aj ok ρ (.bool b) (.bool b)
 |int (k:IntKind) (n:Int):aj ok ρ (.int k n) (.int k n)
 |string (s:ByteArray):aj ok ρ (.string s) (.string s)
 |ptr0:aj ok ρ (.pointer none) (.pointer none)
 |ptr {a a':Addr}:bm ρ a a'->aj ok ρ (.pointer (some a)) (.pointer (some a'))
 |slice0 (l c:Nat):aj ok ρ (.slice none l c) (.slice none l c)
 |slice {a a':Addr} (l c:Nat):bm ρ a a'->aj ok ρ (.slice (some a) l c) (.slice (some a') l c)
 |nilFunc:aj ok ρ .nilFunc .nilFunc
 |nilIface:aj ok ρ .nilIface .nilIface
 |iface (t:TypeId) {v v':Value}:aj ok ρ v v'->aj ok ρ (.iface t v) (.iface t v')
 |func {f f':Fn} {xs xs' ys ys':Array Value}:nN ok ρ f f'->xs.size=xs'.size->(∀(i:Nat) (x x':Value),xs[i]?=some x->xs'[i]?=some x'->aj ok ρ x x')->
   ys.size=ys'.size->(∀(i:Nat) (x x':Value),ys[i]?=some x->ys'[i]?=some x'->aj ok ρ x x')->aj ok ρ (.func f xs ys) (.func f' xs' ys')
 |agg {xs xs':Array Value}:xs.size=xs'.size->(∀(i:Nat) (x x':Value),xs[i]?=some x->xs'[i]?=some x'->aj ok ρ x x')->aj ok ρ (.agg xs) (.agg xs')
 |tuple {xs xs':Array Value}:xs.size=xs'.size->(∀(i:Nat) (x x':Value),xs[i]?=some x->xs'[i]?=some x'->aj ok ρ x x')->aj ok ρ (.tuple xs) (.tuple xs')
structure am (ok:Ctx)(ρ:Ren)(xs xs':Array Value):Prop where
 size:xs.size=xs'.size
 at_:∀(i:Nat) (x x':Value),xs[i]?=some x->xs'[i]?=some x'->aj ok ρ x x'
section
variable {ok:Ctx}{ρ σ:Ren}
theorem nN.mono {f f':Fn}(h:nN ok ρ f f')(l:ρ.le σ):nN ok σ f f':=by
 cases h with
 |func h=>exact .func h
 |yield h=>exact .yield (l _ _ h)
theorem aj.mono {v v':Value}(h:aj ok ρ v v')(l:ρ.le σ):aj ok σ v v':=by
 induction h with
 |hole h=>exact .hole h
 |bool b=>exact .bool b
 |int k n=>exact .int k n
 |string s=>exact .string s
 |ptr0=>exact .ptr0
 |ptr h=>exact .ptr (h.mono l)
 |slice0 l c=>exact .slice0 l c
 |slice n c h=>exact .slice n c (h.mono l)
 |nilFunc=>exact .nilFunc
 |nilIface=>exact .nilIface
 |iface t _ ih=>exact .iface t ih
 |func hf e1 _ e2 _ i1 i2=>exact .func (hf.mono l) e1 i1 e2 i2
 |agg e _ ih=>exact .agg e ih
 |tuple e _ ih=>exact .tuple e ih
theorem am.mono {xs xs':Array Value}(h:am ok ρ xs xs')(l:ρ.le σ):am ok σ xs xs':=⟨h.size,λi x x' a b=>(h.at_ i x x' a b).mono l⟩
theorem am.get {xs xs':Array Value}(h:am ok ρ xs xs'){i:Nat}{x:Value}(hx:xs[i]?=some x):∃x',xs'[i]?=some x'/\aj ok ρ x x':=by
 have hlt:i<xs.size:=(Gp.1 hx).1;have h':xs'[i]?=some (xs'[i]'(by rw[<-h.size];exact hlt)):=Gu _
 exact⟨_,h',h.at_ _ _ _ hx h'⟩
theorem am.none {xs xs':Array Value}(h:am ok ρ xs xs'){i:Nat}(hx:xs[i]?=none):xs'[i]?=none:=by
 rw[Array.getElem?_eq_none_iff]at hx⊢;rw[<-h.size];exact hx
theorem fO:aj ok ρ undef undef:=.tuple rfl (λi x x' h=>by simp at h)
theorem am.getD {xs xs':Array Value}(h:am ok ρ xs xs')(i:Nat):aj ok ρ (xs.getD i undef) (xs'.getD i undef):=by
 cases hx:xs[i]? with
 |none=>simp only[Array.getD_eq_getD_getElem?,hx,h.none hx,Option.getD_none];exact fO
 |some x=>
  obtain⟨x',hx',r⟩:=h.get hx;simp only[Array.getD_eq_getD_getElem?,hx,hx',Option.getD_some];exact r
theorem am.nil:am ok ρ #[] #[]:=⟨rfl,λi x x' h=>by simp at h⟩
theorem am.push {xs xs':Array Value}{v v':Value}(h:am ok ρ xs xs')(hv:aj ok ρ v v'):am ok ρ (xs.push v) (xs'.push v'):=by
 refine⟨by simp[h.size],λi x x' hx hx'=>?_⟩;rw[Array.getElem?_push]at hx hx';rw[<-h.size]at hx';split at hx
 .rename_i e;simp only[Option.some.injEq]at hx;rw[if_pos e]at hx';simp only[Option.some.injEq]at hx';subst hx;subst hx';exact hv
 .rename_i e;rw[if_neg e]at hx';exact h.at_ i x x' hx hx'
theorem am.set {xs xs':Array Value}{v v':Value}(h:am ok ρ xs xs')(hv:aj ok ρ v v')(j:Nat):am ok ρ (xs.setIfInBounds j v) (xs'.setIfInBounds j v'):=by
 refine⟨by simp[h.size],λi x x' hx hx'=>?_⟩;rw[Array.getElem?_setIfInBounds]at hx hx';rw[<-h.size]at hx';by_cases e:j=i
 .rw[if_pos e]at hx hx';split at hx
  .rename_i hl;rw[if_pos hl]at hx';simp only[Option.some.injEq]at hx hx';subst hx;subst hx';exact hv
  .cases hx
 .rw[if_neg e]at hx hx';exact h.at_ i x x' hx hx'
theorem am.append {xs xs' ys ys':Array Value}(h:am ok ρ xs xs')(h':am ok ρ ys ys'):am ok ρ (xs++ys) (xs'++ys'):=by
 refine⟨by simp[h.size,h'.size],λi x x' hx hx'=>?_⟩;rw[Array.getElem?_append]at hx hx';rw[<-h.size]at hx';by_cases e:i<xs.size
 .rw[if_pos e]at hx hx';exact h.at_ i x x' hx hx'
 .rw[if_neg e]at hx hx';exact h'.at_ _ x x' hx hx'
theorem am.extract {xs xs':Array Value}(h:am ok ρ xs xs')(i j:Nat):am ok ρ (xs.extract i j) (xs'.extract i j):=by
 refine⟨by simp[h.size],λk x x' hx hx'=>?_⟩;rw[Array.getElem?_extract]at hx hx';rw[<-h.size]at hx';split at hx
 .rename_i e;rw[if_pos e]at hx';exact h.at_ _ x x' hx hx'
 .cases hx
theorem am.replicate {v v':Value}(hv:aj ok ρ v v')(n:Nat):am ok ρ (Array.replicate n v) (Array.replicate n v'):=by
 refine⟨by simp,λi x x' hx hx'=>?_⟩;rw[Array.getElem?_replicate]at hx hx';split at hx
 .rename_i e;rw[if_pos e]at hx';simp only[Option.some.injEq]at hx hx';subst hx;subst hx';exact hv
 .cases hx
theorem am.map {α:Type}{f f':α->Value}(h:∀a,aj ok ρ (f a) (f' a))(xs:Array α):am ok ρ (xs.map f) (xs.map f'):=by
 refine⟨by simp,λi x x' hx hx'=>?_⟩;rw[Array.getElem?_map]at hx hx';cases e:xs[i]? with
 |none=>rw[e]at hx;cases hx
 |some a=>
  rw[e]at hx hx';simp only[Option.map_some,Option.some.injEq]at hx hx';subst hx;subst hx';exact h a
theorem aj.cells {v v':Value}(h:aj ok ρ v v'):am ok ρ v.cells v'.cells:=by
 have one:∀{x x':Value},aj ok ρ x x'->am ok ρ #[x] #[x']:=λh=>am.nil.push h
 cases h with
 |hole h=>
  have e:v'.cells=#[v']:=by cases v'<;>first|rfl|cases h
  rw[e];exact one (.hole h)
 |agg e h=>exact⟨e,h⟩
 |bool b=>exact one (.bool b)
 |int k n=>exact one (.int k n)
 |string s=>exact one (.string s)
 |ptr0=>exact one .ptr0
 |ptr h=>exact one (.ptr h)
 |slice0 l c=>exact one (.slice0 l c)
 |slice n c h=>exact one (.slice n c h)
 |nilFunc=>exact one .nilFunc
 |nilIface=>exact one .nilIface
 |iface t h=>exact one (.iface t h)
 |func a b c d e=>exact one (.func a b c d e)
 |tuple e h=>exact one (.tuple e h)
end
inductive pT (ok:Ctx)(ρ:Ren):Target->Target->Prop
 |fn {f f':Fn} {xs xs':Array Value}:nN ok ρ f f'->am ok ρ xs xs'->pT ok ρ (.fn f xs) (.fn f' xs')
 |nil:pT ok ρ .nil .nil
 |builtin (b:Builtin) (a:Array TypeId) (t:TypeId) (c:Array Bool):pT ok ρ (.builtin b a t c) (.builtin b a t c)
 |collected {r r':Nat}:ρ r=some r'->pT ok ρ (.collected r) (.collected r')
structure Em (ok:Ctx)(ρ:Ren)(d d':Deferred):Prop where
 target:pT ok ρ d.target d'.target
 args:am ok ρ d.args d'.args
inductive yX (ok:Ctx)(ρ:Ren):List Deferred->List Deferred->Prop
 |nil:yX ok ρ [] []
 |cons {d d':Deferred} {l l':List Deferred}:Em ok ρ d d'->yX ok ρ l l'->yX ok ρ (d::l) (d'::l')
structure sZ (ok:Ctx)(ρ:Ren)(r r':Loop):Prop where
 state:r'.state=r.state
 pending:r'.pending=r.pending
 fn:r'.fn=r.fn
 tmps:am ok ρ r.tmps r'.tmps
 params:r'.params=r.params
 assign:r'.assign=r.assign
 body:r'.body=r.body
 defers:ρ r.defers=some r'.defers
 inn:ok.inn r.fn=true
 ok1:ok.code r.assign=true
 ok2:ok.code r.body=true
 ok3:∀c,r.pending=some c->ok.code c=true
def En (str:Bool)(n:Nat)(z z':Nat×Nat):Prop:=(z'=if str then z else(0,0))\/(str=true/\z=(0,n)/\0<n)
inductive gM (ok:Ctx)(str:Bool)(ρ:Ren):Obj->Obj->Prop
 |cells {c c':Array Value} {e:TypeId} {z z':Nat×Nat}:am ok ρ c c'->En str c.size z z'->gM ok str ρ (.cells c e z) (.cells c' e z')
 |stringIter (s:ByteArray) (p:Nat):gM ok str ρ (.stringIter s p) (.stringIter s p)
 |loop {r r':Loop}:sZ ok ρ r r'->gM ok str ρ (.loop r) (.loop r')
 |taken:gM ok str ρ (.deferred none) (.deferred none)
 |number {a a':Addr} (lost:Bool):bm ρ a a'->gM ok str ρ (.number a lost) (.number a' lost)
 |deferred:gM ok str ρ (.deferred (some [])) (.deferred (some []))
section
variable {ok:Ctx}{str:Bool}{ρ σ:Ren}
theorem sZ.mono {r r':Loop}(h:sZ ok ρ r r')(l:ρ.le σ):sZ ok σ r r':=⟨h.state,h.pending,h.fn,h.tmps.mono l,h.params,h.assign,h.body,l _ _ h.defers,h.inn,h.ok1,h.ok2,h.ok3⟩
theorem gM.mono {o o':Obj}(h:gM ok str ρ o o')(l:ρ.le σ):gM ok str σ o o':=by
 cases h with
 |cells h z=>exact .cells (h.mono l) z
 |stringIter s p=>exact .stringIter s p
 |loop h=>exact .loop (h.mono l)
 |taken=>exact .taken
 |number b h=>exact .number b (h.mono l)
 |deferred=>exact .deferred
theorem gM.kinds {o o':Obj}(h:gM ok str ρ o o'):((∃c e z,o=.cells c e z)/\(∃c e z,o'=.cells c e z))\/((∀c e z,o≠.cells c e z)/\(∀c e z,o'≠.cells c e z)):=by
 cases h with
 |cells _ _=>exact .inl ⟨⟨_,_,_,rfl⟩,⟨_,_,_,rfl⟩⟩
 |_=>exact .inr ⟨(by simp),(by simp)⟩
theorem gM.chan {o o':Obj}(h:gM ok str ρ o o'):o'.isChan=false:=by cases h<;>rfl
end
structure aH (ok:Ctx)(str:Bool)(ρ:Ren)(V W:World):Prop where
 heap:∀b c,ρ b=some c->∃o o',V.heap[b]?=some o/\W.heap[c]?=some o'/\gM ok str ρ o o'
 tape:V.tape=W.tape
 drawn:V.drawn=W.drawn
 gV:Gl.n<=V.heap.size
 gW:Gl.n<=W.heap.size
def Ro (V:World)(b:Nat):Prop:=∃c e,V.heap[b]?=some (.cells c e (0,c.size))
structure eD (ρ:Ren)(V W:World)(σ:Ren)(V' W':World):Prop where
 le:ρ.le σ
 keep:∀c,c<W.heap.size->(∀b,ρ b≠some c)->W'.heap[c]?=W.heap[c]?
 ro:∀b c,ρ b=some c->Ro V b->V'.heap[b]?=V.heap[b]?/\W'.heap[c]?=W.heap[c]?
 size:W.heap.size<=W'.heap.size
 sizeV:V.heap.size<=V'.heap.size
 new:∀b c,σ b=some c->ρ b=some c\/(V.heap.size<=b/\W.heap.size<=c)
 tape:W'.tape=W.tape
 os:W'.os=W.os
 out:W'.output=W.output
theorem eD.refl (ρ:Ren)(V W:World):eD ρ V W ρ V W:=⟨Ren.le_refl ρ,λ_ _ _=>rfl,λ_ _ _ _=>⟨rfl,rfl⟩,Gm _,Gm _,λ_ _ h=>.inl h,rfl,rfl,rfl⟩
theorem eD.trans {ρ σ τ:Ren}{V W V1 W1 V2 W2:World}(h:eD ρ V W σ V1 W1)(h':eD σ V1 W1 τ V2 W2):eD ρ V W τ V2 W2:=by
 refine⟨h.le.trans h'.le,λc hc hn=>?_,λb c hb hr=>?_,Gq h.size h'.size,Gq h.sizeV h'.sizeV,λb c hb=>?_,h'.tape.trans h.tape,h'.os.trans h.os,h'.out.trans h.out⟩
 .rw[h'.keep c (Gn hc h.size) (λb hb=>?_),h.keep c hc hn];rcases h.new b c hb with e|e
  .exact hn b e
  .omega
 .have h1:=h.ro b c hb hr;have h2:=h'.ro b c (h.le b c hb) (by obtain⟨x,e,hx⟩:=hr;exact⟨x,e,by rw[h1.1];exact hx⟩);exact⟨h2.1.trans h1.1,h2.2.trans h1.2⟩
 .rcases h'.new b c hb with e|e
  .exact h.new b c e
  .exact .inr ⟨Gq h.sizeV e.1,Gq h.size e.2⟩
end Go.Proofs.YtlmcblcijndipabGreatDoor
namespace Go.Proofs.YtlmcblcijndipabGreatDoor
open Go
variable [Gl]
section
variable (P0 P:Program)(ok:Ctx)(str:Bool)
def yY:Mark->Bool
 |.noRoom|.extern _=>true
 |_=>false
def ends:Halt->Bool
 |.stuck _=>true
 |.unsupported (.initOrder _)=>false
 |.unsupported _=>true
 |_=>false
def Result.stops {α:Type}:Result α->Bool
 |.ok _ _=>false
 |.halt h _=>ends h
inductive ab {α β:Type}(A:Ren->α->β->Prop):Ren->Sem α->Sem β->Prop
 |pure {ρ:Ren} {a:α} {b:β}:A ρ a b->ab A ρ (.pure a) (.pure b)
 |load {ρ:Ren} {a a':Addr} {k:Value->Sem α} {k':Value->Sem β}:bm ρ a a'->(∀v v',aj ok ρ v v'->ab A ρ (k v) (k' v'))->ab A ρ (.load .plain a k) (.load .plain a' k')
 |store {ρ:Ren} {a a':Addr} {v v':Value} {k:Sem α} {k':Sem β}:bm ρ a a'->aj ok ρ v v'->ab A ρ k k'->ab A ρ (.store .plain a v k) (.store .plain a' v' k')
 |new {ρ:Ren} {o o':Obj} {k:Nat->Sem α} {k':Nat->Sem β}:gM ok str ρ o o'->(∀σ b c,ρ.le σ->σ b=some c->ab A σ (k b) (k' c))->ab A ρ (.new o k) (.new o' k')
 |shape {ρ:Ren} {r r':Nat} {k:Option (TypeId×Nat)->Sem α} {k':Option (TypeId×Nat)->Sem β}:ρ r=some r'->(∀s,ab A ρ (k s) (k' s))->ab A ρ (.shape r k) (.shape r' k')
 |dead {ρ:Ren} (s:Sem α) (s':Sem β):(∀V:World,Result.stops (s.run P0 V)=true)->ab A ρ s s'
 |getObj {ρ:Ren} {r r':Nat} {k:Obj->Sem α} {k':Obj->Sem β}:ρ r=some r'->(∀o o',gM ok str ρ o o'->ab A ρ (k o) (k' o'))->ab A ρ (.getObj r k) (.getObj r' k')
 |setObj {ρ:Ren} {r r':Nat} {o o':Obj} {k:Sem α} {k':Sem β}:ρ r=some r'->gM ok str ρ o o'->ab A ρ k k'->ab A ρ (.setObj r o k) (.setObj r' o' k')
 |choose {ρ:Ren} (q:Question) {k:Nat->Sem α} {k':Nat->Sem β}:(∀n,ab A ρ (k n) (k' n))->ab A ρ (.choose q k) (.choose q k')
 |program {ρ:Ren} {k:Program->Sem α} {k':Program->Sem β}:ab A ρ (k P0) (k' P)->ab A ρ (.program k) (.program k')
 |mark {ρ:Ren} {m:Mark} {k:Sem α} {k':Sem β}:yY m=true->ab A ρ k k'->ab A ρ (.mark m k) (.mark m k')
 |panic {ρ:Ren} {v v':Value}:aj ok ρ v v'->ab A ρ (.halt (.panic v)) (.halt (.panic v'))
 |halt {ρ:Ren} (h:Halt) (s:Sem β) (he:ends h=true:=by rfl):ab A ρ (.halt h) s
end
section
variable {P0 P:Program}{ok:Ctx}{str:Bool}{ρ:Ren}
theorem ab.mono {α β:Type}{A B:Ren->α->β->Prop}{s:Sem α}{s':Sem β}(h:ab P0 P ok str A ρ s s')(hB:∀σ a b,A σ a b->B σ a b):ab P0 P ok str B ρ s s':=by
 induction h with
 |pure h=>exact .pure (hB _ _ _ h)
 |load a _ ih=>exact .load a ih
 |store a v _ ih=>exact .store a v ih
 |new o _ ih=>exact .new o ih
 |shape r _ ih=>exact .shape r ih
 |dead s s' h=>exact .dead s s' h
 |getObj r _ ih=>exact .getObj r ih
 |setObj r o _ ih=>exact .setObj r o ih
 |choose q _ ih=>exact .choose q ih
 |program _ ih=>exact .program ih
 |mark hm _ ih=>exact .mark hm ih
 |panic h=>exact .panic h
 |halt h s he=>exact .halt h s he
theorem ab.bind' {α β γ δ:Type}{A:Ren->α->β->Prop}{B:Ren->γ->δ->Prop}{s:Sem α}{s':Sem β}{f:α->Sem γ}{f':β->Sem δ}(h:ab P0 P ok str A ρ s s')
  (hf:∀σ a b,ρ.le σ->A σ a b->ab P0 P ok str B σ (f a) (f' b)):ab P0 P ok str B ρ (Sem.bind s f) (Sem.bind s' f'):=by
 induction h with
 |pure h=>exact hf _ _ _ (Ren.le_refl _) h
 |load a _ ih=>exact .load a λv v' hv=>ih v v' hv hf
 |store a v _ ih=>exact .store a v (ih hf)
 |new o _ ih=>exact .new o λσ b c l e=>ih σ b c l e λτ a b l' h=>hf τ a b (l.trans l') h
 |shape r _ ih=>exact .shape r λs=>ih s hf
 |dead s s' h=>
  refine .dead _ _ λV=>?_
  have h1:=h V;show Result.stops (Sem.run P0 (s >>= f) V)=true;rw[Sem.run_bind];generalize s.run P0 V=r at h1;cases r with
  |ok a w=>cases h1
  |halt x w=>exact h1
 |getObj r _ ih=>exact .getObj r λo o' h=>ih o o' h hf
 |setObj r o _ ih=>exact .setObj r o (ih hf)
 |choose q _ ih=>exact .choose q λn=>ih n hf
 |program _ ih=>exact .program (ih hf)
 |mark hm _ ih=>exact .mark hm (ih hf)
 |panic h=>exact .panic h
 |halt h s he=>exact .halt h _ he
theorem ab.bind {α β γ δ:Type}{A:Ren->α->β->Prop}{B:Ren->γ->δ->Prop}{s:Sem α}{s':Sem β}{f:α->Sem γ}{f':β->Sem δ}(h:ab P0 P ok str A ρ s s')
  (hf:∀σ a b,ρ.le σ->A σ a b->ab P0 P ok str B σ (f a) (f' b)):ab P0 P ok str B ρ (s >>= f) (s' >>= f'):=ab.bind' h hf
def iO (σ:Ren)(V:World)(e:Event):Prop:=
 (e.sync=false/\∃a a',e.loc=.cell a'/\bm σ a a'/\(e.write=true->¬Ro V a.block))\/(e.sync=false/\∃r r',e.loc=.obj r'/\σ r=some r'/\¬Ro V r)\/∃m,yY m=true/\e=⟨.mark m,false,true⟩
theorem iO.mono {σ τ:Ren}{V:World}{e:Event}(h:iO σ V e)(l:σ.le τ):iO τ V e:=by
 rcases h with⟨s,a,a',e1,r,w⟩|⟨s,r,r',e1,h,n⟩|h
 .exact .inl ⟨s,a,a',e1,r.mono l,w⟩
 .exact .inr (.inl ⟨s,r,r',e1,l _ _ h,n⟩)
 .exact .inr (.inr h)
theorem iO.back {σ:Ren}{V V1:World}{e:Event}(h:iO σ V1 e)(hb:∀b,Ro V b->Ro V1 b):iO σ V e:=by
 rcases h with⟨s,a,a',e1,r,w⟩|⟨s,r,r',e1,h,n⟩|h
 .exact .inl ⟨s,a,a',e1,r,λx y=>w x (hb _ y)⟩
 .exact .inr (.inl ⟨s,r,r',e1,h,λy=>n (hb _ y)⟩)
 .exact .inr (.inr h)
section
variable {V W:World}
theorem aH.load (h:aH ok str ρ V W){a a':Addr}(r:bm ρ a a'){v:Value}(hv:V.cell? a=some v):∃v',W.cell? a'=some v'/\aj ok ρ v v':=by
 obtain⟨o,o',h1,h2,h3⟩:=h.heap _ _ r.blk;unfold World.cell? at hv⊢;rw[h1]at hv;rw[h2];cases h3 with
 |cells hc hz=>
  simp only at hv⊢;rw[r.spot,r.off];split at hv
  .cases hv
  .rename_i hs;rw[if_neg hs];exact hc.get hv
 |_=>cases hv
theorem aH.far (h:aH ok str ρ V W){a:Addr}{c:Nat}(r:ρ a.block=some c)(b:Bool)(p:Program):∃x,V.farLoad p a b=.error (.stuck x):=by
 obtain⟨o,o',h1,h2,h3⟩:=h.heap _ _ r;unfold World.farLoad World.noCell;rw[h1];cases h3<;>exact⟨_,rfl⟩
theorem aH.farS (h:aH ok str ρ V W){a:Addr}{c:Nat}(r:ρ a.block=some c)(v:Value)(b:Bool)(p:Program):∃x,V.farStore p a v b=.error (.stuck x):=by
 obtain⟨o,o',h1,h2,h3⟩:=h.heap _ _ r;unfold World.farStore World.noCell;rw[h1];cases h3<;>exact⟨_,rfl⟩
theorem aH.thaw (h:aH ok str ρ V W){a a':Addr}(r:bm ρ a a'){x:Value}(hx:V.cell? a=some x)(hv:V.frozen? a=false):W.frozen? a'=false:=by
 obtain⟨o,o',h1,h2,h3⟩:=h.heap _ _ r.blk;unfold World.cell? at hx;unfold World.frozen? at hv⊢;rw[h1]at hv hx;rw[h2];cases h3 with
 |@cells c c' e z z' hc hz=>
  rcases hz with hz|⟨_,hz,_⟩
  .subst hz;obtain⟨lo,hi⟩:=z;simp only at hv⊢;cases str with
   |true=>simp only[if_true,r.off];exact hv
   |false=>simp
  .subst hz;simp only at hx hv;split at hx
   .cases hx
   .have:=(Gp.1 hx).1;simp[this]at hv
 |_=>rfl
theorem aH.shape (h:aH ok str ρ V W){b c:Nat}(r:ρ b=some c):W.shape? c=V.shape? b:=by
 obtain⟨o,o',h1,h2,h3⟩:=h.heap _ _ r;unfold World.shape?;rw[h1,h2];cases h3 with
 |cells hc hz=>simp only[hc.size]
 |_=>rfl
omit [Gl] in
theorem dG (V:World)(a:Addr)(v:Value)(b:Nat):(V.setCell a v).heap[b]?=if a.block=b then(V.heap[b]?).map (λo=>match o with|.cells c elem frozen=>.cells (if a.spot.isSome then c else c.setIfInBounds a.off v) elem frozen|o=>o)else V.heap[b]?:=by
 unfold World.setCell;simp only[Array.getElem?_modify];rfl
omit [Gl] in
theorem gN (V:World)(a:Addr)(v:Value):(V.setCell a v).heap.size=V.heap.size:=by simp[World.setCell]
theorem aH.store (h:aH ok str ρ V W){a a':Addr}(r:bm ρ a a'){v v':Value}(hv:aj ok ρ v v'):aH ok str ρ (V.setCell a v) (W.setCell a' v'):=by
 refine⟨λb c hb=>?_,h.tape,h.drawn,by rw[gN];exact h.gV,by rw[gN];exact h.gW⟩;obtain⟨o,o',h1,h2,h3⟩:=h.heap _ _ hb;rw[dG,dG,h1,h2];by_cases e:a.block=b
 .subst e;have ec:a'.block=c:=by have:=r.blk;rw[hb]at this;exact(Gt this).symm
  subst ec;rw[if_pos rfl,if_pos rfl];cases h3 with
  |cells hc hz=>
   refine⟨_,_,rfl,rfl,.cells ?_ (by split<;>(try simp only[Array.size_setIfInBounds])<;>exact hz)⟩;rw[r.spot,r.off];split
   .exact hc
   .exact hc.set hv _
  |stringIter s p=>exact⟨_,_,rfl,rfl,.stringIter s p⟩
  |loop h=>exact⟨_,_,rfl,rfl,.loop h⟩
  |taken=>exact⟨_,_,rfl,rfl,.taken⟩
  |number b h=>exact⟨_,_,rfl,rfl,.number b h⟩
  |deferred=>exact⟨_,_,rfl,rfl,.deferred⟩
 .have ec:a'.block≠c:=λe'=>e (ρ.inj _ _ _ (e'▸r.blk) hb)
  rw[if_neg e,if_neg ec];exact⟨o,o',rfl,rfl,h3⟩
theorem eD.store (_h:aH ok str ρ V W){a a':Addr}(r:bm ρ a a'){v v':Value}{x:Value}(hc:V.cell? a=some x)(hf:V.frozen? a=false):eD ρ V W ρ (V.setCell a v) (W.setCell a' v'):=by
 have key:¬Ro V a.block:=by
  rintro⟨c,e,hr⟩;unfold World.cell? at hc;unfold World.frozen? at hf;rw[hr]at hc hf;simp only at hc hf;split at hc
  .cases hc
  .have:=(Gp.1 hc).1;simp[this]at hf
 refine⟨Ren.le_refl ρ,λc hc hn=>?_,λb c hb hr=>?_,by rw[gN];exact Gm _,by rw[gN];exact Gm _,λb c hb=>.inl hb,rfl,rfl,rfl⟩
 .rw[dG,if_neg (λe=>hn _ (e▸r.blk))]
 .have e:a.block≠b:=λe=>key (e▸hr)
  have ec:a'.block≠c:=λe'=>e (ρ.inj _ _ _ (e'▸r.blk) hb)
  rw[dG,dG,if_neg e,if_neg ec];exact⟨rfl,rfl⟩
omit [Gl] in
theorem iY {a:Addr}{x:Value}(hc:V.cell? a=some x)(hf:V.frozen? a=false):¬Ro V a.block:=by
 rintro⟨c,e,hr⟩;unfold World.cell? at hc;unfold World.frozen? at hf;rw[hr]at hc hf;simp only at hc hf;split at hc
 .cases hc
 .have:=(Gp.1 hc).1;simp[this]at hf
theorem aH.lt (h:aH ok str ρ V W){b c:Nat}(hb:ρ b=some c):b<V.heap.size/\c<W.heap.size:=by
 obtain⟨o,o',h1,h2,_⟩:=h.heap _ _ hb;exact⟨(Gp.1 h1).1,(Gp.1 h2).1⟩
theorem aH.fresh (h:aH ok str ρ V W)(b c:Nat)(hb:ρ b=some c):b≠V.heap.size/\c≠W.heap.size:=by
 have:=h.lt hb;omega
def aH.ext (h:aH ok str ρ V W):Ren:=ρ.ext V.heap.size W.heap.size h.fresh h.gV h.gW
theorem aH.ext_at (h:aH ok str ρ V W):h.ext V.heap.size=some W.heap.size:=by simp[aH.ext,Ren.ext]
theorem aH.ext_of (h:aH ok str ρ V W){b c:Nat}(hb:h.ext b=some c):(b=V.heap.size/\c=W.heap.size)\/(b≠V.heap.size/\ρ b=some c):=by
 simp only[aH.ext,Ren.ext]at hb;split at hb
 .rename_i e;exact .inl ⟨e,(Gt hb).symm⟩
 .rename_i e;exact .inr ⟨e,hb⟩
theorem aH.ext_le (h:aH ok str ρ V W):ρ.le h.ext:=by
 intro b c hb;have:=(h.lt hb).1;simp only[aH.ext,Ren.ext];rw[if_neg (by omega)];exact hb
theorem aH.new (h:aH ok str ρ V W){o o':Obj}(ho:gM ok str ρ o o'):
  aH ok str h.ext {V with heap:=V.heap.push o} {W with heap:=W.heap.push o'}/\
   eD ρ V W h.ext {V with heap:=V.heap.push o} {W with heap:=W.heap.push o'}:=by
 have hle:=h.ext_le;refine⟨⟨λb c hb=>?_,h.tape,h.drawn,by have:=h.gV;simp only[Array.size_push];omega,by have:=h.gW;simp only[Array.size_push];omega⟩,hle,λc hc _=>?_,λb c hb _=>?_,by simp,by simp,λb c hb=>?_,rfl,rfl,rfl⟩
 .rcases h.ext_of hb with⟨rfl,rfl⟩|⟨e,hb⟩
  .exact⟨o,o',by simp,by simp,ho.mono hle⟩
  .obtain⟨x,x',h1,h2,h3⟩:=h.heap _ _ hb;have hl:=h.lt hb;refine⟨x,x',?_,?_,h3.mono hle⟩
   .simp only;rw[Array.getElem?_push,if_neg (by omega)];exact h1
   .simp only;rw[Array.getElem?_push,if_neg (by omega)];exact h2
 .simp only;rw[Array.getElem?_push,if_neg (by omega)]
 .have hl:=h.lt hb;simp only;rw[Array.getElem?_push,if_neg (by omega),Array.getElem?_push,if_neg (by omega)];exact⟨rfl,rfl⟩
 .rcases h.ext_of hb with⟨rfl,rfl⟩|⟨e,hb⟩
  .exact .inr ⟨Gm _,Gm _⟩
  .exact .inl hb
theorem aH.getObj (h:aH ok str ρ V W){b c:Nat}(hb:ρ b=some c){o:Obj}(ho:V.heap[b]?=some o):∃o',W.heap[c]?=some o'/\gM ok str ρ o o':=by
 obtain⟨x,x',h1,h2,h3⟩:=h.heap _ _ hb;rw[h1]at ho;cases ho;exact⟨x',h2,h3⟩
theorem aH.setObj (h:aH ok str ρ V W){b c:Nat}(hb:ρ b=some c){o o':Obj}(ho:gM ok str ρ o o'):
  aH ok str ρ {V with heap:=V.heap.setIfInBounds b o} {W with heap:=W.heap.setIfInBounds c o'}:=by
 have hl:=h.lt hb;refine⟨λb' c' hb'=>?_,h.tape,h.drawn,by simpa using h.gV,by simpa using h.gW⟩;obtain⟨x,x',h1,h2,h3⟩:=h.heap _ _ hb';simp only[Array.getElem?_setIfInBounds];by_cases e:b=b'
 .subst e;have ec:c=c':=by rw[hb]at hb';exact Gt hb'
  subst ec;rw[if_pos rfl,if_pos rfl,if_pos hl.1,if_pos hl.2];exact⟨_,_,rfl,rfl,ho⟩
 .have ec:c≠c':=λe'=>e (ρ.inj _ _ _ (e'▸hb) hb')
  rw[if_neg e,if_neg ec];exact⟨x,x',h1,h2,h3⟩
theorem eD.setObj (_h:aH ok str ρ V W){b c:Nat}(hb:ρ b=some c){o o' x:Obj}(hx:V.heap[b]?=some x)(hn:∀cs e z,x≠.cells cs e z):
  eD ρ V W ρ {V with heap:=V.heap.setIfInBounds b o} {W with heap:=W.heap.setIfInBounds c o'}:=by
 refine⟨Ren.le_refl ρ,λc' _ hc'=>?_,λb' c' hb' hr=>?_,by simp,by simp,λ_ _ hb=>.inl hb,rfl,rfl,rfl⟩
 .simp only[Array.getElem?_setIfInBounds];rw[if_neg (λe=>hc' _ (e▸hb))]
 .have e:b≠b':=by
   rintro rfl;obtain⟨cs,e,hr⟩:=hr;rw[hx]at hr;exact hn _ _ _ (Gt hr)
  have ec:c≠c':=λe'=>e (ρ.inj _ _ _ (e'▸hb) hb')
  simp only[Array.getElem?_setIfInBounds];rw[if_neg e,if_neg ec];exact⟨rfl,rfl⟩
end
inductive yZ (ok:Ctx)(str:Bool){α β:Type}(A:Ren->α->β->Prop)(σ:Ren):Result α->Result β->World->World->Prop
 |ok {a:α} {b:β} {V W:World}:A σ a b->aH ok str σ V W->yZ ok str A σ (.ok a V) (.ok b W) V W
 |panic {v v':Value} {V W:World}:aj ok σ v v'->aH ok str σ V W->yZ ok str A σ (.halt (.panic v) V) (.halt (.panic v') W) V W
theorem ab.sound {α β:Type}{A:Ren->α->β->Prop}{s:Sem α}{s':Sem β}(h:ab P0 P ok str A ρ s s'):
  ∀{V W:World} (es es':Array Event) {r:Result α} {e1:Array Event},aH ok str ρ V W->s.runT P0 V es=(r,e1)->Result.stops r=true\/
   ∃σ r' V' W' d',s'.runT P W es'=(r',es'++d')/\yZ ok str A σ r r' V' W'/\eD ρ V W σ V' W'/\∀e∈d',iO σ V e:=by
 induction h with
 |@pure ρ a b hA=>
  intro V W es es' x e1 hw hr;simp only[Sem.runT,Prod.mk.injEq]at hr;obtain⟨rfl,_⟩:=hr;exact .inr ⟨ρ,_,V,W,#[],by simp[Sem.runT],.ok hA hw,eD.refl _ _ _,by simp⟩
 |@load ρ a a' k k' ra _ ih=>
  intro V W es es' x e1 hw hr;simp only[Sem.runT]at hr;cases hc:V.cell? a with
  |none=>
   rw[hc]at hr;obtain⟨y,hy⟩:=hw.far ra.blk (Mode.plain==Mode.atomic) P0;simp only[hy,Prod.mk.injEq]at hr;obtain⟨rfl,_⟩:=hr;exact .inl rfl
  |some v=>
   rw[hc]at hr;obtain⟨v',hv',rv⟩:=hw.load ra hc;rcases ih v v' rv _ (es'.push ⟨.cell a',false,false⟩) hw hr with h|⟨σ,b,V',W',d',h1,h2,h4,h5⟩
   .exact .inl h
   .refine .inr ⟨σ,b,V',W',#[⟨.cell a',false,false⟩]++d',?_,h2,h4,λe he=>?_⟩
    .simp only[Sem.runT,hv'];rw[show(Mode.plain==Mode.atomic)=false from rfl,h1];simp
    .rcases Array.mem_append.1 he with he|he
     .rw[Array.mem_singleton]at he;subst he;exact .inl ⟨rfl,a,a',rfl,ra.mono h4.le,λe=>by cases e⟩
     .exact h5 e he
 |@store ρ a a' v v' k k' ra rv _ ih=>
  intro V W es es' x e1 hw hr;by_cases hn:(∃cs,v=.agg cs)\/(∃cs,v=.tuple cs)
  .rcases hn with⟨cs,rfl⟩|⟨cs,rfl⟩
   .simp only[Sem.runT,Prod.mk.injEq]at hr;obtain⟨rfl,_⟩:=hr;exact .inl rfl
   .simp only[Sem.runT,Prod.mk.injEq]at hr;obtain⟨rfl,_⟩:=hr;exact .inl rfl
  have n1:∀cs,v≠.agg cs:=λcs e=>hn (.inl ⟨cs,e⟩)
  have n2:∀cs,v≠.tuple cs:=λcs e=>hn (.inr ⟨cs,e⟩)
  have n1':∀cs,v'≠.agg cs:=by rintro cs rfl;cases rv with|hole h=>cases h|agg _ _=>exact n1 _ rfl
  have n2':∀cs,v'≠.tuple cs:=by rintro cs rfl;cases rv with|hole h=>cases h|tuple _ _=>exact n2 _ rfl
  have hr':(match V.cell? a with
   |some _=>if V.frozen? a then(Result.halt (.unsupported (.unsafePointer "a write to bytes that a string shares")) V,es)else k.runT P0 (V.setCell a v) (es.push ⟨.cell a,true,false⟩)
   |none=>match V.farStore P0 a v (Mode.plain==Mode.atomic)with
    |.ok (w,touched)=>k.runT P0 w (es++touched.toArray.map (⟨.cell ·,true,Mode.plain==Mode.atomic⟩))
    |.error h=>(.halt h V,es))=(x,e1):=by
   rw[<-hr];cases v<;>first|exact absurd rfl (n1 _)|exact absurd rfl (n2 _)|(simp only[Sem.runT];rfl)
  cases hc:V.cell? a with
  |none=>
   rw[hc]at hr';obtain⟨y,hy⟩:=hw.farS ra.blk v (Mode.plain==Mode.atomic) P0;simp only[hy,Prod.mk.injEq]at hr';obtain⟨rfl,_⟩:=hr';exact .inl rfl
  |some y=>
   rw[hc]at hr';simp only at hr';cases hf:V.frozen? a with
   |true=>
    rw[hf]at hr';simp only[if_true,Prod.mk.injEq]at hr';obtain⟨rfl,_⟩:=hr';exact .inl rfl
   |false=>
    rw[hf]at hr';rcases ih _ (es'.push ⟨.cell a',true,false⟩) (hw.store ra rv) hr' with h|⟨σ,b,V',W',d',h1,h2,h4,h5⟩
    .exact .inl h
    .have hK:=eD.store (v:=v) (v':=v') hw ra hc hf;obtain⟨y',hy',_⟩:=hw.load ra hc;have hz:=hw.thaw ra hc hf;refine .inr ⟨σ,b,V',W',#[⟨.cell a',true,false⟩]++d',?_,h2,hK.trans h4,λe he=>?_⟩
     .have:(Sem.store .plain a' v' k').runT P W es'=k'.runT P (W.setCell a' v') (es'.push ⟨.cell a',true,false⟩):=by
       cases v'<;>first|exact absurd rfl (n1' _)|exact absurd rfl (n2' _)|(simp only[Sem.runT,hy',hz];rfl)
      rw[this,h1];simp
     .rcases Array.mem_append.1 he with he|he
      .rw[Array.mem_singleton]at he;subst he;exact .inl ⟨rfl,a,a',rfl,ra.mono h4.le,λ_=>iY hc hf⟩
      .refine(h5 e he).back λb hro=>?_
       obtain⟨c,el,hro⟩:=hro;have hne:a.block≠b:=λe'=>iY hc hf (e'▸⟨c,el,hro⟩)
       exact⟨c,el,by rw[dG,if_neg hne];exact hro⟩
 |@new ρ o o' k k' ro _ ih=>
  intro V W es es' x e1 hw hr;simp only[Sem.runT]at hr;obtain⟨hw1,hk1⟩:=hw.new ro;rcases ih _ V.heap.size W.heap.size hw.ext_le hw.ext_at _ es' hw1 hr with h|⟨σ,b,V',W',d',h1,h2,h4,h5⟩
  .exact .inl h
  .refine .inr ⟨σ,b,V',W',d',by simp only[Sem.runT];exact h1,h2,hk1.trans h4,λe he=>?_⟩;refine(h5 e he).back λb hro=>?_
   obtain⟨c,el,hro⟩:=hro;refine⟨c,el,?_⟩;have:=(Gp.1 hro).1;simp only;rw[Array.getElem?_push,if_neg (by omega)];exact hro
 |@shape ρ r r' k k' hr' _ ih=>
  intro V W es es' x e1 hw hr;simp only[Sem.runT]at hr⊢;rw[hw.shape hr'];exact ih _ _ es' hw hr
 |dead s s' h=>
  intro V W es es' x e1 hw hr;have h1:=Sem.runT_fst P0 s V es;rw[hr]at h1;exact .inl (by have:=h V;rw[<-h1]at this;exact this)
 |@getObj ρ r r' k k' hr' _ ih=>
  intro V W es es' x e1 hw hr;cases ho:V.heap[r]? with
  |none=>simp only[Sem.runT,ho,Prod.mk.injEq]at hr;obtain⟨rfl,_⟩:=hr;exact .inl rfl
  |some o=>
   obtain⟨o',ho',ro⟩:=hw.getObj hr' ho;rcases ro.kinds with⟨⟨c,e,z,rfl⟩,_⟩|⟨n1,n2⟩
   .simp only[Sem.runT,ho,Prod.mk.injEq]at hr;obtain⟨rfl,_⟩:=hr;exact .inl rfl
   .have hr1:(k o).runT P0 V (es.push ⟨.obj r,false,o.isChan⟩)=(x,e1):=by
     rw[<-hr];cases o<;>first|exact absurd rfl (n1 _ _ _)|simp only[Sem.runT,ho]
    rcases ih _ _ ro _ (es'.push ⟨.obj r',false,o'.isChan⟩) hw hr1 with h|⟨σ,b,V',W',d',h1,h2,h4,h5⟩
    .exact .inl h
    .refine .inr ⟨σ,b,V',W',#[⟨.obj r',false,o'.isChan⟩]++d',?_,h2,h4,λe he=>?_⟩
     .have:(Sem.getObj r' k').runT P W es'=(k' o').runT P W (es'.push ⟨.obj r',false,o'.isChan⟩):=by
       cases o'<;>first|exact absurd rfl (n2 _ _ _)|simp only[Sem.runT,ho']
      rw[this,h1];simp
     .rcases Array.mem_append.1 he with he|he
      .rw[Array.mem_singleton]at he;subst he;exact .inr (.inl ⟨ro.chan,r,r',rfl,h4.le _ _ hr',λ⟨c,e,z⟩=>n1 _ _ _ (Gt (ho.symm.trans z))⟩)
      .exact h5 e he
 |@setObj ρ r r' o o' k k' hr' ro _ ih=>
  intro V W es es' x e1 hw hr;cases hx:V.heap[r]? with
  |none=>simp only[Sem.runT,hx,Prod.mk.injEq]at hr;obtain⟨rfl,_⟩:=hr;exact .inl rfl
  |some y=>
   obtain⟨y',hy',ry⟩:=hw.getObj hr' hx;rcases ry.kinds with⟨⟨c,e,z,rfl⟩,_⟩|⟨n1,n2⟩
   .simp only[Sem.runT,hx,Prod.mk.injEq]at hr;obtain⟨rfl,_⟩:=hr;exact .inl rfl
   .have hr1:k.runT P0 {V with heap:=V.heap.setIfInBounds r o} (es.push ⟨.obj r,true,o.isChan⟩)=(x,e1):=by
     rw[<-hr];cases y<;>first|exact absurd rfl (n1 _ _ _)|simp only[Sem.runT,hx]
    have hch:o'.isChan=false:=ro.chan;rcases ih _ (es'.push ⟨.obj r',true,o'.isChan⟩) (hw.setObj hr' ro) hr1 with h|⟨σ,b,V',W',d',h1,h2,h4,h5⟩
    .exact .inl h
    .have hK:=eD.setObj (o:=o) (o':=o') hw hr' hx n1;refine .inr ⟨σ,b,V',W',#[⟨.obj r',true,o'.isChan⟩]++d',?_,h2,hK.trans h4,λe he=>?_⟩
     .have:(Sem.setObj r' o' k').runT P W es'=k'.runT P {W with heap:=W.heap.setIfInBounds r' o'} (es'.push ⟨.obj r',true,o'.isChan⟩):=by
       cases y'<;>first|exact absurd rfl (n2 _ _ _)|simp only[Sem.runT,hy']
      rw[this,h1];simp
     .rcases Array.mem_append.1 he with he|he
      .rw[Array.mem_singleton]at he;subst he;exact .inr (.inl ⟨hch,r,r',rfl,h4.le _ _ hr',λ⟨c,e,z⟩=>n1 _ _ _ (Gt (hx.symm.trans z))⟩)
      .refine(h5 e he).back λb hro=>?_
       obtain⟨c,el,hro⟩:=hro;refine⟨c,el,?_⟩;have hne:r≠b:=by
        rintro rfl;rw[hx]at hro;exact n1 _ _ _ (Gt hro)
       simp only[Array.getElem?_setIfInBounds];rw[if_neg hne];exact hro
 |@choose ρ q k k' _ ih=>
  intro V W es es' x e1 hw hr;simp only[Sem.runT]at hr⊢;split at hr
  .rename_i hq;rw[if_pos hq];exact ih _ _ es' hw hr
  .rename_i hq;have e:W.tape W.drawn q=V.tape V.drawn q:=by rw[hw.tape,hw.drawn]
   rw[if_neg hq,e];have hw':aH ok str ρ {V with drawn:=V.drawn+1} {W with drawn:=W.drawn+1}:=⟨hw.heap,hw.tape,by simp only[hw.drawn],hw.gV,hw.gW⟩;rcases ih _ _ es' hw' hr with h|⟨σ,b,V',W',d',h1,h2,h4,h5⟩
   .exact .inl h
   .exact .inr ⟨σ,b,V',W',d',h1,h2,⟨h4.le,h4.keep,h4.ro,h4.size,h4.sizeV,h4.new,h4.tape,h4.os,h4.out⟩,h5⟩
 |@program ρ k k' _ ih=>
  intro V W es es' x e1 hw hr;simp only[Sem.runT]at hr⊢;exact ih _ es' hw hr
 |@mark ρ m k k' hm _ ih=>
  intro V W es es' x e1 hw hr;simp only[Sem.runT]at hr;rcases ih _ (es'.push ⟨.mark m,false,true⟩) hw hr with h|⟨σ,b,V',W',d',h1,h2,h4,h5⟩
  .exact .inl h
  .refine .inr ⟨σ,b,V',W',#[⟨.mark m,false,true⟩]++d',?_,h2,h4,λe he=>?_⟩
   .simp only[Sem.runT];rw[h1];simp
   .rcases Array.mem_append.1 he with he|he
    .rw[Array.mem_singleton]at he;exact .inr (.inr ⟨m,hm,he⟩)
    .exact h5 e he
 |@panic ρ v v' hv=>
  intro V W es es' x e1 hw hr;simp only[Sem.runT,Prod.mk.injEq]at hr;obtain⟨rfl,_⟩:=hr;exact .inr ⟨ρ,_,V,W,#[],by simp[Sem.runT],.panic hv hw,eD.refl _ _ _,by simp⟩
 |halt h s he=>
  intro V W es es' x e1 hw hr;simp only[Sem.runT,Prod.mk.injEq]at hr;obtain⟨rfl,_⟩:=hr;exact .inl he
end
end Go.Proofs.YtlmcblcijndipabGreatDoor
namespace Go.Proofs.YtlmcblcijndipabGreatDoor
open Go
variable [Gl]
def lK:Value->Bool
 |.bool _|.int _ _|.string _|.pointer none|.slice none _ _|.nilFunc|.nilIface=>true
 |_=>false
def qU:Value->Bool
 |.agg cs=>cs.all lK
 |.tuple cs=>cs.all lK
 |v=>lK v
theorem iZ {ok:Ctx}{ρ:Ren}{v:Value}(h:lK v=true):aj ok ρ v v:=by
 match v,h with
 |.bool b,_=>exact .bool b
 |.int k n,_=>exact .int k n
 |.string s,_=>exact .string s
 |.pointer none,_=>exact .ptr0
 |.slice none l c,_=>exact .slice0 l c
 |.nilFunc,_=>exact .nilFunc
 |.nilIface,_=>exact .nilIface
theorem mF {ok:Ctx}{ρ:Ren}{cs:Array Value}(h:cs.all lK=true):am ok ρ cs cs:=by
 refine⟨rfl,λi x x' hx hx'=>?_⟩;rw[hx]at hx';cases hx';rw[Array.all_eq_true]at h;obtain⟨hl,rfl⟩:=Gp.1 hx;exact iZ (h i hl)
theorem ki {ok:Ctx}{ρ:Ren}{v:Value}(h:qU v=true):aj ok ρ v v:=by
 cases v with
 |agg cs=>exact .agg rfl (mF (ok:=ok) (ρ:=ρ) h).at_
 |tuple cs=>exact .tuple rfl (mF (ok:=ok) (ρ:=ρ) h).at_
 |_=>exact iZ h
inductive dH (ok:Ctx)(ρ:Ren):List Value->List Value->Prop
 |nil:dH ok ρ [] []
 |cons {v v':Value} {l l':List Value}:aj ok ρ v v'->dH ok ρ l l'->dH ok ρ (v::l) (v'::l')
theorem dH.mono {ok:Ctx}{ρ σ:Ren}{l l':List Value}(h:dH ok ρ l l')(le:ρ.le σ):dH ok σ l l':=by
 induction h with
 |nil=>exact .nil
 |cons h _ ih=>exact .cons (h.mono le) ih
def uv (P:Program)(t:TypeId):Bool:=match P.info? t with|some i=>(match i.zero with|some v=>qU v|none=>true)|none=>true
def s7 (P:Program)(t:TypeId):Bool:=match P.underlying t with|some (.slice e)=>uv P e|_=>true
section
variable {P0 P:Program}{ok:Ctx}{str:Bool}{ρ:Ren}
theorem am.list {xs xs':Array Value}(h:am ok ρ xs xs'):dH ok ρ xs.toList xs'.toList:=by
 have:∀(l l':List Value),l.length=l'.length->(∀(i:Nat) (x x':Value),l[i]?=some x->l'[i]?=some x'->aj ok ρ x x')->dH ok ρ l l':=by
  intro l;induction l with
  |nil=>intro l' e _;cases l' with
   |nil=>exact .nil
   |cons _ _=>cases e
  |cons a l ih=>intro l' e hh;cases l' with
   |nil=>cases e
   |cons b l'=>exact .cons (hh 0 a b rfl rfl) (ih l' (by simpa using e) λi x x' hx hx'=>hh (i+1) x x' (by simpa using hx) (by simpa using hx'))
 exact this _ _ (by rw[Array.length_toList,Array.length_toList];exact h.size) λi x x' hx hx'=>h.at_ i x x' (by simpa using hx) (by simpa using hx')
theorem dH.array {l l':List Value}(h:dH ok ρ l l'):am ok ρ l.toArray l'.toArray:=by
 induction h with
 |nil=>exact am.nil
 |@cons a b l l' h _ ih=>
  have:=(am.nil.push h).append ih;simpa using this
omit [Gl] in
theorem lL (hT:P0.toTables=P.toTables)(t:TypeId):P0.underlying t=P.underlying t:=by
 unfold Program.underlying;rw[hT]
theorem fP {α β:Type}{A:Ren->α->β->Prop}{why:String}{s:Sem β}:ab P0 P ok str A ρ (stuck why:Sem α) s:=.halt (.stuck why) _
theorem y7 {α β:Type}{A:Ren->α->β->Prop}{u:Unsupported}{s:Sem β}(hu:ends (.unsupported u)=true:=by rfl):ab P0 P ok str A ρ (unsupported u:Sem α) s:=.halt (.unsupported u) _ hu
theorem ae {α β:Type}{A:Ren->α->β->Prop}{a:α}{b:β}(h:A ρ a b):ab P0 P ok str A ρ (pure a:Sem α) (pure b:Sem β):=.pure h
theorem aa {α β γ δ:Type}(A:Ren->α->β->Prop){B:Ren->γ->δ->Prop}{s:Sem α}{s':Sem β}{f:α->Sem γ}{f':β->Sem δ}(h:ab P0 P ok str A ρ s s')
  (hf:∀σ a b,ρ.le σ->A σ a b->ab P0 P ok str B σ (f a) (f' b)):ab P0 P ok str B ρ (s >>= f) (s' >>= f'):=ab.bind h hf
theorem aA {α β γ δ:Type}{B:Ren->γ->δ->Prop}{a:α}{b:β}{f:α->Sem γ}{f':β->Sem δ}(h:ab P0 P ok str B ρ (f a) (f' b)):ab P0 P ok str B ρ (pure a >>= f) (pure b >>= f'):=h
theorem aF (hT:P0.toTables=P.toTables)(t:TypeId):ab P0 P ok str (λ_ x y=>x=y/\P.info? t=some x) ρ (typeInfo t) (typeInfo t):=by
 refine ab.program ?_;show ab P0 P ok str _ ρ (match P0.info? t with|some i=>pure i|none=>stuck "no such type") (match P.info? t with|some i=>pure i|none=>stuck "no such type");rw[hT];cases h:P.info? t with
 |none=>exact fP
 |some i=>exact ae ⟨rfl,rfl⟩
theorem ah (hT:P0.toTables=P.toTables)(t:TypeId):ab P0 P ok str (λ_ x y=>x=y/\P.underlying t=some x) ρ (underlying t) (underlying t):=by
 refine ab.program ?_;show ab P0 P ok str _ ρ (match P0.underlying t with|some i=>pure i|none=>stuck "no such type") (match P.underlying t with|some i=>pure i|none=>stuck "no such type");rw[lL hT];cases h:P.underlying t with
 |none=>exact fP
 |some i=>exact ae ⟨rfl,rfl⟩
theorem bc (hT:P0.toTables=P.toTables)(t:TypeId):ab P0 P ok str (λ_ x y=>x=y/\∃i,P.info? t=some i/\i.size=x) ρ (sizeOf t) (sizeOf t):=by
 refine aa _ (aF hT t) ?_;rintro σ a b _ ⟨rfl,h⟩;exact ae ⟨rfl,a,h,rfl⟩
theorem td (hT:P0.toTables=P.toTables)(t:TypeId):ab P0 P ok str (λ_ x y=>x=y) ρ (isAgg t) (isAgg t):=by
 refine aa _ (ah hT t) ?_;rintro σ a b _ ⟨rfl,h⟩;split<;>exact ae rfl
theorem dZ (hT:P0.toTables=P.toTables)(t:TypeId)(hz:uv P t=true):ab P0 P ok str (λσ x y=>aj ok σ x y) ρ (zeroValue t) (zeroValue t):=by
 refine aa _ (aF hT t) ?_;rintro σ a b _ ⟨rfl,h⟩;unfold uv at hz;rw[h]at hz;simp only at hz;cases e:a.zero with
 |none=>exact y7
 |some v=>rw[e]at hz;exact ae (ki hz)
theorem wo {a a':Addr}(r:bm ρ a a'):ab P0 P ok str (λσ x y=>aj ok σ x y) ρ (load a) (load a'):=.load r λ_ _ h=>.pure h
theorem za {a a':Addr}(r:bm ρ a a'){v v':Value}(h:aj ok ρ v v'):ab P0 P ok str (λ_ _ _=>True) ρ (store a v) (store a' v'):=.store r h (.pure trivial)
theorem te {a a':Addr}(n:Nat):∀{ρ:Ren} (_:bm ρ a a') (i:Nat) {acc acc':Array Value},am ok ρ acc acc'->ab P0 P ok str (λσ x y=>am ok σ x y) ρ (loadCellsFrom a i n acc) (loadCellsFrom a' i n acc'):=by
 induction n with
 |zero=>intro ρ r i acc acc' h;exact ae h
 |succ n ih=>
  intro ρ r i acc acc' h;refine aa _ (wo (r.add i)) ?_;intro σ x y l hv;exact ih (r.mono l) (i+1) ((h.mono l).push hv)
theorem iq {a a':Addr}(r:bm ρ a a')(n:Nat):ab P0 P ok str (λσ x y=>am ok σ x y) ρ (loadCells a n) (loadCells a' n):=te n r 0 am.nil
theorem du {a a':Addr}:∀(vs vs':List Value) {ρ:Ren} (_:bm ρ a a') (i:Nat),dH ok ρ vs vs'->ab P0 P ok str (λ_ _ _=>True) ρ (storeCells a vs i) (storeCells a' vs' i):=by
 intro vs;induction vs with
 |nil=>intro vs' ρ r i h;cases h;exact ae trivial
 |cons v vs ih=>
  intro vs' ρ r i h;cases h with
  |cons hv h=>
   rename_i v' vs';refine aa _ (za (r.add i) hv) ?_;intro σ x y l _;exact ih vs' (r.mono l) (i+1) (h.mono l)
theorem ko (hT:P0.toTables=P.toTables)(t:TypeId){a a':Addr}(r:bm ρ a a'):ab P0 P ok str (λσ x y=>aj ok σ x y) ρ (loadVar t a) (loadVar t a'):=by
 refine aa _ (td hT t) ?_;rintro σ x y l rfl;split
 .refine aa _ (bc hT t) ?_;rintro τ n m l' ⟨rfl,_⟩;refine aa _ (iq ((r.mono l).mono l') n) ?_;intro υ cs cs' _ h;exact ae (.agg h.size h.at_)
 .exact wo (r.mono l)
theorem tf (hT:P0.toTables=P.toTables)(t:TypeId){a a':Addr}(r:bm ρ a a'){v v':Value}(hv:aj ok ρ v v'):ab P0 P ok str (λ_ _ _=>True) ρ (storeVar t a v) (storeVar t a' v'):=by
 refine aa _ (bc hT t) ?_;rintro σ n m l ⟨rfl,_⟩;rw[hv.cells.size];split
 .exact .halt _ _
 .exact du _ _ (r.mono l) 0 (hv.mono l).cells.list
theorem dI (t:TypeId){cs cs':Array Value}(h:am ok ρ cs cs'):ab P0 P ok str (λσ x y=>bm σ x y) ρ (newRow t cs) (newRow t cs'):=by
 refine ab.new (.cells h (.inl (by cases str<;>rfl))) ?_;intro σ b c _ e;exact .pure ⟨e,rfl,rfl⟩
def Eo:RuntimeError->Bool
 |.bounds ..|.error _|.plain _|.nilDeref=>true
 |_=>false
theorem bU (hT:P0.toTables=P.toTables){α β:Type}{A:Ren->α->β->Prop}(e:RuntimeError)(he:Eo e=true):ab P0 P ok str A ρ (runtimePanic e:Sem α) (runtimePanic e:Sem β):=by
 refine ab.program (aA ?_);rw[hT];cases e with
 |bounds x y s c=>exact .panic (.iface _ (ki (by simp[qU,lK])))
 |error m=>exact .panic (.iface _ (.string _))
 |plain m=>exact .panic (.iface _ (.string _))
 |nilDeref=>exact .panic (.iface _ (.string _))
 |_=>cases he
theorem kP {v v':Value}(h:aj ok ρ v v'):ab P0 P ok str (λσ x y=>bm σ x y) ρ (Instr.sureAddr v) (Instr.sureAddr v'):=by
 cases h with
 |ptr r=>exact ae r
 |_=>exact .halt _ _
theorem lO (hT:P0.toTables=P.toTables){v v':Value}(h:aj ok ρ v v'):ab P0 P ok str (λσ x y=>bm σ x y) ρ (asAddr v) (asAddr v'):=by
 cases h with
 |ptr r=>exact ae r
 |ptr0=>exact bU hT .nilDeref rfl
 |_=>exact .halt _ _
theorem ir {v v':Value}(h:aj ok ρ v v'):ab P0 P ok str (λ_ x y=>x=y) ρ (asIntOf v) (asIntOf v'):=by
 cases h with
 |int k n=>exact ae rfl
 |_=>exact .halt _ _
theorem gO {v v':Value}(h:aj ok ρ v v'):ab P0 P ok str (λ_ x y=>x=y) ρ (asInt v) (asInt v'):=by
 refine aa _ (ir h) ?_;rintro σ x y _ rfl;exact ae rfl
theorem lP {v v':Value}(h:aj ok ρ v v'):ab P0 P ok str (λ_ x y=>x=y) ρ (asBool v) (asBool v'):=by
 cases h with
 |bool b=>exact ae rfl
 |_=>exact .halt _ _
theorem zb {v v':Value}(h:aj ok ρ v v'):ab P0 P ok str (λσ x y=>am ok σ x y) ρ (asAgg v) (asAgg v'):=by
 cases h with
 |agg e h=>exact ae ⟨e,h⟩
 |_=>exact .halt _ _
theorem gP (hT:P0.toTables=P.toTables){α β:Type}{A:Ren->α->β->Prop}(k:IntKind)(x y:Int)(c:BoundsCode):ab P0 P ok str A ρ (boundsPanic k x y c:Sem α) (boundsPanic k x y c:Sem β):=by
 unfold boundsPanic;dsimp only;split
 .exact ab.choose _ λn=>bU hT (.bounds (IntKind.i64.wrap x) y (n==1) c) rfl
 .exact bU hT (.bounds (IntKind.i64.wrap x) y (k !=.u64) c) rfl
theorem uG (hT:P0.toTables=P.toTables)(s:TypeId)(f:Nat)(hf:∀fs x i,P.underlying s=some (.struct fs)->fs[f]?=some x->P.info? x.type=some i->i.size≠0){v v':Value}(h:aj ok ρ v v'):
  ab P0 P ok str (λσ x y=>aj ok σ x y) ρ (Instr.fieldAt s v f) (Instr.fieldAt s v' f):=by
 refine aa _ (ah hT s) ?_;rintro σ d _ l ⟨rfl,hd⟩;split
 .rename_i fs;cases e:fs[f]? with
  |none=>exact fP
  |some x=>
   refine aa _ (kP (h.mono l)) ?_;intro τ a a' l' r;refine aa (λσ x y=>bm σ x y) ?_ ?_
   .refine aa _ (bc hT _) ?_;rintro υ n _ l'' ⟨rfl,i,hi,hn⟩;have:=hf fs x i hd e hi;rw[if_neg (by omega),if_neg (by omega)];exact ae ((r.mono l'').add _)
   .intro υ b b' _ rb;exact ae (.ptr rb)
 .exact fP
theorem uH (hT:P0.toTables=P.toTables)(t:TypeId){v v' i i':Value}(h:aj ok ρ v v')(hi:aj ok ρ i i'):ab P0 P ok str (λσ x y=>aj ok σ x y) ρ (Instr.indexAt t v i) (Instr.indexAt t v' i'):=by
 refine aa _ (ir hi) ?_;rintro σ ⟨k,n⟩ _ l rfl;refine aa _ (ah hT t) ?_;rintro τ d _ l1 ⟨rfl,hd⟩;have h':=(h.mono l).mono l1;have some_:∀{φ:Ren} {a a':Addr} (len:Nat) (elem:TypeId) (tiny:Bool),bm φ a a'->ab P0 P ok str (λσ x y=>aj ok σ x y) φ
   (if 0<=n/\n<(len:Int)then(do pure (.pointer (some (a.add (n.toNat*(<-sizeOf elem))))))else if tiny=true then unsupported (.noEntry "op/indexAddr.an index out of range at an array of length 0 or 1 (ledger 616)")else boundsPanic k n len .index)
   (if 0<=n/\n<(len:Int)then(do pure (.pointer (some (a'.add (n.toNat*(<-sizeOf elem))))))else if tiny=true then unsupported (.noEntry "op/indexAddr.an index out of range at an array of length 0 or 1 (ledger 616)")else boundsPanic k n len .index):=by
  intro φ a a' len elem tiny r;split
  .refine aa _ (bc hT _) ?_;rintro ψ m _ l4 ⟨rfl,_⟩;exact ae (.ptr ((r.mono l4).add _))
  .split
   .exact .halt _ _
   .exact gP hT _ _ _ _
 cases d with
 |array len elem=>
  refine aa _ (kP h') ?_;intro υ a a' l2 r;refine aA (aa _ (ah hT t) ?_);rintro φ d' _ l3 ⟨rfl,_⟩;exact some_ len elem _ (r.mono l3)
 |slice elem=>
  cases h' with
  |slice0 len c=>
   refine aA (aa _ (ah hT t) ?_);rintro φ d' _ l3 ⟨rfl,_⟩;exact gP hT _ _ _ _
  |slice len c r=>
   refine aA (aa _ (ah hT t) ?_);rintro φ d' _ l3 ⟨rfl,_⟩;exact some_ len elem _ (r.mono l3)
  |_=>exact .halt _ _
 |_=>exact .halt _ _
end
end Go.Proofs.YtlmcblcijndipabGreatDoor
namespace Go.Proofs.YtlmcblcijndipabGreatDoor
open Go
variable [Gl]
section
variable {P0 P:Program}{ok:Ctx}{str:Bool}{ρ:Ren}
theorem AV {α γ:Type}{f:α->Sem γ}(h:∀{σ:Ren} a,ab P0 P ok str (λ_ x y=>x=y) σ (f a) (f a)):∀(l:List α) {ρ:Ren},ab P0 P ok str (λ_ x y=>x=y) ρ (l.mapM f) (l.mapM f):=by
 intro l;induction l with
 |nil=>intro ρ;simp only[List.mapM_nil];exact ae rfl
 |cons a l ih=>
  intro ρ;simp only[List.mapM_cons];refine aa _ (h a) ?_;rintro σ x _ _ rfl;refine aa _ ih ?_;rintro τ xs _ _ rfl;exact ae rfl
theorem zc {α γ:Type}{f:α->Sem γ}(h:∀{σ:Ren} a,ab P0 P ok str (λ_ x y=>x=y) σ (f a) (f a))(l:Array α):ab P0 P ok str (λ_ x y=>x=y) ρ (l.mapM f) (l.mapM f):=by
 rw[Array.mapM_eq_mapM_toList];refine aa _ (AV h _) ?_;rintro σ x _ _ rfl;exact ae rfl
theorem zd (off:Nat):∀{l l':List Value} (_:dH ok ρ l l') (k:Nat) {cs cs':Array Value},am ok ρ cs cs'->
  am ok ρ ((l.zipIdx k).foldl (λcs (x:Value×Nat)=>cs.setIfInBounds (off+x.2) x.1) cs) ((l'.zipIdx k).foldl (λcs (x:Value×Nat)=>cs.setIfInBounds (off+x.2) x.1) cs'):=by
 intro l l' h;induction h with
 |nil=>intro k cs cs' hc;exact hc
 |cons hv _ ih=>intro k cs cs' hc;exact ih (k+1) (hc.set hv _)
theorem nO (place:Nat->Option (Nat×Nat)):∀{l l':List (Nat×Value)} {cs cs':Array Value},l.map (·.1)=l'.map (·.1)->dH ok ρ (l.map (·.2)) (l'.map (·.2))->am ok ρ cs cs'->
  (Instr.fill place cs l=none/\Instr.fill place cs' l'=none)\/∃r r',Instr.fill place cs l=some r/\Instr.fill place cs' l'=some r'/\am ok ρ r r':=by
 intro l;induction l with
 |nil=>
  intro l' cs cs' e _ hc;cases l' with
  |nil=>exact .inr ⟨cs,cs',rfl,rfl,hc⟩
  |cons _ _=>simp at e
 |cons a l ih=>
  intro l' cs cs' e h hc;cases l' with
  |nil=>simp at e
  |cons b l'=>
   obtain⟨i,v⟩:=a;obtain⟨i',v'⟩:=b;simp only[List.map_cons,List.cons.injEq]at e;obtain⟨rfl,e⟩:=e;simp only[List.map_cons]at h;cases h with
   |cons hv h=>
    unfold Instr.fill;cases hp:place i with
    |none=>exact .inl ⟨rfl,rfl⟩
    |some x=>
     obtain⟨off,size⟩:=x;simp only;rw[<-hv.cells.size,<-hc.size];split
     .exact .inl ⟨rfl,rfl⟩
     .refine ih e h ?_;have:=zd off hv.cells.list 0 hc;rw[<-Array.toList_zipIdx,<-Array.toList_zipIdx,Array.foldl_toList,Array.foldl_toList]at this;exact this
theorem pU (t:TypeId){v v':Value}(h:aj ok ρ v v'):ab P0 P ok str (λσ x y=>bm σ x y) ρ (newVar t v) (newVar t v'):=dI t h.cells
theorem C3 (t:TypeId){v v':Value}(h:aj ok ρ v v'):ab P0 P ok str (λσ x y=>aj ok σ x y) ρ (Instr.box t v) (Instr.box t v'):=by
 refine aa _ (pU t h) ?_;intro σ a a' _ r;exact ae (.ptr r)
theorem ze (hT:P0.toTables=P.toTables)(t:TypeId)(hz:uv P t=true):ab P0 P ok str (λσ x y=>aj ok σ x y) ρ (Instr.alloc t true (.tuple #[])) (Instr.alloc t true (.tuple #[])):=by
 refine aa _ (dZ hT t hz) ?_;intro σ v v' _ h;refine aa _ (pU t h) ?_;intro τ a a' _ r;exact ae (.ptr r)
theorem zf (hT:P0.toTables=P.toTables)(t:TypeId)(hz:uv P t=true){l l':Array (Nat×Value)}(e:l.toList.map (·.1)=l'.toList.map (·.1))(h:dH ok ρ (l.toList.map (·.2)) (l'.toList.map (·.2))):
  ab P0 P ok str (λσ x y=>aj ok σ x y) ρ (Instr.build t l) (Instr.build t l'):=by
 refine aa _ (dZ hT t hz) ?_;intro σ z z' l1 hz';refine aa _ (ah hT t) ?_;rintro τ d _ l2 ⟨rfl,hd⟩;cases d with
 |struct fields=>
  refine aa _ (zc (f:=λ(f:Field)=>(do pure (f.offset,<-sizeOf f.type):Sem (Nat×Nat))) (λa=>?_) fields) ?_
  .refine aa _ (bc hT _) ?_;rintro υ n _ _ ⟨rfl,_⟩;exact ae rfl
  .rintro υ places _ l3 rfl;rcases nO (ok:=ok) (ρ:=υ) (λx=>places[x]?) e ((h.mono (l1.trans l2)).mono l3) ((hz'.mono (l2.trans l3)).cells)with⟨h1,h2⟩|⟨r,r',h1,h2,h3⟩
   .simp only[h1];exact fP
   .simp only[h1,h2];exact ae (.agg h3.size h3.at_)
 |array n elem=>
  refine aa _ (bc hT _) ?_;rintro υ size _ l3 ⟨rfl,_⟩;rcases nO (ok:=ok) (ρ:=υ) (λi=>some (i*size,size)) e ((h.mono (l1.trans l2)).mono l3) ((hz'.mono (l2.trans l3)).cells)with⟨h1,h2⟩|⟨r,r',h1,h2,h3⟩
  .simp only[h1];exact fP
  .simp only[h1,h2];exact ae (.agg h3.size h3.at_)
 |_=>exact .halt _ _
theorem nP {z z':Array Value}(h:am ok ρ z z')(n:Nat):am ok ρ ((Array.range n).map (z[·%z.size]!)) ((Array.range n).map (z'[·%z'.size]!)):=by
 refine am.map (λi=>?_) _;have e:z'.size=z.size:=h.size.symm;rw[e];simp only[Array.getElem!_eq_getD];cases hx:z[i%z.size]? with
 |none=>
  rw[Array.getD_eq_getD_getElem?,Array.getD_eq_getD_getElem?,hx,h.none hx];exact iZ rfl
 |some x=>
  obtain⟨x',hx',r⟩:=h.get hx;rw[Array.getD_eq_getD_getElem?,Array.getD_eq_getD_getElem?,hx,hx'];exact r
theorem pz (hT:P0.toTables=P.toTables)(t:TypeId)(n:Nat)(hz:s7 P t=true){l l':Array (Nat×Value)}(e:l.toList.map (·.1)=l'.toList.map (·.1))(h:dH ok ρ (l.toList.map (·.2)) (l'.toList.map (·.2))):
  ab P0 P ok str (λσ x y=>aj ok σ x y) ρ (Instr.buildSlice t n l) (Instr.buildSlice t n l'):=by
 refine aa _ (ah hT t) ?_;rintro τ d _ l1 ⟨rfl,hd⟩;cases d with
 |slice elem=>
  have hz':uv P elem=true:=by unfold s7 at hz;rw[hd]at hz;exact hz
  refine aa _ (bc hT _) ?_;rintro υ size _ l2 ⟨rfl,_⟩;have fin:∀{φ:Ren} {z z':Array Value},τ.le φ->am ok φ z z'->ab P0 P ok str (λσ x y=>aj ok σ x y) φ
    (match Instr.fill (λi=>some (i*size,size)) ((Array.range (n*size)).map (z[·%z.size]!)) l.toList with|some cells=>(do pure (.slice (some (<-newRow elem cells)) n n))|_=>stuck "buildSlice: a part of the wrong size")
    (match Instr.fill (λi=>some (i*size,size)) ((Array.range (n*size)).map (z'[·%z'.size]!)) l'.toList with|some cells=>(do pure (.slice (some (<-newRow elem cells)) n n))|_=>stuck "buildSlice: a part of the wrong size"):=by
   intro φ z z' lφ hzz;rcases nO (ok:=ok) (ρ:=φ) (λi=>some (i*size,size)) e (h.mono (l1.trans lφ)) (nP hzz (n*size))with⟨h1,h2⟩|⟨r,r',h1,h2,h3⟩
   .simp only[h1];exact fP
   .simp only[h1,h2];refine aa _ (dI elem h3) ?_;intro ψ a a' _ r;exact ae (.slice _ _ r)
  dsimp only;split
  .exact .halt _ _
  .split
   .exact fin l2 am.nil
   .refine aa _ (dZ hT _ hz') ?_;intro φ z z' l3 hzz;exact fin (l2.trans l3) hzz.cells
 |_=>exact .halt _ _
theorem fQ (n:Nat):ab P0 P ok str (λ_ _ _=>True) ρ (askRoom n) (askRoom n):=by
 unfold askRoom;split
 .exact ab.mark rfl (.pure trivial)
 .exact ae trivial
theorem qV (hT:P0.toTables=P.toTables)(t:TypeId)(hz:s7 P t=true){a a' b b':Value}(h:aj ok ρ a a')(h':aj ok ρ b b'):ab P0 P ok str (λσ x y=>aj ok σ x y) ρ (Instr.makeSlice t a b) (Instr.makeSlice t a' b'):=by
 refine aa _ (ah hT t) ?_;rintro σ d _ l1 ⟨rfl,hd⟩;cases d with
 |slice elem=>
  have hz':uv P elem=true:=by unfold s7 at hz;rw[hd]at hz;exact hz
  refine aa _ (gO (h.mono l1)) ?_;rintro τ x _ l2 rfl;refine aa _ (gO ((h'.mono l1).mono l2)) ?_;rintro υ y _ l3 rfl;refine aa _ (aF hT _) ?_;rintro φ info _ l4 ⟨rfl,_⟩;dsimp only;split
  .split
   .exact bU hT (.error _) rfl
   .split
    .exact bU hT (.error _) rfl
    .exact ab.choose _ λn=>bU hT (.error _) rfl
  .refine aa _ (fQ _) ?_;intro ψ _ _ l5 _;refine aa _ (bc hT _) ?_;rintro χ size _ l6 ⟨rfl,_⟩;split
   .refine aA (aa _ (dI elem (nP am.nil _)) ?_);intro ω r r' _ hr;exact ae (.slice _ _ hr)
   .refine aa _ (dZ hT _ hz') ?_;intro κ z z' l7 hzz;refine aA (aa _ (dI elem (nP hzz.cells _)) ?_);intro ω r r' _ hr;exact ae (.slice _ _ hr)
 |_=>exact .halt _ _
end
end Go.Proofs.YtlmcblcijndipabGreatDoor
namespace Go.Proofs.YtlmcblcijndipabGreatDoor
open Go
variable [Gl]
section
variable {P0 P:Program}{ok:Ctx}{str:Bool}{ρ:Ren}
theorem eV (hT:P0.toTables=P.toTables){v v':Value}(h:aj ok ρ v v')(y:Nat)(c:BoundsCode):ab P0 P ok str (λ_ x y=>x=y) ρ (Instr.sliceBound v y c) (Instr.sliceBound v' y c):=by
 refine aa _ (ir h) ?_;rintro σ ⟨k,i⟩ _ _ rfl;dsimp only;split
 .exact ae rfl
 .exact gP hT _ _ _ _
inductive gQ (ok:Ctx)(ρ:Ren):Option Value->Option Value->Prop
 |none:gQ ok ρ none none
 |some {v v':Value}:aj ok ρ v v'->gQ ok ρ (some v) (some v')
theorem gQ.mono {σ:Ren}{v v':Option Value}(h:gQ ok ρ v v')(l:ρ.le σ):gQ ok σ v v':=by
 cases h with
 |none=>exact .none
 |some h=>exact .some (h.mono l)
def CC (lo:Option Value)(m h:Nat)(c:BoundsCode):Sem (Nat×Nat×Nat):=match lo with|some v=>(do let l <-Instr.sliceBound v h c;pure (l,h,m))|none=>(do let l <-pure 0;pure (l,h,m))
theorem uI (hT:P0.toTables=P.toTables){lo lo':Option Value}(h1:gQ ok ρ lo lo')(m h:Nat)(c:BoundsCode):ab P0 P ok str (λ_ x y=>x=y) ρ (CC lo m h c) (CC lo' m h c):=by
 cases h1 with
 |none=>exact aA (ae rfl)
 |some hv=>
  refine aa _ (eV hT hv _ _) ?_;rintro τ x _ _ rfl;exact ae rfl
theorem di (hT:P0.toTables=P.toTables)(b:Bool)(len cap:Nat){lo lo' hi hi' mx mx':Option Value}(h1:gQ ok ρ lo lo')(h2:gQ ok ρ hi hi')(h3:gQ ok ρ mx mx'):
  ab P0 P ok str (λ_ x y=>x=y) ρ (Instr.sliceBounds b len cap lo hi mx) (Instr.sliceBounds b len cap lo' hi' mx'):=by
 unfold Instr.sliceBounds;cases h3 with
 |none=>
  refine aA ?_;cases h2 with
  |none=>exact aA (uI hT h1 _ _ _)
  |some hv=>
   refine aa _ (eV hT hv _ _) ?_;rintro τ x _ l rfl;exact uI hT (h1.mono l) _ _ _
 |some hm=>
  refine aa _ (eV hT hm _ _) ?_;rintro τ x _ l rfl;cases h2 with
  |none=>exact .halt _ _
  |some hv=>
   refine aa _ (eV hT (hv.mono l) _ _) ?_;rintro υ y _ l' rfl;exact uI hT (h1.mono (l.trans l')) _ _ _
theorem uJ (hT:P0.toTables=P.toTables)(t:TypeId){v v':Value}{lo lo' hi hi' mx mx':Option Value}(h:aj ok ρ v v')(h1:gQ ok ρ lo lo')(h2:gQ ok ρ hi hi')(h3:gQ ok ρ mx mx'):
  ab P0 P ok str (λσ x y=>aj ok σ x y) ρ (Instr.sliceAt t v lo hi mx) (Instr.sliceAt t v' lo' hi' mx'):=by
 have tail:∀{σ:Ren} {a a':Addr} (l m n size:Nat),bm σ a a'->ab P0 P ok str (λσ x y=>aj ok σ x y) σ (pure (.slice (some (if m=l then a else a.add (l*size))) (n-l) (m-l))) (pure (.slice (some (if m=l then a' else a'.add (l*size))) (n-l) (m-l))):=by
  intro σ a a' l m n size r;split
  .exact ae (.slice _ _ r)
  .exact ae (.slice _ _ (r.add _))
 refine aa _ (ah hT t) ?_;rintro σ d _ l1 ⟨rfl,hd⟩;have slice_:ab P0 P ok str (λσ x y=>aj ok σ x y) σ (Instr.slice t v lo hi mx) (Instr.slice t v' lo' hi' mx'):=by
  refine aa _ (ah hT t) ?_;rintro τ d _ l2 ⟨rfl,hd⟩;have hv:=(h.mono l1).mono l2;have g1:=(h1.mono l1).mono l2;have g2:=(h2.mono l1).mono l2;have g3:=(h3.mono l1).mono l2;cases d with
  |string=>
   cases hv with
   |string s=>
    dsimp only;cases g3 with
    |none=>
     simp only[Option.isSome_none,Bool.false_eq_true,if_false];refine aa _ (di hT false s.size s.size g1 g2 .none) ?_;rintro υ ⟨l,hh,m⟩ _ _ rfl;exact ae (.string _)
    |some _=>exact .halt _ _
   |_=>exact .halt _ _
  |slice elem=>
   cases hv with
   |slice0 len cap=>
    refine aa _ (di hT true len cap g1 g2 g3) ?_;rintro υ ⟨l,hh,m⟩ _ _ rfl;refine aa _ (bc hT _) ?_;rintro φ size _ _ ⟨rfl,_⟩;split
    .exact ae (.slice0 _ _)
    .exact ae (.slice0 _ _)
   |slice len cap r=>
    refine aa _ (di hT true len cap g1 g2 g3) ?_;rintro υ ⟨l,hh,m⟩ _ l3 rfl;refine aa _ (bc hT _) ?_;rintro φ size _ l4 ⟨rfl,_⟩;split
    .exact ae (.slice _ _ ((r.mono l3).mono l4))
    .exact ae (.slice _ _ (((r.mono l3).mono l4).add _))
   |_=>exact .halt _ _
  |pointer arr=>
   refine aa _ (lO hT hv) ?_;intro υ a a' l3 r;refine aa _ (ah hT _) ?_;rintro φ d2 _ l4 ⟨rfl,_⟩;cases d2 with
   |array n elem=>
    refine aa _ (di hT false n n (g1.mono (l3.trans l4)) (g2.mono (l3.trans l4)) (g3.mono (l3.trans l4))) ?_;rintro ψ ⟨l,hh,m⟩ _ l5 rfl;refine aa _ (bc hT _) ?_;rintro χ size _ l6 ⟨rfl,_⟩;exact tail _ _ _ _ (((r.mono l4).mono l5).mono l6)
   |_=>exact .halt _ _
  |_=>exact .halt _ _
 cases d with
 |array n elem=>
  refine aa _ (kP (h.mono l1)) ?_;intro υ a a' l3 r;refine aa _ (di hT false n n ((h1.mono l1).mono l3) ((h2.mono l1).mono l3) ((h3.mono l1).mono l3)) ?_;rintro ψ ⟨l,hh,m⟩ _ l5 rfl;refine aa _ (bc hT _) ?_;rintro χ size _ l6 ⟨rfl,_⟩;exact tail _ _ _ _ ((r.mono l5).mono l6)
 |_=>exact slice_
theorem uK {v v':Value}(h:aj ok ρ v v')(i:Nat):ab P0 P ok str (λσ x y=>aj ok σ x y) ρ (Instr.extract v i) (Instr.extract v' i):=by
 cases h with
 |@tuple xs xs' e h=>
  have hh:am ok ρ xs xs':=⟨e,h⟩;unfold Instr.extract;cases hx:xs[i]? with
  |none=>simp only[hx];exact .halt _ _
  |some x=>
   obtain⟨x',hx',r⟩:=hh.get hx;simp only[hx,hx'];exact ae r
 |_=>exact .halt _ _
theorem qW (hT:P0.toTables=P.toTables)(t:TypeId){cs cs':Array Value}(h:am ok ρ cs cs')(off:Nat):ab P0 P ok str (λσ x y=>aj ok σ x y) ρ (part t cs off) (part t cs' off):=by
 refine aa _ (td hT t) ?_;rintro σ b _ l rfl;split
 .refine aa _ (bc hT t) ?_;rintro τ n _ l' ⟨rfl,_⟩;have:=((h.mono l).mono l').extract off (off+n);exact ae (.agg this.size this.at_)
 .cases hx:cs[off]? with
  |none=>exact .halt _ _
  |some x=>
   obtain⟨x',hx',r⟩:=(h.mono l).get hx;simp only[hx'];exact ae r
theorem zg (hT:P0.toTables=P.toTables)(t:TypeId){v v':Value}(h:aj ok ρ v v')(f:Nat):ab P0 P ok str (λσ x y=>aj ok σ x y) ρ (Instr.field t v f) (Instr.field t v' f):=by
 refine aa _ (ah hT t) ?_;rintro σ d _ l ⟨rfl,hd⟩;cases d with
 |struct fields=>
  cases hx:fields[f]? with
  |none=>simp only[hx];exact .halt _ _
  |some x=>
   simp only[hx];refine aa _ (zb (h.mono l)) ?_;intro τ cs cs' _ hc;exact qW hT _ hc _
 |_=>exact .halt _ _
theorem zh (hT:P0.toTables=P.toTables)(t:TypeId){v v' i i':Value}(h:aj ok ρ v v')(hi:aj ok ρ i i'):ab P0 P ok str (λσ x y=>aj ok σ x y) ρ (Instr.index t v i) (Instr.index t v' i'):=by
 refine aa _ (ir hi) ?_;rintro σ ⟨k,n⟩ _ l rfl;refine aa _ (ah hT t) ?_;rintro τ d _ l1 ⟨rfl,hd⟩;have hv:=(h.mono l).mono l1;cases d with
 |array len elem=>
  cases hv with
  |agg e hc=>
   dsimp only;split
   .refine aa _ (bc hT _) ?_;rintro υ size _ l2 ⟨rfl,_⟩;exact qW hT _ (am.mono ⟨e,hc⟩ l2) _
   .exact gP hT _ _ _ _
  |_=>exact .halt _ _
 |string=>
  cases hv with
  |string s=>
   dsimp only;split
   .exact ae (.int _ _)
   .exact gP hT _ _ _ _
  |_=>exact .halt _ _
 |_=>exact .halt _ _
theorem zi (op:UnOp){v v':Value}(h:aj ok ρ v v'):ab P0 P ok str (λσ x y=>aj ok σ x y) ρ (Op.unary op v) (Op.unary op v'):=by
 cases h with
 |bool b=>cases op<;>first|exact ae (.bool _)|exact .halt _ _
 |int k n=>cases op<;>first|exact ae (.int _ _)|exact .halt _ _|(simp only[Op.unary,Op.intArith];exact ae (.int _ _))|(simp only[Op.unary,Op.intBits];exact ae (.int _ _))
 |_=>cases op<;>exact .halt _ _
end
end Go.Proofs.YtlmcblcijndipabGreatDoor
namespace Go.Proofs.YtlmcblcijndipabGreatDoor
open Go
variable [Gl]
section
variable {P0 P:Program}{ok:Ctx}{str:Bool}{ρ:Ren}
theorem bm.beq {a a' b b':Addr}(h:bm ρ a a')(h':bm ρ b b'):(a'==b')=(a==b):=by
 have key:a'=b'<->a=b:=by
  constructor
  .rintro rfl;have hb:=ρ.inj _ _ _ h.blk h'.blk;have ho:a.off=b.off:=by rw[<-h.off,<-h'.off]
   have hs:a.spot=b.spot:=by rw[<-h.spot,<-h'.spot]
   cases a;cases b;simp_all
  .rintro rfl;have hb:a'.block=b'.block:=by have:=h.blk;rw[h'.blk]at this;exact(Gt this).symm
   have ho:a'.off=b'.off:=by rw[h.off,h'.off]
   have hs:a'.spot=b'.spot:=by rw[h.spot,h'.spot]
   cases a';cases b';simp_all
 by_cases e:a=b
 .rw[beq_iff_eq.2 e,beq_iff_eq.2 (key.2 e)]
 .rw[beq_eq_false_iff_ne.2 e,beq_eq_false_iff_ne.2 (λx=>e (key.1 x))]
theorem bm.block_beq {a a' b b':Addr}(h:bm ρ a a')(h':bm ρ b b'):(a'.block==b'.block)=(a.block==b.block):=by
 by_cases e:a.block=b.block
 .have:a'.block=b'.block:=by have:=h.blk;rw[e,h'.blk]at this;exact(Gt this).symm
  rw[beq_iff_eq.2 e,beq_iff_eq.2 this]
 .have:a'.block≠b'.block:=λx=>e (ρ.inj _ _ _ h.blk (x▸h'.blk))
  rw[beq_eq_false_iff_ne.2 e,beq_eq_false_iff_ne.2 this]
theorem xw {r r':Nat}(h:ρ r=some r'):ab P0 P ok str (λ_ x y=>x=none/\y=none) ρ (viewAt r) (viewAt r'):=by
 refine ab.shape h λs=>?_
 cases s with
 |some x=>exact .pure ⟨rfl,rfl⟩
 |none=>
  refine ab.getObj h λo o' ho=>?_
  cases ho<;>exact .pure ⟨rfl,rfl⟩
inductive uL (ρ:Ren):Option (Addr×Bool)->Option (Addr×Bool)->Prop
 |none:uL ρ none none
 |some {a a':Addr} (b:Bool):bm ρ a a'->uL ρ (some (a,b)) (some (a',b))
theorem mG {r r':Nat}(h:ρ r=some r'):ab P0 P ok str (λσ x y=>ρ.le σ/\uL σ x y) ρ (numberAt r) (numberAt r'):=by
 refine ab.shape h λs=>?_
 cases s with
 |some x=>exact .pure ⟨Ren.le_refl _,.none⟩
 |none=>
  refine ab.getObj h λo o' ho=>?_
  cases ho<;>first|exact .pure ⟨Ren.le_refl _,.none⟩|(rename_i b r;exact .pure ⟨Ren.le_refl _,.some b r⟩)
theorem fF {a a':Addr}(h:bm ρ a a'):ab P0 P ok str (λσ x y=>ρ.le σ/\bm σ x.1 y.1/\x.2=y.2) ρ (behindNumber a) (behindNumber a'):=by
 refine aa _ (mG h.blk) ?_;rintro σ x y l ⟨_,hn⟩;cases hn with
 |none=>exact ae ⟨l,h.mono l,rfl⟩
 |some b r=>exact ae ⟨l,r,rfl⟩
theorem xx {a a':Addr}(h:bm ρ a a'):ab P0 P ok str (λσ _ _=>ρ.le σ) ρ (noView a) (noView a'):=by
 refine ab.shape h.blk λs=>?_
 cases s with
 |some x=>exact .pure (Ren.le_refl _)
 |none=>
  refine ab.getObj h.blk λo o' ho=>?_
  cases ho<;>exact .pure (Ren.le_refl _)
omit [Gl] in
theorem jS (hT:P0.toTables=P.toTables):∀d e o,byteOfCell P0 d e o=byteOfCell P d e o:=by
 intro d;induction d with
 |zero=>intro e o;rfl
 |succ d ih=>intro e o;simp only[byteOfCell,lL hT,Program.cellsOf,Program.bytesOf,hT,ih];rfl
theorem gR (hT:P0.toTables=P.toTables){a a':Addr}(h:bm ρ a a'):ab P0 P ok str (λ_ x y=>x=y) ρ (byteOf a) (byteOf a'):=by
 unfold byteOf;rw[h.spot];cases a.spot with
 |some s=>exact ae rfl
 |none=>
  refine ab.program (aA ?_);refine aa _ (xx h) ?_;rintro σ _ _ l _;refine ab.shape (l _ _ h.blk) λs=>?_
  cases s with
  |none=>exact .halt _ _
  |some x=>
   obtain⟨e,n⟩:=x;show ab P0 P ok str _ σ (if P0.cellsOf e=0 then pure 0 else match byteOfCell P0 P0.depth e (a.off%P0.cellsOf e)with|some b=>pure (a.off/P0.cellsOf e*P0.bytesOf e+b)|_=>stuck "byteOf: no such cell")
    (if P.cellsOf e=0 then pure 0 else match byteOfCell P P.depth e (a'.off%P.cellsOf e)with|some b=>pure (a'.off/P.cellsOf e*P.bytesOf e+b)|_=>stuck "byteOf: no such cell")
   rw[h.off,jS hT,show P0.cellsOf e=P.cellsOf e by unfold Program.cellsOf;rw[hT],show P0.bytesOf e=P.bytesOf e by unfold Program.bytesOf;rw[hT],show P0.depth=P.depth by unfold Program.depth;rw[hT]];split
   .exact ae rfl
   .split
    .exact ae rfl
    .exact .halt _ _
def CD (P:Program)(t:TypeId):Bool:=match P.underlying t with|some .bool|some .string|some (.int _)|some (.slice _)=>true|_=>false
theorem C4 (hT:P0.toTables=P.toTables)(hG:P.globals.size=Gl.n)(d:Nat)(t:TypeId)(ht:CD P t=true){x x' y y':Value}(hx:aj ok ρ x x')(hy:aj ok ρ y y'):ab P0 P ok str (λ_ x y=>x=y) ρ (Op.equalIn d t x y) (Op.equalIn d t x' y'):=by
 cases d with
 |zero=>exact .halt _ _
 |succ d=>
  unfold Op.equalIn;refine aa _ (ah hT t) ?_;rintro σ u _ l ⟨rfl,hu⟩;have hx:=hx.mono l;have hy:=hy.mono l;unfold CD at ht;rw[hu]at ht;cases u with
  |bool=>cases hx<;>(first|exact .halt _ _|(cases hy<;>(first|exact .halt _ _|exact ae rfl)))
  |string=>cases hx<;>(first|exact .halt _ _|(cases hy<;>(first|exact .halt _ _|exact ae rfl)))
  |slice e=>cases hx<;>(first|exact .halt _ _|(cases hy<;>(first|exact .halt _ _|exact ae rfl)))
  |int k=>
   cases hx with
   |int k1 a=>
    cases hy with
    |int k2 b=>
     dsimp only;split
     .exact ae rfl
     .exact .halt _ _
    |ptr r=>
     by_cases e:a=0
     .subst e;exact ae rfl
     .dsimp only;split<;>first|exact .halt _ _|(exfalso;simp_all;done)|exact ae rfl
    |_=>exact .halt _ _
   |@ptr a a' r=>
    cases hy with
    |int k2 b=>
     by_cases e:b=0
     .subst e;exact ae rfl
     .dsimp only;split<;>first|exact .halt _ _|(exfalso;simp_all;done)|exact ae rfl
    |@ptr b b' r2=>
     refine aa _ (fF r) ?_;rintro τ ⟨a,_⟩ ⟨a',_⟩ _ ⟨l1,r,_⟩;refine aa _ (fF (r2.mono l1)) ?_;rintro υ ⟨b,_⟩ ⟨b',_⟩ _ ⟨l2,r2,_⟩;have r:bm υ a a':=r.mono l2;have r2:bm υ b b':=r2;refine ab.program (aA ?_);show ab P0 P ok str _ υ (if(a.block==b.block&&decide (a.block<P0.globals.size))=true then(do let x <-byteOf a;let y <-byteOf b;pure (x==y))else _)
      (if(a'.block==b'.block&&decide (a'.block<P.globals.size))=true then(do let x <-byteOf a';let y <-byteOf b';pure (x==y))else _)
     have hg:decide (a'.block<P.globals.size)=decide (a.block<P0.globals.size):=by
      rw[hT,hG];have:=υ.glob _ _ r.blk;exact decide_eq_decide.2 this.symm
     rw[r.block_beq r2,hg];split
     .refine aa _ (gR hT r) ?_;rintro φ n _ l3 rfl;refine aa _ (gR hT (r2.mono l3)) ?_;rintro χ m _ _ rfl;exact ae rfl
     .refine aa _ (aF hT t) ?_;rintro φ i _ l3 ⟨rfl,_⟩;split
      .rw[(r.mono l3).beq (r2.mono l3)];split
       .exact ae rfl
       .exact .halt _ _
      .exact .halt _ _
    |_=>exact .halt _ _
   |_=>cases hy<;>exact .halt _ _
  |_=>cases ht
omit [Gl] in
theorem pA (hT:P0.toTables=P.toTables):∀d e o,cellOfByte P0 d e o=cellOfByte P d e o:=by
 intro d;induction d with
 |zero=>intro e o;rfl
 |succ d ih=>intro e o;simp only[cellOfByte,lL hT,Program.cellsOf,Program.bytesOf,hT,ih];rfl
omit [Gl] in
theorem nQ (hT:P0.toTables=P.toTables)(d e c o:Nat)(n:Int):cellAtBytes P0 d e c o n=cellAtBytes P d e c o n:=by
 simp only[cellAtBytes,Program.cellsOf,Program.bytesOf,hT,jS hT,pA hT];rfl
theorem jT (hT:P0.toTables=P.toTables)(ts:Array TypeId)(t:TypeId){v v' n n':Value}(h:aj ok ρ v v')(hn:aj ok ρ n n'):ab P0 P ok str (λσ x y=>aj ok σ x y/\x≠hole) ρ (Builtin.unsafeAdd_ ts t #[v,n]) (Builtin.unsafeAdd_ ts t #[v',n']):=by
 cases h with
 |ptr0=>
  refine aa _ (gO hn) ?_;rintro σ m _ l rfl;dsimp only;split
  .exact .halt _ _
  .split
   .exact .halt _ _
   .exact .halt _ _
 |@ptr a a' r=>
  refine aa _ (gO hn) ?_;rintro σ m _ l rfl;have r:=r.mono l;dsimp only;split
  .refine aa _ (xw r.blk) ?_;rintro τ _ _ l1 ⟨rfl,rfl⟩;exact .pure ⟨.ptr (r.mono l1),by simp[hole]⟩
  .split
   .exact .halt _ _
   .refine ab.shape r.blk λs=>?_
    cases s with
    |none=>exact .halt _ _
    |some x=>
     obtain⟨e,n⟩:=x;refine ab.program ?_;show ab P0 P ok str _ σ (match cellAtBytes P0 P0.depth e (n/P0.cellsOf e) a.off m with|some off=>pure (Value.pointer (some {a with off}))|none=>unsupported (.unsafePointer "Add"))
      (match cellAtBytes P P.depth e (n/P.cellsOf e) a'.off m with|some off=>pure (Value.pointer (some {a' with off}))|none=>unsupported (.unsafePointer "Add"))
     rw[nQ hT,r.off,show P0.cellsOf e=P.cellsOf e by unfold Program.cellsOf;rw[hT],show P0.depth=P.depth by unfold Program.depth;rw[hT]];split
     .exact .pure ⟨.ptr ⟨r.blk,rfl,r.spot⟩,by simp[hole]⟩
     .exact .halt _ _
 |_=>exact .halt _ _
theorem iu (hT:P0.toTables=P.toTables)(ts:Array TypeId)(t:TypeId){v v' n n':Value}(h:aj ok ρ v v')(hn:aj ok ρ n n'):ab P0 P ok str (λσ x y=>aj ok σ x y) ρ (Builtin.unsafeAdd_ ts t #[v,n]) (Builtin.unsafeAdd_ ts t #[v',n']):=
 (jT hT ts t h hn).mono λ_ _ _ h=>h.1
theorem th {a a':Addr}(b:Bool)(r:bm ρ a a'):ab P0 P ok str (λσ x y=>aj ok σ x y) ρ (asNumber a b) (asNumber a' b):=by
 refine ab.new (.number b r) ?_;intro σ x y _ e;exact .pure (.ptr ⟨e,rfl,rfl⟩)
theorem cH (hT:P0.toTables=P.toTables)(t:TypeId){v v' n n':Value}(h:aj ok ρ v v')(hn:aj ok ρ n n'):ab P0 P ok str (λσ x y=>aj ok σ x y) ρ (movedNumber t v n) (movedNumber t v' n'):=by
 refine aa _ (ah hT t) ?_;rintro σ d _ l ⟨rfl,_⟩;have h:=h.mono l;have hn:=hn.mono l;dsimp only;split
 .exact .halt _ _
 .cases h with
  |@ptr a a' r=>
   refine aa _ (fF r) ?_;rintro τ ⟨b,z⟩ ⟨b',z'⟩ l1 ⟨_,r,e⟩;simp only at e;subst e;refine aa _ (jT hT #[] t (.ptr r) (hn.mono l1)) ?_;rintro υ x x' l2 ⟨hx,hne⟩;cases hx with
   |hole _=>exact absurd rfl hne
   |ptr r=>exact th _ r
   |ptr0=>exact ae .ptr0
   |bool b=>exact ae (.bool b)
   |int k n=>exact ae (.int k n)
   |string s=>exact ae (.string s)
   |slice0 l c=>exact ae (.slice0 l c)
   |slice n c h=>exact ae (.slice n c h)
   |nilFunc=>exact ae .nilFunc
   |nilIface=>exact ae .nilIface
   |iface t h=>exact ae (.iface t h)
   |func a b c d e=>exact ae (.func a b c d e)
   |agg e h=>exact ae (.agg e h)
   |tuple e h=>exact ae (.tuple e h)
  |ptr0=>exact iu hT #[] t .ptr0 hn
  |_=>exact .halt _ _
theorem mY (hT:P0.toTables=P.toTables)(t:TypeId){a a':Addr}{n n':Value}(r:bm ρ a a')(hn:aj ok ρ n n'):ab P0 P ok str (λσ x y=>aj ok σ x y) ρ (movedPointer t (.pointer (some a)) n) (movedPointer t (.pointer (some a')) n'):=by
 refine aa _ (mG r.blk) ?_;rintro σ x y l ⟨_,h⟩;cases h with
 |none=>exact iu hT #[] t (.ptr (r.mono l)) (hn.mono l)
 |some b _=>exact .halt _ _
theorem kQ (hT:P0.toTables=P.toTables)(hG:P.globals.size=Gl.n){a a' b b':Addr}(r:bm ρ a a')(r2:bm ρ b b'):ab P0 P ok str (λ_ x y=>x=y) ρ (Op.twoPlaces a b) (Op.twoPlaces a' b'):=by
 refine ab.program (aA ?_);show ab P0 P ok str _ ρ (if(a.block !=b.block||decide (a.block>=P0.globals.size))=true then unsupported .addressObserved else(do let x <-byteOf a;let y <-byteOf b;pure (x,y)))
  (if(a'.block !=b'.block||decide (a'.block>=P.globals.size))=true then unsupported .addressObserved else(do let x <-byteOf a';let y <-byteOf b';pure (x,y)))
 have hg:decide (a'.block>=P.globals.size)=decide (a.block>=P0.globals.size):=by
  rw[hT,hG];have:=ρ.glob _ _ r.blk;exact decide_eq_decide.2 (by omega)
 have hb:(a'.block !=b'.block)=(a.block !=b.block):=by unfold bne;rw[r.block_beq r2]
 rw[hb,hg];split
 .exact .halt _ _
 .refine aa _ (gR hT r) ?_;rintro φ n _ l3 rfl;refine aa _ (gR hT (r2.mono l3)) ?_;rintro χ m _ _ rfl;exact ae rfl
end
end Go.Proofs.YtlmcblcijndipabGreatDoor
namespace Go.Proofs.YtlmcblcijndipabGreatDoor
open Go
variable [Gl]
section
variable {P0 P:Program}{ok:Ctx}{str:Bool}{ρ:Ren}
theorem zj {α β:Type}{A:Ren->α->β->Prop}{s:Sem α}{s':Sem β}(h:∃z,s=.halt z/\ends z=true):ab P0 P ok str A ρ s s':=by
 obtain⟨z,rfl,hz⟩:=h;exact .halt _ _ hz
theorem ti (op:BinOp)(k:IntKind)(a b:Int):ab P0 P ok str (λσ x y=>aj ok σ x y) ρ (Op.intArith op k a b) (Op.intArith op k a b):=by
 cases op<;>first|exact ae (.int _ _)|exact .halt _ _
theorem xy (hT:P0.toTables=P.toTables)(op:BinOp)(k:IntKind)(a b:Int):ab P0 P ok str (λσ x y=>aj ok σ x y) ρ (Op.intDiv op k a b) (Op.intDiv op k a b):=by
 unfold Op.intDiv;split
 .exact bU hT (.error _) rfl
 .cases op<;>first|exact ae (.int _ _)|exact .halt _ _
theorem uM (op:BinOp)(k:IntKind)(a b:Int):ab P0 P ok str (λσ x y=>aj ok σ x y) ρ (Op.intBits op k a b) (Op.intBits op k a b):=by
 cases op<;>first|exact ae (.int _ _)|exact .halt _ _
theorem xz (op:BinOp)(a b:Int):ab P0 P ok str (λσ x y=>aj ok σ x y) ρ (Op.intCmp op a b) (Op.intCmp op a b):=by
 cases op<;>first|exact ae (.bool _)|exact .halt _ _
theorem tj (hT:P0.toTables=P.toTables)(op:BinOp)(k k':IntKind)(a b:Int):ab P0 P ok str (λσ x y=>aj ok σ x y) ρ (Op.shift op k a k' b) (Op.shift op k a k' b):=by
 unfold Op.shift;split
 .exact bU hT (.error _) rfl
 .cases op<;>first|exact ae (.int _ _)|exact .halt _ _
theorem ja (op:BinOp)(a b:ByteArray):ab P0 P ok str (λσ x y=>aj ok σ x y) ρ (Op.stringOp op a b) (Op.stringOp op a b):=by
 cases op with
 |add=>
  unfold Op.stringOp;dsimp only;split
  .exact .halt _ _
  .exact ae (.string _)
 |_=>first|exact ae (.bool _)|exact .halt _ _
theorem AW (hT:P0.toTables=P.toTables)(op:BinOp)(t:TypeId)(k k':IntKind)(a b:Int):ab P0 P ok str (λσ x y=>aj ok σ x y) ρ (binOp op t (.int k a) (.int k' b)) (binOp op t (.int k a) (.int k' b)):=by
 cases op with
 |shl=>simp only[binOp];exact tj hT _ _ _ _ _
 |shr=>simp only[binOp];exact tj hT _ _ _ _ _
 |_=>
  simp only[binOp];split
  .exact .halt _ _
  .first|exact ti _ _ _ _|exact xy hT _ _ _ _|exact uM _ _ _ _|exact xz _ _ _
theorem tl (hT:P0.toTables=P.toTables)(hG:P.globals.size=Gl.n)(t:TypeId)(ht:CD P t=true){x x' y y':Value}(hx:aj ok ρ x x')(hy:aj ok ρ y y'):ab P0 P ok str (λ_ x y=>x=y) ρ (Op.equal t x y) (Op.equal t x' y'):=C4 hT hG _ t ht hx hy
def tm:BinOp->Bool|.eql|.neq=>true|_=>false
def jU (P:Program)(op:BinOp)(t:TypeId):Bool:=if tm op then CD P t else true
theorem uN (hT:P0.toTables=P.toTables)(hG:P.globals.size=Gl.n)(k:IntKind){a a' b b':Addr}(r:bm ρ a a')(r2:bm ρ b b'):ab P0 P ok str (λσ x y=>aj ok σ x y) ρ (Op.addrSub k a b) (Op.addrSub k a' b'):=by
 refine aa _ (kQ hT hG r r2) ?_;rintro σ x _ _ rfl;exact ae (.int _ _)
theorem iv (hT:P0.toTables=P.toTables)(hG:P.globals.size=Gl.n)(op:BinOp){a a' b b':Addr}(r:bm ρ a a')(r2:bm ρ b b'):ab P0 P ok str (λσ x y=>aj ok σ x y) ρ (Op.addrCmp op a b) (Op.addrCmp op a' b'):=by
 refine aa _ (kQ hT hG r r2) ?_;rintro σ x _ _ rfl;cases op<;>first|exact ae (.bool _)|exact .halt _ _
theorem kq (hT:P0.toTables=P.toTables)(k:IntKind)(n:Int){a a':Addr}(r:bm ρ a a'):ab P0 P ok str (λσ x y=>aj ok σ x y) ρ (Op.addrMod k a n) (Op.addrMod k a' n):=by
 refine ab.shape r.blk λs=>?_
 cases s with
 |none=>exact .halt _ _
 |some x=>
  obtain⟨e,m⟩:=x;refine aA (aa _ (aF hT e) ?_);rintro σ i _ l ⟨rfl,_⟩;dsimp only;split
  .exact .halt _ _
  .refine aa _ (gR hT (r.mono l)) ?_;rintro τ x _ _ rfl;exact ae (.int _ _)
omit [Gl] in
theorem tq (op:BinOp)(t:TypeId){x:Value}(y:Value)(he:¬tm op=true)(n1:∀k a,x≠.int k a)(n2:∀a,x≠.string a)(n3:∀a,x≠.pointer a)(n4:∀k a,x≠.float k a)(n5:∀k a b,x≠.complex k a b):∃h,binOp op t x y=.halt h/\ends h=true:=by
 unfold binOp;split<;>first|exact absurd rfl (n1 _ _)|exact absurd rfl (n2 _)|exact absurd rfl (n3 _)|exact absurd rfl (n4 _ _)|exact absurd rfl (n5 _ _ _)|exact absurd rfl he|exact⟨_,rfl,rfl⟩
omit [Gl] in
theorem dj {α β:Type}{r:Result α}(h:Result.stops r=true)(k:α->World->Result β):Result.stops (r.andThen k)=true:=by
 cases r with
 |ok a w=>cases h
 |halt x w=>exact h
omit [Gl] in
theorem uO (hT:P0.toTables=P.toTables)(t:TypeId)(ht:CD P t=true)(x:Value)(V:World):Result.stops ((Op.equal t x hole).run P0 V)=true/\Result.stops ((Op.equal t hole x).run P0 V)=true:=by
 have hu:P0.underlying t=P.underlying t:=by unfold Program.underlying;rw[hT]
 unfold CD at ht;cases hd:P.underlying t with
 |none=>rw[hd]at ht;cases ht
 |some u=>
  rw[hd]at ht hu;have hr:∀V,(underlying t).run P0 V=.ok u V:=λV=>by simp[underlying,hu]
  constructor
  .show Result.stops ((Op.equalIn (9999+1) t x hole).run P0 V)=true;unfold Op.equalIn;rw[Sem.run_bind,hr];cases u<;>first|cases ht;done|(cases x<;>first|rfl|(rename_i a _ _;cases a<;>rfl)|(rename_i a;cases a<;>rfl))
  .show Result.stops ((Op.equalIn (9999+1) t hole x).run P0 V)=true;unfold Op.equalIn;rw[Sem.run_bind,hr];cases u<;>first|cases ht;done|(cases x<;>first|rfl|(rename_i a _ _;cases a<;>rfl)|(rename_i a;cases a<;>rfl))
omit [Gl] in
theorem iw (hT:P0.toTables=P.toTables)(op:BinOp)(t:TypeId)(ht:jU P op t=true)(x:Value)(V:World):Result.stops ((binOp op t x hole).run P0 V)=true/\Result.stops ((binOp op t hole x).run P0 V)=true:=by
 by_cases he:tm op=true
 .unfold jU at ht;rw[if_pos he]at ht;have h:=uO hT t ht x V;cases op<;>first|cases he;done|skip
  .constructor
   .have e:binOp .eql t x hole=(do pure (.bool (<-Op.equal t x hole))):=by cases x<;>rfl
    rw[e,Sem.run_bind];exact dj h.1 _
   .have e:binOp .eql t hole x=(do pure (.bool (<-Op.equal t hole x))):=by cases x<;>rfl
    rw[e,Sem.run_bind];exact dj h.2 _
  .constructor
   .have e:binOp .neq t x hole=(do pure (.bool (!(<-Op.equal t x hole)))):=by cases x<;>rfl
    rw[e,Sem.run_bind];exact dj h.1 _
   .have e:binOp .neq t hole x=(do pure (.bool (!(<-Op.equal t hole x)))):=by cases x<;>rfl
    rw[e,Sem.run_bind];exact dj h.2 _
 .constructor<;>(cases op<;>first|exact absurd rfl he|(cases x<;>first|rfl|(rename_i a _ _;cases a<;>rfl)|(rename_i a;cases a<;>rfl)))
theorem zk (hT:P0.toTables=P.toTables)(hG:P.globals.size=Gl.n)(op:BinOp)(t:TypeId)(ht:jU P op t=true){x x' y y':Value}(hx:aj ok ρ x x')(hy:aj ok ρ y y'):
  ab P0 P ok str (λσ x y=>aj ok σ x y) ρ (binOp op t x y) (binOp op t x' y'):=by
 by_cases hxh:x=hole
 .subst hxh;exact .dead _ _ λV=>(iw hT op t ht y V).2
 by_cases hyh:y=hole
 .subst hyh;exact .dead _ _ λV=>(iw hT op t ht x V).1
 have eq_:tm op=true->ab P0 P ok str (λσ x y=>aj ok σ x y) ρ (do pure (.bool (<-Op.equal t x y))) (do pure (.bool (<-Op.equal t x' y'))):=by
  intro h;unfold jU at ht;rw[if_pos h]at ht;refine aa _ (tl hT hG t ht hx hy) ?_;rintro σ b _ _ rfl;exact ae (.bool _)
 have neq_:tm op=true->ab P0 P ok str (λσ x y=>aj ok σ x y) ρ (do pure (.bool (!(<-Op.equal t x y)))) (do pure (.bool (!(<-Op.equal t x' y')))):=by
  intro h;unfold jU at ht;rw[if_pos h]at ht;refine aa _ (tl hT hG t ht hx hy) ?_;rintro σ b _ _ rfl;exact ae (.bool _)
 have number:∀{σ:Ren} {a a':Addr},bm σ a a'->ab P0 P ok str (λτ x y=>bm τ x.1 y.1) σ (behindNumber a) (behindNumber a'):=λr=>(fF r).mono λ_ _ _ h=>h.2.1
 cases hx with
 |hole _=>exact absurd rfl hxh
 |int k a=>
  cases hy with
  |hole _=>exact absurd rfl hyh
  |int k' b=>exact AW hT op t k k' a b
  |@ptr b b' r=>
   cases op with
   |eql=>exact eq_ rfl
   |neq=>exact neq_ rfl
   |add=>simp only[binOp];exact cH hT t (.ptr r) (.int k a)
   |and=>
    simp only[binOp];refine aa _ (number r) ?_;intro σ x y _ h;exact kq hT _ _ h
   |_=>exact .halt _ _
  |ptr0=>
   cases op with
   |eql=>exact eq_ rfl
   |neq=>exact neq_ rfl
   |add=>simp only[binOp];exact cH hT t .ptr0 (.int k a)
   |_=>exact .halt _ _
  |_=>cases op<;>first|exact eq_ rfl|exact neq_ rfl|exact .halt _ _
 |string a=>
  cases hy with
  |hole _=>exact absurd rfl hyh
  |string b=>cases op<;>(simp only[binOp];exact ja _ _ _)
  |_=>cases op<;>first|exact eq_ rfl|exact neq_ rfl|exact .halt _ _
 |@ptr a a' r=>
  cases hy with
  |hole _=>exact absurd rfl hyh
  |int k b=>
   cases op with
   |eql=>exact eq_ rfl
   |neq=>exact neq_ rfl
   |add=>
    simp only[binOp];refine aa _ (ah hT t) ?_;rintro σ d _ l ⟨rfl,_⟩;split
    .exact mY hT t (r.mono l) (.int k b)
    .exact cH hT t (.ptr (r.mono l)) (.int k b)
   |sub=>simp only[binOp];exact cH hT t (.ptr r) (.int k _)
   |rem=>
    simp only[binOp];refine aa _ (number r) ?_;intro σ x y _ h;exact kq hT _ _ h
   |and=>
    simp only[binOp];refine aa _ (number r) ?_;intro σ x y _ h;exact kq hT _ _ h
   |_=>exact .halt _ _
  |@ptr b b' r2=>
   have two:∀{s s':Addr->Addr->Sem Value},(∀{σ:Ren} {c c' d d':Addr},bm σ c c'->bm σ d d'->ab P0 P ok str (λσ x y=>aj ok σ x y) σ (s c d) (s' c' d'))->
     ab P0 P ok str (λσ x y=>aj ok σ x y) ρ (do let c <-behindNumber a;let d <-behindNumber b;s c.1 d.1) (do let c <-behindNumber a';let d <-behindNumber b';s' c.1 d.1):=by
    intro s s' hs;refine aa _ (fF r) ?_;rintro σ x y l ⟨_,h1,_⟩;refine aa _ (fF (r2.mono l)) ?_;rintro τ x2 y2 l2 ⟨_,h2,_⟩;exact hs (h1.mono l2) h2
   cases op with
   |eql=>exact eq_ rfl
   |neq=>exact neq_ rfl
   |sub=>simp only[binOp];exact two λh1 h2=>uN hT hG _ h1 h2
   |lss=>simp only[binOp];exact two λh1 h2=>iv hT hG _ h1 h2
   |leq=>simp only[binOp];exact two λh1 h2=>iv hT hG _ h1 h2
   |gtr=>simp only[binOp];exact two λh1 h2=>iv hT hG _ h1 h2
   |geq=>simp only[binOp];exact two λh1 h2=>iv hT hG _ h1 h2
   |_=>exact .halt _ _
  |_=>cases op<;>first|exact eq_ rfl|exact neq_ rfl|exact .halt _ _
 |ptr0=>
  cases hy with
  |hole _=>exact absurd rfl hyh
  |int k b=>
   cases op with
   |eql=>exact eq_ rfl
   |neq=>exact neq_ rfl
   |add=>
    simp only[binOp];refine aa _ (ah hT t) ?_;rintro σ d _ l ⟨rfl,_⟩;split
    .exact iu hT #[] t .ptr0 (.int k b)
    .exact cH hT t .ptr0 (.int k b)
   |sub=>simp only[binOp];exact cH hT t .ptr0 (.int k _)
   |_=>exact .halt _ _
  |_=>cases op<;>first|exact eq_ rfl|exact neq_ rfl|exact .halt _ _
 |_=>
  by_cases he:tm op=true
  .cases hy with
   |hole _=>exact absurd rfl hyh
   |_=>cases op<;>first|cases he;done|(simp only[binOp];exact eq_ rfl)|(simp only[binOp];exact neq_ rfl)
  .refine zj (tq op t y he ?_ ?_ ?_ ?_ ?_)<;>simp
end
end Go.Proofs.YtlmcblcijndipabGreatDoor
namespace Go.Proofs.YtlmcblcijndipabGreatDoor
open Go
variable [Gl]
section
variable {P0 P:Program}{ok:Ctx}{str:Bool}{ρ:Ren}
def zl (P:Program)(t:TypeId):Bool:=
 match P.underlying t with
 |some (.slice _)|some .string=>true
 |_=>false
def tu (P:Program)(ts:Array TypeId):Bool:=
 match ts[0]?,ts[1]? with
 |some s,some x=>s7 P s&&zl P x
 |_,_=>false
theorem kR {x x':Value}(h:aj ok ρ x x'):ab P0 P ok str (λ_ x y=>x=y) ρ (Builtin.lenOf x) (Builtin.lenOf x'):=by
 unfold Builtin.lenOf;cases h with
 |slice0 l c=>exact ae rfl
 |slice l c r=>exact ae rfl
 |string s=>exact ae rfl
 |_=>exact .halt _ _
theorem bu (size n:Nat){x x':Value}(h:aj ok ρ x x'):ab P0 P ok str (λσ x y=>am ok σ x y) ρ (Builtin.firstCells size n x) (Builtin.firstCells size n x'):=by
 unfold Builtin.firstCells;cases h with
 |slice0 l c=>exact ae am.nil
 |slice l c r=>exact iq r _
 |string s=>exact ae ⟨rfl,λi x x' h h'=>by
   rw[h]at h';cases h';rw[Array.getElem?_map]at h;obtain⟨b,_,rfl⟩:=GG.1 h;exact .int _ _⟩
 |_=>exact .halt _ _
omit [Gl] in
theorem nR {α β:Type}{P:Program}{s:Sem α}{f:α->Sem β}{V:World}(h:Result.stops (Sem.run P s V)=true):Result.stops (Sem.run P (s >>= f) V)=true:=by
 rw[Sem.run_bind];generalize Sem.run P s V=r at h;cases r with
 |ok a w=>cases h
 |halt x w=>exact h
omit [Gl] in
theorem mH {α β:Type}{P:Program}{s:Sem α}{f:α->Sem β}{V:World}(h:∃a,Sem.run P s V=.ok a V)(hf:∀a w,Result.stops (Sem.run P (f a) w)=true):Result.stops (Sem.run P (s >>= f) V)=true:=by
 obtain⟨a,h⟩:=h;rw[Sem.run_bind,h];exact hf a V
omit [Gl] in
theorem ix {α β:Type}{P:Program}{s:Sem α}{f:α->Sem β}{V:World}(h:∃a,Sem.run P s V=.ok a V)(hf:∀a,∃b,Sem.run P (f a) V=.ok b V):∃b,Sem.run P (s >>= f) V=.ok b V:=by
 obtain⟨a,h⟩:=h;rw[Sem.run_bind,h];exact hf a
omit [Gl] in
theorem dB {α:Type}(P:Program)(a:α)(V:World):∃b,Sem.run P (pure a:Sem α) V=.ok b V:=⟨a,Sem.run_pure _ _ _⟩
omit [Gl] in
theorem nS (P:Program)(a:Addr)(k:Nat)(V:World):∃b,Sem.run P (Builtin.holdsCells a k) V=.ok b V:=by
 unfold Builtin.holdsCells;refine ix ⟨_,run_shape _ _ _⟩ λs=>?_
 cases s with
 |none=>exact dB _ _ _
 |some q=>exact dB _ _ _
omit [Gl] in
theorem mI (P:Program)(size sLen n:Nat)(base:Option Addr)(x:Value)(V:World):∃b,Sem.run P (Builtin.mayShare size sLen n base x) V=.ok b V:=by
 unfold Builtin.mayShare;cases base with
 |none=>
  dsimp only;refine ix (dB _ true _) λthere=>?_
  cases there
  .exact dB _ _ _
  .cases x with
   |slice a' l c=>
    cases a' with
    |none=>exact dB _ _ _
    |some a'=>exact ix (s:=Builtin.holdsCells a' (n*size)) (nS _ _ _ _) λb=>dB _ _ _
   |_=>exact dB _ _ _
 |some a=>
  dsimp only;refine ix (s:=Builtin.holdsCells a (sLen*size)) (nS _ _ _ _) λb=>?_
  refine ix ⟨_,run_frozen _ _ _⟩ λc=>?_
  refine ix (dB _ (b&&!c) _) λthere=>?_
  cases there
  .exact dB _ _ _
  .cases x with
   |slice a' l c=>
    cases a' with
    |none=>exact dB _ _ _
    |some a'=>exact ix (s:=Builtin.holdsCells a' (n*size)) (nS _ _ _ _) λb=>dB _ _ _
   |_=>exact dB _ _ _
theorem cY {z z':Value}(h:aj ok ρ z z')(n:Nat):am ok ρ (Builtin.zeroCells z.cells n) (Builtin.zeroCells z'.cells n):=by
 have hc:=h.cells;unfold Builtin.zeroCells;rw[<-hc.size];refine⟨by simp,λi x x' hx hx'=>?_⟩;rw[Array.getElem?_map]at hx hx';obtain⟨k,hk,rfl⟩:=GG.1 hx;obtain⟨k',hk',rfl⟩:=GG.1 hx';rw[hk]at hk';cases hk';by_cases hz0:z.cells.size=0
 .rw[hz0,Nat.mul_zero]at hk;simp at hk
 .have hlt:k%z.cells.size<z.cells.size:=Nat.mod_lt _ (by omega);have g1:z.cells[k%z.cells.size]?=some z.cells[k%z.cells.size]!:=by simp[hlt]
  have hlt':k%z.cells.size<z'.cells.size:=by rw[<-hc.size];exact hlt
  have g2:z'.cells[k%z.cells.size]?=some z'.cells[k%z.cells.size]!:=by simp[hlt']
  exact hc.at_ _ _ _ g1 g2
theorem xA (hT:P0.toTables=P.toTables)(ts:Array TypeId)(t:TypeId)(hb:tu P ts=true){xs xs':Array Value}(h:am ok ρ xs xs'):ab P0 P ok str (λσ x y=>aj ok σ x y) ρ (Builtin.append_ ts t xs) (Builtin.append_ ts t xs'):=by
 unfold Builtin.append_;unfold tu at hb;cases h0:ts[0]? with
 |none=>rw[h0]at hb;simp at hb
 |some sT=>
  cases h1:ts[1]? with
  |none=>rw[h0,h1]at hb;simp at hb
  |some xT=>
   rw[h0,h1]at hb;simp only[Bool.and_eq_true]at hb;cases hs:xs[0]? with
   |none=>exact .halt _ _
   |some s=>
    obtain⟨s',hs',rs⟩:=h.get hs;cases hx:xs[1]? with
    |none=>exact .halt _ _
    |some x=>
     obtain⟨x',hx',rx⟩:=h.get hx;rw[hs',hx'];dsimp only;refine aa _ (ah hT sT) ?_;rintro σ d _ l ⟨rfl,hd⟩;have rs:=rs.mono l;have rx:=rx.mono l;cases d with
     |slice elem=>
      have hz:uv P elem=true:=by have:=hb.1;unfold s7 at this;rw[hd]at this;exact this
      cases rs with
      |slice0 sLen sCap=>
       dsimp only;refine aa _ (bc hT elem) ?_;rintro σ1 size _ l1 ⟨rfl,_⟩;refine aa _ (ah hT xT) ?_;rintro σ2 d2 _ l2 ⟨rfl,hd2⟩;have rx:=(rx.mono l1).mono l2;have hni:=hb.2;unfold zl at hni;rw[hd2]at hni;cases d2<;>first|cases hni|skip
       all_goals
        refine aA ?_;simp only[Bool.false_eq_true,if_false,Bool.not_false,if_true,false_or];refine aa _ (kR rx) ?_;rintro σ3 n _ l3 rfl;have rx:=rx.mono l3;split
        .refine aa _ (bu size n rx) ?_;intro τ new new' l4 hn;exact ae (.slice0 _ _)
        .refine aa _ (aF hT elem) ?_;rintro τ i _ l4 ⟨rfl,_⟩;split
         .exact aa (λ_ _ _=>False) (bU hT _ rfl) (λ_ _ _ _ h=>h.elim)
         .refine aa _ (aF hT elem) ?_;rintro τ1 i1 _ l5 ⟨rfl,_⟩;split
          .refine ab.dead _ _ λV=>?_
           refine nR (mH (mI _ _ _ _ _ _ _) λb w=>?_);split
           .rfl
           .rfl
          .refine ab.choose _ λnewCap=>?_
           refine aA ?_;refine aa _ (aF hT elem) ?_;rintro υ1 i _ k1 ⟨rfl,_⟩;refine aa _ (fQ _) ?_;intro υ2 _ _ k2 _;refine aa _ (bu size sLen (.slice0 _ _)) ?_;intro υ3 old old' k3 ho;refine aa _ (bu size n ((((rx.mono (l4.trans l5)).mono k1).mono k2).mono k3)) ?_;intro υ4 new new' k4 hn;refine aa _ (dZ hT elem hz) ?_;intro υ5 z z' k5 hzv;refine aa _ (dI elem (am.append (am.append ((ho.mono k4).mono k5) (hn.mono k5)) (cY hzv _))) ?_;intro υ6 r r' k6 hr;exact ae (.slice _ _ hr)
      |@slice a a' sLen sCap ra=>
       dsimp only;refine aa _ (bc hT elem) ?_;rintro σ1 size _ l1 ⟨rfl,_⟩;refine aa _ (ah hT xT) ?_;rintro σ2 d2 _ l2 ⟨rfl,hd2⟩;have rx:=(rx.mono l1).mono l2;have ra:=(ra.mono l1).mono l2;have hni:=hb.2;unfold zl at hni;rw[hd2]at hni;cases d2<;>first|cases hni|skip
       all_goals
        refine aA ?_;simp only[Bool.false_eq_true,if_false,Bool.not_false,if_true,false_or];refine aa _ (kR rx) ?_;rintro σ3 n _ l3 rfl;have rx:=rx.mono l3;have ra:=ra.mono l3;split
        .refine aa _ (bu size n rx) ?_;intro τ new new' l4 hn;refine aa _ (du _ _ ((ra.mono l4).add _) 0 hn.list) ?_;intro τ2 _ _ l5 _;exact ae (.slice _ _ ((ra.mono l4).mono l5))
        .refine aa _ (aF hT elem) ?_;rintro τ i _ l4 ⟨rfl,_⟩;split
         .exact aa (λ_ _ _=>False) (bU hT _ rfl) (λ_ _ _ _ h=>h.elim)
         .refine aa _ (aF hT elem) ?_;rintro τ1 i1 _ l5 ⟨rfl,_⟩;split
          .refine ab.dead _ _ λV=>?_
           refine nR (mH (mI _ _ _ _ _ _ _) λb w=>?_);split
           .rfl
           .rfl
          .refine ab.choose _ λnewCap=>?_
           refine aA ?_;refine aa _ (aF hT elem) ?_;rintro υ1 i _ k1 ⟨rfl,_⟩;refine aa _ (fQ _) ?_;intro υ2 _ _ k2 _;refine aa _ (bu size sLen (.slice _ _ (((ra.mono (l4.trans l5)).mono k1).mono k2))) ?_;intro υ3 old old' k3 ho;refine aa _ (bu size n ((((rx.mono (l4.trans l5)).mono k1).mono k2).mono k3)) ?_;intro υ4 new new' k4 hn;refine aa _ (dZ hT elem hz) ?_;intro υ5 z z' k5 hzv;refine aa _ (dI elem (am.append (am.append ((ho.mono k4).mono k5) (hn.mono k5)) (cY hzv _))) ?_;intro υ6 r r' k6 hr;exact ae (.slice _ _ hr)
      |_=>exact .halt _ _
     |_=>exact .halt _ _
end
end Go.Proofs.YtlmcblcijndipabGreatDoor
namespace Go.Proofs.YtlmcblcijndipabGreatDoor
open Go
variable [Gl]
section
variable {P0 P:Program}{ok:Ctx}{str:Bool}{ρ:Ren}
def zm (P:Program)(ts:Array TypeId):Bool:=
 match ts[0]? with
 |some s=>(match P.underlying s with|some (.slice e)=>uv P e|_=>false)
 |_=>false
theorem zn (hT:P0.toTables=P.toTables)(ts:Array TypeId)(t:TypeId)(hb:zm P ts=true){xs xs':Array Value}(h:am ok ρ xs xs'):ab P0 P ok str (λσ x y=>aj ok σ x y) ρ (Builtin.clear_ ts t xs) (Builtin.clear_ ts t xs'):=by
 unfold Builtin.clear_;unfold zm at hb;cases h0:ts[0]? with
 |none=>rw[h0]at hb;simp at hb
 |some sT=>
  rw[h0]at hb;simp only at hb;cases hs:xs[0]? with
  |none=>exact .halt _ _
  |some s=>
   obtain⟨s',hs',rs⟩:=h.get hs;rw[hs'];dsimp only;refine aa _ (ah hT sT) ?_;rintro σ d _ l ⟨rfl,hd⟩;have rs:=rs.mono l;have fin:∀{υ:Ren},ab P0 P ok str (λσ x y=>aj ok σ x y) υ (pure (.tuple #[]):Sem Value) (pure (.tuple #[])):=ae (.tuple rfl (λi x x' hx _=>by simp at hx));cases d with
   |slice elem=>
    have hz:uv P elem=true:=by rw[hd]at hb;exact hb
    cases rs with
    |slice0 n c=>exact fin
    |@slice a a' n c ra=>
     cases n with
     |zero=>exact fin
     |succ n=>
      refine aa _ (dZ hT elem hz) ?_;intro υ z z' k hzv;exact aa _ (du _ _ (ra.mono k) 0 (cY hzv _).list) (λυ _ _ _ _=>fin)
    |_=>exact .halt _ _
   |_=>rw[hd]at hb;cases hb
def wq (P:Program)(ts:Array TypeId):Bool:=
 match ts[0]?,ts[1]? with
 |some s,some x=>(match P.underlying s with|some (.slice e)=>uv P e|_=>false)&&(match P.underlying x with|some (.int _)=>true|_=>false)
 |_,_=>false
theorem uP (hT:P0.toTables=P.toTables)(ts:Array TypeId)(t:TypeId)(hb:wq P ts=true){xs xs':Array Value}(h:am ok ρ xs xs'):ab P0 P ok str (λσ x y=>aj ok σ x y) ρ (Builtin.append_ ts t xs) (Builtin.append_ ts t xs'):=by
 unfold Builtin.append_;unfold wq at hb;cases h0:ts[0]? with
 |none=>rw[h0]at hb;simp at hb
 |some sT=>
  cases h1:ts[1]? with
  |none=>rw[h0,h1]at hb;simp at hb
  |some xT=>
   rw[h0,h1]at hb;simp only[Bool.and_eq_true]at hb;cases hs:xs[0]? with
   |none=>exact .halt _ _
   |some s=>
    obtain⟨s',hs',rs⟩:=h.get hs;cases hx:xs[1]? with
    |none=>exact .halt _ _
    |some x=>
     obtain⟨x',hx',rx⟩:=h.get hx;rw[hs',hx'];dsimp only;refine aa _ (ah hT sT) ?_;rintro σ d _ l ⟨rfl,hd⟩;have rs:=rs.mono l;have rx:=rx.mono l;cases d with
     |slice elem=>
      have hz:uv P elem=true:=by have:=hb.1;rw[hd]at this;exact this
      have hnew:∀{υ:Ren} (n size:Nat),ab P0 P ok str (λσ x y=>am ok σ x y) υ (if n*size=0 then pure #[]else do pure (Builtin.zeroCells (<-zeroValue elem).cells n)) (if n*size=0 then pure #[]else do pure (Builtin.zeroCells (<-zeroValue elem).cells n)):=by
       intro υ n size;split
       .exact ae am.nil
       .refine aa _ (dZ hT elem hz) ?_;intro υ1 z z' k hzv;exact ae (cY hzv _)
      cases rs with
      |slice0 sLen sCap=>
       dsimp only;refine aa _ (bc hT elem) ?_;rintro σ1 size _ l1 ⟨rfl,_⟩;refine aa _ (ah hT xT) ?_;rintro σ2 d2 _ l2 ⟨rfl,hd2⟩;have rx:=(rx.mono l1).mono l2;have hni:=hb.2;rw[hd2]at hni;cases d2<;>first|cases hni|skip
       refine aA ?_;simp only[if_true,Bool.not_true,Bool.false_eq_true,if_false,true_or,and_true];refine aa _ (gO rx) ?_;rintro σ3 v _ l3 rfl;split
       .exact aa (λ_ _ _=>False) (bU hT _ rfl) (λ_ _ _ _ h=>h.elim)
       .refine aa _ (aF hT elem) ?_;rintro σ4 i4 _ l4 ⟨rfl,_⟩;split
        .refine ab.choose _ λmade=>?_
         refine aA ?_;exact aa (λ_ _ _=>False) (bU hT _ rfl) (λ_ _ _ _ h=>h.elim)
        .refine aA ?_;split
         .refine aa _ (hnew _ size) ?_;intro τ new new' l5 hn;exact ae (.slice0 _ _)
         .refine aa _ (aF hT elem) ?_;rintro τ i _ l5 ⟨rfl,_⟩;split
          .exact aa (λ_ _ _=>False) (bU hT _ rfl) (λ_ _ _ _ h=>h.elim)
          .refine aa _ (aF hT elem) ?_;rintro τ1 i1 _ l6 ⟨rfl,_⟩;split
           .exact aa (λ_ _ _=>False) (bU hT _ rfl) (λ_ _ _ _ h=>h.elim)
           .refine ab.choose _ λnewCap=>?_
            refine aA ?_;refine aa _ (aF hT elem) ?_;rintro υ1 i _ k1 ⟨rfl,_⟩;refine aa _ (fQ _) ?_;intro υ2 _ _ k2 _;refine aa _ (bu size sLen (.slice0 _ _)) ?_;intro υ3 old old' k3 ho;refine aa _ (hnew _ size) ?_;intro υ4 new new' k4 hn;refine aa _ (dZ hT elem hz) ?_;intro υ5 z z' k5 hzv;refine aa _ (dI elem (am.append (am.append ((ho.mono k4).mono k5) (hn.mono k5)) (cY hzv _))) ?_;intro υ6 r r' k6 hr;exact ae (.slice _ _ hr)
      |@slice a a' sLen sCap ra=>
       dsimp only;refine aa _ (bc hT elem) ?_;rintro σ1 size _ l1 ⟨rfl,_⟩;refine aa _ (ah hT xT) ?_;rintro σ2 d2 _ l2 ⟨rfl,hd2⟩;have rx:=(rx.mono l1).mono l2;have ra:=(ra.mono l1).mono l2;have hni:=hb.2;rw[hd2]at hni;cases d2<;>first|cases hni|skip
       refine aA ?_;rw[if_pos rfl,if_pos rfl];refine aa _ (gO rx) ?_;rintro σ3 v _ l3 rfl;by_cases hlt:IntKind.i64.wrap v<0
       .rw[if_pos hlt,if_pos hlt];exact aa (λ_ _ _=>False) (bU hT _ rfl) (λ_ _ _ _ h=>h.elim)
       .rw[if_neg hlt,if_neg hlt];refine aa _ (aF hT elem) ?_;rintro σ4 i4 _ l4 ⟨rfl,_⟩;by_cases hbg:IntKind.i64.wrap v*i4.bytes>2^48
        .rw[if_pos hbg,if_pos hbg];refine ab.choose _ λmade=>?_
         refine aA ?_;exact aa (λ_ _ _=>False) (bU hT _ rfl) (λ_ _ _ _ h=>h.elim)
        .rw[if_neg hbg,if_neg hbg];refine aA ?_;simp only[if_true,Bool.not_true,Bool.false_eq_true,if_false,true_or,and_true];split
         .refine aa _ (hnew _ size) ?_;intro τ new new' l5 hn;refine aa _ (du _ _ ((((ra.mono l3).mono l4).mono l5).add _) 0 hn.list) ?_;intro τ2 _ _ l6 _;exact ae (.slice _ _ ((((ra.mono l3).mono l4).mono l5).mono l6))
         .refine aa _ (aF hT elem) ?_;rintro τ i _ l5 ⟨rfl,_⟩;split
          .exact aa (λ_ _ _=>False) (bU hT _ rfl) (λ_ _ _ _ h=>h.elim)
          .refine aa _ (aF hT elem) ?_;rintro τ1 i1 _ l6 ⟨rfl,_⟩;split
           .exact aa (λ_ _ _=>False) (bU hT _ rfl) (λ_ _ _ _ h=>h.elim)
           .refine ab.choose _ λnewCap=>?_
            refine aA ?_;refine aa _ (aF hT elem) ?_;rintro υ1 i _ k1 ⟨rfl,_⟩;refine aa _ (fQ _) ?_;intro υ2 _ _ k2 _;refine aa _ (bu size sLen (.slice _ _ ((((((ra.mono l3).mono l4).mono l5).mono l6).mono k1).mono k2))) ?_;intro υ3 old old' k3 ho;refine aa _ (hnew _ size) ?_;intro υ4 new new' k4 hn;refine aa _ (dZ hT elem hz) ?_;intro υ5 z z' k5 hzv;refine aa _ (dI elem (am.append (am.append ((ho.mono k4).mono k5) (hn.mono k5)) (cY hzv _))) ?_;intro υ6 r r' k6 hr;exact ae (.slice _ _ hr)
      |_=>exact .halt _ _
     |_=>exact .halt _ _
def zp (P:Program)(ts:Array TypeId):Bool:=
 match ts[0]? with
 |some s=>(match P.underlying s with|some (.slice _)=>true|_=>false)
 |_=>false
theorem AX (hT:P0.toTables=P.toTables)(ts:Array TypeId)(t:TypeId)(hb:zp P ts=true){xs xs':Array Value}(h:am ok ρ xs xs'):ab P0 P ok str (λσ x y=>aj ok σ x y) ρ (Builtin.copy_ ts t xs) (Builtin.copy_ ts t xs'):=by
 unfold Builtin.copy_;unfold zp at hb;cases h0:ts[0]? with
 |none=>rw[h0]at hb;simp at hb
 |some sT=>
  rw[h0]at hb;simp only at hb;cases hs:xs[0]? with
  |none=>exact .halt _ _
  |some s=>
   obtain⟨s',hs',rs⟩:=h.get hs;rw[hs'];cases hx:xs[1]? with
   |none=>exact .halt _ _
   |some x=>
    obtain⟨x',hx',rx⟩:=h.get hx;rw[hx'];dsimp only;refine aa _ (ah hT sT) ?_;rintro σ d _ l ⟨rfl,hd⟩;have rs:=rs.mono l;have rx:=rx.mono l;cases d with
    |slice elem=>
     cases rs with
     |slice0 n c=>
      refine aa _ (kR rx) ?_;rintro σ1 k _ l1 rfl;refine aa _ (bc hT elem) ?_;rintro σ2 z _ l2 ⟨rfl,_⟩;refine aa _ (bu _ _ ((rx.mono l1).mono l2)) ?_;intro σ3 ys ys' l3 hy;exact ae (.int _ _)
     |@slice a a' n c ra=>
      refine aa _ (kR rx) ?_;rintro σ1 k _ l1 rfl;refine aa _ (bc hT elem) ?_;rintro σ2 z _ l2 ⟨rfl,_⟩;refine aa _ (bu _ _ ((rx.mono l1).mono l2)) ?_;intro σ3 ys ys' l3 hy;refine aa _ (du _ _ (((ra.mono l1).mono l2).mono l3) 0 hy.list) ?_;intro σ4 _ _ l4 _;exact ae (.int _ _)
     |_=>exact .halt _ _
    |_=>rw[hd]at hb;cases hb
def pV (P:Program)(op:BinOp)(t:TypeId)(y:Operand):Bool:=tm op&&(match P.underlying t with|some (.interface _)=>true|_=>false)&&(match y with|.const .nilIface=>true|_=>false)
omit [Gl] in
theorem ws {op:BinOp}{t:TypeId}{y:Operand}(h:pV P op t y=true):y=.const .nilIface:=by
 unfold pV at h;rw[GQ]at h;have h2:=h.2;split at h2
 .rfl
 .cases h2
theorem zq (hT:P0.toTables=P.toTables)(op:BinOp)(t:TypeId)(x y:Operand)(hn:pV P op t y=true){a a':Value}(h:aj ok ρ a a'):
  ab P0 P ok str (λσ x y=>aj ok σ x y) ρ (do eqGuard op t x y a .nilIface;binOp op t a .nilIface) (do eqGuard op t x y a' .nilIface;binOp op t a' .nilIface):=by
 have hy:=ws hn;subst hy;unfold pV at hn;rw[GQ,GQ]at hn;obtain⟨⟨h1,h2⟩,_⟩:=hn;obtain⟨ms,hu⟩:∃ms,P.underlying t=some (.interface ms):=by
  split at h2
  .rename_i ms hu;exact⟨ms,hu⟩
  .cases h2
 have hu0:P0.underlying t=some (.interface ms):=by rw[lL hT];exact hu
 have heq:∀{σ:Ren} {a a':Value},aj ok σ a a'->a≠hole->ab P0 P ok str (λ_ x y=>x=y) σ (Op.equal t a .nilIface) (Op.equal t a' .nilIface):=by
  intro σ a a' h hne;show ab P0 P ok str _ σ (Op.equalIn (9999+1) t a .nilIface) (Op.equalIn (9999+1) t a' .nilIface);unfold Op.equalIn;refine aa _ (ah hT t) ?_;rintro τ d _ _ ⟨rfl,hd⟩;rw[hu]at hd;obtain rfl:=Gt hd;cases h with
  |hole _=>exact(hne rfl).elim
  |nilIface=>exact ae rfl
  |iface t h=>exact ae rfl
  |_=>exact .halt _ _
 by_cases hh:a=hole
 .subst hh;refine .dead _ _ λV=>?_
  have e:(Op.equal t hole .nilIface).run P0 V=.halt (.stuck "==: the operands do not fit the type, or the type is not comparable") V:=by
   show(Op.equalIn (9999+1) t hole .nilIface).run P0 V=_;unfold Op.equalIn;rw[Sem.run_bind,run_underlying hu0];rfl
  rw[Sem.run_bind];cases op with
  |eql=>show Result.stops ((do pure (.bool (<-Op.equal t hole .nilIface)):Sem Value).run P0 V)=true;rw[Sem.run_bind,e];rfl
  |neq=>show Result.stops ((do pure (.bool (!(<-Op.equal t hole .nilIface))):Sem Value).run P0 V)=true;rw[Sem.run_bind,e];rfl
  |_=>cases h1
 .have hg:ab P0 P ok str (λ_ _ _=>True) ρ (eqGuard op t x (.const .nilIface) a .nilIface) (eqGuard op t x (.const .nilIface) a' .nilIface):=by
   unfold eqGuard;cases op with
   |eql=>
    cases h with
    |nilIface=>simp;exact ae trivial
    |hole _=>exact(hh rfl).elim
    |_=>exact ae trivial
   |neq=>
    cases h with
    |nilIface=>simp;exact ae trivial
    |hole _=>exact(hh rfl).elim
    |_=>exact ae trivial
   |_=>cases h1
  refine aa _ hg ?_;intro σ _ _ l _;have hσ:=h.mono l;cases op with
  |eql=>
   have:∀v:Value,binOp .eql t v .nilIface=(do pure (.bool (<-Op.equal t v .nilIface))):=λv=>by cases v<;>rfl
   rw[this,this];refine aa _ (heq hσ hh) ?_;rintro _ x _ _ rfl;exact ae (.bool _)
  |neq=>
   have:∀v:Value,binOp .neq t v .nilIface=(do pure (.bool (!(<-Op.equal t v .nilIface)))):=λv=>by cases v<;>rfl
   rw[this,this];refine aa _ (heq hσ hh) ?_;rintro _ x _ _ rfl;exact ae (.bool _)
  |_=>cases h1
end
end Go.Proofs.YtlmcblcijndipabGreatDoor
namespace Go.Proofs.YtlmcblcijndipabGreatDoor
open Go
theorem nT {info:TypeId->Option TypeInfo}{fs:Array Field}{i:TypeInfo}(h:Made.reckonStruct info fs=some i):i.methods=#[]:=by
 unfold Made.reckonStruct at h;simp only[bind,Option.bind_eq_some_iff]at h;obtain⟨r,_,h⟩:=h;split at h<;>(simp only[pure,Option.some.injEq]at h;subst h;rfl)
theorem nU {info:TypeId->Option TypeInfo}{d:TypeDesc}{i:TypeInfo}(h:Made.reckon info d=some i):i.methods=#[]:=by
 unfold Made.reckon at h;cases d with
 |struct fs=>exact nT h
 |pointer e=>
  simp only[bind,Option.bind_eq_some_iff,pure]at h;obtain⟨j,_,h⟩:=h;split at h
  .cases h
  .split at h
   .cases h
   .obtain⟨s,_,h⟩:=GH.1 h;cases h;rfl
  .obtain⟨s,_,h⟩:=GH.1 h;cases h;rfl
 |slice e=>
  simp only[bind,Option.bind_eq_some_iff,pure]at h;obtain⟨_,_,_,_,h⟩:=h;cases h;rfl
 |map k e=>
  simp only[bind,Option.bind_eq_some_iff,pure]at h;obtain⟨_,_,_,_,_,_,_,_,h⟩:=h;cases h;rfl
 |chan k e=>
  simp only[bind,Option.bind_eq_some_iff,pure]at h;obtain⟨_,_,_,_,h⟩:=h;cases h;rfl
 |func a b c=>
  simp only[bind,Option.bind_eq_some_iff,pure]at h;obtain⟨_,_,h⟩:=h;cases h;rfl
 |array n e=>
  simp only[bind,Option.bind_eq_some_iff,pure]at h;obtain⟨_,_,_,_,h⟩:=h;cases h;rfl
 |_=>cases h
theorem qX {T:Tables}{t:TypeId}{i:TypeInfo}(ht:¬t<T.types.size)(h:T.info? t=some i):i.methods=#[]:=by
 unfold Tables.info? at h;rw[if_neg ht]at h;have:Made.depth=99+1:=rfl;rw[this]at h;unfold Made.infoAt at h;rw[if_neg ht]at h;obtain⟨d,_,h⟩:=GH.1 h;exact nU h
def zr (fn:FuncId->Bool)(m:Method):Bool:=m.path.all (λs=>!s.deref)&&(match m.func with|some (f,_)=>fn f|none=>false)
def nV (P:Program)(fn:FuncId->Bool)(name:String):Bool:=P.types.all λi=>i.methods.all λm=>m.name !=name||zr fn m
theorem xB {P:Program}{fn:FuncId->Bool}{name:String}(h:nV P fn name=true){t:TypeId}{i:TypeInfo}(hi:P.info? t=some i){m:Method}(hm:i.methods.find? (·.name==name)=some m):zr fn m=true:=by
 by_cases ht:t<P.types.size
 .unfold Tables.info? at hi;rw[if_pos ht]at hi;unfold nV at h;rw[Array.all_eq_true]at h;obtain⟨_,e⟩:=Gp.1 hi;have h1:=h t ht;rw[e,Array.all_eq_true]at h1;obtain⟨k,hk,e2⟩:=Array.getElem_of_mem (Array.mem_of_find?_eq_some hm);have h2:=h1 k hk;rw[e2]at h2;have h3:(m.name==name)=true:=by simpa using Array.find?_some hm
  rw[bne,h3]at h2;simpa using h2
 .rw[qX ht hi]at hm;simp at hm
section
variable [Gl]{P0 P:Program}{ok:Ctx}{str:Bool}{ρ:Ren}
theorem xC (hT:P0.toTables=P.toTables):∀(l:List FieldStep) (_:l.all (λs=>!s.deref)=true) {ρ:Ren} (t:TypeId) {v v':Value},aj ok ρ v v'->
  ab P0 P ok str (λσ x y=>x.1=y.1/\∃u u',x.2=.val u/\y.2=.val u'/\aj ok σ u u') ρ (follow l t (.val v)) (follow l t (.val v')):=by
 intro l;induction l with
 |nil=>intro _ ρ t v v' h;exact ae ⟨rfl,v,v',rfl,rfl,h⟩
 |cons s l ih=>
  intro hl ρ t v v' h;simp only[List.all_cons,Bool.and_eq_true,Bool.not_eq_true']at hl;unfold follow;refine aa _ (ah hT s.struct) ?_;rintro σ d _ le ⟨rfl,_⟩;cases d with
  |struct fs=>
   dsimp only;cases hf:fs[s.index]? with
   |none=>exact .halt _ _
   |some f=>
    simp only[hl.1,Bool.false_eq_true,if_false];cases h with
    |agg e h=>
     dsimp only;refine aa _ (qW hT f.type (am.mono ⟨e,h⟩ le) f.offset) ?_;intro τ x y _ hx;exact ih hl.2 f.type hx
    |_=>exact .halt _ _
  |_=>exact .halt _ _
theorem AY (hT:P0.toTables=P.toTables)(t:TypeId)(pr:Bool)(w:Option String){v v':Value}(h:aj ok ρ v v'):ab P0 P ok str (λσ x y=>aj ok σ x y) ρ (receiverAt t (.val v) pr w) (receiverAt t (.val v') pr w):=by
 unfold receiverAt;refine aa _ (ah hT t) ?_;rintro σ d _ le ⟨rfl,_⟩;replace h:=h.mono le;cases d with
 |pointer e=>
  cases pr with
  |true=>exact ae h
  |false=>
   have tail:∀{τ:Ren} {x y:Value},aj ok τ x y->ab P0 P ok str (λσ x y=>aj ok σ x y) τ (do loadVar e (<-asAddr x)) (do loadVar e (<-asAddr y)):=by
    intro τ x y hx;refine aa _ (lO hT hx) ?_;intro υ a a' _ r;exact ko hT e r
   dsimp only;refine aA ?_;cases w with
   |none=>exact aA (tail h)
   |some name=>
    refine aa (λσ x y=>aj ok σ x y) ?_ (λτ x y _ hx=>tail hx);unfold Builtin.ssaWrapNilChk_;cases h with
    |ptr r=>exact ae (.ptr r)
    |ptr0=>
     refine ab.choose _ λn=>?_
     refine aA ?_;split
     .dsimp only;split
      .exact aa (λ_ _ _=>False) (bU hT .nilDeref rfl) (λ_ _ _ _ h=>h.elim)
      .refine aa _ (ah hT _) ?_;rintro τ d _ l ⟨rfl,_⟩;cases d with
       |pointer u=>
        refine aa _ (aF hT u) ?_;rintro υ i _ l ⟨rfl,_⟩;split
        .split
         .try dsimp only
          split
          .exact bU hT (.plain _) rfl
          .exact .halt _ _
         .exact .halt _ _
        .exact .halt _ _
       |_=>exact .halt _ _
     .rename_i hh;exact(hh t rfl).elim
    |_=>exact .halt _ _
 |_=>cases pr<;>first|exact ae h|exact .halt _ _
theorem xD (hT:P0.toTables=P.toTables)(n:Nat)(t:TypeId)(name:String)(hm:nV P ok.fn name=true){v v':Value}(h:aj ok ρ v v'):
  ab P0 P ok str (λσ x y=>x.1=y.1/\ok.fn x.1=true/\aj ok σ x.2 y.2) ρ (method n t v name) (method n t v' name):=by
 cases n with
 |zero=>exact .halt _ _
 |succ n=>
  unfold method;refine aa _ (aF hT t) ?_;rintro σ i _ le ⟨rfl,hi⟩;cases hf:i.methods.find? (·.name==name)with
  |none=>exact .halt _ _
  |some m=>
   have hk:=xB hm hi hf;unfold zr at hk;rw[GQ]at hk;refine aa _ (xC hT m.path.toList (by rw[<-Array.all_toList]at hk;exact hk.1) t (h.mono le)) ?_;rintro τ ⟨xt,_⟩ ⟨_,_⟩ l ⟨rfl,u,u',rfl,rfl,hu⟩;cases hg:m.func with
   |none=>rw[hg]at hk;cases hk.2
   |some q=>
    obtain⟨f,pr⟩:=q;rw[hg]at hk;refine aa _ (AY hT xt pr _ hu) ?_;intro υ x y _ hx;exact ae ⟨rfl,hk.2,hx⟩
theorem lQ (hT:P0.toTables=P.toTables)(t:TypeId){v v':Value}(h:aj ok ρ v v'):ab P0 P ok str (λσ x y=>aj ok σ x y) ρ (Instr.makeInterface t v) (Instr.makeInterface t v'):=by
 unfold Instr.makeInterface;refine aa _ (ah hT t) ?_;rintro σ d _ le ⟨rfl,_⟩;cases d<;>first|exact ae (.iface t (h.mono le))|exact .halt _ _
theorem qY {a a' b b':Value}(h:aj ok ρ a a')(h':aj ok ρ b b'):aj ok ρ (.tuple #[a,b]) (.tuple #[a',b']):=by
 have:=(am.nil.push h).push h';exact .tuple this.size this.at_
theorem pB (hT:P0.toTables=P.toTables)(t a:TypeId)(hz:uv P a=true){v v':Value}(h:aj ok ρ v v'):ab P0 P ok str (λσ x y=>aj ok σ x y) ρ (Instr.typeAssert v t a true) (Instr.typeAssert v' t a true):=by
 unfold Instr.typeAssert;dsimp only;have fails:∀{σ:Ren},ab P0 P ok str (λσ x y=>aj ok σ x y) σ (do pure (.tuple #[<-zeroValue a,.bool false]):Sem Value) (do pure (.tuple #[<-zeroValue a,.bool false])):=by
  intro σ;refine aa _ (dZ hT a hz) ?_;intro τ x y _ hx;exact ae (qY hx (.bool _))
 refine aa _ (ah hT a) ?_;rintro σ d _ le ⟨rfl,_⟩;replace h:=h.mono le;simp only[if_true];cases d with
 |interface w=>
  cases h with
  |nilIface=>exact fails
  |iface t h=>
   dsimp only;refine aa _ (aF hT t) ?_;rintro τ i _ l ⟨rfl,_⟩;split
   .exact ae (qY (.iface t (h.mono l)) (.bool _))
   .exact fails
  |_=>exact .halt _ _
 |_=>
  cases h with
  |nilIface=>exact fails
  |iface t h=>dsimp only;split<;>first|exact ae (qY h (.bool _))|exact fails
  |_=>exact .halt _ _
end
