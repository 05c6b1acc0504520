import Derived.Test.YtlmcblcijndipaaGreatDoora17
import Derived.Test.YtlmcblcijndipaaGreatDoora14b
import Derived.Lib.Overlaps
set_option linter.defProp false
set_option linter.unusedVariables false
namespace Go.Proofs.YtlmcblcijndipaaGreatDoor
open Conc RowKit
variable {a:Act}{ops:Array Oper}{ok:Ctx}{b:Frame}{Dr:FuncId->Array Value->World->(Value->World->Prop)->Prop}{c:Int}{cs:List Frame}{k:List Item}{P P0:Program}{md:Region.Mode}{v:Value}{Q:Value->World->Prop}{V W:World}
def IY (v:Value)(c:Int):Prop:=(v=.nilIface/\c=0)\/v=.iface 131 (.agg #[c])
def wO:Obj:=.cells #[.iface 187<|.agg #[.pointer<|some ⟨9,93,none⟩]] 165 (0,0)
def Jy (M:Nat->Prop)(W:World):Prop:=M 0/\W.heap[0]?=some wO
def DrC (f:FuncId)(xs:Array Value)(V:World)(R:Value->World->Prop):Prop:=f=68/\∃v c,xs=#[v]/\IY v c/\R=λr V'=>r=.int .i64 c/\V'=V
def L4:Tryz.f68.body=some Ae:=rfl
def JK (v:Value):Frame.enter Tryz.prog 68 #[v] .normal=(base 68).at ⟨#[v,ud,ud,ud,ud,ud,ud,ud,ud],[]⟩ [.code Ae]:=by
 rw[enter_at #[v] Tryz.func68 L4];rfl
def DF {M:Nat->Prop}{am:Loc->Prop}{gs:Array Goroutine}{r0:Frame}{rest:List Frame}{t:Trace}{q:Nat->Nat}{sl:Option (Nat×Nat)}(hv:IY v c)(hI:Jy M W)
  (h:dJ Tryz.prog am jj jj M gs (G (Frame.enter Tryz.prog 68 #[v] .normal)<|r0::rest) W t q):
  ∃N jN M' W' kz t' q',runNT Tryz.prog N (crowd gs W sl) t=(.next<|crowd jN W' kz,t')/\dJ Tryz.prog am jj jj M' jN (G (r0.finish c) rest) W' t' q'/\CS M W [] M' W':=by
 have hl:∀b,M b->b<W:=λb hb=>h.lt b<|.inl hb
 have h0:CS M W [] M W:=⟨λ_ h=>h,aK.refl _ _,hl,λ_ h=>.inl h,hl,λp hp=>by simp at hp⟩;have hE:ET Tryz.prog true (λ_=>True) Ph.nE jj (λM' g W'=>g=G (r0.finish c) rest/\CS M W [] M' W') M (G (Frame.enter Tryz.prog 68 #[v] .normal)<|r0::rest) W:=by
  rw[JK];rcases hv with⟨rfl,rfl⟩|rfl
  .exact PO h0
  .exact PN c ⟨λ_ h=>h,aK.refl _ _,hl,λ_ h=>.inl h,hl,λp hp=>by obtain rfl:=List.mem_singleton.1 hp;exact hI⟩
 let⟨r,hr⟩:=hE;let⟨N,jN,M',a',w',kz,t',q',h1,_,h3,h4,_⟩:=jw (λ_=>trivial) r _ gs M _ W sl t q (ac5 _) h hr;obtain⟨rfl,h5⟩:=h3 w' (aK.refl _ _) trivial;exact⟨N,jN,M',w',kz,t',q',h1,h4,h5⟩
section
variable [Gl]
def Km {ρ:Ren}{v':Value}(h:IY v c)(hv:ar ok ρ v v'):v'=v:=by
 rcases h with⟨rfl,_⟩|rfl
 .cases hv;rfl
 .cases hv with
  |iface t hv=>
   cases hv with
   |@agg xs xs' e hv=>
    have:xs'=#[.int .i64 c]:=by
     refine Array.ext (by simpa using e.symm) λi h1 h2=>?_
     have hi:i=0:=by simp at h2;omega
     subst hi;have:=hv 0 c xs'[0] rfl<|adc h1;generalize xs'[0]=z at this;cases this;rfl
    rw[this]
def Mb:pj Tryz.prog ok Jy DrC:=by
 rintro f xs V ρ xs' W M am gs r0 rest t q sl R hI ⟨rfl,v,c,rfl,hv,rfl⟩ vA hw ho hl;let⟨v',e0,Pe⟩:=vA.get (i:=0) rfl;obtain rfl:xs'=#[v']:=by
  refine Array.ext (by simpa using vA.size.symm) λi h1 h2=>?_
  have hi:i=0:=by simp at h2;omega
  subst hi;have:=adc h1;rw[e0]at this;exact(adb this).symm
 obtain rfl:=Km hv Pe;let⟨N,jN,M',W',kz,t',q',k1,k2,k3⟩:=DF (sl:=sl) hv hI hl;exact⟨N,jN,W',kz,t',q',am,M',c,ρ,c,V,k1,k2,Ren.le_refl _,.int _ _,hw.others ho<|k3.keep.mono λb hb=>hb.elim id λx=>x.elim,λb d hb=>k3.own d<|ho b d hb,⟨rfl,rfl⟩,k3.keep,k3.own,λb d hb=>.inl hb,λ_ _=>rfl⟩
def TT:pm ok DrC:=by
 rintro f xs V V' v ρ R ⟨_,v0,c,_,_,rfl⟩ ⟨rfl,rfl⟩ _ hw;exact⟨ρ,Ren.le_refl _,.int _ _,hw⟩
end
section
variable {N:Nat}{w w':World}
structure Bl (N:Nat)(w w':World):Prop where
 size:w.heap.size<=w'
 block:∀k,k<N->w'.heap[k]?=w.heap[k]?
def Bl.of (h:Below N w w'):Bl N w w':=⟨h.size,h.block⟩
def Bl.lZ {τ:Nat->Question->Nat}{d:Nat}(h:Below (re V τ d).heap.size (re V τ d) w):Bl V V w:=⟨h.size,h.block⟩
def Bl.trans {M:Nat}{a b c:World}(h:Bl N a b)(k:Bl M b c)(hN:N<=M):Bl N a c:=⟨ac8 h.size k.size,λi hi=>(k.block i aa).trans<|h.block i hi⟩
def Bl.cell (h:Bl N w w'){b j:Nat}(hb:b<N)(hv:w.cell? ⟨b,j,none⟩=some v):w'.cell? ⟨b,j,none⟩=some v:=by
 simp only[World.cell?,h.block b hb]at hv⊢;exact hv
end
def Mh (K R:Act->World->Prop):Exit->Act->World->Prop
 |.normal=>K
 |.ret=>R
 |_=>λ_ _=>False
section
variable [Gl]{c:Frame}
def ak.BE (E:ee P0 ok c Dr)(hb:ok.bh b.fn=true)(ss:List Code)(T:Code)(K R:Act->World->Prop)
  (h:∀τ d,aD P0 (Mh K R) ss a<|re V τ d)
  (hK:∀a' w',K a' w'->ak P0 ok c Dr Q ⟨b.at a'<|.code T::k,cs,w'⟩)(hR:∀a' w' todo,R a' w'->ak P0 ok c Dr Q ⟨{b.at a' todo with mode:=.returning},cs,w'⟩):
  ak P0 ok c Dr Q ⟨b.at a<|.code (Proofs.YtlmcblcijndipaaGreatDoor.chain ss T)::k,cs,V⟩:=by
 refine ak.of_steps E.pair E.shut E.floor (λs1=>(∃a' w',K a' w'/\s1=⟨b.at a'<|.code T::k,cs,w'⟩)\/∃a' w' todo,R a' w'/\s1=⟨{b.at a' todo with mode:=.returning},cs,w'⟩) ?_ (λτ d=>?_) ?_
 .rintro _ (⟨a',w',_,rfl⟩|⟨a',w',todo,_,rfl⟩)
  .exact hb
  .exact hb
 .let⟨e,a',w',hq,vw⟩:=py (T:=T) ss (h τ d) b k<|cs++[c];cases e with
  |normal=>exact⟨_,.inl ⟨a',w',hq,rfl⟩,vw⟩
  |ret=>
   let⟨todo,hs⟩:=vw;exact⟨_,.inr ⟨a',w',todo,hq,rfl⟩,hs⟩
  |_=>exact hq.elim
 .rintro _ (⟨a',w',h1,rfl⟩|⟨a',w',todo,h1,rfl⟩)
  .exact hK a' w' h1
  .exact hR a' w' todo h1
end
def mw (md:Region.Mode)(ops:Array Oper):Nat->Array Bool->List (List Nat)
 |0,_=>[[]]
 |n+1,l=>if(Region.ready md ops l).isEmpty then[[]]else(Region.ready md ops l).flatMap λi=>(mw md ops n<|l.setIfInBounds i true).map (i::·)
def QQ {l:Array Bool}{o:List Nat}(h:Ia md ops l o):∀n,VU ops l<=n->o∈mw md ops n l:=by
 induction h with
 |nil h=>
  intro n _;cases n with
  |zero=>simp[mw]
  |succ n=>simp[mw,h]
 |@cons l i rest hi _ ih=>
  intro n hn;have aB:=Jq hi;cases n with
  |zero=>omega
  |succ n=>
   have hne:(Region.ready md ops l).isEmpty=false:=by
    cases hr:Region.ready md ops l with
    |nil=>rw[hr]at hi;simp at hi
    |cons _ _=>rfl
   simp only[mw,hne,Bool.false_eq_true,if_false,List.mem_flatMap,List.mem_map];exact⟨i,hi,rest,ih n aa,rfl⟩
def Nw {P:Program}{md:Region.Mode}{ops:Array Oper}{Q:Exit->Act->World->Prop}:∀(n:Nat) {l:Array Bool} {o:List Nat} {a:Act} {w:World},o∈mw md ops n l->wpAny P md ops Q n l a w->wpOps P ops Q o a w
 |0,l,o,a,w,ho,h=>by
  simp only[mw,List.mem_singleton]at ho;subst ho;exact h.2
 |n+1,l,o,a,w,ho,h=>by
  simp only[mw]at ho;split at ho
  .rename_i hr;simp only[List.mem_singleton]at ho;subst ho;exact h.1<|by simpa using hr
  .simp only[List.mem_flatMap,List.mem_map]at ho;obtain⟨i,hi,rest,DU,rfl⟩:=ho;rw[wpOps_cons];exact wpOp_mono (λa w=>Nw n DU)<|h.2 i hi
def NT {P:Program}{ops lK:Array Oper}{Q:Exit->Act->World->Prop}(φ:Nat->Nat)(hs:∀i,i<lK.size->ops[φ i]?=lK[i]?)(hg:∀o∈lK,o.guard=none):∀(l:List Nat) {a:Act} {w:World},(∀i∈l,i<lK.size)->wpOps P lK Q l a w->wpOps P ops Q (l.map φ) a w
 |[],_,_,_,h=>h
 |i::l,a,w,hl,h=>by
  rw[List.map_cons,wpOps_cons];rw[wpOps_cons]at h;have hi:=hl i (adw ..);have ho:=adc hi;have Z':=hg _<|Array.getElem_mem hi;have w1:∀(f:Nat->Option Bool),Region.wanted lK[i] f=true:=λf=>by simp[Region.wanted,Z']
  refine wpOp_mono (λa w h=>NT φ hs hg l (λj hj=>hl j<|adv _ hj) h) ?_;unfold wpOp at h⊢;rw[hs i hi,ho];rw[ho]at h;simp only[w1,if_true]at h⊢;exact h
section
variable [Gl]{c:Frame}
def ak.NM (E:ee P0 ok c Dr)(hb:ok.bh b.fn=true)(l r:List Nat)(K:Act->World->Prop)(h:∀τ d,wpOps P0 ops (λe a w=>e=.normal/\K a w) l a<|re V τ d)(hK:∀a' w',K a' w'->ak P0 ok c Dr Q ⟨b.at a'<|.inRegion ops r::k,cs,w'⟩):
  ak P0 ok c Dr Q ⟨b.at a<|.inRegion ops (l++r)::k,cs,V⟩:=by
 refine ak.of_steps E.pair E.shut E.floor (λs1=>∃a' w',K a' w'/\s1=⟨b.at a'<|.inRegion ops r::k,cs,w'⟩) ?_ (λτ d=>?_) ?_
 .rintro _ ⟨a',w',_,rfl⟩;exact hb
 .let⟨a',w',hq,hs⟩:=gr _ (h τ d) r b k<|cs++[c];exact⟨_,⟨a',w',hq,rfl⟩,hs⟩
 .rintro _ ⟨a',w',h1,rfl⟩;exact hK a' w' h1
def ak.drawn (E:ee P0 ok c Dr)(hb:ok.bh b.fn=true)(hm:P0.follows .mixedOrders=true){id:Nat}(h:∀order,Ia .any ops (Array.replicate ops.size false) order->ak P0 ok c Dr Q ⟨b.at a<|.inRegion ops order::k,cs,V⟩):
  ak P0 ok c Dr Q ⟨b.at a<|.code (.region id ops true)::k,cs,V⟩:=by
 refine ak.of_steps E.pair E.shut E.floor (λs1=>∃order τ d,Ia .any ops (Array.replicate ops.size false) order/\s1=St.re ⟨b.at a<|.inRegion ops order::k,cs,V⟩ τ d) ?_ (λτ d=>?_) ?_
 .rintro _ ⟨order,τ,d,_,rfl⟩;exact hb
 .refine⟨St.re ⟨b.at a<|.inRegion ops (Region.schedule (P0.follows .mixedOrders) ops<|τ d<|.order b.fn id)::k,cs,V⟩ τ<|d+1,⟨_,τ,d+1,?_,rfl⟩,.one<|step_lone_go ?_⟩
  .rw[hm];exact sY _
  .have h0:=stepG_region_draw (P:=P0) (main:=true) (ops:=ops) (b:=b) (a:=a) (k:=k) (cs:=cs++[c]) (w:=re V τ d) (id:=id);first
    |exact h0
    |(show(stepG P0 true (G (b.at a<|.code (.region id ops true)::k)<|cs++[c])<|re V τ d).bare=_;rw[h0];rfl)
 .rintro _ ⟨order,τ,d,ho,rfl⟩;exact λτ' d'=>h order ho τ' d'
def ak.PU (E:ee P0 ok c Dr)(hb:ok.bh b.fn=true)(hm:P0.follows .mixedOrders=true){id':Nat}(lK:Array Oper)(r:List Nat)(hs:∀i,i<lK.size->ops[i]?=lK[i]?)(hg:∀o∈lK,o.guard=none)
  (hk:(mw .any ops ops.size<|Array.replicate ops.size false).all (λo=>(o.take lK.size++r==o)&&(o.take lK.size).all (·<lK.size)&&(mw .any lK lK.size<|Array.replicate lK.size false).contains (o.take lK.size))=true)
  (K:Act->World->Prop)(h:∀τ d,wpAny P0 .any lK (λe a w=>e=.normal/\K a w) lK.size (Array.replicate lK.size false) a<|re V τ d)(hK:∀a' w',K a' w'->ak P0 ok c Dr Q ⟨b.at a'<|.inRegion ops r::k,cs,w'⟩):
  ak P0 ok c Dr Q ⟨b.at a<|.code (.region id' ops true)::k,cs,V⟩:=by
 refine ak.drawn E hb hm λorder ho=>?_
 have pG:=QQ ho ops.size (by unfold VU;exact ac8 (List.length_filter_le _ _) aF);rw[List.all_eq_true]at hk;have h1:=hk order pG;simp only[Bool.and_eq_true,beq_iff_eq,List.all_eq_true,decide_eq_true_eq,List.contains_iff_mem]at h1;let⟨⟨e1,e2⟩,e3⟩:=h1;rw[<-e1];exact ak.NM E hb _ r K (λτ d=>by have:=NT id hs hg _ e2<|Nw _ e3<|h τ d;rwa [List.map_id]at this) hK
def abt (i:Nat):List Nat->List Nat
 |[]=>[]
 |j::l=>if j==i then[]else j::abt i l
def ZW (i:Nat):List Nat->List Nat
 |[]=>[]
 |j::l=>if j==i then l else ZW i l
def SI (ops:Array Oper):List Nat->Array Bool->Bool
 |[],L=>(Region.ready .any ops L).isEmpty
 |j::l,L=>(Region.ready .any ops L).contains j&&SI ops l (L.setIfInBounds j true)
def aao (ops:Array Oper)(i:Nat)(L0 L1:Bool->Array Bool):Nat->Array Bool->List Nat->Bool
 |0,_,_=>false
 |n+1,L,p=>!(Region.ready .any ops L).isEmpty&&(Region.ready .any ops L).all λj=>if j==i then[false,true].any λx=>L.setIfInBounds i true==L1 x&&(SI ops p (L0 x)&&decide (p.length<=ops.size))else aao ops i L0 L1 n (L.setIfInBounds j true) (p++[j])
end
def I8:Extern.findNext Tryz.f283=none:=bD
def I6:Extern.find Tryz.f283=some (Extern.SlicesOverlaps.overlaps #[23,23] #[4]):=bD
def I7:(Tryz.f283.name== "runtime.NumGoroutine")=false:=bD
def I9:∀w,(sizeOf 31).run Tryz.prog w=.ok 6 w:=Tryz.sizeOf31
def NP (p q:Addr)(la ca lb cb:Nat)(c1 c2:Array Value)(t1 t2:TypeId)(W:World)(hne:p.block≠q.block)(g1:W.heap[p.block]?=some (.cells c1 t1 (0,0)))(n1:c1.size≠0)(g2:W.heap[q.block]?=some (.cells c2 t2 (0,0)))(n2:c2.size≠0):
  (callFunc 283 #[.slice (some p) la ca,.slice (some q) lb cb]).run Tryz.prog W=.ok (.value false) W:=by
 have h:=Lib.run_overlaps_apart (P:=Tryz.prog) W 23 4 31 Tryz.underlying23 6 I9 p q la ca lb cb hne t1 t2 c1.size c2.size (by simp[World.shape?,g1]) (by simp[World.shape?,g2]) n2 (by simp[World.frozen?,g1]) (by simp[World.frozen?,g1]);have hn:Tryz.f283.name≠ "runtime.NumGoroutine":=by simpa using I7
 simp[callFunc,Tryz.func283,I8,I6,hn,h,show Tryz.f283.body=none from rfl]
def NV {α β:Type}{x:Sem α}{f:α->Sem β}{a:α}(hx:x.run P W=.ok a W)(ex:∀es,x.events P W es=es)(hf:∀es,(f a).events P W es=es):∀es,(x >>= f).events P W es=es:=by
 intro es;rw[Sem.events_bind,hx,ex];exact hf es
def QR (p q:Addr)(la ca lb cb:Nat)(c1 c2:Array Value)(t1 t2:TypeId)(W:World)(hne:p.block≠q.block)(g1:W.heap[p.block]?=some (.cells c1 t1 (0,0)))(n1:c1.size≠0)(g2:W.heap[q.block]?=some (.cells c2 t2 (0,0)))(n2:c2.size≠0):
  (callFunc 283 #[.slice (some p) la ca,.slice (some q) lb cb]).events Tryz.prog W #[]=#[⟨.mark<|.extern 283,false,true⟩]:=by
 have hn:Tryz.f283.name≠ "runtime.NumGoroutine":=by simpa using I7
 have h2:∀es,(Extern.SlicesOverlaps.overlaps #[23,23] #[4] #[.slice (some p) la ca,.slice (some q) lb cb]).events Tryz.prog W es=es:=by
  have hsa:(shape p.block).run Tryz.prog W=.ok (some (t1,c1.size)) W:=by simp[shape,Sem.run,World.shape?,g1]
  have tF:(shape q.block).run Tryz.prog W=.ok (some (t2,c2.size)) W:=by simp[shape,Sem.run,World.shape?,g2]
  have hfp:(frozen p).run Tryz.prog W=.ok false W:=by simp[frozen,Sem.run,World.frozen?,g1]
  have hfq:(frozen q).run Tryz.prog W=.ok false W:=by simp[frozen,Sem.run,World.frozen?,g2]
  refine NV (x:=underlying 23) (a:=.slice 31) (Tryz.runUnderlying23 W) (λes=>bD) ?_;refine NV (x:=sizeOf 31) (a:=6) (I9 W) (λes=>bD) ?_;intro es;have ef:∀x es,(frozen x).events Tryz.prog W es=es:=λ_ _=>rfl
  have aaS:(frozen {block:=p.block,off:=c1.size}).run Tryz.prog W=.ok false W:=by simp[frozen,Sem.run,World.frozen?,g1]
  have aaT:(frozen {block:=q.block,off:=c2.size}).run Tryz.prog W=.ok false W:=by simp[frozen,Sem.run,World.frozen?,g2]
  have Dc:(p.block !=q.block)=true:=by simpa using hne
  have a1:W.frozen? p=false:=by simp[World.frozen?,g1]
  have a2:W.frozen? q=false:=by simp[World.frozen?,g2]
  have a3:W.shape? p.block=some (t1,c1.size):=by simp[World.shape?,g1]
  have a4:W.shape? q.block=some (t2,c2.size):=by simp[World.shape?,g2]
  have a5:W.frozen? {block:=p.block,off:=c1.size}=false:=by simp[World.frozen?,g1]
  have a6:W.frozen? {block:=q.block,off:=c2.size}=false:=by simp[World.frozen?,g2]
  clear hsa tF hfp hfq aaS aaT g1 g2;dsimp only;split
  .rfl
  .simp[ef,Dc,noView,viewAt,mayBeOne,stringish,a1,a2,a3,a4,a5,a6]
 have hm:(mark<|.extern 283).run Tryz.prog W=.ok () W:=rfl;have he:(mark<|.extern 283).events Tryz.prog W #[]=#[⟨.mark<|.extern 283,false,true⟩]:=rfl;simp[callFunc,Tryz.func283,I8,I6,hn,h2,show Tryz.f283.body=none from rfl,hm,he]
def NO [g:Gl](h:g.ov=283):Bh Tryz.prog:=by
 intro p q la ca lb cb c1 c2 t1 t2 W h1 h2 h3 h4 h5;rw[h];refine⟨NP p q la ca lb cb c1 c2 t1 t2 W h1 h2 h3 h4 h5,λe he=>?_⟩;rw[QR p q la ca lb cb c1 c2 t1 t2 W h1 h2 h3 h4 h5]at he;exact⟨_,by simpa using he⟩
