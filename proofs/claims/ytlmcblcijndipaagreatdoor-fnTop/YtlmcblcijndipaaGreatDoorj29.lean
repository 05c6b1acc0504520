import Derived.Test.YtlmcblcijndipaaGreatDoorj20
import Derived.Test.YtlmcblcijndipaaGreatDoorj15b
import Derived.Lib.Overlaps
set_option linter.defProp false
set_option linter.unusedVariables false
namespace Go.Proofs.YtlmcblcijndipaaGreatDoor
open Conc RowKit
variable {a:Act}{L:Array Bool}{ops:Array Oper}{ok:Ctx}{b:Frame}{Dr:FuncId->Array Value->World->(Value->World->Prop)->Prop}{c:Int}{cs:List Frame}{k:List Item}{o post:List Nat}{j_ n:Nat}{P P0:Program}{md:Region.Mode}{v:Value}{Q:Value->World->Prop}{V W:World}
def Jv (v:Value)(c:Int):Prop:=(v=.nilIface/\c=0)\/v=.iface 131 (.agg #[c])
def xf:Obj:=.cells #[.iface 187<|.agg #[.pointer<|some ⟨9,93,none⟩]] 165 (0,0)
def J5 (M:Nat->Prop)(W:World):Prop:=M 0/\W.heap[0]?=some xf
def DrC (f:FuncId)(xs:Array Value)(V:World)(R:Value->World->Prop):Prop:=f=68/\∃v c,xs=#[v]/\Jv v c/\R=λr V'=>r=.int .i64 c/\V'=V
def MZ:Tryz.f68.body=some Am:=rfl
def Kj (v:Value):Frame.enter Tryz.prog 68 #[v] .normal=(base 68).at ⟨#[v,ud,ud,ud,ud,ud,ud,ud,ud],[]⟩ [.code Am]:=by
 rw[enter_at #[v] Tryz.func68 MZ];rfl
def DX {M:Nat->Prop}{an:Loc->Prop}{gs:Array Goroutine}{r0:Frame}{rest:List Frame}{t:Trace}{q:Nat->Nat}{sl:Option (Nat×Nat)}(hv:Jv v c)(hI:J5 M W)
  (h:dJ Tryz.prog an jh jh M gs (G (Frame.enter Tryz.prog 68 #[v] .normal)<|r0::rest) W t q):
  ∃N jK M' W' kx t' q',runNT Tryz.prog N (crowd gs W sl) t=(.next<|crowd jK W' kx,t')/\dJ Tryz.prog an jh jh M' jK (G (r0.finish c) rest) W' t' q'/\CS M W [] M' W':=by
 have hl:∀b,M b->b<W:=λb hb=>h.lt b<|.inl hb
 have h0:CS M W [] M W:=⟨λ_ h=>h,aO.refl _ _,hl,λ_ h=>.inl h,hl,λp hp=>by simp at hp⟩;have hE:ET Tryz.prog true (λ_=>True) Ph.nO jh (λM' g W'=>g=G (r0.finish c) rest/\CS M W [] M' W') M (G (Frame.enter Tryz.prog 68 #[v] .normal)<|r0::rest) W:=by
  rw[Kj];rcases hv with⟨rfl,rfl⟩|rfl
  .exact QM h0
  .exact QL c ⟨λ_ h=>h,aO.refl _ _,hl,λ_ h=>.inl h,hl,λp hp=>by obtain rfl:=List.mem_singleton.1 hp;exact hI⟩
 let⟨r,hr⟩:=hE;let⟨N,jK,M',a',w',kx,t',q',h1,_,h3,h4,_⟩:=jt (λ_=>trivial) r _ gs M _ W sl t q (ac3 _) h hr;obtain⟨rfl,h5⟩:=h3 w' (aO.refl _ _) trivial;exact⟨N,jK,M',w',kx,t',q',h1,h4,h5⟩
section
variable [Gl]
def KX {ρ:Ren}{v':Value}(h:Jv v c)(hv:aw ok ρ v v'):v'=v:=by
 rcases h with⟨rfl,_⟩|rfl
 .cases hv;rfl
 .cases hv with
  |iface t hv=>
   cases hv with
   |@agg xs xs' e hv=>
    have:xs'=#[.int .i64 c]:=by
     refine Array.ext (by simpa using e.symm) λi h1 h2=>?_
     have hi:i=0:=by simp at h2;omega
     subst hi;have:=hv 0 c xs'[0] rfl<|ada h1;generalize xs'[0]=z at this;cases this;rfl
    rw[this]
def Nb:pt Tryz.prog ok J5 DrC:=by
 rintro f xs V ρ xs' W M an gs r0 rest t q sl R hI ⟨rfl,v,c,rfl,hv,rfl⟩ vU hw ho hl;let⟨v',e0,Qa⟩:=vU.get (i:=0) rfl;obtain rfl:xs'=#[v']:=by
  refine Array.ext (by simpa using vU.size.symm) λi h1 h2=>?_
  have hi:i=0:=by simp at h2;omega
  subst hi;have:=ada h1;rw[e0]at this;exact(ac9 this).symm
 obtain rfl:=KX hv Qa;let⟨N,jK,M',W',kx,t',q',k1,k2,k3⟩:=DX (sl:=sl) hv hI hl;exact⟨N,jK,W',kx,t',q',an,M',c,ρ,c,V,k1,k2,Ren.le_refl _,.int _ _,hw.others ho<|k3.keep.mono λb hb=>hb.elim id λx=>x.elim,λb d hb=>k3.own d<|ho b d hb,⟨rfl,rfl⟩,k3.keep,k3.own,λb d hb=>.inl hb,λ_ _=>rfl⟩
def US:pu ok DrC:=by
 rintro f xs V V' v ρ R ⟨_,v0,c,_,_,rfl⟩ ⟨rfl,rfl⟩ _ hw;exact⟨ρ,Ren.le_refl _,.int _ _,hw⟩
end
section
variable {N:Nat}{w w':World}
structure Bl (N:Nat)(w w':World):Prop where
 size:w.heap.size<=w'
 block:∀k,k<N->w'.heap[k]?=w.heap[k]?
def Bl.refl (N:Nat)(w:World):Bl N w w:=⟨ac3 _,λ_ _=>rfl⟩
def Bl.of (h:Below N w w'):Bl N w w':=⟨h.size,h.block⟩
def Bl.nP {τ:Nat->Question->Nat}{d:Nat}(h:Below (re V τ d).heap.size (re V τ d) w):Bl V V w:=⟨h.size,h.block⟩
def Bl.trans {M:Nat}{a b c:World}(h:Bl N a b)(k:Bl M b c)(hN:N<=M):Bl N a c:=⟨ac6 h.size k.size,λi hi=>(k.block i ab).trans<|h.block i hi⟩
def Bl.cell (h:Bl N w w'){b j:Nat}(hb:b<N)(hv:w.cell? ⟨b,j,none⟩=some v):w'.cell? ⟨b,j,none⟩=some v:=by
 simp only[World.cell?,h.block b hb]at hv⊢;exact hv
end
def Nf (K R:Act->World->Prop):Exit->Act->World->Prop
 |.normal=>K
 |.ret=>R
 |_=>λ_ _=>False
section
variable [Gl]{c:Frame}
def aj.BL (E:dM P0 ok c Dr)(hb:ok.aX b.fn=true)(ss:List Code)(T:Code)(K R:Act->World->Prop)
  (h:∀τ d,aD P0 (Nf K R) ss a<|re V τ d)
  (hK:∀a' w',K a' w'->aj P0 ok c Dr Q ⟨b.at a'<|.code T::k,cs,w'⟩)(hR:∀a' w' todo,R a' w'->aj P0 ok c Dr Q ⟨{b.at a' todo with mode:=.returning},cs,w'⟩):
  aj P0 ok c Dr Q ⟨b.at a<|.code (Proofs.YtlmcblcijndipaaGreatDoor.chain ss T)::k,cs,V⟩:=by
 refine aj.of_steps E.pair E.shut E.floor (λs1=>(∃a' w',K a' w'/\s1=⟨b.at a'<|.code T::k,cs,w'⟩)\/∃a' w' todo,R a' w'/\s1=⟨{b.at a' todo with mode:=.returning},cs,w'⟩) ?_ (λτ d=>?_) ?_
 .rintro _ (⟨a',w',_,rfl⟩|⟨a',w',todo,_,rfl⟩)
  .exact hb
  .exact hb
 .let⟨e,a',w',hq,vO⟩:=pD (T:=T) ss (h τ d) b k<|cs++[c];cases e with
  |normal=>exact⟨_,.inl ⟨a',w',hq,rfl⟩,vO⟩
  |ret=>
   let⟨todo,hs⟩:=vO;exact⟨_,.inr ⟨a',w',todo,hq,rfl⟩,hs⟩
  |_=>exact hq.elim
 .rintro _ (⟨a',w',h1,rfl⟩|⟨a',w',todo,h1,rfl⟩)
  .exact hK a' w' h1
  .exact hR a' w' todo h1
end
def f8 (md:Region.Mode)(ops:Array Oper):Nat->Array Bool->List (List Nat)
 |0,_=>[[]]
 |n+1,l=>if(Region.ready md ops l).isEmpty then[[]]else(Region.ready md ops l).flatMap λi=>(f8 md ops n<|l.setIfInBounds i true).map (i::·)
def CR {l:Array Bool}(h:FW md ops l o):∀n,SF ops l<=n->o∈f8 md ops n l:=by
 induction h with
 |nil h=>
  intro n _;cases n with
  |zero=>simp[f8]
  |succ n=>simp[f8,h]
 |@cons l i rest hi _ ih=>
  intro n hn;have ay:=JX hi;cases n with
  |zero=>omega
  |succ n=>
   have hne:(Region.ready md ops l).isEmpty=false:=by
    cases hr:Region.ready md ops l with
    |nil=>rw[hr]at hi;simp at hi
    |cons _ _=>rfl
   simp only[f8,hne,Bool.false_eq_true,if_false,List.mem_flatMap,List.mem_map];exact⟨i,hi,rest,ih n ab,rfl⟩
def CK {Q:Exit->Act->World->Prop}:∀(n:Nat) {l:Array Bool} {o:List Nat} {a:Act} {w:World},o∈f8 md ops n l->wpAny P md ops Q n l a w->wpOps P ops Q o a w
 |0,l,o,a,w,ho,h=>by
  simp only[f8,List.mem_singleton]at ho;subst ho;exact h.2
 |n+1,l,o,a,w,ho,h=>by
  simp only[f8]at ho;split at ho
  .rename_i hr;simp only[List.mem_singleton]at ho;subst ho;exact h.1<|by simpa using hr
  .simp only[List.mem_flatMap,List.mem_map]at ho;obtain⟨i,hi,rest,xM,rfl⟩:=ho;rw[wpOps_cons];exact wpOp_mono (λa w=>CK n xM)<|h.2 i hi
def OL {lU:Array Oper}{Q:Exit->Act->World->Prop}(φ:Nat->Nat)(hs:∀i,i<lU.size->ops[φ i]?=lU[i]?)(hg:∀o∈lU,o.guard=none):∀(l:List Nat) {a:Act} {w:World},(∀i∈l,i<lU.size)->wpOps P lU Q l a w->wpOps P ops Q (l.map φ) a w
 |[],_,_,_,h=>h
 |i::l,a,w,hl,h=>by
  rw[List.map_cons,wpOps_cons];rw[wpOps_cons]at h;have hi:=hl i (adu ..);have ho:=ada hi;have hgi:=hg _<|Array.getElem_mem hi;have w1:∀(f:Nat->Option Bool),Region.wanted lU[i] f=true:=λf=>by simp[Region.wanted,hgi]
  refine wpOp_mono (λa w h=>OL φ hs hg l (λj hj=>hl j<|adt _ hj) h) ?_;unfold wpOp at h⊢;rw[hs i hi,ho];rw[ho]at h;simp only[w1,if_true]at h⊢;exact h
section
variable [Gl]{c:Frame}
def aj.CO (E:dM P0 ok c Dr)(hb:ok.aX b.fn=true)(l r:List Nat)(K:Act->World->Prop)(h:∀τ d,wpOps P0 ops (λe a w=>e=.normal/\K a w) l a<|re V τ d)(hK:∀a' w',K a' w'->aj P0 ok c Dr Q ⟨b.at a'<|.inRegion ops r::k,cs,w'⟩):
  aj P0 ok c Dr Q ⟨b.at a<|.inRegion ops (l++r)::k,cs,V⟩:=by
 refine aj.of_steps E.pair E.shut E.floor (λs1=>∃a' w',K a' w'/\s1=⟨b.at a'<|.inRegion ops r::k,cs,w'⟩) ?_ (λτ d=>?_) ?_
 .rintro _ ⟨a',w',_,rfl⟩;exact hb
 .let⟨a',w',hq,hs⟩:=gJ _ (h τ d) r b k<|cs++[c];exact⟨_,⟨a',w',hq,rfl⟩,hs⟩
 .rintro _ ⟨a',w',h1,rfl⟩;exact hK a' w' h1
def aj.drawn (E:dM P0 ok c Dr)(hb:ok.aX b.fn=true)(hm:P0.follows .mixedOrders=true){id:Nat}(h:∀order,FW .any ops (Array.replicate ops.size false) order->aj P0 ok c Dr Q ⟨b.at a<|.inRegion ops order::k,cs,V⟩):
  aj P0 ok c Dr Q ⟨b.at a<|.code (.region id ops true)::k,cs,V⟩:=by
 refine aj.of_steps E.pair E.shut E.floor (λs1=>∃order τ d,FW .any ops (Array.replicate ops.size false) order/\s1=St.re ⟨b.at a<|.inRegion ops order::k,cs,V⟩ τ d) ?_ (λτ d=>?_) ?_
 .rintro _ ⟨order,τ,d,_,rfl⟩;exact hb
 .refine⟨St.re ⟨b.at a<|.inRegion ops (Region.schedule (P0.follows .mixedOrders) ops<|τ d<|.order b.fn id)::k,cs,V⟩ τ<|d+1,⟨_,τ,d+1,?_,rfl⟩,.one<|step_lone_go ?_⟩
  .rw[hm];exact tA _
  .have h0:=stepG_region_draw (P:=P0) (main:=true) (ops:=ops) (b:=b) (a:=a) (k:=k) (cs:=cs++[c]) (w:=re V τ d) (id:=id);first
    |exact h0
    |(show(stepG P0 true (G (b.at a<|.code (.region id ops true)::k)<|cs++[c])<|re V τ d).bare=_;rw[h0];rfl)
 .rintro _ ⟨order,τ,d,ho,rfl⟩;exact λτ' d'=>h order ho τ' d'
def aj.QR (E:dM P0 ok c Dr)(hb:ok.aX b.fn=true)(hm:P0.follows .mixedOrders=true)(lU:Array Oper)(r:List Nat)(hs:∀i,i<lU.size->ops[i]?=lU[i]?)(hg:∀o∈lU,o.guard=none)
  (hk:(f8 .any ops ops.size<|Array.replicate ops.size false).all (λo=>(o.take lU.size++r==o)&&(o.take lU.size).all (·<lU.size)&&(f8 .any lU lU.size<|Array.replicate lU.size false).contains (o.take lU.size))=true)
  (K:Act->World->Prop)(h:∀τ d,wpAny P0 .any lU (λe a w=>e=.normal/\K a w) lU.size (Array.replicate lU.size false) a<|re V τ d)(hK:∀a' w',K a' w'->aj P0 ok c Dr Q ⟨b.at a'<|.inRegion ops r::k,cs,w'⟩):
  aj P0 ok c Dr Q ⟨b.at a<|.code (.region j_ ops true)::k,cs,V⟩:=by
 refine aj.drawn E hb hm λorder ho=>?_
 have pJ:=CR ho ops.size (by unfold SF;exact ac6 (List.length_filter_le _ _) aG);rw[List.all_eq_true]at hk;have h1:=hk order pJ;simp only[Bool.and_eq_true,beq_iff_eq,List.all_eq_true,decide_eq_true_eq,List.contains_iff_mem]at h1;let⟨⟨e1,e2⟩,e3⟩:=h1;rw[<-e1];exact aj.CO E hb _ r K (λτ d=>by have:=OL id hs hg _ e2<|CK _ e3<|h τ d;rwa [List.map_id]at this) hK
def aj.Sy (E:dM P0 ok c Dr)(hb:ok.aX b.fn=true)(hp:post∈f8 .any ops n L)(K:Act->World->Prop)(h:∀τ d,wpAny P0 .any ops (λe a w=>e=.normal/\K a w) n L a<|re V τ d)(hK:∀a' w',K a' w'->aj P0 ok c Dr Q ⟨b.at a' k,cs,w'⟩):
  aj P0 ok c Dr Q ⟨b.at a<|.inRegion ops post::k,cs,V⟩:=by
 have:=aj.CO (k:=k) E hb post [] K (λτ d=>CK n hp<|h τ d) λa' w' h'=>aj.regionEnd E hb<|hK a' w' h';rwa [List.append_nil]at this
def abA (i:Nat):List Nat->List Nat
 |[]=>[]
 |j::l=>if j==i then[]else j::abA i l
def L_ (i:Nat):List Nat->List Nat
 |[]=>[]
 |j::l=>if j==i then l else L_ i l
def Eu (ops:Array Oper):List Nat->Array Bool->Bool
 |[],L=>(Region.ready .any ops L).isEmpty
 |j::l,L=>(Region.ready .any ops L).contains j&&Eu ops l (L.setIfInBounds j true)
omit [Gl] in
def OH:∀{o:List Nat} {n:Nat} {L:Array Bool},Eu ops o L=true->o.length<=n->o∈f8 .any ops n L
 |[],0,_,_,_=>List.mem_singleton.2 rfl
 |[],n+1,L,h,_=>by
  unfold Eu at h;simp[f8,h]
 |j::l,n+1,L,h,hn=>by
  simp only[Eu,Bool.and_eq_true,List.contains_iff_mem]at h;have hne:(Region.ready .any ops L).isEmpty=false:=by
   cases hr:Region.ready .any ops L with
   |nil=>rw[hr]at h;cases h.1
   |cons _ _=>rfl
  simp only[f8,hne,Bool.false_eq_true,if_false,List.mem_flatMap,List.mem_map];exact⟨j,h.1,l,OH h.2<|Nat.le_of_succ_le_succ hn,rfl⟩
def Kg (ops:Array Oper)(i:Nat)(L0 L1:Bool->Array Bool):Nat->Array Bool->List Nat->Bool
 |0,_,_=>false
 |n+1,L,p=>!(Region.ready .any ops L).isEmpty&&(Region.ready .any ops L).all λj=>if j==i then[false,true].any λx=>L.setIfInBounds i true==L1 x&&(Eu ops p (L0 x)&&decide (p.length<=ops.size))else Kg ops i L0 L1 n (L.setIfInBounds j true) (p++[j])
omit [Gl] in
def QJ {i:Nat}{L0 L1:Bool->Array Bool}(h:FW .any ops L o):∀n p,Kg ops i L0 L1 n L p=true->∃x pre post,o=pre++i::post/\p++pre∈f8 .any ops ops.size (L0 x)/\FW .any ops (L1 x) post:=by
 induction h with
 |nil h=>
  intro n p hc;cases n with
  |zero=>cases hc
  |succ n=>simp[Kg,h]at hc
 |@cons L j rest hj hr ih=>
  intro n p hc;cases n with
  |zero=>cases hc
  |succ n=>
   simp only[Kg,Bool.and_eq_true,List.all_eq_true]at hc;have h1:=hc.2 j hj;by_cases e:j=i
   .subst e;simp only[beq_self_eq_true,if_true,List.any_eq_true,Bool.and_eq_true,beq_iff_eq,decide_eq_true_eq]at h1;obtain⟨x,-,e1,e2,e3⟩:=h1;exact⟨x,[],rest,rfl,by rw[List.append_nil];exact OH e2 e3,e1▸hr⟩
   .rw[if_neg (by simpa using e)]at h1;let⟨x,pre,post,e1,e2,e3⟩:=ih n _ h1;exact⟨x,j::pre,post,by rw[e1];rfl,by rw[List.append_assoc]at e2;exact e2,e3⟩
def aj.dm (E:dM P0 ok c Dr)(hb:ok.aX b.fn=true)(i:Nat)(L0 L:Bool->Array Bool)
  (h:∀(x:Bool) (K:Act->World->Prop) τ d,Hid (∀a' w',(∀post,post∈f8 .any ops ops.size (L x)->aj P0 ok c Dr Q ⟨b.at a'<|.inRegion ops (i::post)::k,cs,w'⟩)->K a' w')->wpAny P0 .any ops (λe a w=>e=.normal/\K a w) ops.size (L0 x) a (re V τ d))
  (hm:P0.follows .mixedOrders=true:=by kernel_rfl)(hk:Kg ops i L0 L (ops.size+1) (Array.replicate ops.size false) []=true:=by kernel_rfl):aj P0 ok c Dr Q ⟨b.at a<|.code (.region j_ ops true)::k,cs,V⟩:=by
 refine aj.drawn E hb hm λorder ho=>?_
 obtain⟨x,pre,post,rfl,e2,e3⟩:=QJ ho _ _ hk;exact aj.CO E hb _ _ (λa' w'=>∀post,post∈f8 .any ops ops.size (L x)->aj P0 ok c Dr Q ⟨b.at a'<|.inRegion ops (i::post)::k,cs,w'⟩) (λτ d=>CK _ e2<|h x _ τ d λ_ _ y=>y) λa' w' h=>h _ (CR e3 ops.size<|by unfold SF;exact ac6 (List.length_filter_le _ _)<|by simp)
def aj.ta (E:dM P0 ok c Dr)(hb:ok.aX b.fn=true)(hp:post∈f8 .any ops n L)
  (h:∀(K:Act->World->Prop) τ d,Hid (∀a' w',aj P0 ok c Dr Q ⟨b.at a' k,cs,w'⟩->K a' w')->wpAny P0 .any ops (λe a w=>e=.normal/\K a w) n L a (re V τ d)):aj P0 ok c Dr Q ⟨b.at a<|.inRegion ops post::k,cs,V⟩:=
 aj.Sy E hb hp (λa' w'=>aj P0 ok c Dr Q ⟨b.at a' k,cs,w'⟩) (λτ d=>h _ τ d λ_ _ y=>y) λ_ _ y=>y
def aj.dl (E:dM P0 ok c Dr)(hb:ok.aX b.fn=true)
  (h:∀(K:Act->World->Prop) τ d,Hid (∀a' w',aj P0 ok c Dr Q ⟨b.at a' k,cs,w'⟩->K a' w')->wpAny P0 .any ops (λe a w=>e=.normal/\K a w) ops.size (Array.replicate ops.size false) a (re V τ d))
  (hm:P0.follows .mixedOrders=true:=by kernel_rfl):aj P0 ok c Dr Q ⟨b.at a<|.code (.region j_ ops true)::k,cs,V⟩:=
 aj.drawn E hb hm λorder ho=>aj.ta E hb (CR ho ops.size<|by unfold SF;exact ac6 (List.length_filter_le _ _)<|by simp) h
end
def JE:Extern.findNext Tryz.f283=none:=bj
def JC:Extern.find Tryz.f283=some (Extern.SlicesOverlaps.overlaps #[23,23] #[4]):=bj
def JD:(Tryz.f283.name== "runtime.NumGoroutine")=false:=bj
def JF:∀w,(sizeOf 31).run Tryz.prog w=.ok 6 w:=Tryz.sizeOf31
def OJ (p q:Addr)(la ca lb cb:Nat)(c1 c2:Array Value)(t1 t2:TypeId)(W:World)(hne:p.block≠q.block)(g1:W.heap[p.block]?=some (.cells c1 t1 (0,0)))(n1:c1.size≠0)(g2:W.heap[q.block]?=some (.cells c2 t2 (0,0)))(n2:c2.size≠0):
  (callFunc 283 #[.slice (some p) la ca,.slice (some q) lb cb]).run Tryz.prog W=.ok (.value false) W:=by
 have h:=Lib.run_overlaps_apart (P:=Tryz.prog) W 23 4 31 Tryz.underlying23 6 JF p q la ca lb cb hne t1 t2 c1.size c2.size (by simp[World.shape?,g1]) (by simp[World.shape?,g2]) n2 (by simp[World.frozen?,g1]) (by simp[World.frozen?,g1]);have hn:Tryz.f283.name≠ "runtime.NumGoroutine":=by simpa using JD
 simp[callFunc,Tryz.func283,JE,JC,hn,h,show Tryz.f283.body=none from rfl]
def ON {α β:Type}{x:Sem α}{f:α->Sem β}{a:α}(hx:x.run P W=.ok a W)(ex:∀es,x.events P W es=es)(hf:∀es,(f a).events P W es=es):∀es,(x >>= f).events P W es=es:=by
 intro es;rw[Sem.events_bind,hx,ex];exact hf es
def RV (p q:Addr)(la ca lb cb:Nat)(c1 c2:Array Value)(t1 t2:TypeId)(W:World)(hne:p.block≠q.block)(g1:W.heap[p.block]?=some (.cells c1 t1 (0,0)))(n1:c1.size≠0)(g2:W.heap[q.block]?=some (.cells c2 t2 (0,0)))(n2:c2.size≠0):
  (callFunc 283 #[.slice (some p) la ca,.slice (some q) lb cb]).events Tryz.prog W #[]=#[⟨.mark<|.extern 283,false,true⟩]:=by
 have hn:Tryz.f283.name≠ "runtime.NumGoroutine":=by simpa using JD
 have h2:∀es,(Extern.SlicesOverlaps.overlaps #[23,23] #[4] #[.slice (some p) la ca,.slice (some q) lb cb]).events Tryz.prog W es=es:=by
  have hsa:(shape p.block).run Tryz.prog W=.ok (some (t1,c1.size)) W:=by simp[shape,Sem.run,World.shape?,g1]
  have sK:(shape q.block).run Tryz.prog W=.ok (some (t2,c2.size)) W:=by simp[shape,Sem.run,World.shape?,g2]
  have hfp:(frozen p).run Tryz.prog W=.ok false W:=by simp[frozen,Sem.run,World.frozen?,g1]
  have hfq:(frozen q).run Tryz.prog W=.ok false W:=by simp[frozen,Sem.run,World.frozen?,g2]
  refine ON (x:=underlying 23) (a:=.slice 31) (Tryz.runUnderlying23 W) (λes=>bj) ?_;refine ON (x:=sizeOf 31) (a:=6) (JF W) (λes=>bj) ?_;intro es;have ef:∀x es,(frozen x).events Tryz.prog W es=es:=λ_ _=>rfl
  have aaZ:(frozen {block:=p.block,off:=c1.size}).run Tryz.prog W=.ok false W:=by simp[frozen,Sem.run,World.frozen?,g1]
  have aa0:(frozen {block:=q.block,off:=c2.size}).run Tryz.prog W=.ok false W:=by simp[frozen,Sem.run,World.frozen?,g2]
  have Ru:(p.block !=q.block)=true:=by simpa using hne
  have a1:W.frozen? p=false:=by simp[World.frozen?,g1]
  have a2:W.frozen? q=false:=by simp[World.frozen?,g2]
  have a3:W.shape? p.block=some (t1,c1.size):=by simp[World.shape?,g1]
  have a4:W.shape? q.block=some (t2,c2.size):=by simp[World.shape?,g2]
  have a5:W.frozen? {block:=p.block,off:=c1.size}=false:=by simp[World.frozen?,g1]
  have a6:W.frozen? {block:=q.block,off:=c2.size}=false:=by simp[World.frozen?,g2]
  clear hsa sK hfp hfq aaZ aa0 g1 g2;dsimp only;split
  .rfl
  .simp[ef,Ru,noView,viewAt,mayBeOne,stringish,a1,a2,a3,a4,a5,a6]
 have hm:(mark<|.extern 283).run Tryz.prog W=.ok () W:=rfl;have he:(mark<|.extern 283).events Tryz.prog W #[]=#[⟨.mark<|.extern 283,false,true⟩]:=rfl;simp[callFunc,Tryz.func283,JE,JC,hn,h2,show Tryz.f283.body=none from rfl,hm,he]
def OI [g:Gl](h:g.ov=283):BF Tryz.prog:=by
 intro p q la ca lb cb c1 c2 t1 t2 W h1 h2 h3 h4 h5;rw[h];refine⟨OJ p q la ca lb cb c1 c2 t1 t2 W h1 h2 h3 h4 h5,λe he=>?_⟩;rw[RV p q la ca lb cb c1 c2 t1 t2 W h1 h2 h3 h4 h5]at he;exact⟨_,by simpa using he⟩
