import Derived.Test.YtlmcblcijndipabGreatDoorAd25
set_option linter.unusedVariables false
namespace Go.Proofs.YtlmcblcijndipabGreatDoor
section
open Go Go.RowKit
def dw:List Int->List Int->Bool
 |a::l,b::r=>if a=b then dw l r else decide (a<b)
 |_,_=>false
theorem mP:∀l,dw l l=false
 |[]=>rfl
 |a::l=>by simp[dw,mP l]
theorem kA:∀{a b c:List Int},dw a b=true->dw b c=true->dw a c=true
 |[],_,_,h,_=>by simp[dw]at h
 |_::_,[],_,h,_=>by simp[dw]at h
 |_::_,_::_,[],_,h=>by simp[dw]at h
 |x::a,y::b,z::c,h,h'=>by
  simp only[dw]at h h'⊢;split at h<;>split at h'<;>split
  .exact kA h h'
  .omega
  .omega
  .exact h'.trans (by simp;omega)|>λ_=>by simp at h'⊢;omega
  .simp at h h';omega
  .simp at h⊢;omega
  .simp at h h';omega
  .simp at h h'⊢;omega
theorem oC:∀{a b:List Int},a.length=b.length->dw a b=false->dw b a=false->a=b
 |[],[],_,_,_=>rfl
 |[],_::_,h,_,_=>by simp at h
 |_::_,[],h,_,_=>by simp at h
 |x::a,y::b,hl,h,h'=>by
  simp only[dw]at h h';split at h
  .rename_i e;subst e;rw[if_pos rfl]at h';rw[oC (by simpa using hl) h h']
  .rename_i e;rw[if_neg (λe'=>e e'.symm)]at h';simp at h h';omega
def bw:Option (List Int)->Option (List Int)->Bool
 |some a,some b=>dw a b
 |some _,none=>true
 |none,_=>false
theorem cj (a:Option (List Int)):bw a a=false:=by cases a<;>simp[bw,mP]
theorem jm {a b c:Option (List Int)}(h:bw a b=true)(h':bw b c=true):bw a c=true:=by
 cases a<;>cases b<;>cases c<;>simp_all [bw]
 exact kA h h'
theorem yb {m:Nat}{a b c:Option (List Int)}(hb:∀l,b=some l->l.length=m)(hc:∀l,c=some l->l.length=m)(h:bw a b=false)(h':bw c b=true)(ha:∀l,a=some l->l.length=m):bw a c=false:=by
 cases ht:bw a c with
 |false=>rfl
 |true=>rw[jm ht h']at h;cases h
theorem iE {m:Nat}{a b c:Option (List Int)}(ha:∀l,a=some l->l.length=m)(hb:∀l,b=some l->l.length=m)(hc:∀l,c=some l->l.length=m)(h:bw a b=false)(h':bw b c=false):bw a c=false:=by
 cases ht:bw a c with
 |false=>rfl
 |true=>
  cases a with
  |none=>simp[bw]at ht
  |some a=>
   cases b with
   |none=>simp[bw]at h
   |some b=>
    cases c with
    |none=>simp[bw]at h'
    |some c=>
     simp only[bw]at*;cases hcb:dw c b with
     |true=>rw[kA ht hcb]at h;cases h
     |false=>
      have:=oC ((hb _ rfl).trans (hc _ rfl).symm) h' hcb;subst this;rw[ht]at h;cases h
def eF (g:Nat->Int):Nat->Nat->List Int
 |0,_=>[]
 |f+1,k=>g k::eF g f (k+1)
theorem jo (g:Nat->Int):∀f k,(eF g f k).length=f
 |0,_=>rfl
 |f+1,k=>by simp[eF,jo g f]
theorem oD {g h:Nat->Int}:∀f k,(∀i,k<=i->i<k+f->g i=h i)->eF g f k=eF h f k
 |0,_,_=>rfl
 |f+1,k,e=>by rw[eF,eF,e k (by omega) (by omega),oD f (k+1) λi h1 h2=>e i (by omega) (by omega)]
theorem tR {g h:Nat->Int}:∀f k,eF g f k=eF h f k->∀i,k<=i->i<k+f->g i=h i
 |0,_,_,i,h1,h2=>by omega
 |f+1,k,e,i,h1,h2=>by
  rw[eF,eF,List.cons.injEq]at e;by_cases hi:i=k
  .subst hi;exact e.1
  .exact tR f (k+1) e.2 i (by omega) (by omega)
def dn (f:Nat->Mv)(n:Nat)(T:Nat->Int):List Int:=sumTo f T n::ba f T n::eF T n 0
def ck (f:Nat->Mv)(n:Nat)(b:Option (Nat->Int))(l:List Nat):Option (Nat->Int):=
 match bK f (pl l) n with
 |none=>b
 |some T=>match b with
  |none=>some T
  |some S=>if dw (dn f n T) (dn f n S)=true then some T else some S
def dc (f:Nat->Mv)(n:Nat)(L:List (List Nat)):Option (Nat->Int):=L.foldl (ck f n) none
theorem jp (f:Nat->Mv)(n:Nat)(T:Nat->Int):(dn f n T).length=n+2:=by simp[dn,jo]
theorem jI (f:Nat->Mv)(n:Nat)(o:Option (Nat->Int)):∀l,o.map (dn f n)=some l->l.length=n+2:=by
 intro l h;cases o with
 |none=>simp at h
 |some T=>simp at h;rw[<-h];exact jp f n T
theorem vo (f:Nat->Mv)(n:Nat)(b:Option (Nat->Int))(l:List Nat):
  (ck f n b l=b\/ck f n b l=bK f (pl l) n)/\bw (b.map (dn f n)) ((ck f n b l).map (dn f n))=false/\bw ((bK f (pl l) n).map (dn f n)) ((ck f n b l).map (dn f n))=false:=by
 unfold ck;cases h:bK f (pl l) n with
 |none=>exact⟨.inl rfl,cj _,rfl⟩
 |some T=>
  cases b with
  |none=>exact⟨.inr rfl,rfl,cj _⟩
  |some S=>
   by_cases hp:dw (dn f n T) (dn f n S)=true
   .simp only[hp,if_true];refine⟨.inr (by trivial),?_,cj _⟩;cases hq:bw (some (dn f n S)) (some (dn f n T))with
    |false=>exact hq
    |true=>exact absurd (jm (a:=some (dn f n T)) (b:=some (dn f n S)) (c:=some (dn f n T)) hp hq) (by rw[cj];simp)
   .simp only[hp];exact⟨.inl rfl,cj _,by simpa[bw]using hp⟩
theorem tS (f:Nat->Mv)(n:Nat):∀(L:List (List Nat)) (b:Option (Nat->Int)),(L.foldl (ck f n) b=b\/∃l∈L,L.foldl (ck f n) b=bK f (pl l) n)/\bw (b.map (dn f n)) ((L.foldl (ck f n) b).map (dn f n))=false/\∀l∈L,bw ((bK f (pl l) n).map (dn f n)) ((L.foldl (ck f n) b).map (dn f n))=false
 |[],b=>⟨.inl rfl,cj _,λl hl=>by simp at hl⟩
 |l::L,b=>by
  obtain⟨h1,h2,h3⟩:=vo f n b l;obtain⟨k1,k2,k3⟩:=tS f n L (ck f n b l);rw[List.foldl_cons];refine⟨?_,iE (jI f n _) (jI f n _) (jI f n _) h2 k2,λx hx=>?_⟩
  .rcases k1 with e|⟨x,hx,e⟩
   .rw[e];exact h1.elim .inl λe=>.inr ⟨l,by simp,e⟩
   .exact .inr ⟨x,by simp[hx],e⟩
  .rcases List.mem_cons.1 hx with rfl|hx
   .exact iE (jI f n _) (jI f n _) (jI f n _) h3 k2
   .exact k3 x hx
end
section
open Go.RowKit
theorem me {w w':World}{base:Nat}{e:TypeId}{size g n cap:Nat}{xs:List Value}(h:w.ownsRow base e size (.slice (some ⟨g,0,none⟩) n cap) n xs)(hb:Below w.heap.size w w'):w'.ownsRow base e size (.slice (some ⟨g,0,none⟩) n cap) n xs:=by
 obtain⟨h1,h2|⟨g',cap',cur,h2,h3,h4,h5⟩⟩:=h
 .exact absurd h2.1 (by simp)
 .exact⟨h1,.inr ⟨g',cap',cur,h2,h3,(hb.block g' (Gp.1 h4).1).trans h4,h5⟩⟩
theorem ic {w:World}{base g:Nat}{e:TypeId}(hg:base<=g)(h:w.heap[g]?=some (.cells #[] e (0,0))):w.ownsRow base e 1 (.slice (some ⟨g,0,none⟩) 0 0) 0 []:=
 ⟨rfl,.inr ⟨g,0,#[],rfl,hg,h,Gm _,Gs _,rfl,rfl⟩⟩
theorem oG {w:World}{base:Nat}{e:TypeId}{size g n cap:Nat}{xs:List Value}(h:w.ownsRow base e size (.slice (some ⟨g,0,none⟩) n cap) n xs):g<w.heap.size/\n<=cap:=by
 obtain⟨h1,h2|⟨g',cap',cur,h2,h3,h4,h5⟩⟩:=h
 .exact absurd h2.1 (by simp)
 .simp at h2;obtain⟨rfl,rfl⟩:=h2;exact⟨(Gp.1 h4).1,h5.1⟩
theorem js (B o j:Nat):(⟨B,o,none⟩:Addr).add j=⟨B,o+j,none⟩:=by unfold Addr.add;split<;>simp_all
theorem ie {W:World}{blk:Nat}{v:Value}{T:TypeId}(h:W.heap[blk]?=some (.cells #[v] T (0,0))):∀(j:Nat) (u:Value),[v][j]?=some u->W.cell? ((⟨blk,0,none⟩:Addr).add j)=some u:=λj u hu=>by
 match j,hu with
 |0,hu=>rw[js,cell_of_row _ _ _ _ _ _ h];simpa using hu
theorem fj {w:World}{base base':Nat}{e:TypeId}{size:Nat}{v:Value}{n:Nat}{xs:List Value}(h:w.ownsRow base e size v n xs)(hb:base'<=base):w.ownsRow base' e size v n xs:=by
 obtain⟨h1,h2|⟨g,cap,cur,h2,h3,h4⟩⟩:=h
 .exact⟨h1,.inl h2⟩
 .exact⟨h1,.inr ⟨g,cap,cur,h2,Gq hb h3,h4⟩⟩
theorem dK {w:World}{base:Nat}{e:TypeId}{size:Nat}{v:Value}{n:Nat}{xs:List Value}(h:w.ownsRow base e size v n xs)(r:Nat)(hr:v.ownBlock=some r):base<=r:=by
 obtain⟨h1,h2|⟨g,cap,cur,h2,h3,h4⟩⟩:=h
 .rw[h2.1]at hr;cases hr
 .rw[h2]at hr;simp[Value.ownBlock]at hr;omega
theorem jt {w:World}{base:Nat}{e:TypeId}{size:Nat}{v:Value}{n:Nat}{xs:List Value}(h:w.ownsRow base e size v (n+1) xs):∃B c,v=.slice (some ⟨B,0,none⟩) (n+1) c:=by
 obtain⟨h1,h2|⟨g,cap,cur,h2,h3,h4⟩⟩:=h
 .omega
 .exact⟨g,cap,h2⟩
theorem bZ {P:Program}{ops:Array Oper}{o:Oper}{a:Act}{w:World}{K:Act->World->Prop}{Q:Exit->Act->World->Prop}{E:Prop}
  (hg:o.guard=none)(s x:Operand)(t:TypeId)(hop:o.op=Op.call {callee:=Callee.builtin Builtin.append,args:=#[s,x],argTypes:=#[t,t]})
  (e:TypeId)(i:TypeInfo)(z:Value)(size bytes:Nat)(h1:P.underlying t=some (.slice e))(h2:P.info? e=some i)(h3:i.zero=some z)(h4:i.size=size)(h5:i.bytes=bytes)(h6:z.cells.size=size)(h7:0<size)
  (base:Nat)(v:Value)(n:Nat)(olds:List Value)(hs:a.eval s=v)(hown:w.ownsRow base e size v n olds)
  (ad:Addr)(m c:Nat)(news:List Value)(hx:a.eval x=.slice (some ad) m c)(hn:news.length=m*size)(hc:∀j u,news[j]?=some u->w.cell? (ad.add j)=some u)(h1c:∀u∈news,u.oneCell'=true)
  (b1:n+m<=maxLen)(b2:(n+m)*bytes<=140737488355328)(hb:base<=w.heap.size)
  (hK:∀v' w',w'.ownsRow base e size v' (n+m) (olds++news)->w.grownBy w' v.ownBlock->K (a.put o.dst v') w'):
  if Region.wanted o (yielded ops a.tmps)=true then Oper.wp P o a w K Q else E:=by
 have hw:Region.wanted o (yielded ops a.tmps)=true:=by simp[Region.wanted,hg]
 rw[if_pos hw];obtain⟨v',w',hrun,r1,r2,_⟩:=run_append_own (P:=P) w base t o.type e i z size bytes h1 h2 h3 h4 h5 h6 h7 v n olds hown ad m c news hn hc h1c b1 b2 hb;unfold Oper.wp;simp[execOp,hop,resolve,invoke,builtin,hs,hx,hrun,Result.andThen];exact hK v' w' r1 r2
end
