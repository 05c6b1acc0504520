import Derived.Test.YtlmcblcijndipaaGreatDoora32
set_option linter.defProp false
set_option linter.unusedVariables false
namespace Go.Proofs.YtlmcblcijndipaaGreatDoor
open RowKit
variable {iV:Int}{m:Mv}{i k n p:Nat}{t:Nat->Int}{f g:Nat->Mv}
section
variable {l:List Mv}
def sw:Mv:=⟨ByteArray.empty,false,0,0,0,0⟩
def jz (l:List Mv)(i:Nat):Mv:=l.getD i sw
def Cx (h:i<l.length):jz l i=l[i]:=by simp[jz,h]
def Cy (h:i<l.length):jz l i∈l:=by rw[Cx h];exact List.getElem_mem h
def I0:jz (l++[m]) i=if i=l.length then m else jz l i:=by
 unfold jz;rw[List.getD_eq_getElem?_getD,List.getD_eq_getElem?_getD,List.getElem?_append];split
 .rw[if_neg aa]
 .split
  .rename_i h1 h2;subst h2;simp
  .rename_i h1 h2;rw[adg (l:=l) aa,adg cU]
def wU (m:Mv)(tick:Int):Mv:={m with aW:=tick+6,prom:=-1}
def iU (f:Nat->Mv)(t:Nat->Int)(p k:Nat):Mv:=if k=p then wU (f p) (t p)else de (f k) (t k) (t p)
def al (f:Nat->Mv)(t:Nat->Int)(p:Nat):Nat->List Mv
 |0=>[]
 |k+1=>if t k<t p then al f t p k else al f t p k++[iU f t p k]
def jA (m:Mv)(iV:Int):Mv:=if m.prom=-1 then{m with aW:=max m.aW iV}else m
def eD (m:Mv)(iV:Int):Bool:=!(m.prom==-1)||decide (iV<=m.late)
def eB (g:Nat->Mv)(iV:Int)(i:Nat):Mv:=jA (g i) iV
noncomputable def fQ (g:Nat->Mv)(k:Nat)(now shift:Int):Option (Nat->Int):=
 if∀i,i<k->eD (g i) (now+4)=true then lP (eB g<|now+4) k shift (fW (eB g<|now+4) k shift)else none
noncomputable def dV (f:Nat->Mv)(n:Nat)(t:Nat->Int)(p:Nat):Option (Nat->Int):=
 if t p+6<=(f p).late then fQ (jz<|al f t p n) (al f t p n).length (t p) 6 else none
def A6 (f:Nat->Mv)(n:Nat)(t:Nat->Int):Prop:=∀p,p<n->(f p).aj=true->(dV f n t p).isSome=true
def fT (f:Nat->Mv)(t:Nat->Int)(p:Nat):∀k,(al f t p k).length<=k
 |0=>ac5 _
 |k+1=>by
  have:=fT f t p k;simp only[al];split
  .omega
  .simp;omega
def Fb (f:Nat->Mv)(t:Nat->Int)(p k:Nat):(iU f t p k).name=(f k).name:=by
 unfold iU;split
 .rename_i h;subst h;rfl
 .unfold de;split<;>rfl
def qw:∀{k:Nat} {m:Mv},m∈al f t p k->∃i,i<k/\t p<=t i/\m=iU f t p i
 |0,m,h=>by simp[al]at h
 |k+1,m,h=>by
  simp only[al]at h;split at h
  .let⟨i,h1,h2⟩:=qw h;exact⟨i,aa,h2⟩
  .rename_i hk;rcases adx.1 h with h|h
   .let⟨i,h1,h2⟩:=qw h;exact⟨i,aa,h2⟩
   .simp at h;exact⟨k,aa,aa,h⟩
def vg (f:Nat->Mv)(t:Nat->Int)(p:Nat):∀k,List.Sublist ((al f t p k).map Mv.name) ((List.range k).map λi=>(f i).name)
 |0=>by simp[al]
 |k+1=>by
  have ih:=vg f t p k;simp only[al,List.range_succ,List.map_append,List.map_cons,List.map_nil];split
  .exact ih.trans (List.sublist_append_left _ _)
  .rw[List.map_append,List.map_cons,List.map_nil,Fb];exact ih.append<|List.Sublist.refl _
def jS (h:aE f n=true):∀j,j<n->∀i,i<j->bU (f i).name (f j).name=true:=by
 have hs:∀j,j<n->0<j->bU (f<|j-1).name (f j).name=true:=λj hj h0=>by
  unfold aE at h;simp only[Bool.and_eq_true,decide_eq_true_eq,List.all_eq_true,List.mem_range]at h;have:=h.2 j hj;unfold iu at this;simp only[Bool.and_eq_true,Bool.or_eq_true,beq_iff_eq]at this;exact this.2.resolve_left aa
 intro j;induction j with
 |zero=>intro _ i hi;omega
 |succ j ih=>
  intro hj i hi;have h1:=hs (j+1) hj aa;simp only[Nat.add_sub_cancel]at h1;by_cases e:i=j
  .subst e;exact h1
  .exact xK (ih aa i aa) h1
def G4 (h:aE f n=true):((List.range n).map λi=>(f i).name).Pairwise (λa b=>bU a b=true):=by
 rw[List.pairwise_map,List.pairwise_iff_getElem];intro i j hi hj lH;simp only[List.getElem_range];simp at hj;exact jS h j hj i lH
def G1 (h6:l.length<=6)(ez:∀i,i<l.length->(g i).ok=true)(hn:∀i,i<l.length->(g i).name=(jz l i).name)(hp:(l.map Mv.name).Pairwise (λa b=>bU a b=true)):aE g l.length=true:=by
 refine jv h6 λi hi=>?_
 unfold iu;rw[ez i hi];by_cases h0:i=0
 .subst h0;simp
 .rw[List.pairwise_map,List.pairwise_iff_getElem]at hp;have:=hp (i-1) i aa hi aa;rw[hn i hi,hn (i-1) aa,Cx hi,Cx (by omega:i-1<l.length),this];simp
def Mv.I3 {m':Mv}(h:m.ok=true)(hn:m'.name=m.name)(hw:m'.ap=m.ap)(h1:0<=m'.aW)(h2:m'.aW<=m'.late)(h3:m'.late<=10000)(h4:m'.prom=-1\/m'.aW<=m'.prom/\m'.prom<=m'.late):m'.ok=true:=by
 unfold Mv.ok uu xX iL at*;simp only[Bool.and_eq_true,Bool.or_eq_true,decide_eq_true_eq,beq_iff_eq,hn,hw]at*;refine⟨⟨⟨⟨h.1.1.1.1,?_⟩,?_⟩,?_⟩,?_⟩<;>omega
def Ib (hm:aE f n=true)(hf:fk f t n)(hp:p<n)(hl:t p+6<=(f p).late)(hi:i<n):(iU f t p i).ok=true:=by
 have b1:=Mv.fX<|bg hm i hi;have b2:=Mv.fX<|bg hm p hp;have s1:=iR<|hf.1 i hi;have s2:=iR<|hf.1 p hp;unfold iU;split
 .rename_i e;refine Mv.I3 (bg hm p hp) rfl rfl ?_ ?_ ?_ (.inl rfl)<;>simp only[wU]<;>omega
 .unfold de;split
  .refine Mv.I3 (bg hm i hi) rfl rfl b1.1 b1.2.1 b1.2.2.1 (.inr ⟨?_,?_⟩)<;>simp only<;>omega
  .exact bg hm i hi
def EF (h:m.ok=true)(h0:0<=iV)(hr:eD m iV=true):(jA m iV).ok=true:=by
 have b:=Mv.fX h;unfold eD at hr;simp only[Bool.or_eq_true,Bool.not_eq_true',beq_eq_false_iff_ne,ne_eq,decide_eq_true_eq]at hr;unfold jA;split
 .rename_i e;have hle:iV<=m.late:=hr.resolve_left λx=>x e;refine Mv.I3 h rfl rfl ?_ ?_ b.2.2.1 (.inl e)<;>simp only<;>omega
 .exact h
def oh (m:Mv)(iV:Int):(jA m iV).name=m.name:=by unfold jA;split<;>rfl
def uY (hm:aE f n=true)(hf:fk f t n)(hp:p<n)(hl:t p+6<=(f p).late)(hr:∀i,i<(al f t p n).length->eD (jz (al f t p n) i) (t p+4)=true):
  aE (eB (jz<|al f t p n)<|t p+4) (al f t p n).length=true:=by
 have h6:=bZ hm;have hz:=fT f t p n;have b2:=Mv.fX<|bg hm p hp;have s2:=iR<|hf.1 p hp;refine G1 aa (λi hi=>?_) (λi hi=>oh _ _)<|(G4 hm).sublist<|vg f t p n;let⟨k,hk,_,e⟩:=qw<|Cy hi;have:=hr i hi;unfold eB;rw[e]at this⊢;exact EF (Ib hm hf hp hl hk) aa this
def rU (hm:aE f n=true)(hf:fk f t n)(hp:p<n)(hl:t p+6<=(f p).late)(hi:i<(al f t p n).length):(jz (al f t p n) i).ok=true:=by
 let⟨k,hk,_,e⟩:=qw<|Cy hi;rw[e];exact Ib hm hf hp hl hk
end
def dR (f:Nat->Mv)(k:Nat)(m:Mv)(i:Nat):Mv:=if i<k then f i else if i=k then m else f (i-1)
def AQ (hm:aE f n=true)(hn:n<6)(hk:k<=n)(ez:m.ok=true)(h1:∀j,j<k->bU (f j).name m.name=true)(h2:k<n->bU (f k).name m.name=false)(h3:∀j,j<n->bX (f j).name m.name=false):aE (dR f k m) (n+1)=true:=by
 refine jv aa λi hi=>?_
 have df:∀j,j<n->0<j->bU (f<|j-1).name (f j).name=true:=λj hj h0=>jS hm j hj (j-1) aa
 unfold iu;rw[adz,ady,beq_iff_eq];unfold dR;by_cases c1:i<k
 .rw[if_pos c1,if_pos (by omega:i-1<k)];refine⟨bg hm i aa,?_⟩;by_cases h0:i=0
  .exact .inl h0
  .exact .inr (df i aa aa)
 .by_cases c2:i=k
  .rw[if_neg c1,if_pos c2];refine⟨ez,?_⟩;by_cases h0:i=0
   .exact .inl h0
   .rw[if_pos aa];exact .inr<|h1 (i-1) aa
  .rw[if_neg c1,if_neg c2];refine⟨bg hm (i-1) aa,.inr ?_⟩;by_cases c3:i-1=k
   .rw[if_neg aa,if_pos c3,c3];exact Eg (h2 aa)<|h3 k aa
   .rw[if_neg aa,if_neg c3];exact df (i-1) aa aa
def qy (hm:aE f n=true)(hk:k<n):aE (cW f k) (n-1)=true:=by
 have h6:=bZ hm;refine jv aa λi hi=>?_
 unfold iu;rw[adz,ady,beq_iff_eq];unfold cW;by_cases c1:i<k
 .rw[if_pos c1,if_pos (by omega:i-1<k)];refine⟨bg hm i aa,?_⟩;by_cases h0:i=0
  .exact .inl h0
  .exact .inr (jS hm i aa (i-1) aa)
 .rw[if_neg c1];refine⟨bg hm (i+1) aa,?_⟩;by_cases h0:i=0
  .exact .inl h0
  .right;by_cases c3:i-1<k
   .rw[if_pos c3];exact jS hm (i+1) aa (i-1) aa
   .rw[if_neg c3];exact jS hm (i+1) aa (i-1+1) aa
def uV (hm:aE g n=true)(h0:0<=iV)(hr:∀i,i<n->eD (g i) iV=true):aE (eB g iV) n=true:=by
 refine jv (bZ hm) λi hi=>?_
 unfold iu eB;rw[EF (bg hm i hi) h0 (hr i hi),oh,oh];by_cases h:i=0
 .simp[h]
 .rw[jS hm i hi (i-1) aa];simp
def I2 (h:m.ok=true):m.name.size<=8:=by
 unfold Mv.ok uu ik at h;simp only[Bool.and_eq_true,decide_eq_true_eq]at h;exact h.1.1.1.1.1.2
def wL (f:Nat->Mv)(t:Nat->Int)(p k:Nat):List Mv:=(al f t p k).map λm=>jA m<|t p+4
def yi (hl:¬t p+6<=(f p).late):dV f n t p=none:=by unfold dV;rw[if_neg hl]
section
variable {o:Nat->Nat}{T:Nat->Int}
def OF {t:Int}:m.fG t=true<->m.aW<=t/\t<=m.late/\(m.prom=-1\/m.prom=t):=by
 unfold Mv.fG qW;simp only[Bool.and_eq_true,Bool.or_eq_true,beq_iff_eq,ff,and_assoc]
def QH (a b:Mv)(s:Int):a.gP b s s=true:=by
 unfold Mv.gP AF;have:=iJ a.aj a.ap b.ap;simp;omega
def El {a b:Mv}{s t:Int}(h:a.gP b s t=false):b.gP a t s=false:=by
 let⟨h1,h2⟩:=sW h;rcases Int.le_total s t with e|e
 .exact(vK<|h1 e).2
 .exact(vK<|h2 e).1
def Mp (hf:fk f T n){j:Nat}(hi:i<n)(hj:j<n)(h:i≠j):(f i).gP (f j) (T i) (T j)=false/\(f j).gP (f i) (T j) (T i)=false:=by
 rcases ade i j with h'|h'
 .have:=hf.2 j i h' hj;exact⟨this,El this⟩
 .have:=hf.2 i j aa hi;exact⟨El this,this⟩
def DH (hf:fk f T n)(ho:∀i,i<n->o i<n)(hT:∀i j,i<j->j<n->T (o i)<T (o j)):∀i,i<=n->∃S,er f o i=some S/\∀j,j<i->S (o j)<=T (o j)
 |0,_=>⟨_,rfl,λj hj=>absurd hj<|ac9 _⟩
 |i+1,hi=>by
  let⟨S,h1,h2⟩:=DH hf ho hT i aa;have hs:=OF.1<|hf.1 (o i)<|ho i aa;let⟨a1,a2,a3⟩:=jR (f:=f) (o:=o) (T:=S) (p:=o i) i;have hl:aY f o S (o i) i<=T (o i):=by
   rcases a3 with e|⟨k,hk,e⟩
   .omega
   .have aB:=hT k i hk aa;have hne:o k≠o i:=λe=>by rw[e]at aB;omega
    have:=(sW (Mp hf (ho k aa) (ho i aa) hne).1).1 aa;have:=h2 k hk;omega
  clear a1 a2 a3;have hk:gN (f<|o i) (aY f o S (o i) i)=true:=by
   unfold gN;simp only[decide_eq_true_eq];split<;>omega
  refine⟨_,sH h1 hk,λj hj=>?_⟩;by_cases e:o j=o i
  .rw[if_pos e,e];unfold ij;split<;>omega
  .rw[if_neg e];exact h2 j (by rcases ade j i with h|h;exact h;exact absurd (by rw[show j=i by omega]) e)
open Classical in
def wR (f:Nat->Mv):∀n,∃g,dt f n g
 |0=>⟨id,⟨λi hi=>absurd hi<|ac9 _,λi j _ hj=>absurd hj<|ac9 _⟩⟩
 |n+1=>by
  let⟨g,h⟩:=wR f n;have hk:∀m,m<=n->(∀j,j<m->nA f (g j) n)->∃k,k<=n/\(∀j,j<k->nA f (g j) n)/\(k<n->¬nA f (g k) n):=by
   intro m hm;induction hd:n-m generalizing m with
   |zero=>exact λh=>⟨m,hm,h,λh'=>aa⟩
   |succ d ih=>
    intro h';by_cases hb:nA f (g m) n
    .refine ih (m+1) aa aa λj hj=>?_
     by_cases e:j=m
     .rw[e];exact hb
     .exact h' j aa
    .exact⟨m,hm,h',λ_=>hb⟩
  let⟨k,h1,h2,h3⟩:=hk 0 aa λj hj=>absurd hj<|ac9 _
  exact⟨oB g k n,ma h h1 h2 h3⟩
open Classical in
def AX {a b:Nat->Int}:∀m,m<=n->(∀i k:Nat,i<n->k<n->a i=b k->(i:Int)-k<=m/\(k:Int)-i<=m)->∃r,ew a b n r
 |0,hm,h=>⟨0,⟨aa,aa,λi k hi hk e=>by have:=h i k hi hk e;omega,.inl rfl⟩⟩
 |m+1,hm,h=>by
  by_cases h':∀i k:Nat,i<n->k<n->a i=b k->(i:Int)-k<=m/\(k:Int)-i<=m
  .exact AX m aa h'
  .simp only[Classical.not_forall]at h';let⟨i,k,hi,hk,e,hn⟩:=h';have:=h i k hi hk e;refine⟨(m:Int)+1,⟨aa,aa,λi k hi hk e=>by have:=h i k hi hk e;omega,.inr ⟨i,k,hi,hk,e,aa⟩⟩⟩
def NC (h6:n<=6)(l:List Nat):fW f n 6 l=true:=by
 let⟨g,hg⟩:=wR f n;let⟨r,hr⟩:=AX (a:=λi=>((pl l i:Nat):Int)) (b:=λi=>((g i:Nat):Int)) n (ac5 _) λi k hi hk _=>aa;exact AG.2 ⟨g,r,hg,hr,by have:=hr.high;omega⟩
def JE (hm:aE f n=true)(hf:fk f T n):(lP f n 6<|fW f n 6).isSome=true:=by
 have h6:=bZ hm;let⟨o,ho⟩:=wR (λi=>{f i with aW:=T i,prom:=-1}) n;have hT:∀i j,i<j->j<n->T (o i)<T (o j):=λi j lH hj=>by
  have hk:∀x,({f x with aW:=T x,prom:=-1}:Mv).key=T x:=λx=>by simp[Mv.key]
  have hne:=ho.inj i j lH hj;have hn:=(Mp hf (ho.low i aa) (ho.low j hj) hne).1;have hd:T (o i)≠T (o j):=λe=>by rw[e,QH]at hn;cases hn
  rcases ho.R1 i j lH hj with h|⟨h,_⟩
  .rw[hk,hk]at h;exact h
  .rw[hk,hk]at h;exact absurd h hd
 let⟨l,hl,hp⟩:=wo ho.low ho.inj;let⟨S,hS,_⟩:=DH (o:=pl l) hf (λi hi=>by rw[hp i hi];exact ho.low i hi) (λi j lH hj=>by rw[hp i aa,hp j hj];exact hT i j lH hj) n<|ac5 _;unfold lP;rw[if_pos ⟨hm,aa,aa⟩];let⟨_,_,h3⟩:=sF f n ((aQ n).filter<|fW f n 6) none;change ∀l∈(aQ n).filter (fW f n 6),dD _ ((eY f n<|(aQ n).filter<|fW f n 6).map<|f7 f n)=false at h3;have:=h3 l<|List.mem_filter.2 ⟨hl,NC h6 l⟩;rw[hS]at this;cases hb:eY f n ((aQ n).filter<|fW f n 6)with
 |none=>rw[hb]at this;simp[dD]at this
 |some _=>rfl
end
