import Derived.Test.YtlmcblcijndipaaGreatM21
import Derived.Test.YtlmcblcijndipaaGreatM11
import Derived.Test.YtlmcblcijndipaaGreatM38
import Derived.Test.YtlmcblcijndipaaGreatM20
set_option linter.unusedVariables false
set_option linter.unusedSectionVars false
namespace Go.Proofs.YtlmcblcijndipaaGreat
open Go Go.Conc Go.RowKit
def ltTry (y x:TryV):Bool:=decide (ie y x<0)
theorem pv:∀(xs:List TryV) (i:Nat) (y:TryV) (o:Nat),xs[i]?=some y->o<4->(xs.flatMap TryV.cells)[i*4+o]?=y.cells[o]?
 |[],i,y,o,h,_=>by simp at h
 |x::xs,0,y,o,h,ho=>by
  simp only[List.getElem?_cons_zero,Option.some.injEq]at h;subst h;rw[List.flatMap_cons,Nat.zero_mul,Nat.zero_add,List.getElem?_append_left (by simp[TryV.cells];exact ho)]
 |x::xs,i+1,y,o,h,ho=>by
  simp only[List.getElem?_cons_succ]at h;have hl:x.cells.length=4:=rfl;rw[List.flatMap_cons,List.getElem?_append_right (by rw[hl];omega),hl,show(i+1)*4+o-4=i*4+o by omega];exact pv xs i y o h ho
theorem rJ {V:World}{b:Nat}{xs:List TryV}{T:TypeId}{z:Nat×Nat}(h:V.heap[b]?=some (.cells (xs.flatMap TryV.cells).toArray T z))(hx:∀x∈xs,bV V x.a x.n x.g/\x.n<=1048576):tq V b 0 xs.length (λi=>xs.getD i noTry):=by
 intro i hi;have hg:xs[i]?=some (xs.getD i noTry):=by simp[hi]
 have hm:xs.getD i noTry∈xs:=List.mem_of_getElem? hg;have hc:∀o,o<4->V.cell? ⟨b,0+i*4+o,none⟩=(xs.getD i noTry).cells[o]?:=λo ho=>by
  rw[<-pv xs i _ o hg ho];simp[World.cell?,h]
 show zv V b (0+i*4) (xs.getD i noTry);generalize xs.getD i noTry=y at hm hc;exact⟨hc 0 (by omega),hc 1 (by omega),hc 2 (by omega),hc 3 (by omega),(hx y hm).1,(hx y hm).2⟩
theorem rK (J:Jb)(hJ:J.lt=ltTry)(xs:List TryV):∀k,k<=xs.length->aT (λi=>xs.getD i noTry) k=J.leastL (xs.take k):=by
 intro k;induction k with
 |zero=>intro _;rfl
 |succ k ih=>
  intro hk;have hlt:k<xs.length:=by omega
  simp only[aT,ih (by omega)];rw[List.take_succ_eq_append_getElem hlt];have hg:xs.getD k noTry=xs[k]:=by simp[hlt]
  rw[hg];cases k with
  |zero=>simp[Jb.leastL]
  |succ k=>
   cases xs with
   |nil=>simp at hlt
   |cons x xs=>
    simp only[List.take_succ_cons,List.cons_append,Jb.leastL,List.foldl_append,List.foldl_cons,List.foldl_nil,Jb.pick,hJ,ltTry];simp
theorem tu (J:Jb)(hJ:J.lt=ltTry)(V:World)(b:Nat)(xs:List TryV)(z:Nat×Nat)(hl:xs.length<=1048576)(h:V.heap[b]?=some (.cells (xs.flatMap TryV.cells).toArray 50 z))(hx:∀x∈xs,bV V x.a x.n x.g/\x.n<=1048576):
  Calls Tryz0.prog 51 #[.slice (some ⟨b,0,none⟩) xs.length xs.length,.func (.func 52) #[] #[]] V λe w'=>e=.returned (J.leastL xs).val/\Below V.heap.size V w':=by
 have hb:b<V.heap.size:=(Array.getElem?_eq_some_iff.1 h).1;refine(rE b 0 xs.length xs.length (λi=>xs.getD i noTry) V hl hb (rJ h hx)).mono ?_;rintro e w' ⟨rfl,h2⟩;rw[rK J hJ xs _ (Nat.le_refl _),List.take_length];exact⟨rfl,h2⟩
section
variable [Gl]
theorem A6 {ok:Ctx}{M:Nat->Prop}{w:World}{b off n cap nb no nn:Nat}{f:Nat->Mv}{tb toff tc:Nat->Nat}{o:Nat->Nat->Nat}(hm:ap f n=true)
  (hrow:aw w b off n f)(hpb:aM w b)(mb:M b)(mnb:M nb)(hnear:∀i,i<nn->w.cell? ⟨nb,no+i,none⟩=some (.slice (some ⟨tb i,toff i,none⟩) n (tc i)))
  (mtb:∀i,i<nn->M (tb i))(hpt:∀i,i<nn->aM w (tb i))(htc:∀i,i<nn->n<=tc i)(hti:∀i,i<nn->ak w (tb i) (toff i) n (λj=>(o i j:Int)))(ho:∀i,i<nn->∀j,j<n->o i j<n)(hd:∀i,i<nn->∀j k,j<k->k<n->o i j≠o i k)
  (hok:ok.inn 101=true/\ok.inn 51=true/\ok.fn 52=true):
  uV Tryz0.prog ok M w (some ⟨b,off,none⟩) n cap nb no nn (λi=>.slice (some ⟨tb i,toff i,none⟩) n (tc i)) (λi x=>i<nn/\(x=b\/x=tb i)) (λi x=>cG f n (o i) x) ltTry:=by
 have n6:=aR hm;have hplain:∀{S:Nat->Prop} {W₁:World} {x:Nat},aM w x->W₁.heap[x]?=w.heap[x]?->∃cs e,W₁.heap[x]?=some (.cells cs e (0,0))/\∀v∈cs,aj ok (jL S) v v:=by
  rintro S W₁ x ⟨cs,e,h1,h2⟩ hk;refine⟨cs,e,hk.trans h1,λv hv=>?_⟩;rcases h2 v hv with⟨x,rfl⟩|⟨k,x,rfl⟩|⟨s,rfl⟩
  .exact .bool _
  .exact .int _ _
  .exact .string _
 refine⟨mnb,hnear,λi x hx=>?_,λi hi W₁ k=>⟨λx hx=>?_⟩,λi hi=>.slice _ _ ⟨cX.2 ⟨⟨hi,.inl rfl⟩,rfl⟩,rfl,rfl⟩,λi hi=>.slice _ _ ⟨cX.2 ⟨⟨hi,.inr rfl⟩,rfl⟩,rfl,rfl⟩,λi hi F W₁ k τ d=>?_,?_,λV b xs z h1 h2 h3=>tu _ rfl V b xs z h1 h2 h3,hok⟩
 .obtain⟨hi,rfl|rfl⟩:=hx
  .exact mb
  .exact mtb i hi
 .have hk:=k.block x (.inr ⟨i,hx⟩);obtain⟨_,rfl|rfl⟩:=hx
  .exact hplain hpb hk
  .exact hplain (hpt i hi) hk
 .have kb:=k.block b (.inr ⟨i,hi,.inl rfl⟩);have kt:=k.block (tb i) (.inr ⟨i,hi,.inr rfl⟩);have cb:∀j,(re (cK F W₁) τ d).cell? ⟨b,j,none⟩=w.cell? ⟨b,j,none⟩:=λj=>(jM F W₁ _).trans (by simp only[World.cell?,kb])
  have ct:∀j,(re (cK F W₁) τ d).cell? ⟨tb i,j,none⟩=w.cell? ⟨tb i,j,none⟩:=λj=>(jM F W₁ _).trans (by simp only[World.cell?,kt])
  have hz:(re (cK F W₁) τ d).heap.size=W₁.heap.size:=eI F W₁;have lt_of:∀x,aM w x->x<W₁.heap.size:=λx hx=>by obtain⟨cs,e,h1,_⟩:=hx;exact Nat.lt_of_lt_of_le (Array.getElem?_eq_some_iff.1 h1).1 k.size
  have hr:aw (re (cK F W₁) τ d) b off n f:=λj hj=>by
   obtain⟨c0,c1,c2,c3,c4,c5⟩:=hrow j hj;exact⟨(cb _).trans c0,(cb _).trans c1,(cb _).trans c2,(cb _).trans c3,(cb _).trans c4,(cb _).trans c5⟩
  refine(qn b off n cap f (tb i) (toff i) (tc i) (o i) _ hm (ho i hi) (hd i hi) (htc i hi) (by rw[hz];exact lt_of b hpb) hr (by rw[hz];exact lt_of _ (hpt i hi)) (λj hj=>(ct _).trans (hti i hi j hj))).mono ?_;rintro e w' ⟨x,rfl,h1,h2,h3⟩;refine⟨x,rfl,h1,?_,?_,λa ha=>?_,λa ha=>?_⟩
  .unfold cG at h1;cases ha:x.a with
   |none=>
    split at h1
    .exact absurd ha h1.2.2.2.2.2.2
    .exact .inl h1.2.2.2.1
   |some a=>
    obtain⟨B,rfl,_,hO⟩:=h2 a ha;split at h1
    .refine .inr ⟨B,0,rfl,?_⟩;rw[h1.2.2.2.1];exact hO.2
    .rw[h1.2.2.2.2.2]at ha;cases ha
  .unfold cG at h1;split at h1
   .rw[h1.2.2.2.1];omega
   .rw[h1.2.2.2.1];omega
  .obtain⟨B,rfl,hB,⟨cs,g1,g2⟩,g3⟩:=h2 a ha;refine⟨rfl,by rw[<-hz];exact hB,cs,_,g1,λv hv=>?_⟩;obtain⟨j,hj,rfl⟩:=Array.mem_iff_getElem.1 hv;have:=g3 j (by omega);simp only[World.cell?,g1,Nat.zero_add]at this;rw[Array.getElem?_eq_getElem hj]at this;exact⟨_,Option.some.inj this⟩
  .obtain⟨B,rfl,hB,⟨cs,g1,g2⟩,g3⟩:=h2 a ha;refine⟨rfl,cs,g1,?_⟩;unfold cG at h1;split at h1
   .rw[g2,h1.2.2.2.1]
   .rw[h1.2.2.2.2.2]at ha;cases ha
 .intro i x a' h1 h2;unfold cG at h1⊢;split at h1
  .refine⟨h1.1,h1.2.1,h1.2.2.1,h1.2.2.2.1,h1.2.2.2.2.1,h1.2.2.2.2.2.1,λe=>h1.2.2.2.2.2.2 (h2.2 e)⟩
  .exact⟨h1.1,h1.2.1,h1.2.2.1,h1.2.2.2.1,h1.2.2.2.2.1,h2.1 h1.2.2.2.2.2⟩
end
end Go.Proofs.YtlmcblcijndipaaGreat
namespace Go.Proofs.YtlmcblcijndipaaGreat
open Go Go.RowKit
theorem nN (g h:Nat->Int)(n:Nat):∀f k,k+f=n->decide (eK g h n n f k<0)=dw (dO g f k) (dO h f k)
 |0,k,_=>by simp[eK,dO,dw]
 |f+1,k,e=>by
  rw[eK,if_neg (by omega),dO,dO,dw];unfold eZ;by_cases h1:g k=h k
  .rw[h1];simp only[Int.lt_irrefl,if_false,if_true];exact nN g h n f (k+1) (by omega)
  .rw[if_neg h1];by_cases h2:g k<h k
   .rw[if_pos h2];simp[h2]
   .have h3:h k<g k:=by omega
    rw[if_neg h2,if_pos h3];simp[h2]
def TryV.key (x:TryV):Option (List Int):=if x.ok=true then some (x.sum::x.most::dO x.g x.n 0)else none
def fe (n:Nat)(x:TryV):Prop:=if x.ok=true then x.n=n else x.sum=0/\x.most=0/\x.n=0
theorem fe.len {n:Nat}{x:TryV}(h:fe n x):∀l,x.key=some l->l.length=n+2:=by
 intro l hl;unfold TryV.key at hl;unfold fe at h;split at hl
 .rename_i e;rw[if_pos e]at h;obtain rfl:=Option.some.inj hl;simp[iX,h]
 .cases hl
theorem yE (n:Nat):fe n noTry:=by simp[fe,noTry]
theorem yF (a b c:Int):decide (uo a b c<0)=if a=0 then(if b=0 then decide (c<0)else decide (b<0))else decide (a<0):=by
 unfold uo;split<;>(try split)<;>rfl
theorem vg {a b:Int}:eZ a b=0<->a=b:=by unfold eZ;split<;>(try split)<;>omega
theorem wT {a b:Int}:eZ a b<0<->a<b:=by unfold eZ;split<;>(try split)<;>omega
theorem pw {n:Nat}{x y:TryV}(hx:fe n x)(hy:fe n y):ltTry x y=bv x.key y.key:=by
 unfold ltTry ie TryV.key;unfold fe at hx hy;cases h1:x.ok<;>cases h2:y.ok<;>simp only[h1,h2,if_true,if_false,Bool.false_eq_true,Bool.true_eq_false,bv]at hx hy⊢
 .rw[hx.1,hx.2.1,hx.2.2,hy.1,hy.2.1,hy.2.2];simp[uo,eZ,eK]
 .simp
 .simp
 .rw[hx,hy,yF,nN _ _ _ n 0 (by omega),dw,dw];simp only[vg,wT]
theorem cG.good {f:Nat->Mv}{n:Nat}{o:Nat->Nat}{x:TryV}(h:cG f n o x):fe n x:=by
 unfold cG at h;unfold fe;split at h
 .rw[if_pos h.1];exact h.2.2.2.1
 .rw[if_neg (by rw[h.1];simp)];exact⟨h.2.1,h.2.2.1,h.2.2.2.1⟩
theorem cG.key {f:Nat->Mv}{n:Nat}{o:Nat->Nat}{x:TryV}(h:cG f n o x):x.key=(bZ f o n).map (dq f n):=by
 unfold cG at h;unfold TryV.key;split at h
 .rename_i T e;rw[if_pos h.1,h.2.1,h.2.2.1,h.2.2.2.1,nM n 0 (λi _ hi=>h.2.2.2.2.2.1 i (by omega)),e];rfl
 .rename_i e;rw[if_neg (by rw[h.1];simp),e];rfl
structure uv (J:Jb)(n:Nat)(seq:List Nat)(x:TryV):Prop where
 is:x=noTry\/∃i∈seq,J.Is i x
 all:∀i∈seq,∃y,J.Is i y/\bv y.key x.key=false
section
variable {J:Jb}{f:Nat->Mv}{n:Nat}{o:Nat->Nat->Nat}(hlt:J.lt=ltTry)(hIs:J.Is=λi x=>cG f n (o i) x)
include hlt hIs
theorem uv.good {seq:List Nat}{x:TryV}(h:uv J n seq x):fe n x:=by
 rcases h.is with rfl|⟨i,_,hi⟩
 .exact yE n
 .rw[hIs]at hi;exact cG.good hi
theorem oz {seq:List Nat}{x:TryV}(h:m8 J seq x):uv J n seq x:=by
 induction h with
 |nil=>exact⟨.inl rfl,λi hi=>by simp at hi⟩
 |@snoc seq i x y hb hi ih=>
  have gx:=ih.good hlt hIs;have gy:fe n y:=by rw[hIs]at hi;exact cG.good hi
  have hk:J.lt y x=bv y.key x.key:=by rw[hlt];exact pw gy gx
  unfold Jb.pick;rw[hk];by_cases hp:bv y.key x.key=true
  .rw[if_pos hp];refine⟨.inr ⟨i,by simp,hi⟩,λk hk=>?_⟩;rcases List.mem_append.1 hk with hk|hk
   .obtain⟨z,hz,hz'⟩:=ih.all k hk;have gz:fe n z:=by rw[hIs]at hz;exact cG.good hz
    exact⟨z,hz,vf gx.len gy.len hz' hp gz.len⟩
   .simp at hk;subst hk;exact⟨y,hi,cp _⟩
  .rw[if_neg hp];refine⟨?_,λk hk=>?_⟩
   .rcases ih.is with e|⟨k,hk,e⟩
    .exact .inl e
    .exact .inr ⟨k,by simp[hk],e⟩
   .rcases List.mem_append.1 hk with hk|hk
    .exact ih.all k hk
    .simp at hk;subst hk;exact⟨y,hi,by simpa using hp⟩
theorem jU:∀(xs:List TryV) (x:TryV),fe n x->(∀y∈xs,fe n y)->fe n (xs.foldl J.pick x)/\(xs.foldl J.pick x=x\/xs.foldl J.pick x∈xs)/\bv x.key (xs.foldl J.pick x).key=false/\∀y∈xs,bv y.key (xs.foldl J.pick x).key=false
 |[],x,gx,_=>⟨gx,.inl rfl,cp _,λy hy=>by simp at hy⟩
 |y::xs,x,gx,h=>by
  have gy:=h y (by simp);have hk:J.lt y x=bv y.key x.key:=by rw[hlt];exact pw gy gx
  rw[List.foldl_cons];by_cases hp:bv y.key x.key=true
  .have e:J.pick x y=y:=by unfold Jb.pick;rw[hk,if_pos hp]
   rw[e];obtain⟨a,b,c,d⟩:=jU xs y gy λz hz=>h z (by simp[hz])
   refine⟨a,b.elim (λe=>.inr (by simp[e])) (λe=>.inr (by simp[e])),?_,λz hz=>?_⟩
   .cases hx:bv x.key (xs.foldl J.pick y).key with
    |false=>rfl
    |true=>rw[iV hp hx]at c;cases c
   .rcases List.mem_cons.1 hz with rfl|hz
    .exact c
    .exact d z hz
  .have e:J.pick x y=x:=by unfold Jb.pick;rw[hk,if_neg hp]
   rw[e];obtain⟨a,b,c,d⟩:=jU xs x gx λz hz=>h z (by simp[hz])
   refine⟨a,b.elim .inl (λe=>.inr (by simp[e])),c,λz hz=>?_⟩;rcases List.mem_cons.1 hz with rfl|hz
   .exact ij gy.len gx.len a.len (by simpa using hp) c
   .exact d z hz
end
theorem vh {f:Nat->Mv}{n nn:Nat}{o:Nat->Nat->Nat}{x:TryV}(h:AS ltTry (λi x=>cG f n (o i) x) nn x):
  (x=noTry\/∃k,k<nn/\cG f n (o k) x)/\∀k,k<nn->bv ((bZ f (o k) n).map (dq f n)) x.key=false:=by
 obtain⟨J,xs,seq,hlt,hIs,h4,hB,hall,hlow,rfl⟩:=h;have hL:∀i y,xs[i]?=some y->uv J n (seq i) y:=λi y hy=>oz hlt hIs (hB i y hy)
 have hg:∀y∈xs,fe n y:=λy hy=>by
  obtain⟨i,hi⟩:=List.getElem?_of_mem hy;exact(hL i y hi).good hlt hIs
 match xs,h4,hL,hg with
 |x::r,h4,hL,hg=>
  obtain⟨a,b,c,d⟩:=jU hlt hIs r x (hg x (by simp)) λy hy=>hg y (by simp[hy])
  have hle:∀y∈x::r,bv y.key (r.foldl J.pick x).key=false:=λy hy=>by
   rcases List.mem_cons.1 hy with rfl|hy
   .exact c
   .exact d y hy
  have hmem:r.foldl J.pick x∈x::r:=b.elim (λe=>by rw[e];simp) (λe=>by simp[e]);refine⟨?_,λk hk=>?_⟩
  .obtain⟨i,hi⟩:=List.getElem?_of_mem hmem;have hi4:i<4:=by have:=(List.getElem?_eq_some_iff.1 hi).1;omega
   rcases(hL i _ hi).is with e|⟨k,hk,e⟩
   .exact .inl e
   .rw[hIs]at e;exact .inr ⟨k,hlow i hi4 k hk,e⟩
  .obtain⟨i,hi,hm⟩:=hall k hk;obtain⟨y,hy⟩:∃y,(x::r)[i]?=some y:=⟨_,List.getElem?_eq_getElem (by omega)⟩;have hyL:=hL i y hy;obtain⟨z,hz,hz'⟩:=hyL.all k hm;rw[hIs]at hz;rw[<-cG.key hz];exact ij (cG.good hz).len (hyL.good hlt hIs).len a.len hz' (hle y (List.mem_of_getElem? hy))
theorem wU {f:Nat->Mv}{n:Nat}{L:List (List Nat)}{x:TryV}(h:AS ltTry (λi x=>cG f n (pl (L.getD i [])) x) L.length x):
  match df f n L with
  |some T=>x.ok=true/\x.n=n/\x.cap=n/\x.a≠none/\∀i,i<n->x.g i=T i
  |none=>x.ok=false/\x.n=0/\x.cap=0/\x.a=none:=by
 obtain⟨h1,h2⟩:=vh (o:=λi=>pl (L.getD i [])) h;obtain⟨k1,_,k3⟩:=rP f n L none;change (df f n L=none\/∃l∈L,df f n L=bZ f (pl l) n)at k1;change ∀l∈L,bv _ ((df f n L).map (dq f n))=false at k3;have hG:∀k,k<L.length->L.getD k []∈L:=λk hk=>by simp[hk]
 have hI:∀l∈L,∃k,k<L.length/\L.getD k []=l:=λl hl=>by
  obtain⟨k,hk⟩:=List.getElem?_of_mem hl;exact⟨k,(List.getElem?_eq_some_iff.1 hk).1,by simp[List.getD,hk]⟩
 have hno:x.ok=false->x.n=0/\x.cap=0/\x.a=none/\x.key=none:=λe=>by
  refine and_assoc.1 (and_assoc.1 ⟨?_,by simp[TryV.key,e]⟩)|>λh=>h
  rcases h1 with rfl|⟨k,hk,h1⟩
  .exact⟨⟨rfl,rfl⟩,rfl⟩
  .unfold cG at h1;split at h1
   .rw[h1.1]at e;cases e
   .exact⟨⟨h1.2.2.2.1,h1.2.2.2.2.1⟩,h1.2.2.2.2.2⟩
 cases hb:df f n L with
 |none=>
  cases hx:x.ok with
  |false=>obtain⟨a,b,c,d⟩:=hno hx;exact⟨rfl,a,b,c⟩
  |true=>
   exfalso;rcases h1 with rfl|⟨k,hk,h1⟩
   .simp[noTry]at hx
   .have:=k3 _ (hG k hk);rw[hb]at this;unfold cG at h1;split at h1
    .rename_i T e;try dsimp only at e
     rw[e]at this;simp[bv]at this
    .rw[h1.1]at hx;cases hx
 |some T=>
  rw[hb]at k1 k3;obtain⟨l,hl,e⟩:=k1.resolve_left (by simp);obtain⟨k,hk,e2⟩:=hI l hl;have h3:=h2 k hk;try dsimp only at h3
  rw[e2,<-e]at h3;cases hx:x.ok with
  |false=>rw[(hno hx).2.2.2]at h3;simp[bv]at h3
  |true=>
   rcases h1 with rfl|⟨q,hq,h1⟩
   .simp[noTry]at hx
   .have hkey:=cG.key h1;have h4:=k3 _ (hG q hq);rw[<-hkey]at h4;unfold cG at h1;split at h1
    .rename_i S e3;try dsimp only at e3
     try dsimp only at hkey
     rw[e3]at hkey;rw[hkey]at h3 h4;have:=nL (by rw[iY,iY]) h3 h4;unfold dq at this;simp only[List.cons.injEq]at this;have hi:=rO n 0 this.2.2;exact⟨rfl,h1.2.2.2.1,h1.2.2.2.2.1,h1.2.2.2.2.2.2,λi hi'=>(h1.2.2.2.2.2.1 i hi').trans (hi i (by omega) (by omega)).symm⟩
    .rw[h1.1]at hx;cases hx
end Go.Proofs.YtlmcblcijndipaaGreat
