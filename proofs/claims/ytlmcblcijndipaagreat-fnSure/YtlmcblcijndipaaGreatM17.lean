import Derived.Test.YtlmcblcijndipaaGreatM13
import Derived.Test.YtlmcblcijndipaaGreatM16
namespace Go.Proofs.YtlmcblcijndipaaGreat
def aC (f:Nat->Mv)(o:Nat->Nat)(T:Nat->Int)(p:Nat):Nat->Int
 |0=>(f p).est
 |k+1=>if aC f o T p k<T (o k)+(f (o k)).gap (f p)then T (o k)+(f (o k)).gap (f p)else aC f o T p k
def dV (m:Mv)(t:Int):Int:=if m.prom=-1 then t else m.prom
def dW (m:Mv)(t:Int):Bool:=decide (t<=if m.prom=-1 then m.late else m.prom)
def bZ (f:Nat->Mv)(o:Nat->Nat):Nat->Option (Nat->Int)
 |0=>some λ_=>0
 |i+1=>match bZ f o i with
  |none=>none
  |some T=>if dW (f (o i)) (aC f o T (o i) i)=true then some (λp=>if p=o i then dV (f (o i)) (aC f o T (o i) i)else T p)else none
theorem uZ {f:Nat->Mv}{o:Nat->Nat}{i:Nat}(h:bZ f o i=none):∀n,i<=n->bZ f o n=none:=by
 intro n hn;induction n with
 |zero=>
  have:i=0:=by omega
  subst this;exact h
 |succ n ih=>
  by_cases e:i=n+1
  .subst e;exact h
  .simp only[bZ,ih (by omega)]
theorem qg {f:Nat->Mv}{o:Nat->Nat}{i n:Nat}{T:Nat->Int}(h:bZ f o i=some T)(hk:dW (f (o i)) (aC f o T (o i) i)=false)(hi:i<n):bZ f o n=none:=
 uZ (i:=i+1) (by simp only[bZ,h,hk];rfl) n (by omega)
theorem nG {f:Nat->Mv}{o:Nat->Nat}{i:Nat}{T:Nat->Int}(h:bZ f o i=some T)(hk:dW (f (o i)) (aC f o T (o i) i)=true):
  bZ f o (i+1)=some (λp=>if p=o i then dV (f (o i)) (aC f o T (o i) i)else T p):=by
 simp only[bZ,h,hk];rfl
theorem ig {f:Nat->Mv}{o:Nat->Nat}{T:Nat->Int}{p:Nat}(hp:0<=(f p).est/\(f p).est<=10000)(hT:∀q,0<=T q/\T q<=10000):∀k,0<=aC f o T p k/\aC f o T p k<=10004
 |0=>by simp only[aC];omega
 |k+1=>by
  have h1:=ig hp hT k (o:=o);have h2:=eX (f (o k)).lands (f (o k)).wake (f p).wake;have h3:=mE (f (o k)).lands (f (o k)).wake (f p).wake;have h4:=hT (o k);have e:aC f o T p (k+1)=if aC f o T p k<T (o k)+(f (o k)).gap (f p)then T (o k)+(f (o k)).gap (f p)else aC f o T p k:=rfl
  have g:(f (o k)).gap (f p)=iO (f (o k)).lands (f (o k)).wake (f p).wake:=rfl;rw[e,g];split<;>omega
theorem wN {m:Mv}(hm:m.ok=true){t:Int}(h0:0<=t)(hk:dW m t=true):0<=dV m t/\dV m t<=10000:=by
 have hb:=Mv.ok_bd hm;unfold dW at hk;unfold dV;simp only[decide_eq_true_eq]at hk;split<;>(rename_i e;simp only[e,if_true,if_false]at hk)<;>omega
theorem qh {f:Nat->Mv}{o:Nat->Nat}{n:Nat}(hm:ap f n=true)(ho:∀i,i<n->o i<n):∀(i:Nat) (T:Nat->Int),i<=n->bZ f o i=some T->∀p,0<=T p/\T p<=10000
 |0,T,_,h,p=>by simp only[bZ,Option.some.injEq]at h;subst h;simp
 |i+1,T,hi,h,p=>by
  cases e:bZ f o i with
  |none=>simp only[bZ,e]at h;cases h
  |some S=>
   have hS:=qh hm ho i S (by omega) e;simp only[bZ,e]at h;split at h
   .rename_i hk;simp only[Option.some.injEq]at h;subst h;have hok:=aE hm (o i) (ho i (by omega));have hb:=Mv.ok_bd hok;have hl:=ig (o:=o) (p:=o i) ⟨hb.1,by omega⟩ hS i;have:=wN hok hl.1 hk;by_cases c:p=o i
    .simp only[if_pos c];exact this
    .simp only[if_neg c];exact hS p
   .cases h
theorem gb {f:Nat->Mv}{o:Nat->Nat}{S T:Nat->Int}{p:Nat}:∀j:Nat,(∀k,k<j->T (o k)=S (o k))->aC f o T p j=aC f o S p j
 |0,_=>rfl
 |j+1,h=>by
  simp only[aC];rw[gb j (λk hk=>h k (by omega)),h j (by omega)]
theorem fX {f:Nat->Mv}{o:Nat->Nat}{T:Nat->Int}{p:Nat}:∀j:Nat,(f p).est<=aC f o T p j/\(∀k,k<j->T (o k)+(f (o k)).gap (f p)<=aC f o T p j)/\(aC f o T p j=(f p).est\/∃k,k<j/\aC f o T p j=T (o k)+(f (o k)).gap (f p))
 |0=>⟨Int.le_refl _,λk hk=>absurd hk (Nat.not_lt_zero _),.inl rfl⟩
 |j+1=>by
  obtain⟨h1,h2,h3⟩:=fX (f:=f) (o:=o) (T:=T) (p:=p) j;simp only[aC];split
  .rename_i hlt;refine⟨by omega,λk hk=>?_,.inr ⟨j,by omega,rfl⟩⟩;by_cases e:k=j
   .subst e;omega
   .have:=h2 k (by omega);omega
  .rename_i hlt;refine⟨h1,λk hk=>?_,?_⟩
   .by_cases e:k=j
    .subst e;omega
    .exact h2 k (by omega)
   .rcases h3 with h3|⟨k,hk,h3⟩
    .exact .inl h3
    .exact .inr ⟨k,by omega,h3⟩
theorem pr {f:Nat->Mv}{o:Nat->Nat}:∀(i:Nat) (T:Nat->Int),bZ f o i=some T->(∀j k,j<k->k<i->o j≠o k)->∀j,j<i->dW (f (o j)) (aC f o T (o j) j)=true/\T (o j)=dV (f (o j)) (aC f o T (o j) j)
 |0,_,_,_,j,hj=>absurd hj (Nat.not_lt_zero _)
 |i+1,T,h,hd,j,hj=>by
  cases e:bZ f o i with
  |none=>simp only[bZ,e]at h;cases h
  |some S=>
   have ih:=pr i S e (λj k h1 h2=>hd j k h1 (by omega));simp only[bZ,e]at h;split at h
   .rename_i hk;simp only[Option.some.injEq]at h;have hT:∀k,k<i->T (o k)=S (o k):=λk hk=>by
     rw[<-h];simp only[if_neg (hd k i hk (by omega))]
    by_cases c:j=i
    .subst c;have hl:aC f o T (o j) j=aC f o S (o j) j:=gb j hT;rw[hl];exact⟨hk,by rw[<-h];simp⟩
    .have hl:aC f o T (o j) j=aC f o S (o j) j:=gb j (λk hk=>hT k (by omega));rw[hl,hT j (by omega)];exact ih j (by omega)
   .cases h
theorem ur {a b:Mv}{s t:Int}(h:s+a.gap b<=t):a.near b s t=false/\b.near a t s=false:=by
 have g:=eX a.lands a.wake b.wake;unfold Mv.gap at h;have h1:=fW a.lands a.wake b.lands b.wake s t;have h2:=fW b.lands b.wake a.lands a.wake t s;unfold Mv.near;rw[if_neg (by omega),if_pos (by omega)]at h1;rw[if_neg (by omega),if_neg (by omega)]at h2;have q:decide (iO a.lands a.wake b.wake<=t-s)=true:=by simp;omega
 rw[q]at h1 h2;simpa using And.intro h1 h2
theorem rF {a b:Mv}{s t:Int}(h:a.near b s t=false):(s<=t->s+a.gap b<=t)/\(t<=s->t+b.gap a<=s):=by
 have h1:=fW a.lands a.wake b.lands b.wake s t;unfold Mv.near at h;rw[h]at h1;unfold Mv.gap;by_cases e:s=t
 .subst e;simp at h1
 .rw[if_neg e]at h1;by_cases hst:s<t
  .rw[if_pos hst]at h1;simp at h1;exact⟨λ_=>by omega,λ_=>by omega⟩
  .rw[if_neg hst]at h1;simp at h1;exact⟨λ_=>by omega,λ_=>by omega⟩
structure A4 (f:Nat->Mv)(o:Nat->Nat)(n:Nat)(T:Nat->Int):Prop where
 fit:cZ f T n
 up:∀i j,i<j->j<n->T (o i)<T (o j)
 least:∀i,i<n->¬cZ f (λp=>if p=o i then T p-1 else T p) n
theorem pt {f:Nat->Mv}{o:Nat->Nat}{n:Nat}{T:Nat->Int}(hm:ap f n=true)(ho:∀i,i<n->o i<n)(hd:∀j k,j<k->k<n->o j≠o k)(h:bZ f o n=some T):A4 f o n T:=by
 have he:=pr n T h hd;have hv:∀j,j<n->aC f o T (o j) j<=T (o j)/\T (o j)<=(f (o j)).late/\(f (o j)).est<=T (o j)/\((f (o j)).prom=-1/\T (o j)=aC f o T (o j) j\/(f (o j)).prom=T (o j)):=λj hj=>by
  obtain⟨h1,h2⟩:=he j hj;have hb:=Mv.ok_bd (aE hm (o j) (ho j hj));have hl:=(fX (f:=f) (o:=o) (T:=T) (p:=o j) j).1;unfold dW at h1;unfold dV at h2;simp only[decide_eq_true_eq]at h1;by_cases e:(f (o j)).prom=-1
  .rw[if_pos e]at h1 h2;exact⟨by omega,by omega,by omega,.inl ⟨e,h2⟩⟩
  .rw[if_neg e]at h1 h2;exact⟨by omega,by omega,by omega,.inr h2.symm⟩
 have hgap:∀i j,i<j->j<n->T (o i)+(f (o i)).gap (f (o j))<=T (o j):=λi j hij hj=>by
  have h1:=(fX (f:=f) (o:=o) (T:=T) (p:=o j) j).2.1 i hij;have h2:=(hv j hj).1;omega
 have hs:∀p,p<n->∃i,i<n/\o i=p:=surj n o ho hd;refine⟨⟨λp hp=>?_,λq p hpq hq=>?_⟩,λi j hij hj=>?_,λi hi hf=>?_⟩
 .obtain⟨i,hi,rfl⟩:=hs p hp;obtain⟨_,h2,h3,h4⟩:=hv i hi;unfold Mv.suits ma dU;simp only[Bool.and_eq_true,Bool.or_eq_true,decide_eq_true_eq,beq_iff_eq];omega
 .obtain⟨i,hi,rfl⟩:=hs p (by omega);obtain⟨j,hj,rfl⟩:=hs q hq;rcases Nat.lt_trichotomy i j with hij|hij|hij
  .exact(ur (hgap i j hij hj)).1
  .subst hij;exact absurd hpq (Nat.lt_irrefl _)
  .exact(ur (hgap j i hij hi)).2
 .have h1:=hgap i j hij hj;have g:=eX (f (o i)).lands (f (o i)).wake (f (o j)).wake;unfold Mv.gap at h1;omega
 .obtain⟨h1,h2,h3,h4⟩:=hv i hi;have hb:=Mv.ok_bd (aE hm (o i) (ho i hi));have hsu:=hf.1 (o i) (ho i hi);simp only[if_true]at hsu;unfold Mv.suits ma dU at hsu;simp only[Bool.and_eq_true,Bool.or_eq_true,decide_eq_true_eq,beq_iff_eq]at hsu;rcases h4 with⟨e,hl⟩|e
  .rcases(fX (f:=f) (o:=o) (T:=T) (p:=o i) i).2.2 with hh|⟨k,hk,hh⟩
   .omega
   .have hne:=hd k i hk hi;have g:=eX (f (o k)).lands (f (o k)).wake (f (o i)).wake;have hgg:(f (o k)).gap (f (o i))=iO (f (o k)).lands (f (o k)).wake (f (o i)).wake:=rfl;rcases Nat.lt_or_gt_of_ne hne with hlt|hlt
    .have:=(rF (hf.2 (o i) (o k) hlt (ho i hi))).1;simp only[if_true,if_neg hne]at this;omega
    .have:=(rF (hf.2 (o k) (o i) hlt (ho k (by omega)))).2;simp only[if_true,if_neg hne]at this;omega
  .omega
end Go.Proofs.YtlmcblcijndipaaGreat
