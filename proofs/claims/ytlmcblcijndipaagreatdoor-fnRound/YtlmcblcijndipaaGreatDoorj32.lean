import Derived.Test.YtlmcblcijndipaaGreatDoorj31
import Derived.Test.YtlmcblcijndipaaGreatDoorj24
set_option linter.unusedVariables false
namespace Go.Proofs.YtlmcblcijndipaaGreatDoor
section
open RowKit
variable {f:Nat->Mv}{o o':Nat->Nat}{T S:Nat->Int}{n:Nat}{shift r:Int}{l:List Nat}
noncomputable def iz (f:Nat->Mv)(n:Nat)(shift:Int)(l:List Nat):Bool:=@decide (∃g r,dw f n g/\er (λi=>((pl l i:Nat):Int)) (λi=>((g i:Nat):Int)) n r/\r<=shift) (Classical.propDecidable _)
theorem IS:iz f n shift l=true<->∃g r,dw f n g/\er (λi=>((pl l i:Nat):Int)) (λi=>((g i:Nat):Int)) n r/\r<=shift:=by
 unfold iz;simp only[decide_eq_true_eq]
theorem er.congr {a a' b b':Nat->Int}(h:er a b n r)(ha:∀i,i<n->a i=a' i)(hb:∀i,i<n->b i=b' i):er a' b' n r:=
 ⟨h.low,h.high,λi k hi hk e=>h.most i k hi hk (by rw[ha i hi,hb k hk];exact e),h.some.imp id λ⟨i,k,hi,hk,e,x⟩=>⟨i,k,hi,hk,by rw[<-ha i hi,<-hb k hk];exact e,x⟩⟩
theorem wD (f:Nat->Mv)(n:Nat)(shift:Int):Gr f n shift (iz f n shift):=λg hg l hl r hr=>by
 rw[IS];constructor
 .rintro⟨g',r',rV,eM,hle⟩;have:=hr.unique (eM.congr (λ_ _=>rfl) λi hi=>by rw[rV.unique hg i hi]);omega
 .intro h;exact⟨g,r,hg,hr,h⟩
structure J2 (f:Nat->Mv)(n:Nat)(shift:Int)(T:Nat->Int):Prop where
 moves:aG f n=true
 low:0<=shift
 high:shift<=6
 is:∃l,l∈aR n/\iz f n shift l=true/\d9 f (pl l) n=some T
 least:∀l,l∈aR n->iz f n shift l=true->∀S,d9 f (pl l) n=some S->gr (fQ f n S) (fQ f n T)=false
theorem KR (h:mj f n shift (iz f n shift)=some T):J2 f n shift T:=by
 unfold mj at h;split at h
 .rename_i hc;obtain⟨h1,_,h3⟩:=vy f n ((aR n).filter (iz f n shift)) none;change fe f n ((aR n).filter (iz f n shift))=none\/∃l∈(aR n).filter (iz f n shift),fe f n ((aR n).filter (iz f n shift))=d9 f (pl l) n at h1;change ∀l∈(aR n).filter (iz f n shift),dH _ ((fe f n ((aR n).filter (iz f n shift))).map (fQ f n))=false at h3;rw[h]at h1 h3;obtain⟨l,hl,e⟩:=h1.resolve_left aH;obtain⟨l1,l2⟩:=List.mem_filter.1 hl;refine⟨hc.1,hc.2.1,hc.2.2,⟨l,l1,l2,e.symm⟩,λl hl hp S hS=>?_⟩;have:=h3 l (List.mem_filter.2 ⟨hl,hp⟩);rw[hS]at this;exact this
 .cases h
theorem J2.fits (h:J2 f n shift T):dY f n T n=true:=by
 obtain⟨l,hl,hp,he⟩:=h.is;obtain⟨_,o1,o2⟩:=gn hl;exact(fY h.moves).mpr (tv h.moves o1 o2 he).fit
end
section
open RowKit
variable {l:List Mv}{i p n:Nat}{m:Mv}{f:Nat->Mv}{t:Nat->Int}
def rH:Mv:=⟨ByteArray.empty,false,0,0,0,0⟩
def iy (l:List Mv)(i:Nat):Mv:=l.getD i rH
theorem pT (h:i<l.length):iy l i=l[i]:=by simp[iy,h]
theorem sH (h:i<l.length):iy l i∈l:=by rw[pT h];exact List.getElem_mem h
theorem GY:iy (l++[m]) i=if i=l.length then m else iy l i:=by
 unfold iy;rw[List.getD_eq_getElem?_getD,List.getD_eq_getElem?_getD,List.getElem?_append];split
 .rw[if_neg ab]
 .split
  .rename_i h1 h2;subst h2;simp
  .rename_i h1 h2;rw[acw (l:=l) ab,acw cC]
def qH (m:Mv)(tick:Int):Mv:={m with ba:=tick+6,prom:=-1}
def fo (f:Nat->Mv)(t:Nat->Int)(p k:Nat):Mv:=if k=p then qH (f p) (t p)else aX (f k) (t k) (t p)
def al (f:Nat->Mv)(t:Nat->Int)(p:Nat):Nat->List Mv
 |0=>[]
 |k+1=>if t k<t p then al f t p k else al f t p k++[fo f t p k]
def eZ (m:Mv)(gD:Int):Mv:=if m.prom=-1 then{m with ba:=max m.ba gD}else m
def dU (m:Mv)(gD:Int):Bool:=!(m.prom==-1)||decide (gD<=m.late)
def eb (g:Nat->Mv)(gD:Int)(i:Nat):Mv:=eZ (g i) gD
noncomputable def iT (g:Nat->Mv)(k:Nat)(now shift:Int):Option (Nat->Int):=
 if∀i,i<k->dU (g i) (now+4)=true then mj (eb g (now+4)) k shift (iz (eb g (now+4)) k shift)else none
noncomputable def dc (f:Nat->Mv)(n:Nat)(t:Nat->Int)(p:Nat):Option (Nat->Int):=
 if t p+6<=(f p).late then iT (iy (al f t p n)) (al f t p n).length (t p) 6 else none
def uC (f:Nat->Mv)(n:Nat)(t:Nat->Int):Prop:=∀p,p<n->(f p).an=true->(dc f n t p).isSome=true
theorem fk (f:Nat->Mv)(t:Nat->Int)(p:Nat):∀k,(al f t p k).length<=k
 |0=>ack _
 |k+1=>by
  have:=fk f t p k;simp only[al];split
  .omega
  .simp;omega
theorem lC (f:Nat->Mv)(t:Nat->Int)(p k:Nat):(fo f t p k).name=(f k).name:=by
 unfold fo;split
 .rename_i h;subst h;rfl
 .unfold aX;split<;>rfl
theorem kv:∀{k:Nat} {m:Mv},m∈al f t p k->∃i,i<k/\t p<=t i/\m=fo f t p i
 |0,m,h=>by simp[al]at h
 |k+1,m,h=>by
  simp only[al]at h;split at h
  .obtain⟨i,h1,h2⟩:=kv h;exact⟨i,ab,h2⟩
  .rename_i hk;rcases acN.1 h with h|h
   .obtain⟨i,h1,h2⟩:=kv h;exact⟨i,ab,h2⟩
   .simp at h;exact⟨k,ab,ab,h⟩
theorem pF (f:Nat->Mv)(t:Nat->Int)(p:Nat):∀k,List.Sublist ((al f t p k).map Mv.name) ((List.range k).map λi=>(f i).name)
 |0=>by simp[al]
 |k+1=>by
  have ih:=pF f t p k;simp only[al,List.range_succ,List.map_append,List.map_cons,List.map_nil];split
  .exact ih.trans (List.sublist_append_left _ _)
  .rw[List.map_append,List.map_cons,List.map_nil,lC];exact ih.append (List.Sublist.refl _)
theorem jB (h:aG f n=true):∀j,j<n->∀i,i<j->cQ (f i).name (f j).name=true:=by
 have hs:∀j,j<n->0<j->cQ (f (j-1)).name (f j).name=true:=λj hj h0=>by
  unfold aG at h;simp only[Bool.and_eq_true,decide_eq_true_eq,List.all_eq_true,List.mem_range]at h;have:=h.2 j hj;unfold gU at this;simp only[Bool.and_eq_true,Bool.or_eq_true,beq_iff_eq]at this;exact this.2.resolve_left ab
 intro j;induction j with
 |zero=>intro _ i hi;omega
 |succ j ih=>
  intro hj i hi;have h1:=hs (j+1) hj ab;simp only[Nat.add_sub_cancel]at h1;by_cases e:i=j
  .subst e;exact h1
  .exact wx (ih ab i ab) h1
theorem rk (h:aG f n=true):((List.range n).map λi=>(f i).name).Pairwise (λa b=>cQ a b=true):=by
 rw[List.pairwise_map,List.pairwise_iff_getElem];intro i j hi hj lI;simp only[List.getElem_range];simp at hj;exact jB h j hj i lI
theorem rj {g:Nat->Mv}(h6:l.length<=6)(fw:∀i,i<l.length->(g i).ok=true)(hn:∀i,i<l.length->(g i).name=(iy l i).name)(hp:(l.map Mv.name).Pairwise (λa b=>cQ a b=true)):aG g l.length=true:=by
 refine jd h6 λi hi=>?_
 unfold gU;rw[fw i hi];by_cases h0:i=0
 .subst h0;simp
 .rw[List.pairwise_map,List.pairwise_iff_getElem]at hp;have:=hp (i-1) i ab hi ab;rw[hn i hi,hn (i-1) ab,pT hi,pT (by omega:i-1<l.length),this];simp
theorem Mv.G3 {m':Mv}(h:m.ok=true)(hn:m'.name=m.name)(hw:m'.aD=m.aD)(h1:0<=m'.ba)(h2:m'.ba<=m'.late)(h3:m'.late<=10000)(h4:m'.prom=-1\/m'.ba<=m'.prom/\m'.prom<=m'.late):m'.ok=true:=by
 unfold Mv.ok tU wM iu at*;simp only[Bool.and_eq_true,Bool.or_eq_true,decide_eq_true_eq,beq_iff_eq,hn,hw]at*;refine⟨⟨⟨⟨h.1.1.1.1,?_⟩,?_⟩,?_⟩,?_⟩<;>omega
theorem Gi (hm:aG f n=true)(hf:eH f t n)(hp:p<n)(hl:t p+6<=(f p).late)(hi:i<n):(fo f t p i).ok=true:=by
 have b1:=Mv.fR (bj hm i hi);have b2:=Mv.fR (bj hm p hp);have s1:=gA (hf.1 i hi);have s2:=gA (hf.1 p hp);unfold fo;split
 .rename_i e;refine Mv.G3 (bj hm p hp) rfl rfl ?_ ?_ ?_ (.inl rfl)<;>simp only[qH]<;>omega
 .unfold aX;split
  .refine Mv.G3 (bj hm i hi) rfl rfl b1.1 b1.2.1 b1.2.2.1 (.inr ⟨?_,?_⟩)<;>simp only<;>omega
  .exact bj hm i hi
theorem C5 {gD:Int}(h:m.ok=true)(h0:0<=gD)(hr:dU m gD=true):(eZ m gD).ok=true:=by
 have b:=Mv.fR h;unfold dU at hr;simp only[Bool.or_eq_true,Bool.not_eq_true',beq_eq_false_iff_ne,ne_eq,decide_eq_true_eq]at hr;unfold eZ;split
 .rename_i e;have hle:gD<=m.late:=hr.resolve_left (λx=>x e);refine Mv.G3 h rfl rfl ?_ ?_ b.2.2.1 (.inl e)<;>simp only<;>omega
 .exact h
theorem nI (m:Mv)(gD:Int):(eZ m gD).name=m.name:=by unfold eZ;split<;>rfl
theorem Da (hm:aG f n=true)(hf:eH f t n)(hp:p<n)(hl:t p+6<=(f p).late)(hr:∀i,i<(al f t p n).length->dU (iy (al f t p n) i) (t p+4)=true):
  aG (eb (iy (al f t p n)) (t p+4)) (al f t p n).length=true:=by
 have h6:=cg hm;have hz:=fk f t p n;have b2:=Mv.fR (bj hm p hp);have s2:=gA (hf.1 p hp);refine rj ab (λi hi=>?_) (λi hi=>nI _ _) ((rk hm).sublist (pF f t p n));obtain⟨k,hk,_,e⟩:=kv (sH hi);have:=hr i hi;unfold eb;rw[e]at this⊢;exact C5 (Gi hm hf hp hl hk) ab this
theorem nJ (hm:aG f n=true)(hf:eH f t n)(hp:p<n)(hl:t p+6<=(f p).late)(hi:i<(al f t p n).length):(iy (al f t p n) i).ok=true:=by
 obtain⟨k,hk,_,e⟩:=kv (sH hi);rw[e];exact Gi hm hf hp hl hk
end
section
open RowKit
variable {f:Nat->Mv}{n k p i:Nat}{m:Mv}{t:Nat->Int}
def lQ (f:Nat->Mv)(k:Nat)(m:Mv)(i:Nat):Mv:=if i<k then f i else if i=k then m else f (i-1)
theorem I0 (hm:aG f n=true)(hn:n<6)(hk:k<=n)(fw:m.ok=true)(h1:∀j,j<k->cQ (f j).name m.name=true)(h2:k<n->cQ (f k).name m.name=false)(h3:∀j,j<n->bZ (f j).name m.name=false):aG (lQ f k m) (n+1)=true:=by
 refine jd ab λi hi=>?_
 have cW:∀j,j<n->0<j->cQ (f (j-1)).name (f j).name=true:=λj hj h0=>jB hm j hj (j-1) ab
 unfold gU;rw[acP,acO,beq_iff_eq];unfold lQ;by_cases c1:i<k
 .rw[if_pos c1,if_pos (by omega:i-1<k)];refine⟨bj hm i ab,?_⟩;by_cases h0:i=0
  .exact .inl h0
  .exact .inr (cW i ab ab)
 .by_cases c2:i=k
  .rw[if_neg c1,if_pos c2];refine⟨fw,?_⟩;by_cases h0:i=0
   .exact .inl h0
   .rw[if_pos ab];exact .inr (h1 (i-1) ab)
  .rw[if_neg c1,if_neg c2];refine⟨bj hm (i-1) ab,.inr ?_⟩;by_cases c3:i-1=k
   .rw[if_neg ab,if_pos c3,c3];exact CB (h2 ab) (h3 k ab)
   .rw[if_neg ab,if_neg c3];exact cW (i-1) ab ab
theorem JC (hm:aG f n=true)(hk:k<n):aG (jD f k) (n-1)=true:=by
 have h6:=cg hm;refine jd ab λi hi=>?_
 unfold gU;rw[acP,acO,beq_iff_eq];unfold jD;by_cases c1:i<k
 .rw[if_pos c1,if_pos (by omega:i-1<k)];refine⟨bj hm i ab,?_⟩;by_cases h0:i=0
  .exact .inl h0
  .exact .inr (jB hm i ab (i-1) ab)
 .rw[if_neg c1];refine⟨bj hm (i+1) ab,?_⟩;by_cases h0:i=0
  .exact .inl h0
  .right;by_cases c3:i-1<k
   .rw[if_pos c3];exact jB hm (i+1) ab (i-1) ab
   .rw[if_neg c3];exact jB hm (i+1) ab (i-1+1) ab
theorem uu {g:Nat->Mv}{gD:Int}(hm:aG g n=true)(h0:0<=gD)(hr:∀i,i<n->dU (g i) gD=true):aG (eb g gD) n=true:=by
 refine jd (cg hm) λi hi=>?_
 unfold gU eb;rw[C5 (bj hm i hi) h0 (hr i hi),nI,nI];by_cases h:i=0
 .simp[h]
 .rw[jB hm i hi (i-1) ab];simp
theorem G2 (h:m.ok=true):m.name.size<=8:=by
 unfold Mv.ok tU gM at h;simp only[Bool.and_eq_true,decide_eq_true_eq]at h;exact h.1.1.1.1.1.2
theorem LL (hm:aG f n=true)(hf:eH f t n)(hp:p<n)(hl:t p+6<=(f p).late)(hi:i<n):dU (fo f t p i) (t p+4)=true:=by
 have b1:=Mv.fR (bj hm i hi);have s1:=gA (hf.1 i hi);unfold fo dU;split
 .unfold qH;simp;omega
 .unfold aX;split
  .simp;omega
  .by_cases h:(f i).prom=-1
   .simp[h];omega
   .simp[h]
def wL (f:Nat->Mv)(t:Nat->Int)(p k:Nat):List Mv:=(al f t p k).map λm=>eZ m (t p+4)
theorem FG (hm:aG f n=true)(hf:eH f t n)(hp:p<n)(hl:t p+6<=(f p).late):
  dc f n t p=mj (eb (iy (al f t p n)) (t p+4)) (al f t p n).length 6 (iz (eb (iy (al f t p n)) (t p+4)) (al f t p n).length 6):=by
 unfold dc iT;rw[if_pos hl,if_pos λi hi=>?_];obtain⟨k,hk,_,e⟩:=kv (sH hi);rw[e];exact LL hm hf hp hl hk
theorem wR (hl:¬t p+6<=(f p).late):dc f n t p=none:=by unfold dc;rw[if_neg hl]
end
