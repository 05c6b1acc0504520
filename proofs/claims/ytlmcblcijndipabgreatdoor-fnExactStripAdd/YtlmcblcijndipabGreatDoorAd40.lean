import Derived.Test.YtlmcblcijndipabGreatDoorAd34
import Derived.Test.YtlmcblcijndipabGreatDoorAd27
import Derived.Test.YtlmcblcijndipabGreatDoorAd39
set_option linter.unusedVariables false
namespace Go.Proofs.YtlmcblcijndipabGreatDoor
open Go Go.RowKit
noncomputable def jv (f:Nat->Mv)(n:Nat)(shift:Int)(l:List Nat):Bool:=@decide (∃g r,bg f n g/\bO (λi=>((pl l i:Nat):Int)) (λi=>((g i:Nat):Int)) n r/\r<=shift) (Classical.propDecidable _)
theorem yq {f:Nat->Mv}{n:Nat}{shift:Int}{l:List Nat}:jv f n shift l=true<->∃g r,bg f n g/\bO (λi=>((pl l i:Nat):Int)) (λi=>((g i:Nat):Int)) n r/\r<=shift:=by
 unfold jv;simp only[decide_eq_true_eq]
theorem bO.congr {a a' b b':Nat->Int}{n:Nat}{r:Int}(h:bO a b n r)(ha:∀i,i<n->a i=a' i)(hb:∀i,i<n->b i=b' i):bO a' b' n r:=
 ⟨h.low,h.high,λi k hi hk e=>h.most i k hi hk (by rw[ha i hi,hb k hk];exact e),h.some.imp id λ⟨i,k,hi,hk,e,x⟩=>⟨i,k,hi,hk,by rw[<-ha i hi,<-hb k hk];exact e,x⟩⟩
theorem oO (f:Nat->Mv)(n:Nat)(shift:Int):wN f n shift (jv f n shift):=λg hg l hl r hr=>by
 rw[yq];constructor
 .rintro⟨g',r',hg',hr',hle⟩;have:=hr.unique (hr'.congr (λ_ _=>rfl) λi hi=>by rw[hg'.unique hg i hi]);omega
 .intro h;exact⟨g,r,hg,hr,h⟩
structure EI (f:Nat->Mv)(n:Nat)(shift:Int)(T:Nat->Int):Prop where
 moves:aw f n=true
 low:0<=shift
 high:shift<=6
 is:∃l,l∈az n/\jv f n shift l=true/\bK f (pl l) n=some T
 least:∀l,l∈az n->jv f n shift l=true->∀S,bK f (pl l) n=some S->dw (dn f n S) (dn f n T)=false
def Dz:Mv:=⟨ByteArray.empty,false,0,0,0,0⟩
def jz (l:List Mv)(i:Nat):Mv:=l.getD i Dz
theorem rU {l:List Mv}{i:Nat}(h:i<l.length):jz l i=l[i]:=by simp[jz,h]
theorem wO {l:List Mv}{i:Nat}(h:i<l.length):jz l i∈l:=by rw[rU h];exact List.getElem_mem h
theorem wP {l:List Mv}{m:Mv}{i:Nat}:jz (l++[m]) i=if i=l.length then m else jz l i:=by
 unfold jz;rw[List.getD_eq_getElem?_getD,List.getD_eq_getElem?_getD,List.getElem?_append];split
 .rw[if_neg (by omega)]
 .split
  .rename_i h1 h2;subst h2;simp
  .rename_i h1 h2;rw[Gx (l:=l) (by omega),Gx (by simp;omega)]
def oP (m:Mv)(tick:Int):Mv:={m with est:=tick+6,prom:=-1}
def fW (f:Nat->Mv)(t:Nat->Int)(p k:Nat):Mv:=if k=p then oP (f p) (t p)else bV (f k) (t k) (t p)
def aq (f:Nat->Mv)(t:Nat->Int)(p:Nat):Nat->List Mv
 |0=>[]
 |k+1=>if t k<t p then aq f t p k else aq f t p k++[fW f t p k]
def eX (m:Mv)(frm:Int):Mv:=if m.prom=-1 then{m with est:=max m.est frm}else m
def bQ (m:Mv)(frm:Int):Bool:=!(m.prom==-1)||decide (frm<=m.late)
def bY (g:Nat->Mv)(frm:Int)(i:Nat):Mv:=eX (g i) frm
noncomputable def eA (g:Nat->Mv)(k:Nat)(now shift:Int):Option (Nat->Int):=
 if∀i,i<k->bQ (g i) (now+4)=true then jZ (bY g (now+4)) k shift (jv (bY g (now+4)) k shift)else none
noncomputable def da (f:Nat->Mv)(n:Nat)(t:Nat->Int)(p:Nat):Option (Nat->Int):=
 if t p+6<=(f p).late then eA (jz (aq f t p n)) (aq f t p n).length (t p) 6 else none
def tW (f:Nat->Mv)(n:Nat)(t:Nat->Int):Prop:=∀p,p<n->(f p).lands=true->(da f n t p).isSome=true
theorem fG (f:Nat->Mv)(t:Nat->Int)(p:Nat):∀k,(aq f t p k).length<=k
 |0=>Gm _
 |k+1=>by
  have:=fG f t p k;simp only[aq];split
  .omega
  .simp;omega
theorem tX (f:Nat->Mv)(t:Nat->Int)(p k:Nat):(fW f t p k).name=(f k).name:=by
 unfold fW;split
 .rename_i h;subst h;rfl
 .unfold bV;split<;>rfl
theorem jK {f:Nat->Mv}{t:Nat->Int}{p:Nat}:∀{k:Nat} {m:Mv},m∈aq f t p k->∃i,i<k/\t p<=t i/\m=fW f t p i
 |0,m,h=>by simp[aq]at h
 |k+1,m,h=>by
  simp only[aq]at h;split at h
  .obtain⟨i,h1,h2⟩:=jK h;exact⟨i,by omega,h2⟩
  .rename_i hk;rcases GO.1 h with h|h
   .obtain⟨i,h1,h2⟩:=jK h;exact⟨i,by omega,h2⟩
   .simp at h;exact⟨k,by omega,by omega,h⟩
theorem mU (f:Nat->Mv)(t:Nat->Int)(p:Nat):∀k,List.Sublist ((aq f t p k).map Mv.name) ((List.range k).map λi=>(f i).name)
 |0=>by simp[aq]
 |k+1=>by
  have ih:=mU f t p k;simp only[aq,List.range_succ,List.map_append,List.map_cons,List.map_nil];split
  .exact ih.trans (List.sublist_append_left _ _)
  .rw[List.map_append,List.map_cons,List.map_nil,tX];exact ih.append (List.Sublist.refl _)
theorem oR {f:Nat->Mv}{n:Nat}(h:aw f n=true):∀j,j<n->∀i,i<j->aO (f i).name (f j).name=true:=by
 have hs:∀j,j<n->0<j->aO (f (j-1)).name (f j).name=true:=λj hj h0=>by
  unfold aw at h;simp only[Bool.and_eq_true,decide_eq_true_eq,List.all_eq_true,List.mem_range]at h;have:=h.2 j hj;unfold dP at this;simp only[Bool.and_eq_true,Bool.or_eq_true,beq_iff_eq]at this;exact this.2.resolve_left (by omega)
 intro j;induction j with
 |zero=>intro _ i hi;omega
 |succ j ih=>
  intro hj i hi;have h1:=hs (j+1) hj (by omega);simp only[Nat.add_sub_cancel]at h1;by_cases e:i=j
  .subst e;exact h1
  .exact ol (ih (by omega) i (by omega)) h1
theorem vz {f:Nat->Mv}{n:Nat}(h:aw f n=true):((List.range n).map λi=>(f i).name).Pairwise (λa b=>aO a b=true):=by
 rw[List.pairwise_map,List.pairwise_iff_getElem];intro i j hi hj hij;simp only[List.getElem_range];simp at hj;exact oR h j hj i hij
theorem vA {g:Nat->Mv}{l:List Mv}(h6:l.length<=6)(hok:∀i,i<l.length->(g i).ok=true)(hn:∀i,i<l.length->(g i).name=(jz l i).name)(hp:(l.map Mv.name).Pairwise (λa b=>aO a b=true)):aw g l.length=true:=by
 refine fJ h6 λi hi=>?_
 unfold dP;rw[hok i hi];by_cases h0:i=0
 .subst h0;simp
 .rw[List.pairwise_map,List.pairwise_iff_getElem]at hp;have:=hp (i-1) i (by omega) hi (by omega);rw[hn i hi,hn (i-1) (by omega),rU hi,rU (by omega:i-1<l.length),this];simp
theorem Mv.ok_of {m m':Mv}(h:m.ok=true)(hn:m'.name=m.name)(hw:m'.wake=m.wake)(h1:0<=m'.est)(h2:m'.est<=m'.late)(h3:m'.late<=10000)(h4:m'.prom=-1\/m'.est<=m'.prom/\m'.prom<=m'.late):m'.ok=true:=by
 unfold Mv.ok mw nz dN at*;simp only[Bool.and_eq_true,Bool.or_eq_true,decide_eq_true_eq,beq_iff_eq,hn,hw]at*;refine⟨⟨⟨⟨h.1.1.1.1,?_⟩,?_⟩,?_⟩,?_⟩<;>omega
theorem wQ {f:Nat->Mv}{n:Nat}{t:Nat->Int}(hm:aw f n=true)(hf:dU f t n){p:Nat}(hp:p<n)(hl:t p+6<=(f p).late){i:Nat}(hi:i<n):(fW f t p i).ok=true:=by
 have b1:=Mv.ok_bd (aS hm i hi);have b2:=Mv.ok_bd (aS hm p hp);have s1:=eZ (hf.1 i hi);have s2:=eZ (hf.1 p hp);unfold fW;split
 .rename_i e;refine Mv.ok_of (aS hm p hp) rfl rfl ?_ ?_ ?_ (.inl rfl)<;>simp only[oP]<;>omega
 .unfold bV;split
  .refine Mv.ok_of (aS hm i hi) rfl rfl b1.1 b1.2.1 b1.2.2.1 (.inr ⟨?_,?_⟩)<;>simp only<;>omega
  .exact aS hm i hi
theorem tY {m:Mv}{frm:Int}(h:m.ok=true)(h0:0<=frm)(hr:bQ m frm=true):(eX m frm).ok=true:=by
 have b:=Mv.ok_bd h;unfold bQ at hr;simp only[Bool.or_eq_true,Bool.not_eq_true',beq_eq_false_iff_ne,ne_eq,decide_eq_true_eq]at hr;unfold eX;split
 .rename_i e;have hle:frm<=m.late:=hr.resolve_left (λx=>x e);refine Mv.ok_of h rfl rfl ?_ ?_ b.2.2.1 (.inl e)<;>simp only<;>omega
 .exact h
theorem iH (m:Mv)(frm:Int):(eX m frm).name=m.name:=by unfold eX;split<;>rfl
theorem tZ {f:Nat->Mv}{n:Nat}{t:Nat->Int}(hm:aw f n=true)(hf:dU f t n){p:Nat}(hp:p<n)(hl:t p+6<=(f p).late)(hr:∀i,i<(aq f t p n).length->bQ (jz (aq f t p n) i) (t p+4)=true):
  aw (bY (jz (aq f t p n)) (t p+4)) (aq f t p n).length=true:=by
 have h6:=aN hm;have hz:=fG f t p n;have b2:=Mv.ok_bd (aS hm p hp);have s2:=eZ (hf.1 p hp);refine vA (by omega) (λi hi=>?_) (λi hi=>iH _ _) ((vz hm).sublist (mU f t p n));obtain⟨k,hk,_,e⟩:=jK (wO hi);have:=hr i hi;unfold bY;rw[e]at this⊢;exact tY (wQ hm hf hp hl hk) (by omega) this
theorem oU {f:Nat->Mv}{n:Nat}{t:Nat->Int}(hm:aw f n=true)(hf:dU f t n){p:Nat}(hp:p<n)(hl:t p+6<=(f p).late){i:Nat}(hi:i<(aq f t p n).length):(jz (aq f t p n) i).ok=true:=by
 obtain⟨k,hk,_,e⟩:=jK (wO hi);rw[e];exact wQ hm hf hp hl hk
def bz (f:Nat->Mv)(k:Nat)(m:Mv)(i:Nat):Mv:=if i<k then f i else if i=k then m else f (i-1)
theorem qG {f:Nat->Mv}{n k:Nat}{m:Mv}(hm:aw f n=true)(hn:n<6)(hk:k<=n)(hok:m.ok=true)(h1:∀j,j<k->aO (f j).name m.name=true)(h2:k<n->aO (f k).name m.name=false)(h3:∀j,j<n->aX (f j).name m.name=false):aw (bz f k m) (n+1)=true:=by
 refine fJ (by omega) λi hi=>?_
 have hstep:∀j,j<n->0<j->aO (f (j-1)).name (f j).name=true:=λj hj h0=>oR hm j hj (j-1) (by omega)
 unfold dP;rw[GQ,GP,beq_iff_eq];unfold bz;by_cases c1:i<k
 .rw[if_pos c1,if_pos (by omega:i-1<k)];refine⟨aS hm i (by omega),?_⟩;by_cases h0:i=0
  .exact .inl h0
  .exact .inr (hstep i (by omega) (by omega))
 .by_cases c2:i=k
  .rw[if_neg c1,if_pos c2];refine⟨hok,?_⟩;by_cases h0:i=0
   .exact .inl h0
   .rw[if_pos (by omega)];exact .inr (h1 (i-1) (by omega))
  .rw[if_neg c1,if_neg c2];refine⟨aS hm (i-1) (by omega),.inr ?_⟩;by_cases c3:i-1=k
   .rw[if_neg (by omega),if_pos c3,c3];exact tE (h2 (by omega)) (h3 k (by omega))
   .rw[if_neg (by omega),if_neg c3];exact hstep (i-1) (by omega) (by omega)
theorem ud {g:Nat->Mv}{n:Nat}{frm:Int}(hm:aw g n=true)(h0:0<=frm)(hr:∀i,i<n->bQ (g i) frm=true):aw (bY g frm) n=true:=by
 refine fJ (aN hm) λi hi=>?_
 unfold dP bY;rw[tY (aS hm i hi) h0 (hr i hi),iH,iH];by_cases h:i=0
 .simp[h]
 .rw[oR hm i hi (i-1) (by omega)];simp
theorem BZ {m:Mv}(h:m.ok=true):m.name.size<=8:=by
 unfold Mv.ok mw dD at h;simp only[Bool.and_eq_true,decide_eq_true_eq]at h;exact h.1.1.1.1.1.2
def wL (f:Nat->Mv)(t:Nat->Int)(p k:Nat):List Mv:=(aq f t p k).map λm=>eX m (t p+4)
