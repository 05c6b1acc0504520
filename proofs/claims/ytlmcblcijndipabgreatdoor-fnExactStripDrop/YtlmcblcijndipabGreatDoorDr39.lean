import Derived.Test.YtlmcblcijndipabGreatDoorDr38
import Derived.Test.YtlmcblcijndipabGreatDoorDr29
import Derived.Test.YtlmcblcijndipabGreatDoorDr12e
import Derived.Test.YtlmcblcijndipabGreatDoorDr24
import Derived.Test.YtlmcblcijndipabGreatDoorDr10
import Derived.Test.YtlmcblcijndipabGreatDoorDr37
set_option linter.unusedVariables false
namespace Go.Proofs.YtlmcblcijndipabGreatDoor
open Go Go.RowKit
noncomputable def jd (f:Nat->Mv)(n:Nat)(shift:Int)(l:List Nat):Bool:=@decide (∃g r,bc f n g/\bQ (λi=>((pl l i:Nat):Int)) (λi=>((g i:Nat):Int)) n r/\r<=shift) (Classical.propDecidable _)
theorem wM {f:Nat->Mv}{n:Nat}{shift:Int}{l:List Nat}:jd f n shift l=true<->∃g r,bc f n g/\bQ (λi=>((pl l i:Nat):Int)) (λi=>((g i:Nat):Int)) n r/\r<=shift:=by
 unfold jd;simp only[decide_eq_true_eq]
theorem bQ.congr {a a' b b':Nat->Int}{n:Nat}{r:Int}(h:bQ a b n r)(ha:∀i,i<n->a i=a' i)(hb:∀i,i<n->b i=b' i):bQ a' b' n r:=
 ⟨h.low,h.high,λi k hi hk e=>h.most i k hi hk (by rw[ha i hi,hb k hk];exact e),h.some.imp id λ⟨i,k,hi,hk,e,x⟩=>⟨i,k,hi,hk,by rw[<-ha i hi,<-hb k hk];exact e,x⟩⟩
theorem n9 (f:Nat->Mv)(n:Nat)(shift:Int):vp f n shift (jd f n shift):=λg hg l hl r hr=>by
 rw[wM];constructor
 .rintro⟨g',r',hg',hr',hle⟩;have:=hr.unique (hr'.congr (λ_ _=>rfl) λi hi=>by rw[hg'.unique hg i hi]);omega
 .intro h;exact⟨g,r,hg,hr,h⟩
structure C0 (f:Nat->Mv)(n:Nat)(shift:Int)(T:Nat->Int):Prop where
 moves:aq f n=true
 low:0<=shift
 high:shift<=6
 is:∃l,l∈ay n/\jd f n shift l=true/\bL f (pl l) n=some T
 least:∀l,l∈ay n->jd f n shift l=true->∀S,bL f (pl l) n=some S->dm (de f n S) (de f n T)=false
def BR:Mv:=⟨ByteArray.empty,false,0,0,0,0⟩
def jg (l:List Mv)(i:Nat):Mv:=l.getD i BR
theorem qY {l:List Mv}{i:Nat}(h:i<l.length):jg l i=l[i]:=by simp[jg,h]
theorem vq {l:List Mv}{i:Nat}(h:i<l.length):jg l i∈l:=by rw[qY h];exact List.getElem_mem h
theorem vr {l:List Mv}{m:Mv}{i:Nat}:jg (l++[m]) i=if i=l.length then m else jg l i:=by
 unfold jg;rw[List.getD_eq_getElem?_getD,List.getD_eq_getElem?_getD,List.getElem?_append];split
 .rw[if_neg (by omega)]
 .split
  .rename_i h1 h2;subst h2;simp
  .rename_i h1 h2;rw[List.getElem?_eq_none (l:=l) (by omega),List.getElem?_eq_none (by simp;omega)]
def oa (m:Mv)(tick:Int):Mv:={m with est:=tick+6,prom:=-1}
def fI (f:Nat->Mv)(t:Nat->Int)(p k:Nat):Mv:=if k=p then oa (f p) (t p)else bV (f k) (t k) (t p)
def ap (f:Nat->Mv)(t:Nat->Int)(p:Nat):Nat->List Mv
 |0=>[]
 |k+1=>if t k<t p then ap f t p k else ap f t p k++[fI f t p k]
def eG (m:Mv)(frm:Int):Mv:=if m.prom=-1 then{m with est:=max m.est frm}else m
def bR (m:Mv)(frm:Int):Bool:=!(m.prom==-1)||decide (frm<=m.late)
def bY (g:Nat->Mv)(frm:Int)(i:Nat):Mv:=eG (g i) frm
noncomputable def er (g:Nat->Mv)(k:Nat)(now shift:Int):Option (Nat->Int):=
 if∀i,i<k->bR (g i) (now+4)=true then jL (bY g (now+4)) k shift (jd (bY g (now+4)) k shift)else none
noncomputable def cP (f:Nat->Mv)(n:Nat)(t:Nat->Int)(p:Nat):Option (Nat->Int):=
 if t p+6<=(f p).late then er (jg (ap f t p n)) (ap f t p n).length (t p) 6 else none
def sU (f:Nat->Mv)(n:Nat)(t:Nat->Int):Prop:=∀p,p<n->(f p).lands=true->(cP f n t p).isSome=true
theorem fm (f:Nat->Mv)(t:Nat->Int)(p:Nat):∀k,(ap f t p k).length<=k
 |0=>Nat.le_refl _
 |k+1=>by
  have:=fm f t p k;simp only[ap];split
  .omega
  .simp;omega
theorem sV (f:Nat->Mv)(t:Nat->Int)(p k:Nat):(fI f t p k).name=(f k).name:=by
 unfold fI;split
 .rename_i h;subst h;rfl
 .unfold bV;split<;>rfl
theorem jv {f:Nat->Mv}{t:Nat->Int}{p:Nat}:∀{k:Nat} {m:Mv},m∈ap f t p k->∃i,i<k/\t p<=t i/\m=fI f t p i
 |0,m,h=>by simp[ap]at h
 |k+1,m,h=>by
  simp only[ap]at h;split at h
  .obtain⟨i,h1,h2⟩:=jv h;exact⟨i,by omega,h2⟩
  .rename_i hk;rcases List.mem_append.1 h with h|h
   .obtain⟨i,h1,h2⟩:=jv h;exact⟨i,by omega,h2⟩
   .simp at h;exact⟨k,by omega,by omega,h⟩
theorem mm (f:Nat->Mv)(t:Nat->Int)(p:Nat):∀k,List.Sublist ((ap f t p k).map Mv.name) ((List.range k).map λi=>(f i).name)
 |0=>by simp[ap]
 |k+1=>by
  have ih:=mm f t p k;simp only[ap,List.range_succ,List.map_append,List.map_cons,List.map_nil];split
  .exact ih.trans (List.sublist_append_left _ _)
  .rw[List.map_append,List.map_cons,List.map_nil,sV];exact ih.append (List.Sublist.refl _)
theorem jh {f:Nat->Mv}{n:Nat}(h:aq f n=true):∀j,j<n->∀i,i<j->bm (f i).name (f j).name=true:=by
 have hs:∀j,j<n->0<j->bm (f (j-1)).name (f j).name=true:=λj hj h0=>by
  unfold aq at h;simp only[Bool.and_eq_true,decide_eq_true_eq,List.all_eq_true,List.mem_range]at h;have:=h.2 j hj;unfold dJ at this;simp only[Bool.and_eq_true,Bool.or_eq_true,beq_iff_eq]at this;exact this.2.resolve_left (by omega)
 intro j;induction j with
 |zero=>intro _ i hi;omega
 |succ j ih=>
  intro hj i hi;have h1:=hs (j+1) hj (by omega);simp only[Nat.add_sub_cancel]at h1;by_cases e:i=j
  .subst e;exact h1
  .exact nF (ih (by omega) i (by omega)) h1
theorem uv {f:Nat->Mv}{n:Nat}(h:aq f n=true):((List.range n).map λi=>(f i).name).Pairwise (λa b=>bm a b=true):=by
 rw[List.pairwise_map,List.pairwise_iff_getElem];intro i j hi hj hij;simp only[List.getElem_range];simp at hj;exact jh h j hj i hij
theorem uw {g:Nat->Mv}{l:List Mv}(h6:l.length<=6)(hok:∀i,i<l.length->(g i).ok=true)(hn:∀i,i<l.length->(g i).name=(jg l i).name)(hp:(l.map Mv.name).Pairwise (λa b=>bm a b=true)):aq g l.length=true:=by
 refine fD h6 λi hi=>?_
 unfold dJ;rw[hok i hi];by_cases h0:i=0
 .subst h0;simp
 .rw[List.pairwise_map,List.pairwise_iff_getElem]at hp;have:=hp (i-1) i (by omega) hi (by omega);rw[hn i hi,hn (i-1) (by omega),qY hi,qY (by omega:i-1<l.length),this];simp
theorem Mv.ok_of {m m':Mv}(h:m.ok=true)(hn:m'.name=m.name)(hw:m'.wake=m.wake)(h1:0<=m'.est)(h2:m'.est<=m'.late)(h3:m'.late<=10000)(h4:m'.prom=-1\/m'.est<=m'.prom/\m'.prom<=m'.late):m'.ok=true:=by
 unfold Mv.ok ma nu dE at*;simp only[Bool.and_eq_true,Bool.or_eq_true,decide_eq_true_eq,beq_iff_eq,hn,hw]at*;refine⟨⟨⟨⟨h.1.1.1.1,?_⟩,?_⟩,?_⟩,?_⟩<;>omega
theorem vt {f:Nat->Mv}{n:Nat}{t:Nat->Int}(hm:aq f n=true)(hf:dL f t n){p:Nat}(hp:p<n)(hl:t p+6<=(f p).late){i:Nat}(hi:i<n):(fI f t p i).ok=true:=by
 have b1:=Mv.ok_bd (aG hm i hi);have b2:=Mv.ok_bd (aG hm p hp);have s1:=eK (hf.1 i hi);have s2:=eK (hf.1 p hp);unfold fI;split
 .rename_i e;refine Mv.ok_of (aG hm p hp) rfl rfl ?_ ?_ ?_ (.inl rfl)<;>simp only[oa]<;>omega
 .unfold bV;split
  .refine Mv.ok_of (aG hm i hi) rfl rfl b1.1 b1.2.1 b1.2.2.1 (.inr ⟨?_,?_⟩)<;>simp only<;>omega
  .exact aG hm i hi
theorem sW {m:Mv}{frm:Int}(h:m.ok=true)(h0:0<=frm)(hr:bR m frm=true):(eG m frm).ok=true:=by
 have b:=Mv.ok_bd h;unfold bR at hr;simp only[Bool.or_eq_true,Bool.not_eq_true',beq_eq_false_iff_ne,ne_eq,decide_eq_true_eq]at hr;unfold eG;split
 .rename_i e;have hle:frm<=m.late:=hr.resolve_left (λx=>x e);refine Mv.ok_of h rfl rfl ?_ ?_ b.2.2.1 (.inl e)<;>simp only<;>omega
 .exact h
theorem im (m:Mv)(frm:Int):(eG m frm).name=m.name:=by unfold eG;split<;>rfl
theorem sX {f:Nat->Mv}{n:Nat}{t:Nat->Int}(hm:aq f n=true)(hf:dL f t n){p:Nat}(hp:p<n)(hl:t p+6<=(f p).late)(hr:∀i,i<(ap f t p n).length->bR (jg (ap f t p n) i) (t p+4)=true):
  aq (bY (jg (ap f t p n)) (t p+4)) (ap f t p n).length=true:=by
 have h6:=aF hm;have hz:=fm f t p n;have b2:=Mv.ok_bd (aG hm p hp);have s2:=eK (hf.1 p hp);refine uw (by omega) (λi hi=>?_) (λi hi=>im _ _) ((uv hm).sublist (mm f t p n));obtain⟨k,hk,_,e⟩:=jv (vq hi);have:=hr i hi;unfold bY;rw[e]at this⊢;exact sW (vt hm hf hp hl hk) (by omega) this
theorem ob {f:Nat->Mv}{n:Nat}{t:Nat->Int}(hm:aq f n=true)(hf:dL f t n){p:Nat}(hp:p<n)(hl:t p+6<=(f p).late){i:Nat}(hi:i<(ap f t p n).length):(jg (ap f t p n) i).ok=true:=by
 obtain⟨k,hk,_,e⟩:=jv (vq hi);rw[e];exact vt hm hf hp hl hk
def Df (f:Nat->Mv)(k:Nat)(m:Mv)(i:Nat):Mv:=if i<k then f i else if i=k then m else f (i-1)
theorem qc {f:Nat->Mv}{n k:Nat}(hm:aq f n=true)(hk:k<n):aq (aN f k) (n-1)=true:=by
 have h6:=aF hm;refine fD (by omega) λi hi=>?_
 unfold dJ;rw[Bool.and_eq_true,Bool.or_eq_true,beq_iff_eq];unfold aN;by_cases c1:i<k
 .rw[if_pos c1,if_pos (by omega:i-1<k)];refine⟨aG hm i (by omega),?_⟩;by_cases h0:i=0
  .exact .inl h0
  .exact .inr (jh hm i (by omega) (i-1) (by omega))
 .rw[if_neg c1];refine⟨aG hm (i+1) (by omega),?_⟩;by_cases h0:i=0
  .exact .inl h0
  .right;by_cases c3:i-1<k
   .rw[if_pos c3];exact jh hm (i+1) (by omega) (i-1) (by omega)
   .rw[if_neg c3];exact jh hm (i+1) (by omega) (i-1+1) (by omega)
theorem tj {g:Nat->Mv}{n:Nat}{frm:Int}(hm:aq g n=true)(h0:0<=frm)(hr:∀i,i<n->bR (g i) frm=true):aq (bY g frm) n=true:=by
 refine fD (aF hm) λi hi=>?_
 unfold dJ bY;rw[sW (aG hm i hi) h0 (hr i hi),im,im];by_cases h:i=0
 .simp[h]
 .rw[jh hm i hi (i-1) (by omega)];simp
theorem AB {m:Mv}(h:m.ok=true):m.name.size<=8:=by
 unfold Mv.ok ma dA at h;simp only[Bool.and_eq_true,decide_eq_true_eq]at h;exact h.1.1.1.1.1.2
def wL (f:Nat->Mv)(t:Nat->Int)(p k:Nat):List Mv:=(ap f t p k).map λm=>eG m (t p+4)
end Go.Proofs.YtlmcblcijndipabGreatDoor
