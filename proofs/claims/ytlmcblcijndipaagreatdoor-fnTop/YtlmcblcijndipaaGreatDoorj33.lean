import Derived.Test.YtlmcblcijndipaaGreatDoorj32
import Derived.Test.YtlmcblcijndipaaGreatDoorj28
import Derived.Laws.IdiomCopy
import Derived.Lib.SliceRun
set_option linter.defProp false
set_option linter.unusedVariables false
set_option maxHeartbeats 4000000
set_option maxRecDepth 100000
namespace Go.Proofs.YtlmcblcijndipaaGreatDoor
open RowKit
variable {gZ:Int}{m:Mv}{i j k n p:Nat}{t:Nat->Int}{f g:Nat->Mv}
section
variable {l:List Mv}
def PM:Mv:=⟨ByteArray.empty,false,0,0,0,0⟩
def im (l:List Mv)(i:Nat):Mv:=l.getD i PM
def qs (h:i<l.length):im l i=l[i]:=by simp[im,h]
def wl (h:i<l.length):im l i∈l:=by rw[qs h];exact List.getElem_mem h
def Jw:im (l++[m]) i=if i=l.length then m else im l i:=by
 unfold im;rw[List.getD_eq_getElem?_getD,List.getD_eq_getElem?_getD,List.getElem?_append];split
 .rw[if_neg ab]
 .split
  .rename_i h1 h2;subst h2;simp
  .rename_i h1 h2;rw[ade (l:=l) ab,ade cH]
def rE (m:Mv)(tick:Int):Mv:={m with bF:=tick+6,prom:=-1}
def eT (f:Nat->Mv)(t:Nat->Int)(p k:Nat):Mv:=if k=p then rE (f p) (t p)else bf (f k) (t k) (t p)
def al (f:Nat->Mv)(t:Nat->Int)(p:Nat):Nat->List Mv
 |0=>[]
 |k+1=>if t k<t p then al f t p k else al f t p k++[eT f t p k]
def ft (m:Mv)(gZ:Int):Mv:=if m.prom=-1 then{m with bF:=max m.bF gZ}else m
def d7 (m:Mv)(gZ:Int):Bool:=!(m.prom==-1)||decide (gZ<=m.late)
def er (g:Nat->Mv)(gZ:Int)(i:Nat):Mv:=ft (g i) gZ
noncomputable def fI (g:Nat->Mv)(k:Nat)(now shift:Int):Option (Nat->Int):=
 if∀i,i<k->d7 (g i) (now+4)=true then kR (er g<|now+4) k shift (fS (er g<|now+4) k shift)else none
noncomputable def cY (f:Nat->Mv)(n:Nat)(t:Nat->Int)(p:Nat):Option (Nat->Int):=
 if t p+6<=(f p).late then fI (im<|al f t p n) (al f t p n).length (t p) 6 else none
def tO (f:Nat->Mv)(n:Nat)(t:Nat->Int):Prop:=∀p,p<n->(f p).ak=true->(cY f n t p).isSome=true
def jv (f:Nat->Mv)(t:Nat->Int)(p:Nat):∀k,(al f t p k).length<=k
 |0=>ac3 _
 |k+1=>by
  have:=jv f t p k;simp only[al];split
  .omega
  .simp;omega
def mi (f:Nat->Mv)(t:Nat->Int)(p k:Nat):(eT f t p k).name=(f k).name:=by
 unfold eT;split
 .rename_i h;subst h;rfl
 .unfold bf;split<;>rfl
def kL:∀{k:Nat} {m:Mv},m∈al f t p k->∃i,i<k/\t p<=t i/\m=eT f t p i
 |0,m,h=>by simp[al]at h
 |k+1,m,h=>by
  simp only[al]at h;split at h
  .obtain⟨i,h1,h2⟩:=kL h;exact⟨i,ab,h2⟩
  .rename_i hk;rcases adv.1 h with h|h
   .obtain⟨i,h1,h2⟩:=kL h;exact⟨i,ab,h2⟩
   .simp at h;exact⟨k,ab,ab,h⟩
def qf (f:Nat->Mv)(t:Nat->Int)(p:Nat):∀k,List.Sublist ((al f t p k).map Mv.name) ((List.range k).map λi=>(f i).name)
 |0=>by simp[al]
 |k+1=>by
  have ih:=qf f t p k;simp only[al,List.range_succ,List.map_append,List.map_cons,List.map_nil];split
  .exact ih.trans (List.sublist_append_left _ _)
  .rw[List.map_append,List.map_cons,List.map_nil,mi];exact ih.append<|List.Sublist.refl _
def jN (h:az f n=true):∀j,j<n->∀i,i<j->bX (f i).name (f j).name=true:=by
 have hs:∀j,j<n->0<j->bX (f<|j-1).name (f j).name=true:=λj hj h0=>by
  unfold az at h;simp only[Bool.and_eq_true,decide_eq_true_eq,List.all_eq_true,List.mem_range]at h;have:=h.2 j hj;unfold ix at this;simp only[Bool.and_eq_true,Bool.or_eq_true,beq_iff_eq]at this;exact this.2.resolve_left ab
 intro j;induction j with
 |zero=>intro _ i hi;omega
 |succ j ih=>
  intro hj i hi;have h1:=hs (j+1) hj ab;simp only[Nat.add_sub_cancel]at h1;by_cases e:i=j
  .subst e;exact h1
  .exact xZ (ih ab i ab) h1
def so (h:az f n=true):((List.range n).map λi=>(f i).name).Pairwise (λa b=>bX a b=true):=by
 rw[List.pairwise_map,List.pairwise_iff_getElem];intro i j hi hj kq;simp only[List.getElem_range];simp at hj;exact jN h j hj i kq
def sj (h6:l.length<=6)(eO:∀i,i<l.length->(g i).ok=true)(hn:∀i,i<l.length->(g i).name=(im l i).name)(hp:(l.map Mv.name).Pairwise (λa b=>bX a b=true)):az g l.length=true:=by
 refine jr h6 λi hi=>?_
 unfold ix;rw[eO i hi];by_cases h0:i=0
 .subst h0;simp
 .rw[List.pairwise_map,List.pairwise_iff_getElem]at hp;have:=hp (i-1) i ab hi ab;rw[hn i hi,hn (i-1) ab,qs hi,qs (by omega:i-1<l.length),this];simp
def Mv.Jz {m':Mv}(h:m.ok=true)(hn:m'.name=m.name)(hw:m'.ap=m.ap)(h1:0<=m'.bF)(h2:m'.bF<=m'.late)(h3:m'.late<=10000)(h4:m'.prom=-1\/m'.bF<=m'.prom/\m'.prom<=m'.late):m'.ok=true:=by
 unfold Mv.ok uF yv iB at*;simp only[Bool.and_eq_true,Bool.or_eq_true,decide_eq_true_eq,beq_iff_eq,hn,hw]at*;refine⟨⟨⟨⟨h.1.1.1.1,?_⟩,?_⟩,?_⟩,?_⟩<;>omega
def IL (hm:az f n=true)(hf:dU f t n)(hp:p<n)(hl:t p+6<=(f p).late)(hi:i<n):(eT f t p i).ok=true:=by
 have b1:=Mv.fp<|aW hm i hi;have b2:=Mv.fp<|aW hm p hp;have s1:=fT<|hf.1 i hi;have s2:=fT<|hf.1 p hp;unfold eT;split
 .rename_i e;refine Mv.Jz (aW hm p hp) rfl rfl ?_ ?_ ?_ (.inl rfl)<;>simp only[rE]<;>omega
 .unfold bf;split
  .refine Mv.Jz (aW hm i hi) rfl rfl b1.1 b1.2.1 b1.2.2.1 (.inr ⟨?_,?_⟩)<;>simp only<;>omega
  .exact aW hm i hi
def Fe (h:m.ok=true)(h0:0<=gZ)(hr:d7 m gZ=true):(ft m gZ).ok=true:=by
 have b:=Mv.fp h;unfold d7 at hr;simp only[Bool.or_eq_true,Bool.not_eq_true',beq_eq_false_iff_ne,ne_eq,decide_eq_true_eq]at hr;unfold ft;split
 .rename_i e;have hle:gZ<=m.late:=hr.resolve_left λx=>x e;refine Mv.Jz h rfl rfl ?_ ?_ b.2.2.1 (.inl e)<;>simp only<;>omega
 .exact h
def oH (m:Mv)(gZ:Int):(ft m gZ).name=m.name:=by unfold ft;split<;>rfl
def vq (hm:az f n=true)(hf:dU f t n)(hp:p<n)(hl:t p+6<=(f p).late)(hr:∀i,i<(al f t p n).length->d7 (im (al f t p n) i) (t p+4)=true):
  az (er (im<|al f t p n)<|t p+4) (al f t p n).length=true:=by
 have h6:=bP hm;have hz:=jv f t p n;have b2:=Mv.fp<|aW hm p hp;have s2:=fT<|hf.1 p hp;refine sj ab (λi hi=>?_) (λi hi=>oH _ _)<|(so hm).sublist<|qf f t p n;let⟨k,hk,_,e⟩:=kL<|wl hi;have:=hr i hi;unfold er;rw[e]at this⊢;exact Fe (IL hm hf hp hl hk) ab this
def sx (hm:az f n=true)(hf:dU f t n)(hp:p<n)(hl:t p+6<=(f p).late)(hi:i<(al f t p n).length):(im (al f t p n) i).ok=true:=by
 let⟨k,hk,_,e⟩:=kL<|wl hi;rw[e];exact IL hm hf hp hl hk
end
def dR (f:Nat->Mv)(k:Nat)(m:Mv)(i:Nat):Mv:=if i<k then f i else if i=k then m else f (i-1)
def AW (hm:az f n=true)(hn:n<6)(hk:k<=n)(eO:m.ok=true)(h1:∀j,j<k->bX (f j).name m.name=true)(h2:k<n->bX (f k).name m.name=false)(h3:∀j,j<n->bJ (f j).name m.name=false):az (dR f k m) (n+1)=true:=by
 refine jr ab λi hi=>?_
 have cZ:∀j,j<n->0<j->bX (f<|j-1).name (f j).name=true:=λj hj h0=>jN hm j hj (j-1) ab
 unfold ix;rw[adx,adw,beq_iff_eq];unfold dR;by_cases c1:i<k
 .rw[if_pos c1,if_pos (by omega:i-1<k)];refine⟨aW hm i ab,?_⟩;by_cases h0:i=0
  .exact .inl h0
  .exact .inr (cZ i ab ab)
 .by_cases c2:i=k
  .rw[if_neg c1,if_pos c2];refine⟨eO,?_⟩;by_cases h0:i=0
   .exact .inl h0
   .rw[if_pos ab];exact .inr<|h1 (i-1) ab
  .rw[if_neg c1,if_neg c2];refine⟨aW hm (i-1) ab,.inr ?_⟩;by_cases c3:i-1=k
   .rw[if_neg ab,if_pos c3,c3];exact EE (h2 ab)<|h3 k ab
   .rw[if_neg ab,if_neg c3];exact cZ (i-1) ab ab
def qF (hm:az f n=true)(hk:k<n):az (cQ f k) (n-1)=true:=by
 have h6:=bP hm;refine jr ab λi hi=>?_
 unfold ix;rw[adx,adw,beq_iff_eq];unfold cQ;by_cases c1:i<k
 .rw[if_pos c1,if_pos (by omega:i-1<k)];refine⟨aW hm i ab,?_⟩;by_cases h0:i=0
  .exact .inl h0
  .exact .inr (jN hm i ab (i-1) ab)
 .rw[if_neg c1];refine⟨aW hm (i+1) ab,?_⟩;by_cases h0:i=0
  .exact .inl h0
  .right;by_cases c3:i-1<k
   .rw[if_pos c3];exact jN hm (i+1) ab (i-1) ab
   .rw[if_neg c3];exact jN hm (i+1) ab (i-1+1) ab
def vo (hm:az g n=true)(h0:0<=gZ)(hr:∀i,i<n->d7 (g i) gZ=true):az (er g gZ) n=true:=by
 refine jr (bP hm) λi hi=>?_
 unfold ix er;rw[Fe (aW hm i hi) h0 (hr i hi),oH,oH];by_cases h:i=0
 .simp[h]
 .rw[jN hm i hi (i-1) ab];simp
def RO (h:m.ok=true):m.name.size<=8:=by
 unfold Mv.ok uF io at h;simp only[Bool.and_eq_true,decide_eq_true_eq]at h;exact h.1.1.1.1.1.2
def Om (hm:az f n=true)(hf:dU f t n)(hp:p<n)(hl:t p+6<=(f p).late)(hi:i<n):d7 (eT f t p i) (t p+4)=true:=by
 have b1:=Mv.fp<|aW hm i hi;have s1:=fT<|hf.1 i hi;unfold eT d7;split
 .unfold rE;simp;omega
 .unfold bf;split
  .simp;omega
  .by_cases h:(f i).prom=-1
   .simp[h];omega
   .simp[h]
def wL (f:Nat->Mv)(t:Nat->Int)(p k:Nat):List Mv:=(al f t p k).map λm=>ft m<|t p+4
def HU (hm:az f n=true)(hf:dU f t n)(hp:p<n)(hl:t p+6<=(f p).late):
  cY f n t p=kR (er (im<|al f t p n)<|t p+4) (al f t p n).length 6 (fS (er (im<|al f t p n)<|t p+4) (al f t p n).length 6):=by
 unfold cY fI;rw[if_pos hl,if_pos λi hi=>?_];let⟨k,hk,_,e⟩:=kL<|wl hi;rw[e];exact Om hm hf hp hl hk
def Ia (hl:¬t p+6<=(f p).late):cY f n t p=none:=by unfold cY;rw[if_neg hl]
section
variable {w:World}{N B c s:Nat}{T:TypeId}{xs:List Value}
def dy (B:Nat)(T:TypeId):∀(vs:List Value) (o:Nat) (w:World) (cur:Array Value),w.heap[B]?=some (.cells cur T (0,0))->∃QN,(w.setCells B o vs).heap[B]?=some (.cells QN T (0,0))/\QN.size=cur.size
 |[],o,w,cur,h=>⟨cur,h,rfl⟩
 |v::vs,o,w,cur,h=>by
  let⟨c,h1,h2⟩:=dy B T vs (o+1) (w.setCell ⟨B,o,none⟩ v) _<|heap_setCell_same w B o cur T v h;exact⟨c,h1,by simpa using h2⟩
def d8 (B:Nat):∀(vs:List Value) (o:Nat) (w:World),(w.setCells B o vs).heap.size=w.heap.size
 |[],_,_=>rfl
 |v::vs,o,w=>by show((w.setCell _ v).setCells B (o+1) vs).heap.size=_;rw[d8 B vs];simp
def dP (B:Nat):∀(vs:List Value) (o:Nat) (w:World) (i:Nat),i≠B->(w.setCells B o vs).heap[i]?=w.heap[i]?
 |[],_,_,_,_=>rfl
 |v::vs,o,w,i,h=>(dP B vs (o+1) (w.setCell ⟨B,o,none⟩ v) i h).trans<|acW w _ _ _ qJ
def mC {cur:Array Value}(hb:N<=B)(hg:w.heap[B]?=some (.cells cur T (0,0)))(NE:cur.size=c*s)(hn:n<=c)(hc:c<=maxLen)(hl:xs.length=n*s)(h:∀j u,xs[j]?=some u->w.cell? ⟨B,j,none⟩=some u):
  w.ownsRow N T s (.slice B n c) n xs:=by
 refine⟨hl,.inr ⟨B,c,cur,rfl,hb,hg,hn,hc,NE,?_⟩⟩;have hle:n*s<=c*s:=Nat.mul_le_mul_right s hn;apply List.ext_getElem?;intro j;by_cases hj:j<n*s
 .obtain⟨u,hu⟩:∃u,xs[j]?=some u:=⟨_,adp ab⟩;have:=h j u hu;simp only[World.cell?,hg]at this;rw[hu,List.getElem?_take,if_pos hj];simpa using this
 .rw[ade cH,ade ab]
def di (h:w.ownsRow N T s (.slice B n c) n xs):∃cur,w.heap[B]?=some (.cells cur T (0,0))/\n<=c/\c<=maxLen/\cur.size=c*s/\N<=B/\∀j u,xs[j]?=some u->w.cell? ⟨B,j,none⟩=some u:=by
 obtain⟨h1,⟨h2,_⟩|⟨g,cap,cur,h2,h3,h4,h5,h6,h7,h8⟩⟩:=h
 .cases h2
 .cases h2;refine⟨cur,h4,h5,h6,h7,h3,λj u hu=>?_⟩;rw[<-h8,List.getElem?_take]at hu;split at hu
  .simp only[World.cell?,h4];simpa using hu
  .cases hu
def yD (f:Nat->Mv)(hk:k<=n)(hj:j<k*6):(aU f n)[j]?=(aU f k)[j]?:=by
 have h1:=p8 f n (j/6) (j%6) ab ab;have h2:=p8 f k (j/6) (j%6) ab ab;rw[show j/6*6+j%6=j by omega]at h1 h2;rw[h1,h2]
def nu {b:Nat}(h:aJ w b 0 n f)(hk:k<=n):aJ w b (k*6) (n-k) (λj=>f<|k+j):=λi hi=>by
 have:=h (k+i) ab;rw[show 0+(k+i)*6=k*6+i*6 by omega]at this;exact this
def Od:∃i,Tz.prog.info? 3=some i/\i.zero=some (.int .i64 0)/\i.size=1/\i.bytes=8:=by
 have h:(Tz.prog.info? 3).map (λi=>(i.zero,i.size,i.bytes))=some (some<|.int .i64 0,1,8):=bj;cases hI:Tz.prog.info? 3 with
 |none=>rw[hI]at h;simp at h
 |some i=>rw[hI]at h;simp only[Option.map_some,Option.some.injEq,Prod.mk.injEq]at h;exact⟨i,rfl,h.1,h.2.1,h.2.2⟩
def qa {P:Program}(w:World)(t e ty:TypeId)(z:Value)(ht:P.underlying t=some (.slice e))(hv:∀w,(zeroValue e).run P w=.ok z w)(h1:∀v∈z.cells,v.oneCell'=true)(b o n c:Nat)(hn:0<n)
  (hc:∀j,j<(Builtin.zeroCells z.cells n).toList.length->(w.cell? ⟨b,o+j,none⟩).isSome=true)(hf:∀j,j<(Builtin.zeroCells z.cells n).toList.length->w.frozen? ⟨b,o+j,none⟩=false):
  (Builtin.clear_ #[t] ty #[.slice (some ⟨b,o,none⟩) n c]).run P w=.ok (.tuple #[]) (w.setCells b o (Builtin.zeroCells z.cells n).toList):=by
 have xJ:∀v∈(Builtin.zeroCells z.cells n).toList,v.oneCell'=true:=λv AE=>by
  by_cases h0:z.cells.size=0
  .simp[Builtin.zeroCells,h0]at AE
  .simp only[Builtin.zeroCells,Array.toList_map,List.mem_map]at AE;obtain⟨i,_,rfl⟩:=AE;have ay:i%z.cells.size<z.cells.size:=Nat.mod_lt _ ab;refine h1 _ ?_;rw[getElem!_pos z.cells _ ay];exact Array.getElem_mem ay
 have de:=run_storeCells_cells (P:=P) b o _ 0 w (by simpa using hc) (by simpa using hf) xJ;simp only[Nat.add_zero]at de;obtain⟨m,rfl⟩:∃m,n=m+1:=⟨n-1,ab⟩;simp[Builtin.clear_,run_underlying ht,hv,de]
def Km (B n c k N:Nat)(f:Nat->Mv)(w:World)(hn:n<=1048576)(hk:k<n)(ho:w.ownsRow N 31 6 (.slice B n c) n (aU f n)):
  Calls Tz.prog 288 #[.slice (some ⟨B,0,none⟩) n c,.int .i64 k,.int .i64<|(k:Int)+1] w λe w'=>e=.returned (.slice (some ⟨B,0,none⟩) (n-1) c)/\w'.ownsRow N 31 6 (.slice (some ⟨B,0,none⟩) (n-1) c) (n-1) (aU (cQ f k)<|n-1)/\w'.heap.size=w.heap.size/\∀i,i≠B->w'.heap[i]?=w.heap[i]?:=by
 let⟨cur,hg,P3,AB,hcs,L2,hcell⟩:=di ho;have NK:=bq f n;let⟨i0,hI,gE,eG,ga⟩:=eP;obtain⟨news,gq⟩:∃news,news=aU (λj=>f<|k+1+j) (n-(k+1)):=⟨_,rfl⟩;have hlen:news.length=(n-(k+1))*6:=by rw[gq,bq];try omega
 have xJ:Hid (∀u∈news,u.oneCell'=true):=by rw[gq];exact eR _ _
 have KG:w.drew.heap[B]?=some (.cells cur 31 (0,0)):=hg;have I8:∀j,w.drew.frozen? ⟨B,j,none⟩=false:=λj=>by simp[World.frozen?,KG]
 have xN:∀j,j<c*6->(w.drew.cell? ⟨B,j,none⟩).isSome=true:=λj hj=>by
  have:w.drew.cell? ⟨B,j,none⟩=cur[j]?:=by simp[World.cell?,KG]
  rw[this,ada ab];rfl
 obtain⟨A,hA,G4⟩:∃A:Addr,(if c=k+1 then some (⟨B,0,none⟩:Addr)else some ⟨B,(k+1)*6,none⟩)=some A/\Hid (∀t u,news[t]?=some u->w.drew.cell? (A.add t)=some u):=by
  by_cases h:c=k+1
  .refine⟨B,by simp[h],λt u hu=>?_⟩;have h0:news.length=0:=by rw[hlen];omega
   rw[List.length_eq_zero_iff.1 h0]at hu;simp at hu
  .refine⟨⟨B,(k+1)*6,none⟩,by simp[h],λt u hu=>?_⟩;rw[gq]at hu;exact(by have hr:=dZ (nu (dW ho) (show k+1<=n by omega)) t u hu;exact hr)
 obtain⟨W1,xy⟩:∃W1,W1=w.drew.setCells B (0+k*6) news:=⟨_,rfl⟩;obtain⟨mo,mw,vR⟩:∃mo,W1.heap[B]?=some (.cells mo 31 (0,0))/\mo.size=cur.size:=by rw[xy];exact dy B _ _ _ _ _ hg
 have Je:k+(n-(k+1))=n-1:=ab;obtain⟨zs,KS⟩:∃zs,zs=(Builtin.zeroCells (.agg #[.string ByteArray.empty,.bool false,(0:Int),(0:Int),(0:Int),(0:Int)]:Value).cells 1).toList:=⟨_,rfl⟩;have i_:zs.length=6:=by rw[KS];simp[Builtin.zeroCells,Value.cells]
 have pH:∀j,W1.frozen? ⟨B,j,none⟩=false:=λj=>by simp[World.frozen?,mw]
 have kY:∀j,j<c*6->(W1.cell? ⟨B,j,none⟩).isSome=true:=λj hj=>by
  have:W1.cell? ⟨B,j,none⟩=mo[j]?:=by simp[World.cell?,mw]
  rw[this,ada ab];rfl
 have L9:(n-1)*6+6<=c*6:=ab;have Vu:∀ty,(Builtin.clear_ #[23] ty #[.slice (some ⟨B,(n-1)*6,none⟩) (n-(n-1))<|c-(n-1)]).run Tz.prog W1=.ok (.tuple #[]) (W1.setCells B ((n-1)*6) zs):=λty=>by
  rw[KS,show n-(n-1)=1 by omega];exact qa W1 _ _ ty (.agg #[ByteArray.empty,false,(0:Int),(0:Int),(0:Int),(0:Int)]) (Tz.aE Tryz.underlying23) (λw=>(Tz.tP Tryz.zeroValue31) w) (by simp[Value.cells,Value.oneCell']) B _ 1 _ ab (λj hj=>kY _<|by rw[<-KS,i_]at hj;omega) λj hj=>pH _
 obtain⟨W2,uP⟩:∃W2,W2=W1.setCells B ((n-1)*6) zs:=⟨_,rfl⟩;rw[<-uP]at Vu;have kh:W2.ownsRow N 31 6 (.slice B (n-1) c) (n-1) (aU (cQ f k)<|n-1)/\W2.heap.size=w.heap.size/\∀i,i≠B->W2.heap[i]?=w.heap[i]?:=by
  obtain⟨vK,jT,ze⟩:∃vK,W2.heap[B]?=some (.cells vK 31 (0,0))/\vK.size=mo.size:=by rw[uP];exact dy B _ _ _ _ _ mw
  refine⟨mC L2 jT ab ab AB (by rw[bq];try omega) λj u hu=>?_,by rw[uP,xy,d8,d8];rfl,λi hi=>by rw[uP,xy,dP _ _ _ _ _ hi,dP _ _ _ _ _ hi];rfl⟩;have hj:j<(n-1)*6:=by
   have:=(adc.1 hu).1;rw[bq]at this;omega
  rw[<-Fl f k n hk,<-gq]at hu;rw[uP,World.cell?_setCells_out B _ _ _ _ (λ_ _=>.inl hj),xy];by_cases ay:j<k*6
  .rw[World.cell?_setCells_out B _ _ _ _ (λ_ _=>.inl (by show j<_;omega))];rw[adf (by rw[bq];omega)]at hu;refine hcell j u ?_;rw[<-hu];have:(aU f n)[j]?=(aU f k)[j]?:=yD f ab ay;exact this
  .rw[adg (by rw[bq];omega),bq]at hu;have F2:=(adc.1 hu).1;have:=World.cell?_setCells_in B news (0+k*6) w.drew (λi hi=>xN _ ab) (j-k*6) (by simpa using F2);rw[show 0+k*6+(j-k*6)=j by omega]at this;rw[this];rw[<-hu,adp (by simpa using F2)];try simp
 have G3:Hid (∀t,t<news.length->(w.drew.cell? ⟨B,0+k*6+t,none⟩).isSome=true/\w.drew.frozen? ⟨B,0+k*6+t,none⟩=false):=λt ht=>⟨xN _ ab,I8 _⟩
 have NJ:Hid (news.length=(n-(k+1))*6):=hlen;have Vh:Hid (W1=w.drew.setCells B (0+k*6) news):=xy;clear KG xy uP hlen gq I8 xN hcell hg mw vR KS i_ pH kY ho NK hcs;have Zu:(k:Int)<=c:=ab;have uS:(0:Int)<=(k:Int)+1:=ab;have PX:(k:Int)+1<=n:=ab;have od:(k:Int)+1<=c:=ab;have xP:IntKind.i64.wrap ((k:Int)+1)=(k:Int)+1:=ia;go_enter Tz.func288,Tryz.ntmps288
 go_wp2_with fail
 go_region_law (refine step_append_room rfl (.tmp 22) (.tmp 25) 23 rfl 31 i0 6 (Tz.aE Tryz.underlying23) hI eG B 0 k c (by simp[Act.eval,Act.put]) A (n-(k+1)) (c-(k+1)) news (by simp[Act.eval,Act.put]) NJ.out G4.out xJ.out (by omega) G3.out ?_;rw[<-Vh.out])
 go_wp2;go_ret;exact⟨rfl,kh⟩
def M8 (B n c k N:Nat)(f:Nat->Int)(w:World)(hn:n<=1048576)(hk:k<n)(ho:w.ownsRow N 3 1 (.slice B n c) n (ee f n)):
  Calls Tz.prog 289 #[.slice (some ⟨B,0,none⟩) n c,.int .i64 k,.int .i64<|(k:Int)+1] w λe w'=>e=.returned (.slice (some ⟨B,0,none⟩) (n-1) c)/\w'.ownsRow N 3 1 (.slice (some ⟨B,0,none⟩) (n-1) c) (n-1) (ee (cQ f k)<|n-1)/\w'.heap.size=w.heap.size/\∀i,i≠B->w'.heap[i]?=w.heap[i]?:=by
 let⟨cur,hg,P3,AB,hcs,L2,hcell⟩:=di ho;have NK:=eN f n;let⟨i0,hI,gE,eG,ga⟩:=Od;obtain⟨news,gq⟩:∃news,news=ee (λj=>f<|k+1+j) (n-(k+1)):=⟨_,rfl⟩;have hlen:news.length=(n-(k+1))*1:=by rw[gq,eN];try omega
 have xJ:Hid (∀u∈news,u.oneCell'=true):=by rw[gq];exact jo _ _
 have KG:w.drew.heap[B]?=some (.cells cur 3 (0,0)):=hg;have I8:∀j,w.drew.frozen? ⟨B,j,none⟩=false:=λj=>by simp[World.frozen?,KG]
 have xN:∀j,j<c*1->(w.drew.cell? ⟨B,j,none⟩).isSome=true:=λj hj=>by
  have:w.drew.cell? ⟨B,j,none⟩=cur[j]?:=by simp[World.cell?,KG]
  rw[this,ada ab];rfl
 obtain⟨A,hA,G4⟩:∃A:Addr,(if c=k+1 then some (⟨B,0,none⟩:Addr)else some ⟨B,(k+1),none⟩)=some A/\Hid (∀t u,news[t]?=some u->w.drew.cell? (A.add t)=some u):=by
  by_cases h:c=k+1
  .refine⟨B,by simp[h],λt u hu=>?_⟩;have h0:news.length=0:=by rw[hlen];omega
   rw[List.length_eq_zero_iff.1 h0]at hu;simp at hu
  .refine⟨⟨B,(k+1),none⟩,by simp[h],λt u hu=>?_⟩;rw[gq]at hu;exact(by have h1:t<n-(k+1):=(by have:=(adc.1 hu).1;rw[eN]at this;exact this);rw[dY h1]at hu;have:=hcell (k+1+t) _<|dY ab;rw[Addr.add_lit,<-hu];exact this)
 obtain⟨W1,xy⟩:∃W1,W1=w.drew.setCells B (0+k*1) news:=⟨_,rfl⟩;obtain⟨mo,mw,vR⟩:∃mo,W1.heap[B]?=some (.cells mo 3 (0,0))/\mo.size=cur.size:=by rw[xy];exact dy B _ _ _ _ _ hg
 have Je:k+(n-(k+1))=n-1:=ab;obtain⟨zs,KS⟩:∃zs,zs=(Builtin.zeroCells (.int .i64 0:Value).cells 1).toList:=⟨_,rfl⟩;have i_:zs.length=1:=by rw[KS];simp[Builtin.zeroCells,Value.cells]
 have pH:∀j,W1.frozen? ⟨B,j,none⟩=false:=λj=>by simp[World.frozen?,mw]
 have kY:∀j,j<c*1->(W1.cell? ⟨B,j,none⟩).isSome=true:=λj hj=>by
  have:W1.cell? ⟨B,j,none⟩=mo[j]?:=by simp[World.cell?,mw]
  rw[this,ada ab];rfl
 have L9:(n-1)*1+1<=c*1:=ab;have Vu:∀ty,(Builtin.clear_ #[27] ty #[.slice (some ⟨B,n-1,none⟩) (n-(n-1))<|c-(n-1)]).run Tz.prog W1=.ok (.tuple #[]) (W1.setCells B ((n-1)*1) zs):=λty=>by
  rw[KS,show n-(n-1)=1 by omega];rw[Nat.mul_one];exact qa W1 _ _ ty (.int .i64 0) (Tz.aE Tryz.underlying27) (λw=>(Tz.tP Tryz.zeroValue3) w) (by simp[Value.cells,Value.oneCell']) B _ 1 _ ab (λj hj=>kY _<|by rw[<-KS,i_]at hj;omega) λj hj=>pH _
 obtain⟨W2,uP⟩:∃W2,W2=W1.setCells B ((n-1)*1) zs:=⟨_,rfl⟩;rw[<-uP]at Vu;have kh:W2.ownsRow N 3 1 (.slice B (n-1) c) (n-1) (ee (cQ f k)<|n-1)/\W2.heap.size=w.heap.size/\∀i,i≠B->W2.heap[i]?=w.heap[i]?:=by
  obtain⟨vK,jT,ze⟩:∃vK,W2.heap[B]?=some (.cells vK 3 (0,0))/\vK.size=mo.size:=by rw[uP];exact dy B _ _ _ _ _ mw
  refine⟨mC L2 jT ab ab AB (by rw[eN];try omega) λj u hu=>?_,by rw[uP,xy,d8,d8];rfl,λi hi=>by rw[uP,xy,dP _ _ _ _ _ hi,dP _ _ _ _ _ hi];rfl⟩;have hj:j<(n-1)*1:=by
   have:=(adc.1 hu).1;rw[eN]at this;omega
  rw[<-AF f k n hk,<-gq]at hu;rw[uP,World.cell?_setCells_out B _ _ _ _ (λ_ _=>.inl hj),xy];by_cases ay:j<k*1
  .rw[World.cell?_setCells_out B _ _ _ _ (λ_ _=>.inl (by show j<_;omega))];rw[adf zk]at hu;refine hcell j u ?_;rw[<-hu];have:(ee f n)[j]?=(ee f k)[j]?:=(by rw[dY ab,dY ab]);exact this
  .rw[adg zk,eN]at hu;have F2:=(adc.1 hu).1;have:=World.cell?_setCells_in B news (0+k*1) w.drew (λi hi=>xN _ ab) (j-k*1) (by simpa using F2);rw[show 0+k*1+(j-k*1)=j by omega]at this;rw[this];rw[<-hu,adp (by simpa using F2)];try simp
 have G3:Hid (∀t,t<news.length->(w.drew.cell? ⟨B,0+k*1+t,none⟩).isSome=true/\w.drew.frozen? ⟨B,0+k*1+t,none⟩=false):=λt ht=>⟨xN _ ab,I8 _⟩
 have NJ:Hid (news.length=(n-(k+1))*1):=hlen;have Vh:Hid (W1=w.drew.setCells B (0+k*1) news):=xy;clear KG xy uP hlen gq I8 xN hcell hg mw vR KS i_ pH kY ho NK hcs;have Zu:(k:Int)<=c:=ab;have uS:(0:Int)<=(k:Int)+1:=ab;have PX:(k:Int)+1<=n:=ab;have od:(k:Int)+1<=c:=ab;have xP:IntKind.i64.wrap ((k:Int)+1)=(k:Int)+1:=ia;go_enter Tz.func289,Tryz.ntmps289
 go_wp2_with fail
 go_region_law (refine step_append_room rfl (.tmp 22) (.tmp 25) 27 rfl 3 i0 1 (Tz.aE Tryz.underlying27) hI eG B 0 k c (by simp[Act.eval,Act.put]) A (n-(k+1)) (c-(k+1)) news (by simp[Act.eval,Act.put]) NJ.out G4.out xJ.out (by omega) G3.out ?_;rw[<-Vh.out])
 go_wp2;go_ret;exact⟨rfl,kh⟩
end
section
variable {o:Nat->Nat}{T:Nat->Int}
def Pp {t:Int}:m.eM t=true<->m.bF<=t/\t<=m.late/\(m.prom=-1\/m.prom=t):=by
 unfold Mv.eM qe;simp only[Bool.and_eq_true,Bool.or_eq_true,beq_iff_eq,d6,and_assoc]
def RJ (a b:Mv)(s:Int):a.fF b s s=true:=by
 unfold Mv.fF yi;have:=fO a.ak a.ap b.ap;simp;omega
def EL {a b:Mv}{s t:Int}(h:a.fF b s t=false):b.fF a t s=false:=by
 let⟨h1,h2⟩:=tw h;rcases Int.le_total s t with e|e
 .exact(wo<|h1 e).2
 .exact(wo<|h2 e).1
def Nk (hf:dU f T n)(hi:i<n)(hj:j<n)(h:i≠j):(f i).fF (f j) (T i) (T j)=false/\(f j).fF (f i) (T j) (T i)=false:=by
 rcases adb i j with h'|h'
 .have:=hf.2 j i h' hj;exact⟨this,EL this⟩
 .have:=hf.2 i j ab hi;exact⟨EL this,this⟩
def DZ (hf:dU f T n)(ho:∀i,i<n->o i<n)(hT:∀i j,i<j->j<n->T (o i)<T (o j)):∀i,i<=n->∃S,eB f o i=some S/\∀j,j<i->S (o j)<=T (o j)
 |0,_=>⟨_,rfl,λj hj=>absurd hj<|ac7 _⟩
 |i+1,hi=>by
  let⟨S,h1,h2⟩:=DZ hf ho hT i ab;have hs:=Pp.1<|hf.1 (o i)<|ho i ab;let⟨a1,a2,a3⟩:=jM (f:=f) (o:=o) (T:=S) (p:=o i) i;have hl:aY f o S (o i) i<=T (o i):=by
   rcases a3 with e|⟨k,hk,e⟩
   .omega
   .have ay:=hT k i hk ab;have hne:o k≠o i:=λe=>by rw[e]at ay;omega
    have:=(tw (Nk hf (ho k ab) (ho i ab) hne).1).1 ab;have:=h2 k hk;omega
  clear a1 a2 a3;have hk:gR (f<|o i) (aY f o S (o i) i)=true:=by
   unfold gR;simp only[decide_eq_true_eq];split<;>omega
  refine⟨_,sR h1 hk,λj hj=>?_⟩;by_cases e:o j=o i
  .rw[if_pos e,e];unfold il;split<;>omega
  .rw[if_neg e];exact h2 j (by rcases adb j i with h|h;exact h;exact absurd (by rw[show j=i by omega]) e)
open Classical in
def xk (f:Nat->Mv):∀n,∃g,dr f n g
 |0=>⟨id,⟨λi hi=>absurd hi<|ac7 _,λi j _ hj=>absurd hj<|ac7 _⟩⟩
 |n+1=>by
  let⟨g,h⟩:=xk f n;have hk:∀m,m<=n->(∀j,j<m->nG f (g j) n)->∃k,k<=n/\(∀j,j<k->nG f (g j) n)/\(k<n->¬nG f (g k) n):=by
   intro m hm;induction hd:n-m generalizing m with
   |zero=>exact λh=>⟨m,hm,h,λh'=>ab⟩
   |succ d ih=>
    intro h';by_cases hb:nG f (g m) n
    .refine ih (m+1) ab ab λj hj=>?_
     by_cases e:j=m
     .rw[e];exact hb
     .exact h' j ab
    .exact⟨m,hm,h',λ_=>hb⟩
  let⟨k,h1,h2,h3⟩:=hk 0 ab λj hj=>absurd hj<|ac7 _
  exact⟨oW g k n,mg h h1 h2 h3⟩
open Classical in
def A4 {a b:Nat->Int}:∀m,m<=n->(∀i k:Nat,i<n->k<n->a i=b k->(i:Int)-k<=m/\(k:Int)-i<=m)->∃r,eH a b n r
 |0,hm,h=>⟨0,⟨ab,ab,λi k hi hk e=>by have:=h i k hi hk e;omega,.inl rfl⟩⟩
 |m+1,hm,h=>by
  by_cases h':∀i k:Nat,i<n->k<n->a i=b k->(i:Int)-k<=m/\(k:Int)-i<=m
  .exact A4 m ab h'
  .simp only[Classical.not_forall]at h';let⟨i,k,hi,hk,e,hn⟩:=h';have:=h i k hi hk e;refine⟨(m:Int)+1,⟨ab,ab,λi k hi hk e=>by have:=h i k hi hk e;omega,.inr ⟨i,k,hi,hk,e,ab⟩⟩⟩
def Ou (h6:n<=6)(l:List Nat):fS f n 6 l=true:=by
 let⟨g,hg⟩:=xk f n;let⟨r,hr⟩:=A4 (a:=λi=>((pl l i:Nat):Int)) (b:=λi=>((g i:Nat):Int)) n (ac3 _) λi k hi hk _=>ab;exact AL.2 ⟨g,r,hg,hr,by have:=hr.high;omega⟩
def Kd (hm:az f n=true)(hf:dU f T n):(kR f n 6<|fS f n 6).isSome=true:=by
 have h6:=bP hm;let⟨o,ho⟩:=xk (λi=>{f i with bF:=T i,prom:=-1}) n;have hT:∀i j,i<j->j<n->T (o i)<T (o j):=λi j kq hj=>by
  have hk:∀x,({f x with bF:=T x,prom:=-1}:Mv).key=T x:=λx=>by simp[Mv.key]
  have hne:=ho.inj i j kq hj;have hn:=(Nk hf (ho.low i ab) (ho.low j hj) hne).1;have hd:T (o i)≠T (o j):=λe=>by rw[e,RJ]at hn;cases hn
  rcases ho.ST i j kq hj with h|⟨h,_⟩
  .rw[hk,hk]at h;exact h
  .rw[hk,hk]at h;exact absurd h hd
 let⟨l,hl,hp⟩:=wO ho.low ho.inj;let⟨S,hS,_⟩:=DZ (o:=pl l) hf (λi hi=>by rw[hp i hi];exact ho.low i hi) (λi j kq hj=>by rw[hp i ab,hp j hj];exact hT i j kq hj) n<|ac3 _;unfold kR;rw[if_pos ⟨hm,ab,ab⟩];let⟨_,_,h3⟩:=sQ f n ((aS n).filter<|fS f n 6) none;change ∀l∈(aS n).filter (fS f n 6),dD _ ((fd f n<|(aS n).filter<|fS f n 6).map<|ge f n)=false at h3;have:=h3 l<|List.mem_filter.2 ⟨hl,Ou h6 l⟩;rw[hS]at this;cases hb:fd f n ((aS n).filter<|fS f n 6)with
 |none=>rw[hb]at this;simp[dD]at this
 |some _=>rfl
end
