import Derived.Test.YtlmcblcijndipaaGreatDoora27
import Derived.Test.YtlmcblcijndipaaGreatDoora38
import Derived.Lib.AppendZerosOnto
set_option linter.defProp false
set_option linter.unusedVariables false
set_option linter.unusedSimpArgs false
set_option maxHeartbeats 4000000
set_option maxRecDepth 100000
namespace Go.Proofs.YtlmcblcijndipaaGreatDoor
open Conc RowKit
variable {a:Act}{ops:Array Oper}{ok:Ctx}{fb qD:Frame}{cs:List Frame}{r:List Nat}{xs:List Value}{m:Mv}{B Bv N c i j k n p:Nat}{t:Nat->Int}{f:Nat->Mv}{o:Oper}{T:TypeId}{Q:Value->World->Prop}{V W w:World}
section
variable {w':World}{base s:Nat}
def Dn (w:World)(B n:Nat)(t:Nat->Int):Prop:=(∃cs,w.heap[B]?=some (.cells cs 3 (0,0))/\n<=cs.size)/\aA w B 0 n t
def ii (h:Dn w B n t)(e:w'.heap[B]?=w.heap[B]?):Dn w' B n t:=by
 let⟨⟨cs,h1,h2⟩,h3⟩:=h;exact⟨⟨cs,e.trans h1,h2⟩,λi hi=>(ac2 (a:=⟨B,0+i,none⟩) e).trans<|h3 i hi⟩
def Dn.lt (h:Dn w B n t):B<w:=by
 let⟨⟨cs,h1,h2⟩,h3⟩:=h;exact(ac7.1 h1).1
def Nq (h:aC w B n t):Dn w B n t:=by
 let⟨⟨cs,h1,h2⟩,h3⟩:=h;exact⟨⟨cs,h1,aa⟩,h3⟩
def Kt (h:w.ownsRow base 3 1 (.slice B n c) n (dX t n)):Dn w B n t:=by
 let⟨cur,hg,O7,At,hcs,Le,hcell⟩:=dj h;exact⟨⟨cur,hg,aa⟩,λi hi=>by rw[Nat.zero_add];exact hcell i _<|d9 hi⟩
def eK (h:w.ownsRow base T s (.slice B n c) n xs)(e:w'.heap[B]?=w.heap[B]?):w'.ownsRow base T s (.slice B n c) n xs:=by
 obtain⟨h1,h2|⟨g,cap,cur,h2,h3,h4,h5⟩⟩:=h
 .exact⟨h1,.inl h2⟩
 .cases h2;exact⟨h1,.inr ⟨_,_,cur,rfl,h3,e.trans h4,h5⟩⟩
def AM {v:Value}(h:w.ownsRow base T s v n xs)(hn:0<n):∃B c,v=.slice (some ⟨B,0,none⟩) n c/\base<=B/\B<w.heap.size:=by
 obtain⟨h1,⟨_,h2⟩|⟨g,cap,cur,h2,h3,h4,h5⟩⟩:=h
 .omega
 .exact⟨g,cap,h2,h3,(ac7.1 h4).1⟩
def QV {A n' c' s':Nat}{T':TypeId}{ys:List Value}(h:w.ownsRow N T s (.slice A n c) n xs)(h':w.ownsRow N T' s' (.slice B n' c') n' ys)(hT:T≠T'):A≠B:=by
 let⟨c1,g1,_⟩:=dj h;let⟨c2,g2,_⟩:=dj h';rintro rfl;rw[g1]at g2;cases g2;exact hT rfl
end
def fj {α:Type}(g:Nat->α)(p k:Nat):cW g p k=g (lE p k):=by
 unfold cW lE;split<;>split<;>first|rfl|omega
def A8 (hp:p<n)(hi:i<n-1):lE p i<n:=by unfold lE;split<;>omega
def C0 (h:i<j):lE p i<lE p j:=by unfold lE;split<;>split<;>omega
def Js (hf:fk f t n)(hp:p<n):fk (cW f p) (cW t p) (n-1):=
 ⟨λj hj=>by rw[fj,fj];exact hf.1 _<|A8 hp hj,λj k hk hj=>by rw[fj,fj,fj,fj];exact hf.2 _ _ (C0 hk)<|A8 hp hj⟩
def RA (k:Nat):iU (cW f p) (cW t p) i k=iU f t (lE p i) (lE p k):=by
 unfold iU;simp only[fj];by_cases e:k=i
 .rw[if_pos e,if_pos (by rw[e])]
 .have:lE p k≠lE p i:=λh=>by
   rcases ade k i with h'|h'
   .have:=C0 (p:=p) h';omega
   .have:=C0 (p:=p) (show i<k by omega);omega
  rw[if_neg e,if_neg this]
def Fd:∀k,(al (cW f p) (cW t p) i k).Sublist (al f t (lE p i) (if k<=p then k else k+1))
 |0=>by simp[al]
 |k+1=>by
  have ih:=Fd k;have YS:(al (cW f p) (cW t p) i k).Sublist (al f t (lE p i)<|lE p k):=by
   rw[show lE p k=if p<=k then k+1 else k from rfl];by_cases h:p<=k
   .rw[if_pos h];by_cases e:k<=p
    .rw[if_pos e]at ih;refine ih.trans ?_;simp only[al];split
     .exact List.Sublist.refl _
     .exact List.sublist_append_left _ _
    .rw[if_neg e]at ih;exact ih
   .rw[if_neg h];rw[if_pos aa]at ih;exact ih
  have ml:(if k+1<=p then k+1 else k+1+1)=lE p k+1:=by unfold lE;split<;>split<;>omega
  rw[ml];simp only[al,RA,fj];split
  .exact YS
  .exact YS.append (List.Sublist.refl _)
def CW:∀{L' L:List Mv},L'.Sublist L->∃e:Nat->Nat,∀j,j<L'.length->e j<L.length/\jz L' j=jz L (e j)/\∀i,i<j->e i<e j
 |_,_,.slnil=>⟨id,λj hj=>absurd hj<|ac9 _⟩
 |_,_,.cons a h=>by
  let⟨e,he⟩:=CW h;exact⟨λj=>e j+1,λj hj=>⟨by have:=(he j hj).1;simp;omega,by have:=(he j hj).2.1;simpa[jz]using this,λi hi=>Nat.succ_lt_succ<|(he j hj).2.2 i hi⟩⟩
 |_,_,.cons_cons a h=>by
  let⟨e,he⟩:=CW h;refine⟨λj=>if j=0 then 0 else e (j-1)+1,λj hj=>?_⟩;cases j with
  |zero=>exact⟨aF,by simp[jz],λi hi=>absurd hi<|ac9 _⟩
  |succ j=>
   have:=he j (by simpa using hj);refine⟨by have:=this.1;simp;omega,by have:=this.2.1;simpa[jz]using this,λi hi=>?_⟩;cases i with
   |zero=>simp
   |succ i=>have:=this.2.2 i aa;simp;omega
def JP (hm:aE f n=true)(hf:fk f t n)(hp:p<n)(hs:A6 f n t):A6 (cW f p) (n-1) (cW t p):=by
 intro i hi hl;rw[fj]at hl;have hI:=A8 hp hi;have hR:=hs _ hI hl;have tU:=qy hm hp;have J7:=Js hf hp;have UV:(al (cW f p) (cW t p) i<|n-1).Sublist (al f t (lE p i) n):=by
  have:=Fd (f:=f) (t:=t) (p:=p) (i:=i)<|n-1;by_cases e:n-1<=p
  .rw[if_pos e]at this;refine this.trans ?_;obtain⟨n,rfl⟩:∃k,n=k+1:=⟨n-1,aa⟩;simp only[Nat.add_sub_cancel,al];split
   .exact List.Sublist.refl _
   .exact List.sublist_append_left _ _
  .rw[if_neg e,show n-1+1=n by omega]at this;exact this
 unfold dV at hR⊢;rw[fj f,fj t];split at hR
 .rename_i Gx;rw[if_pos Gx];unfold fQ at hR⊢;split at hR
  .rename_i GB;let⟨T,hT⟩:=Option.isSome_iff_exists.1 hR;have F:=Mx hT;let⟨l,Ll,_,O5⟩:=F.is;let⟨_,o1,o2⟩:=gI Ll;have gE:=(tO F.moves o1 (λj k h1 h2=>o2 j k h1 h2) O5).fit;let⟨e,he⟩:=CW UV;have Zc:∀j,j<(al (cW f p) (cW t p) i<|n-1).length->eD (jz (al (cW f p) (cW t p) i<|n-1) j) (t (lE p i)+4)=true:=λj hj=>by
    rw[(he j hj).2.1];exact GB _ (he j hj).1
   rw[if_pos Zc];have pd:=uY tU J7 hi (by rw[fj,fj];exact Gx) (by rw[fj];exact Zc);rw[fj]at pd;refine JE (T:=λj=>T<|e j) pd ⟨λj hj=>?_,λj k hk hj=>?_⟩
   .unfold eB;rw[(he j hj).2.1];exact gE.1 _ (he j hj).1
   .unfold eB;rw[(he j hj).2.1,(he k aa).2.1];exact gE.2 _ _ ((he j hj).2.2 k hk) (he j hj).1
  .cases hR
 .cases hR
def EK (f:Nat->Mv)(n:Nat)(m:Mv):aV f n++m.cells.toList=aV (dR f n m) (n+1):=by
 have:=yp f n n m<|ac5 _;rw[Nat.sub_self]at this;simpa[aV]using this
def GP (B n c N Bv:Nat)(f:Nat->Mv)(m:Mv)(w:World)(hn:n<=1048576)(hN:N<=w)(ho:w.ownsRow N 31 6 (.slice B n c) n (aV f n))(hv:w.heap[Bv]?=some (.cells m.cells 31 (0,0))):
  Calls Tz.prog 282 #[.slice (some ⟨B,0,none⟩) n c,.int .i64 n,.slice (some ⟨Bv,0,none⟩) 1 1] w λe w'=>(∃B' c',e=.returned (.slice (some ⟨B',0,none⟩) (n+1) c')/\w'.ownsRow N 31 6 (.slice (some ⟨B',0,none⟩) (n+1) c') (n+1) (aV (dR f n m)<|n+1))/\w.grownBy w' (some B):=by
 let⟨i0,hI,gj,eO,gM⟩:=eJ;let⟨cur,hg,O7,At,hcs,Le,hcell⟩:=dj ho;have acn:(n:Int)<=c:=aa;have oU:=tY hv;clear hg hcell hcs hv;go_enter Tz.func282,Tryz.ntmps282
 go_wp2_with(at_builtin;refine wpList_append_own _ rfl (.tmp 23) (.tmp 24) 23 rfl N 31 i0 _ 6 56 aP hI gj eO gM rfl bF (.slice B n c) n (aV f n) cj ho Bv 1 1 m.cells.toList cj rfl oU (fY m) jl aa hN ?_;intro v2 w2 qF jW mZ)
 all_goals
  have hne:v2≠.slice none 0 0:=λe=>by have:=mZ.1 e;simp at this
  obtain⟨B',c',rfl⟩:=lu qF hne;go_ret;rw[EK]at qF;exact⟨⟨B',c',rfl,qF⟩,jW⟩
section
variable {o:Nat}{cur:Array Value}
def ZX (hk:k<=n)(Le:N<=B)(hg:W.heap[B]?=some (.cells cur 31 (0,0)))(hs:cur.size=c*6)(uG:n+1<=c)(At:c<=maxLen)
  (h1:∀j u,(aV f k)[j]?=some u->W.cell? ⟨B,j,none⟩=some u)(h2:∀j u,m.cells.toList[j]?=some u->W.cell? ⟨B,k*6+j,none⟩=some u)(h3:∀j u,(aV (λj=>f<|k+j)<|n-k)[j]?=some u->W.cell? ⟨B,(k+1)*6+j,none⟩=some u):
  W.ownsRow N 31 6 (.slice B (n+1) c) (n+1) (aV (dR f k m)<|n+1):=by
 have lm:m.cells.toList.length=6:=rfl;have la:(aV f k++m.cells.toList).length=k*6+6:=by rw[List.length_append,bp,lm]
 refine my Le hg hs uG At (bp _ _) λj u hu=>?_
 rw[<-yp f k n m hk]at hu;by_cases c1:j<k*6
 .rw[adh aa,adh (by rw[bp];exact c1)]at hu;exact h1 j u hu
 by_cases c2:j<k*6+6
 .rw[adh aa,adi (by rw[bp];omega),bp]at hu;have:=h2 _ u hu;rwa [show k*6+(j-k*6)=j by omega]at this
 .rw[adi aa,la]at hu;have:=h3 _ u hu;rwa [show(k+1)*6+(j-(k*6+6))=j by omega]at this
def CI (hg:w.heap[B]?=some (.cells cur T (0,0)))(hl:o+xs.length<=cur.size):∀j u,xs[j]?=some u->(w.setCells B o xs).cell? ⟨B,o+j,none⟩=some u:=λj u hu=>by
 let⟨hj,e⟩:=adf.1 hu;rw[World.cell?_setCells_in B xs o w (λi hi=>by
  have:w.cell? ⟨B,o+i,none⟩=cur[o+i]?:=by simp[World.cell?,hg]
  rw[this,adc aa];rfl) j hj,<-e]
def qt (p:Nat)(h:p<o\/o+xs.length<=p):(w.setCells B o xs).cell? ⟨B,p,none⟩=w.cell? ⟨B,p,none⟩:=World.cell?_setCells_out B _ _ _ _ λ_ _=>h
def wT {u:Value}(h:xs[j]?=some u):j<xs.length:=(adf.1 h).1
def K5 (hn:n<=1048576)(hk:k<n)(hc:c<n+1)(ho:w.ownsRow N 31 6 (.slice B n c) n (aV f n)):
  ∃c' W,(∀ty,(Builtin.append_ #[23,3] ty #[.slice B k c,.int .i64<|(n:Int)+1-k]).run Tz.prog w=.ok (.slice w.heap.size (n+1) c') W)/\n+1<=c'/\c'<=maxLen/\
   (∃cur,W.heap[w.heap.size]?=some (.cells cur 31 (0,0))/\cur.size=c'*6)/\(∀j u,(aV f k)[j]?=some u->W.cell? ⟨w.heap.size,j,none⟩=some u)/\Below w w W/\W.heap.size=w.heap.size+1:=by
 let⟨i,hI,gj,eO,gM⟩:=eJ;let⟨cur,hg,O7,At,hcs,Le,hcell⟩:=dj ho;have e1:k+(n+1-k)=n+1:=aa;have e2:((n:Int)+1-k)=((n+1-k:Nat):Int):=aa;have hcn:c=n:=aa;have hfc:=run_firstCells_some (P:=Tz.prog) (w:=w.drew) 6 k B k c (aV f k) (bp f k) (λj v hv=>by
  have:=hcell j v<|(yl f (ado hk) (by have:=wT hv;rw[bp]at this;exact this)).trans hv;rw[pu,Nat.zero_add];exact this)
 have hr:∀ty,_:=λty=>by
  have:=Lib.run_append_grow_zeros (P:=Tz.prog) w 23 3 ty 31 i _ .i64 .i64 aP (Tz.aR Tryz.underlying3) hI gj B k c (aV f k) (by rw[eO];exact hfc) (n+1-k) aa aa aa aa (by rw[gM];omega) (by rw[gM];exact growslice_fits aa aa);rw[e1,<-e2]at this;exact this
 refine⟨_,_,hr,grownCap_ge _ _ _ _,grownCap_le_maxLen _ _ _ _ jl,?_,?_,?_,?_⟩
 .exact⟨_,heap_alloc_new _ _,by simp[Builtin.zeroCells,Value.cells,bp];have:=grownCap_ge w (n+1) c 31;omega⟩
 .intro j u hu;have hj:=wT hu;have:∀xs:Array Value,(w.drew.alloc<|.cells ((aV f k).toArray++xs) 31).cell? ⟨w.heap.size,j,none⟩=some u:=λxs=>by
   have h0:=heap_alloc_new w.drew<|.cells ((aV f k).toArray++xs) 31;simp only[World.cell?];rw[show w.heap.size=w.drew.heap.size from rfl,h0];simp[Array.getElem?_append,hj,List.getElem?_eq_getElem hj]at hu⊢;exact hu
  rw[Array.append_assoc];exact this _
 .exact(acW _ w).drew.alloc (ac5 _) _
 .exact ac1 _ _
end
def uZ (B:Nat):∀(vs:List Value) (o:Nat) {w w':World},w.heap=w'.heap->(w.setCells B o vs).heap=(w'.setCells B o vs).heap
 |[],_,_,_,h=>h
 |v::vs,o,w,w',h=>uZ B vs (o+1) (by simp only[World.setCell];rw[h])
def Kz (hk:k<n)(uG:n+1<=c)(ho:W.ownsRow N 31 6 (.slice B n c) n (aV f n)):
  ((W.setCells B ((k+1)*6)<|aV (λj=>f<|k+j)<|n-k).setCells B (k*6) m.cells.toList).ownsRow N 31 6 (.slice B (n+1) c) (n+1) (aV (dR f k m)<|n+1):=by
 let⟨cur,hg,O7,At,hcs,Le,hcell⟩:=dj ho;let⟨mh,mn,yQ⟩:=dy B _ (aV (λj=>f<|k+j)<|n-k) ((k+1)*6) W cur hg;let⟨vr,jW,mZ⟩:=dy B _ m.cells.toList (k*6) _ mh mn;have lm:m.cells.toList.length=6:=rfl;have lr:=bp (λj=>f<|k+j)<|n-k;refine ZX aa Le jW aa uG At (λj u hu=>?_) (CI mn aa) λj u hu=>?_
 .have hj:=wT hu;rw[bp]at hj;rw[qt _ (.inl aa),qt _ (.inl aa)];exact hcell j u<|(yl f aa hj).trans hu
 .rw[qt _ (.inr aa)];exact CI hg aa j u hu
section
variable [g:Gl]
def Hy (E:ee Tz.prog ok qD cX)(hIn:ok.bh 282=true)(ze:g.ov=283){r0:Frame}(ig:ok.bh r0.fn=true)
  (hn:n<=1048576)(hk:k<n)(uG:n+1<=c)(ho:V.ownsRow N 31 6 (.slice B n c) n (aV f n))(K_:Bv≠B)(hv:V.heap[Bv]?=some (.cells m.cells 31 (0,0)))
  (aT:∀V',V'.ownsRow N 31 6 (.slice B (n+1) c) (n+1) (aV (dR f k m)<|n+1)->V'.heap.size=V.heap.size->(∀i,i≠B->V'.heap[i]?=V.heap[i]?)->ak Tz.prog ok qD cX Q ⟨r0.finish<|.slice B (n+1) c,cs,V'⟩):
  ak Tz.prog ok qD cX Q ⟨Frame.enter Tz.prog 282 #[.slice (some ⟨B,0,none⟩) n c,.int .i64 k,.slice (some ⟨Bv,0,none⟩) 1 1] .normal,r0::cs,V⟩:=by
 have hE:=enter_at (P:=Tz.prog) #[.slice (some ⟨B,0,none⟩) n c,.int .i64 k,.slice (some ⟨Bv,0,none⟩) 1 1] Tz.func282 rfl;simp only[Tryz.ntmps282,List.size_toArray,List.length_cons,List.length_nil,Nat.reduceAdd,Nat.reduceSub,Array.replicate_succ,Array.replicate_zero,List.push_toArray,List.append_toArray,List.nil_append,List.cons_append]at hE;rw[hE];clear hE;let⟨cur,hg,O7,At,hcs,Le,hcell⟩:=dj ho;have e1:(k:Int)<=c:=aa;have e2:(k:Int)<=n:=aa;have e3:¬(k:Int)=n:=aa;have e4:¬((n:Int)+1>c):=aa;have e5:((n:Int)+1)<=c:=aa;have w1:IntKind.i64.wrap ((n:Int)+1)=(n:Int)+1:=by rw[IntKind.wrap_i64];unfold maxLen at At;omega
 have w2:IntKind.i64.wrap ((k:Int)+1)=(k:Int)+1:=by rw[IntKind.wrap_i64];unfold maxLen at At;omega
 have e6:(k:Int)+1<=c:=aa;have e7:(k:Int)+1<=(n:Int)+1:=aa;have e8:¬c=k+1:=aa;have XG:(0:Int)<=(k:Int)+1:=aa;have V8:(k:Int)<=(n:Int)+1:=aa;have e9:¬c=k:=aa;refine ak.chain E hIn [_,_,_,_,_,_,_,_] _ (λa' w'=>(∃τ d,w'=re V τ d)/\gZ a' (rW 95 [(0,.slice (some ⟨B,0,none⟩) (n+1) c),(1,.int .i64 k),(2,.slice (some ⟨Bv,0,none⟩) 1 1),(7,.int .i64 1),(8,.int .i64 n)])) (λ_ _=>False) ?_ ?_ λ_ _ _ h=>h.elim
 .intro τ d;clear aT ho hg hcell hv;simp only[aD];go_wp2;all_goals try omega
  exact⟨⟨τ,d,rfl⟩,rfl,rfl⟩
 rintro a' w' ⟨⟨τ1,d1,rfl⟩,fu⟩;obtain⟨u,rfl⟩:=fu.open;clear fu;refine ak.seq E hIn<|ak.seq E hIn<|ak.region E hIn ?_;rw[lp];refine ak.kw E hIn 0 6 aF (λa' w'=>(∃τ d,w'=re V τ d)/\gZ a' (rW 95 [(0,.slice (some ⟨B,0,none⟩) (n+1) c),(1,.int .i64 k),(2,.slice (some ⟨Bv,0,none⟩) 1 1),(7,.int .i64 1),(8,.int .i64 n),(61,.slice (some ⟨Bv,0,none⟩) 1 1),(66,.slice (some ⟨B,(k+1)*6,none⟩) (n-k)<|c-(k+1))])) ?_ ?_
 .intro τ d;clear aT ho hg hcell hv;simp only[aN];go_wp2;exact⟨⟨_,_,rfl⟩,rfl,rfl⟩
 rintro a' w' ⟨⟨q_,d2,rfl⟩,fu⟩;clear u;obtain⟨u,rfl⟩:=fu.open;clear fu;refine ak.XK hIn rfl (by rw[ze];decide) (i:=6) rfl rfl (x:=61) (y:=66) (by rw[ze];rfl) (p:=Bv) (q:=⟨B,(k+1)*6,none⟩) rfl rfl K_ hv (show(6:Nat)≠0 by decide) hg aa ?_;refine ak.kw E hIn 7 1 aF (λa' w'=>(∃τ d,w'=re V τ d)/\gZ a' (rW 95 [(0,.slice (some ⟨B,0,none⟩) (n+1) c),(1,.int .i64 k),(2,.slice (some ⟨Bv,0,none⟩) 1 1),(7,.int .i64 1),(8,.int .i64 n),(68,.bool true)])) ?_ ?_
 .intro τ d;clear aT ho hg hcell hv;simp only[aN,Act.put];go_wp2;exact⟨⟨_,_,rfl⟩,rfl,rfl⟩
 rintro a' w' ⟨⟨Lr,d3,rfl⟩,fu⟩;clear u;obtain⟨u,rfl⟩:=fu.open;clear fu;refine ak.regionEnd E hIn<|ak.cond E hIn (t:=true) rfl ?_;refine ak.BE E hIn [_] _ (λa' w'=>(∃W:World,W.heap=V.heap/\w'.heap=(W.setCells B ((k+1)*6)<|aV (λj=>f<|k+j)<|n-k).heap)/\gZ a' (rW 95 [(0,.slice (some ⟨B,0,none⟩) (n+1) c),(1,.int .i64 k),(2,.slice (some ⟨Bv,0,none⟩) 1 1),(7,.int .i64 1),(8,.int .i64 n),(68,.bool true)])) (λ_ _=>False) ?_ ?_ λ_ _ _ hh=>hh.elim
 .intro τ d;let⟨i0,hI,gj,eO,gM⟩:=eJ;have yP:(re (re V Lr d3) τ d).drew.ownsRow N 31 6 (.slice B n c) n (aV f n):=eK ho rfl;have Kd:(re (re V Lr d3) τ d).drew.heap[Bv]?=some (.cells m.cells 31 (0,0)):=hv;have Z_:(re (re V Lr d3) τ d).drew.heap=V.heap:=rfl;revert yP Kd Z_;generalize re (re V Lr d3) τ d=w;intro yP Kd Z_;clear aT hg hcell ho hv Kd;let⟨PP,qE,_,_,Gu,_,Uw⟩:=dj yP;obtain⟨xs,vA⟩:∃xs,xs=aV (λj=>f<|k+j) (n-k):=⟨_,rfl⟩;have hlen:xs.length=(n-k)*6:=by rw[vA,bp]
  have xl:Hid (∀u∈xs,u.oneCell'=true):=by rw[vA];exact eM _ _
  have GE:Hid (∀t u,xs[t]?=some u->w.drew.cell? ((⟨B,k*6,none⟩:Addr).add t)=some u):=λt u hu=>by
   rw[vA]at hu;exact dW (nq (dK yP) (show k<=n by omega)) t u hu
  have BX:Hid (xs.length=Nat.min (n+1-k) (n-k)*6):=by have e:Nat.min (n+1-k) (n-k)=n-k:=Nat.min_eq_right aa;rw[hlen,e];exact rfl
  have yQ:Hid (∀t,t<xs.length->(w.drew.cell? ⟨B,(k+1)*6+t,none⟩).isSome=true):=λt ht=>by
   have:w.drew.cell? ⟨B,(k+1)*6+t,none⟩=PP[(k+1)*6+t]?:=by simp only[World.cell?,qE];simp
   rw[this,adc aa];rfl
  have pE:Hid (∀t,t<xs.length->w.drew.frozen? ⟨B,(k+1)*6+t,none⟩=false):=λt ht=>by simp only[World.frozen?,qE];simp
  have YF:Hid (w.drew.heap=V.heap):=Z_;obtain⟨W1,wX⟩:∃W1,W1=w.drew.setCells B ((k+1)*6) xs:=⟨_,rfl⟩;have ml:Hid (W1.heap=(w.drew.setCells B ((k+1)*6)<|aV (λj=>f<|k+j)<|n-k).heap):=by rw[wX,vA];exact rfl
  have Ui:Hid (W1=w.drew.setCells B ((k+1)*6) xs):=wX;clear wX vA hlen qE Uw yP Gu Z_;simp only[aD];go_wp2_with fail
  go_region_law (refine qa rfl (.tmp 73) (.tmp 76) 23 23 rfl 31 i0 6 aP hI eO B ((k+1)*6) (n-k) (c-(k+1)) ⟨B,k*6,none⟩ (n+1-k) (c-k) (by simp[Act.eval,Act.put]) (by simp[Act.eval,Act.put]) xs BX.out GE.out xl.out yQ.out pE.out ?_;rw[<-Ui.out])
  all_goals exact⟨⟨w.drew,YF.out,ml.out⟩,rfl,rfl⟩
 rintro a' w1 ⟨⟨W,Wr,FE⟩,fu⟩;clear u;obtain⟨u,rfl⟩:=fu.open;clear fu;refine ak.last E hIn [_,_] (λa' w'=>w'.ownsRow N 31 6 (.slice B (n+1) c) (n+1) (aV (dR f k m)<|n+1)/\w'.heap.size=V.heap.size/\(∀i:Nat,i≠B->w'.heap[i]?=V.heap[i]?)/\a'.defers=[]/\a'.tmps[6]?=some (.slice B (n+1) c)) ?_ ?_
 .intro τ d;let⟨i0,hI,gj,eO,gM⟩:=eJ;have GG:(re w1 τ d).heap=(W.setCells B ((k+1)*6)<|aV (λj=>f<|k+j)<|n-k).heap:=FE;revert GG;generalize re w1 τ d=w;intro GG;have hoW:W.ownsRow N 31 6 (.slice B n c) n (aV f n):=eK ho (by rw[Wr]);obtain⟨mh,mn,abb⟩:∃mh,w.heap[B]?=some (.cells mh 31 (0,0))/\mh.size=cur.size:=by rw[GG];exact dy B _ _ _ _ _ (by rw[Wr];exact hg)
  have UX:w.heap[Bv]?=some (.cells m.cells 31 (0,0)):=by rw[GG,dP _ _ _ _ _ K_,Wr];exact hv
  have SF:Hid (∀t u,m.cells.toList[t]?=some u->w.cell? ((Bv:Addr).add t)=some u):=tY UX;have mZ:Hid (∀t,t<m.cells.toList.length->(w.cell? ⟨B,k*6+t,none⟩).isSome=true):=λt ht=>by
   have ht':t<6:=ht;have:w.cell? ⟨B,k*6+t,none⟩=mh[k*6+t]?:=by simp only[World.cell?,mn];simp
   rw[this,adc aa];rfl
  have Sg:Hid (∀t,t<m.cells.toList.length->w.frozen? ⟨B,k*6+t,none⟩=false):=λt ht=>by simp only[World.frozen?,mn];simp
  have Sq:Hid (m.cells.toList.length=Nat.min 1 (n+1-k)*6):=(show(6:Nat)=Nat.min 1 (n+1-k)*6 by have e:Nat.min 1 (n+1-k)=1:=Nat.min_eq_left aa;rw[e]);obtain⟨W2,uC⟩:∃W2,W2=w.setCells B (k*6) m.cells.toList:=⟨_,rfl⟩;have hp:=Kz (m:=m) hk uG hoW;have hq:W2.heap=((W.setCells B ((k+1)*6)<|aV (λj=>f<|k+j)<|n-k).setCells B (k*6) m.cells.toList).heap:=by rw[uC];exact uZ B _ _ GG
  have ml:Hid (W2.ownsRow N 31 6 (.slice B (n+1) c) (n+1) (aV (dR f k m)<|n+1)/\W2.heap.size=V.heap.size/\∀i:Nat,i≠B->W2.heap[i]?=V.heap[i]?):=⟨eK hp<|by rw[hq],by rw[hq,dY,dY,Wr],λi hi=>by rw[hq,dP _ _ _ _ _ hi,dP _ _ _ _ _ hi,Wr]⟩;have Yp:∀ty,(Builtin.copy_ #[23,23] ty #[.slice (some ⟨B,k*6,none⟩) (n+1-k)<|c-k,.slice Bv 1 1]).run Tz.prog w=.ok (goInt<|Nat.min 1<|n+1-k) W2:=λty=>by rw[uC];exact mC w _ _ ty _ i0 6 aP hI eO B (k*6) (n+1-k) (c-k) Bv 1 1 m.cells.toList Sq.out SF.out (fY m) mZ.out Sg.out
  clear SF mZ Sg Sq;clear uC aT hg hcell ho hv mn abb UX GG FE hoW hp hq Wr hcs;simp only[aD];go_wp2;exact ml.out
 .rintro a' w' todo ⟨h1,h2,h3,h4,h5⟩;refine ak.leave E ig (v:=.slice B (n+1) c) (λτ d=>⟨rfl,h4,rfl,_,Tz.func282,?_⟩)<|aT w' h1 h2 h3;have:=results_tmp (fn:=Tryz.f282) rfl a'.tmps Tz.prog<|re w' τ d;rw[kh h5]at this;exact this
end
def D6 (B n c k N Bv:Nat)(f:Nat->Mv)(m:Mv)(w:World)(hn:n<=1048576)(hk:k<n)(hc:c<n+1)(hN:N<=w)(ho:w.ownsRow N 31 6 (.slice B n c) n (aV f n))(hv:w.heap[Bv]?=some (.cells m.cells 31 (0,0))):
  Calls Tz.prog 282 #[.slice (some ⟨B,0,none⟩) n c,.int .i64 k,.slice (some ⟨Bv,0,none⟩) 1 1] w λe w'=>(∃B' c',e=.returned (.slice (some ⟨B',0,none⟩) (n+1) c')/\w'.ownsRow N 31 6 (.slice (some ⟨B',0,none⟩) (n+1) c') (n+1) (aV (dR f k m)<|n+1))/\w.heap.size<=w'.heap.size/\∀i,i<w.heap.size->w'.heap[i]?=w.heap[i]?:=by
 let⟨i0,hI,gj,eO,gM⟩:=eJ;let⟨cur,hg,O7,At,hcs,Le,hcell⟩:=dj ho;let⟨c',W,hr,h1,h2,⟨mh,mn,yQ⟩,Cb,bW,U1⟩:=K5 hn hk hc ho;obtain⟨B',hB'⟩:∃x,w.heap.size=x:=⟨_,rfl⟩;have lB:B<w:=(ac7.1 hg).1;have lv:Bv<w:=(ac7.1 hv).1;have gB:=(bW.block B lB).trans hg;have gv:=(bW.block Bv lv).trans hv;have oG:=bW.block;rw[hB']at hr mn Cb lB lv U1 hN oG;obtain⟨xs,vA⟩:∃xs,xs=aV (λj=>f<|k+j) (n-k):=⟨_,rfl⟩;have hlen:xs.length=(n-k)*6:=by rw[vA,bp]
 have lm:m.cells.toList.length=6:=rfl;have cell1:∀t,t<c'*6->W.cell? ⟨B',t,none⟩=mh[t]?:=λt ht=>by simp only[World.cell?,mn];simp
 have R3:∀t,t<c'*6->(W.cell? ⟨B',t,none⟩).isSome=true:=λt ht=>by rw[cell1 t ht,adc aa];rfl
 obtain⟨W2,uC⟩:∃W2,W2=W.setCells B' (k*6) m.cells.toList:=⟨_,rfl⟩;have Yp:∀ty,(Builtin.copy_ #[23,23] ty #[.slice (some ⟨B',k*6,none⟩) (n+1-k)<|c'-k,.slice Bv 1 1]).run Tz.prog W=.ok (goInt<|Nat.min 1<|n+1-k) W2:=λty=>by
  rw[uC];exact mC W _ _ ty _ i0 6 aP hI eO B' (k*6) (n+1-k) (c'-k) Bv 1 1 m.cells.toList (show(6:Nat)=Nat.min 1 (n+1-k)*6 by have e:Nat.min 1 (n+1-k)=1:=Nat.min_eq_left aa;rw[e]) (tY gv) (fY m) (λt ht=>R3 _<|by rw[lm]at ht;omega) (λt ht=>by simp only[World.frozen?,mn];simp)
 let⟨vr,jW,mZ⟩:=dy B' _ m.cells.toList (k*6) W mh mn;rw[<-uC]at jW;have gB2:W2.heap[B]?=some (.cells cur 31 (0,0)):=by rw[uC,dP _ _ _ _ _ aa];exact gB
 have uc:=dK ho;have xl:Hid (∀u∈xs,u.oneCell'=true):=by rw[vA];exact eM _ _
 have GE:Hid (∀t u,xs[t]?=some u->W2.drew.cell? ((⟨B,k*6,none⟩:Addr).add t)=some u):=λt u hu=>by
  rw[vA]at hu;have:=dW (nq uc (show k<=n by omega)) t u hu;rw[pu]at this⊢;exact(ac2 (a:=⟨B,k*6+t,none⟩)<|gB2.trans hg.symm).trans this
 have BX:Hid (xs.length=Nat.min (n-k) (n+1-(k+1))*6):=by have e:Nat.min (n-k) (n+1-(k+1))=n-k:=Nat.min_eq_left aa;rw[hlen,e];exact rfl
 have hd1:Hid (∀t,t<xs.length->(W2.drew.cell? ⟨B',(k+1)*6+t,none⟩).isSome=true):=λt ht=>by
  have:W2.drew.cell? ⟨B',(k+1)*6+t,none⟩=vr[(k+1)*6+t]?:=by show W2.cell? _=_;simp only[World.cell?,jW];simp
  rw[this,adc aa];rfl
 have pE:Hid (∀t,t<xs.length->W2.drew.frozen? ⟨B',(k+1)*6+t,none⟩=false):=λt ht=>by show W2.frozen? _=_;simp only[World.frozen?,jW];simp
 obtain⟨W3,BU⟩:∃W3,W3=W2.drew.setCells B' ((k+1)*6) xs:=⟨_,rfl⟩;have Ui:Hid (W3=W2.drew.setCells B' ((k+1)*6) xs):=BU;have ml:Hid (W3.ownsRow N 31 6 (.slice B' (n+1) c') (n+1) (aV (dR f k m)<|n+1)/\w.heap.size<=W3/\∀i,i<w.heap.size->W3.heap[i]?=w.heap[i]?):=by
  have Yz:W2.drew.heap[B']?=some (.cells vr 31 (0,0)):=jW;let⟨ab5,YA,vJ⟩:=dy B' _ xs ((k+1)*6) W2.drew vr Yz;rw[<-BU]at YA;refine⟨ZX aa hN YA aa h1 h2 (λj u hu=>?_) (λj u hu=>?_) λj u hu=>?_,?_⟩
  .have hj:=wT hu;rw[bp]at hj;rw[BU,qt _ (.inl aa)];show W2.cell? _=_;rw[uC,qt _ (.inl aa)];exact Cb j u hu
  .have hj:=wT hu;rw[BU,qt _ (.inl aa)];show W2.cell? _=_;rw[uC];exact CI mn aa j u hu
  .rw[BU];rw[<-vA]at hu;exact CI Yz aa j u hu
  .have z3:W3.heap.size=W.heap.size:=by rw[BU,dY];show W2.heap.size=_;rw[uC,dY]
   refine⟨aa,λi hi=>?_⟩;rw[BU,dP _ _ _ _ _ aa];show W2.heap[i]?=_;rw[uC,dP _ _ _ _ _ aa];exact oG i aa
 have e1:(k:Int)<=c:=aa;have e2:(k:Int)<=n:=aa;have e3:¬(k:Int)=n:=aa;have e4:((n:Int)+1>c):=aa;have w1:IntKind.i64.wrap ((n:Int)+1)=(n:Int)+1:=hZ;have w2:IntKind.i64.wrap ((k:Int)+1)=(k:Int)+1:=hZ;have w3:IntKind.i64.wrap ((n:Int)+1-k)=(n:Int)+1-k:=hZ;have e6:(k:Int)+1<=c':=aa;have e5:(k:Int)<=c':=aa;have e7:(k:Int)+1<=(n:Int)+1:=aa;have e8:¬c'=k+1:=aa;have XG:(0:Int)<=(k:Int)+1:=aa;have V8:(k:Int)<=(n:Int)+1:=aa;have e9:¬c=k:=aa;have e12:¬c'=k:=aa;clear hg hcell hcs hv mn yQ Cb U1 gB gv cell1 R3 uC jW mZ gB2 uc BU vA hlen ho oG bW;go_enter Tz.func282,Tryz.ntmps282
 go_wp2_with(at_builtin;refine Lib.wpList_append_run _ rfl (.tmp 34) (.tmp 39) _ _ rfl _ _ rfl rfl _ _ (hr _) ?_)
 all_goals try omega
 go_region_law (refine qa rfl (.tmp 50) (.tmp 53) 23 23 rfl 31 i0 6 aP hI eO B' ((k+1)*6) (n+1-(k+1)) (c'-(k+1)) ⟨B,k*6,none⟩ (n-k) (c-k) (by simp[Act.eval,Act.put]) (by simp[Act.eval,Act.put]) xs BX.out GE.out xl.out hd1.out pE.out ?_;rw[<-Ui.out])
 all_goals
  go_wp2;go_ret;exact⟨⟨B',c',rfl,ml.out.1⟩,ml.out.2⟩
section
variable [g:Gl]
def ak.SJ {P0:Program}{Dr:FuncId->Array Value->World->(Value->World->Prop)->Prop}(E:ee P0 ok qD Dr){k:List Item}(hb:ok.bh fb.fn=true)(ho:ops[i]?=some o)(hw:Region.wanted o (yielded ops a.tmps)=true){f:FuncId}{xs:Array Value}(hx:∀w,(execOp a.eval o).run P0 w=.ok (.enter f xs) w){R:Value->World->Prop}
  (hc:∀τ d,Calls P0 f xs (re V τ d) λe w'=>∃v,e=.returned v/\R v w')(aT:∀v V',R v V'->ak P0 ok qD Dr Q ⟨fb.at (a.put o.dst v)<|.inRegion ops r::k,cs,V'⟩):ak P0 ok qD Dr Q ⟨fb.at a<|.inRegion ops (i::r)::k,cs,V⟩:=by
 refine ak.ops E hb i [o] r (λa' w'=>∃v,a'=a.put o.dst v/\R v w') (λj hj=>?_) (λτ d=>?_) λa' w' h=>?_
 .simp only[List.length_singleton,Nat.lt_one_iff]at hj;subst hj;simp[ho]
 .unfold wpList;rw[if_pos hw];left;unfold Oper.wp;rw[hx];refine(hc τ d).mono ?_;rintro e w' ⟨v,rfl,h⟩;exact⟨rfl,v,rfl,h⟩
 .obtain⟨v,rfl,h⟩:=h;exact aT v w' h
def ak.Np (E:ee Tz.prog ok qD cX)(hIn:ok.bh 282=true)(ze:g.ov=283){k:List Item}(hb:ok.bh fb.fn=true)(ho:ops[i]?=some o)(hw:Region.wanted o (yielded ops a.tmps)=true)
  (hx:∀w,(execOp a.eval o).run Tz.prog w=.ok (.enter 282 #[.slice (some ⟨B,0,none⟩) n c,.int .i64 p,.slice (some ⟨Bv,0,none⟩) 1 1]) w)
  (hn:n<=1048576)(hp:p<=n)(hN:N<=V)(hr:V.ownsRow N 31 6 (.slice B n c) n (aV f n))(K_:Bv≠B)(hv:V.heap[Bv]?=some (.cells m.cells 31 (0,0)))
  (aT:∀BN cN V',V'.ownsRow N 31 6 (.slice (some ⟨BN,0,none⟩) (n+1) cN) (n+1) (aV (dR f p m)<|n+1)->V.heap.size<=V'.heap.size->(∀i,i<V.heap.size->i≠B->V'.heap[i]?=V.heap[i]?)->ak Tz.prog ok qD cX Q ⟨fb.at (a.put o.dst<|.slice (some ⟨BN,0,none⟩) (n+1) cN)<|.inRegion ops r::k,cs,V'⟩):ak Tz.prog ok qD cX Q ⟨fb.at a<|.inRegion ops (i::r)::k,cs,V⟩:=by
 have Sm:(∀τ d,Calls Tz.prog 282 #[.slice (some ⟨B,0,none⟩) n c,.int .i64 p,.slice (some ⟨Bv,0,none⟩) 1 1] (re V τ d) λe w'=>∃v,e=.returned v/\∃BN cN,v=.slice (some ⟨BN,0,none⟩) (n+1) cN/\w'.ownsRow N 31 6 (.slice (some ⟨BN,0,none⟩) (n+1) cN) (n+1) (aV (dR f p m)<|n+1)/\V.heap.size<=w'.heap.size/\∀i,i<V.heap.size->i≠B->w'.heap[i]?=V.heap[i]?)->ak Tz.prog ok qD cX Q ⟨fb.at a<|.inRegion ops (i::r)::k,cs,V⟩:=λh=>
  ak.SJ E hb ho hw hx h (by rintro v V' ⟨BN,cN,rfl,h1,h2,h3⟩;exact aT BN cN V' h1 h2 h3)
 by_cases e1:p=n
 .subst e1;refine Sm λτ d=>(GP B p c N Bv f m (re V τ d) hn hN (eK hr rfl) hv).mono ?_
  rintro e w' ⟨⟨BN,cN,rfl,h1⟩,h2⟩;exact⟨_,rfl,BN,cN,rfl,h1,h2.size,λi hi hB=>h2.block i hi λe=>hB (by cases e;rfl)⟩
 by_cases e2:c<n+1
 .refine Sm λτ d=>(D6 B n c p N Bv f m (re V τ d) hn (by omega) e2 hN (eK hr rfl) hv).mono ?_
  rintro e w' ⟨⟨BN,cN,rfl,h1⟩,h2,h3⟩;exact⟨_,rfl,BN,cN,rfl,h1,h2,λi hi hB=>h3 i hi⟩
 .exact ak.ey E ho hw hIn hx (Hy E hIn ze (r0:=fb.at a<|.inRegion ops (i::r)::k) hb hn (by omega) (by omega) hr K_ hv λV' h1 h2 h3=>by rw[cO ho];exact aT B c V' h1 (by omega) λi hi hB=>h3 i hB)
end
