import Derived.Test.YtlmcblcijndipaaGreatDoorj19
import Derived.Test.YtlmcblcijndipaaGreatDoorj36
import Derived.Lib.AppendZerosOnto
set_option linter.defProp false
set_option linter.unusedVariables false
set_option linter.unusedSimpArgs false
set_option maxHeartbeats 4000000
set_option maxRecDepth 100000
namespace Go.Proofs.YtlmcblcijndipaaGreatDoor
open Conc RowKit
variable {a:Act}{ops:Array Oper}{ok:Ctx}{fb qL:Frame}{cs:List Frame}{r:List Nat}{xs:List Value}{m:Mv}{B Bv N c i j k n p:Nat}{t:Nat->Int}{f:Nat->Mv}{o:Oper}{T:TypeId}{Q:Value->World->Prop}{V W w:World}
def fj {α:Type}(g:Nat->α)(p k:Nat):cQ g p k=g (lK p k):=by
 unfold cQ lK;split<;>split<;>first|rfl|omega
def Bp (hp:p<n)(hi:i<n-1):lK p i<n:=by unfold lK;split<;>omega
def Dm (h:i<j):lK p i<lK p j:=by unfold lK;split<;>split<;>omega
def JZ (hf:dU f t n)(hp:p<n):dU (cQ f p) (cQ t p) (n-1):=
 ⟨λj hj=>by rw[fj,fj];exact hf.1 _<|Bp hp hj,λj k hk hj=>by rw[fj,fj,fj,fj];exact hf.2 _ _ (Dm hk)<|Bp hp hj⟩
def SB (k:Nat):eT (cQ f p) (cQ t p) i k=eT f t (lK p i) (lK p k):=by
 unfold eT;simp only[fj];by_cases e:k=i
 .rw[if_pos e,if_pos (by rw[e])]
 .have:lK p k≠lK p i:=λh=>by
   rcases adb k i with h'|h'
   .have:=Dm (p:=p) h';omega
   .have:=Dm (p:=p) (show i<k by omega);omega
  rw[if_neg e,if_neg this]
def FJ:∀k,(al (cQ f p) (cQ t p) i k).Sublist (al f t (lK p i) (if k<=p then k else k+1))
 |0=>by simp[al]
 |k+1=>by
  have ih:=FJ k;have ZC:(al (cQ f p) (cQ t p) i k).Sublist (al f t (lK p i)<|lK p k):=by
   rw[show lK p k=if p<=k then k+1 else k from rfl];by_cases h:p<=k
   .rw[if_pos h];by_cases e:k<=p
    .rw[if_pos e]at ih;refine ih.trans ?_;simp only[al];split
     .exact List.Sublist.refl _
     .exact List.sublist_append_left _ _
    .rw[if_neg e]at ih;exact ih
   .rw[if_neg h];rw[if_pos ab]at ih;exact ih
  have kh:(if k+1<=p then k+1 else k+1+1)=lK p k+1:=by unfold lK;split<;>split<;>omega
  rw[kh];simp only[al,SB,fj];split
  .exact ZC
  .exact ZC.append (List.Sublist.refl _)
def Df:∀{L' L:List Mv},L'.Sublist L->∃e:Nat->Nat,∀j,j<L'.length->e j<L.length/\im L' j=im L (e j)/\∀i,i<j->e i<e j
 |_,_,.slnil=>⟨id,λj hj=>absurd hj<|ac7 _⟩
 |_,_,.cons a h=>by
  let⟨e,he⟩:=Df h;exact⟨λj=>e j+1,λj hj=>⟨by have:=(he j hj).1;simp;omega,by have:=(he j hj).2.1;simpa[im]using this,λi hi=>Nat.succ_lt_succ<|(he j hj).2.2 i hi⟩⟩
 |_,_,.cons_cons a h=>by
  let⟨e,he⟩:=Df h;refine⟨λj=>if j=0 then 0 else e (j-1)+1,λj hj=>?_⟩;cases j with
  |zero=>exact⟨aG,by simp[im],λi hi=>absurd hi<|ac7 _⟩
  |succ j=>
   have:=he j (by simpa using hj);refine⟨by have:=this.1;simp;omega,by have:=this.2.1;simpa[im]using this,λi hi=>?_⟩;cases i with
   |zero=>simp
   |succ i=>have:=this.2.2 i ab;simp;omega
def Kn (hm:az f n=true)(hf:dU f t n)(hp:p<n)(hs:tO f n t):tO (cQ f p) (n-1) (cQ t p):=by
 intro i hi hl;rw[fj]at hl;have hI:=Bp hp hi;have hR:=hs _ hI hl;have rJ:=qF hm hp;have NH:=JZ hf hp;have VT:(al (cQ f p) (cQ t p) i<|n-1).Sublist (al f t (lK p i) n):=by
  have:=FJ (f:=f) (t:=t) (p:=p) (i:=i)<|n-1;by_cases e:n-1<=p
  .rw[if_pos e]at this;refine this.trans ?_;obtain⟨n,rfl⟩:∃k,n=k+1:=⟨n-1,ab⟩;simp only[Nat.add_sub_cancel,al];split
   .exact List.Sublist.refl _
   .exact List.sublist_append_left _ _
  .rw[if_neg e,show n-1+1=n by omega]at this;exact this
 unfold cY at hR⊢;rw[fj f,fj t];split at hR
 .rename_i GW;rw[if_pos GW];unfold fI at hR⊢;split at hR
  .rename_i G1;let⟨T,hT⟩:=Option.isSome_iff_exists.1 hR;have F:=D7 hT;let⟨l,Je,_,PY⟩:=F.is;let⟨_,o1,o2⟩:=gj Je;have gG:=(qn F.moves o1 (λj k h1 h2=>o2 j k h1 h2) PY).fit;let⟨e,he⟩:=Df VT;have ZV:∀j,j<(al (cQ f p) (cQ t p) i<|n-1).length->d7 (im (al (cQ f p) (cQ t p) i<|n-1) j) (t (lK p i)+4)=true:=λj hj=>by
    rw[(he j hj).2.1];exact G1 _ (he j hj).1
   rw[if_pos ZV];have pb:=vq rJ NH hi (by rw[fj,fj];exact GW) (by rw[fj];exact ZV);rw[fj]at pb;refine Kd (T:=λj=>T<|e j) pb ⟨λj hj=>?_,λj k hk hj=>?_⟩
   .unfold er;rw[(he j hj).2.1];exact gG.1 _ (he j hj).1
   .unfold er;rw[(he j hj).2.1,(he k ab).2.1];exact gG.2 _ _ ((he j hj).2.2 k hk) (he j hj).1
  .cases hR
 .cases hR
section
variable {w':World}{base s:Nat}
def DJ (w:World)(B n:Nat)(t:Nat->Int):Prop:=(∃cs,w.heap[B]?=some (.cells cs 3 (0,0))/\n<=cs.size)/\aA w B 0 n t
def ij (h:DJ w B n t)(e:w'.heap[B]?=w.heap[B]?):DJ w' B n t:=by
 let⟨⟨cs,h1,h2⟩,h3⟩:=h;exact⟨⟨cs,e.trans h1,h2⟩,λi hi=>(ac0 (a:=⟨B,0+i,none⟩) e).trans<|h3 i hi⟩
def DJ.lt (h:DJ w B n t):B<w:=by
 let⟨⟨cs,h1,h2⟩,h3⟩:=h;exact(ac5.1 h1).1
def Oh (h:aC w B n t):DJ w B n t:=by
 let⟨⟨cs,h1,h2⟩,h3⟩:=h;exact⟨⟨cs,h1,ab⟩,h3⟩
def K9 (h:w.ownsRow base 3 1 (.slice B n c) n (ee t n)):DJ w B n t:=by
 let⟨cur,hg,P3,AB,hcs,L2,hcell⟩:=di h;exact⟨⟨cur,hg,ab⟩,λi hi=>by rw[Nat.zero_add];exact hcell i _<|dY hi⟩
def eQ (h:w.ownsRow base T s (.slice B n c) n xs)(e:w'.heap[B]?=w.heap[B]?):w'.ownsRow base T s (.slice B n c) n xs:=by
 obtain⟨h1,h2|⟨g,cap,cur,h2,h3,h4,h5⟩⟩:=h
 .exact⟨h1,.inl h2⟩
 .cases h2;exact⟨h1,.inr ⟨_,_,cur,rfl,h3,e.trans h4,h5⟩⟩
def AS {v:Value}(h:w.ownsRow base T s v n xs)(hn:0<n):∃B c,v=.slice (some ⟨B,0,none⟩) n c/\base<=B/\B<w.heap.size:=by
 obtain⟨h1,⟨_,h2⟩|⟨g,cap,cur,h2,h3,h4,h5⟩⟩:=h
 .omega
 .exact⟨g,cap,h2,h3,(ac5.1 h4).1⟩
def R1 {A n' c' s':Nat}{T':TypeId}{ys:List Value}(h:w.ownsRow N T s (.slice A n c) n xs)(h':w.ownsRow N T' s' (.slice B n' c') n' ys)(hT:T≠T'):A≠B:=by
 let⟨c1,g1,_⟩:=di h;let⟨c2,g2,_⟩:=di h';rintro rfl;rw[g1]at g2;cases g2;exact hT rfl
end
def Fj (f:Nat->Mv)(n:Nat)(m:Mv):aU f n++m.cells.toList=aU (dR f n m) (n+1):=by
 have:=yE f n n m<|ac3 _;rw[Nat.sub_self]at this;simpa[aU]using this
def Hf (B n c N Bv:Nat)(f:Nat->Mv)(m:Mv)(w:World)(hn:n<=1048576)(hN:N<=w)(ho:w.ownsRow N 31 6 (.slice B n c) n (aU f n))(hv:w.heap[Bv]?=some (.cells m.cells 31 (0,0))):
  Calls Tz.prog 282 #[.slice (some ⟨B,0,none⟩) n c,.int .i64 n,.slice (some ⟨Bv,0,none⟩) 1 1] w λe w'=>(∃B' c',e=.returned (.slice (some ⟨B',0,none⟩) (n+1) c')/\w'.ownsRow N 31 6 (.slice (some ⟨B',0,none⟩) (n+1) c') (n+1) (aU (dR f n m)<|n+1))/\w.grownBy w' (some B):=by
 let⟨i0,hI,gE,eG,ga⟩:=eP;let⟨cur,hg,P3,AB,hcs,L2,hcell⟩:=di ho;have acn:(n:Int)<=c:=ab;have pi:=uq hv;clear hg hcell hcs hv;go_enter Tz.func282,Tryz.ntmps282
 go_wp2_with(at_builtin;refine wpList_append_own _ rfl (.tmp 23) (.tmp 24) 23 rfl N 31 i0 _ 6 56 aR hI gE eG ga rfl bd (.slice B n c) n (aU f n) bD ho Bv 1 1 m.cells.toList bD rfl pi (gb m) ie ab hN ?_;intro v2 w2 qN jT ze)
 all_goals
  have hne:v2≠.slice none 0 0:=λe=>by have:=ze.1 e;simp at this
  obtain⟨B',c',rfl⟩:=lA qN hne;go_ret;rw[Fj]at qN;exact⟨⟨B',c',rfl,qN⟩,jT⟩
section
variable {o:Nat}{cur:Array Value}
def M_ (hk:k<=n)(L2:N<=B)(hg:W.heap[B]?=some (.cells cur 31 (0,0)))(hs:cur.size=c*6)(uV:n+1<=c)(AB:c<=maxLen)
  (h1:∀j u,(aU f k)[j]?=some u->W.cell? ⟨B,j,none⟩=some u)(h2:∀j u,m.cells.toList[j]?=some u->W.cell? ⟨B,k*6+j,none⟩=some u)(h3:∀j u,(aU (λj=>f<|k+j)<|n-k)[j]?=some u->W.cell? ⟨B,(k+1)*6+j,none⟩=some u):
  W.ownsRow N 31 6 (.slice B (n+1) c) (n+1) (aU (dR f k m)<|n+1):=by
 have lm:m.cells.toList.length=6:=rfl;have la:(aU f k++m.cells.toList).length=k*6+6:=by rw[List.length_append,bq,lm]
 refine mC L2 hg hs uV AB (bq _ _) λj u hu=>?_
 rw[<-yE f k n m hk]at hu;by_cases c1:j<k*6
 .rw[adf ab,adf (by rw[bq];exact c1)]at hu;exact h1 j u hu
 by_cases c2:j<k*6+6
 .rw[adf ab,adg (by rw[bq];omega),bq]at hu;have:=h2 _ u hu;rwa [show k*6+(j-k*6)=j by omega]at this
 .rw[adg ab,la]at hu;have:=h3 _ u hu;rwa [show(k+1)*6+(j-(k*6+6))=j by omega]at this
def C0 (hg:w.heap[B]?=some (.cells cur T (0,0)))(hl:o+xs.length<=cur.size):∀j u,xs[j]?=some u->(w.setCells B o xs).cell? ⟨B,o+j,none⟩=some u:=λj u hu=>by
 let⟨hj,e⟩:=adc.1 hu;rw[World.cell?_setCells_in B xs o w (λi hi=>by
  have:w.cell? ⟨B,o+i,none⟩=cur[o+i]?:=by simp[World.cell?,hg]
  rw[this,ada ab];rfl) j hj,<-e]
def qy (p:Nat)(h:p<o\/o+xs.length<=p):(w.setCells B o xs).cell? ⟨B,p,none⟩=w.cell? ⟨B,p,none⟩:=World.cell?_setCells_out B _ _ _ _ λ_ _=>h
def xq {u:Value}(h:xs[j]?=some u):j<xs.length:=(adc.1 h).1
def LW (hn:n<=1048576)(hk:k<n)(hc:c<n+1)(ho:w.ownsRow N 31 6 (.slice B n c) n (aU f n)):
  ∃c' W,(∀ty,(Builtin.append_ #[23,3] ty #[.slice B k c,.int .i64<|(n:Int)+1-k]).run Tz.prog w=.ok (.slice w.heap.size (n+1) c') W)/\n+1<=c'/\c'<=maxLen/\
   (∃cur,W.heap[w.heap.size]?=some (.cells cur 31 (0,0))/\cur.size=c'*6)/\(∀j u,(aU f k)[j]?=some u->W.cell? ⟨w.heap.size,j,none⟩=some u)/\Below w w W/\W.heap.size=w.heap.size+1:=by
 let⟨i,hI,gE,eG,ga⟩:=eP;let⟨cur,hg,P3,AB,hcs,L2,hcell⟩:=di ho;have e1:k+(n+1-k)=n+1:=ab;have e2:((n:Int)+1-k)=((n+1-k:Nat):Int):=ab;have hcn:c=n:=ab;have hfc:=run_firstCells_some (P:=Tz.prog) (w:=w.drew) 6 k B k c (aU f k) (bq f k) (λj v hv=>by
  have:=hcell j v<|(yD f (adm hk) (by have:=xq hv;rw[bq]at this;exact this)).trans hv;rw[pz,Nat.zero_add];exact this)
 have hr:∀ty,_:=λty=>by
  have:=Lib.run_append_grow_zeros (P:=Tz.prog) w 23 3 ty 31 i _ .i64 .i64 aR (Tz.aE Tryz.underlying3) hI gE B k c (aU f k) (by rw[eG];exact hfc) (n+1-k) ab ab ab ab (by rw[ga];omega) (by rw[ga];exact growslice_fits ab ab);rw[e1,<-e2]at this;exact this
 refine⟨_,_,hr,grownCap_ge _ _ _ _,grownCap_le_maxLen _ _ _ _ ie,?_,?_,?_,?_⟩
 .exact⟨_,heap_alloc_new _ _,by simp[Builtin.zeroCells,Value.cells,bq];have:=grownCap_ge w (n+1) c 31;omega⟩
 .intro j u hu;have hj:=xq hu;have:∀xs:Array Value,(w.drew.alloc<|.cells ((aU f k).toArray++xs) 31).cell? ⟨w.heap.size,j,none⟩=some u:=λxs=>by
   have h0:=heap_alloc_new w.drew<|.cells ((aU f k).toArray++xs) 31;simp only[World.cell?];rw[show w.heap.size=w.drew.heap.size from rfl,h0];simp[Array.getElem?_append,hj,List.getElem?_eq_getElem hj]at hu⊢;exact hu
  rw[Array.append_assoc];exact this _
 .exact(acU _ w).drew.alloc (ac3 _) _
 .exact acZ _ _
end
def vr (B:Nat):∀(vs:List Value) (o:Nat) {w w':World},w.heap=w'.heap->(w.setCells B o vs).heap=(w'.setCells B o vs).heap
 |[],_,_,_,h=>h
 |v::vs,o,w,w',h=>vr B vs (o+1) (by simp only[World.setCell];rw[h])
def Lg (hk:k<n)(uV:n+1<=c)(ho:W.ownsRow N 31 6 (.slice B n c) n (aU f n)):
  ((W.setCells B ((k+1)*6)<|aU (λj=>f<|k+j)<|n-k).setCells B (k*6) m.cells.toList).ownsRow N 31 6 (.slice B (n+1) c) (n+1) (aU (dR f k m)<|n+1):=by
 let⟨cur,hg,P3,AB,hcs,L2,hcell⟩:=di ho;let⟨mo,mw,vR⟩:=dy B _ (aU (λj=>f<|k+j)<|n-k) ((k+1)*6) W cur hg;let⟨vK,jT,ze⟩:=dy B _ m.cells.toList (k*6) _ mo mw;have lm:m.cells.toList.length=6:=rfl;have lr:=bq (λj=>f<|k+j)<|n-k;refine M_ ab L2 jT ab uV AB (λj u hu=>?_) (C0 mw ab) λj u hu=>?_
 .have hj:=xq hu;rw[bq]at hj;rw[qy _ (.inl ab),qy _ (.inl ab)];exact hcell j u<|(yD f ab hj).trans hu
 .rw[qy _ (.inr ab)];exact C0 hg ab j u hu
section
variable [g:Gl]
def IE (E:dM Tz.prog ok qL bY)(hIn:ok.aX 282=true)(vP:g.ov=283){r0:Frame}(f7:ok.aX r0.fn=true)
  (hn:n<=1048576)(hk:k<n)(uV:n+1<=c)(ho:V.ownsRow N 31 6 (.slice B n c) n (aU f n))(Ky:Bv≠B)(hv:V.heap[Bv]?=some (.cells m.cells 31 (0,0)))
  (aH:∀V',V'.ownsRow N 31 6 (.slice B (n+1) c) (n+1) (aU (dR f k m)<|n+1)->V'.heap.size=V.heap.size->(∀i,i≠B->V'.heap[i]?=V.heap[i]?)->aj Tz.prog ok qL bY Q ⟨r0.finish<|.slice B (n+1) c,cs,V'⟩):
  aj Tz.prog ok qL bY Q ⟨Frame.enter Tz.prog 282 #[.slice (some ⟨B,0,none⟩) n c,.int .i64 k,.slice (some ⟨Bv,0,none⟩) 1 1] .normal,r0::cs,V⟩:=by
 have hE:=enter_at (P:=Tz.prog) #[.slice (some ⟨B,0,none⟩) n c,.int .i64 k,.slice (some ⟨Bv,0,none⟩) 1 1] Tz.func282 rfl;simp only[Tryz.ntmps282,List.size_toArray,List.length_cons,List.length_nil,Nat.reduceAdd,Nat.reduceSub,Array.replicate_succ,Array.replicate_zero,List.push_toArray,List.append_toArray,List.nil_append,List.cons_append]at hE;rw[hE];clear hE;let⟨cur,hg,P3,AB,hcs,L2,hcell⟩:=di ho;have e1:(k:Int)<=c:=ab;have e2:(k:Int)<=n:=ab;have e3:¬(k:Int)=n:=ab;have e4:¬((n:Int)+1>c):=ab;have e5:((n:Int)+1)<=c:=ab;have w1:IntKind.i64.wrap ((n:Int)+1)=(n:Int)+1:=by rw[IntKind.wrap_i64];unfold maxLen at AB;omega
 have w2:IntKind.i64.wrap ((k:Int)+1)=(k:Int)+1:=by rw[IntKind.wrap_i64];unfold maxLen at AB;omega
 have e6:(k:Int)+1<=c:=ab;have e7:(k:Int)+1<=(n:Int)+1:=ab;have e8:¬c=k+1:=ab;have UT:(0:Int)<=(k:Int)+1:=ab;have Xn:(k:Int)<=(n:Int)+1:=ab;have e9:¬c=k:=ab;refine aj.chain E hIn [_,_,_,_,_,_,_,_] _ (λa' w'=>(∃τ d,w'=re V τ d)/\iz a' (rW 95 [(0,.slice (some ⟨B,0,none⟩) (n+1) c),(1,.int .i64 k),(2,.slice (some ⟨Bv,0,none⟩) 1 1),(7,.int .i64 1),(8,.int .i64 n)])) (λ_ _=>False) ?_ ?_ λ_ _ _ h=>h.elim
 .intro τ d;clear aH ho hg hcell hv;simp only[aD];go_wp2;all_goals try omega
  exact⟨⟨τ,d,rfl⟩,rfl,rfl⟩
 rintro a' w' ⟨⟨τ1,d1,rfl⟩,fM⟩;obtain⟨u,rfl⟩:=fM.open;clear fM;refine aj.seq E hIn<|aj.seq E hIn<|aj.region E hIn ?_;rw[lw];refine aj.kv E hIn 0 6 aG (λa' w'=>(∃τ d,w'=re V τ d)/\iz a' (rW 95 [(0,.slice (some ⟨B,0,none⟩) (n+1) c),(1,.int .i64 k),(2,.slice (some ⟨Bv,0,none⟩) 1 1),(7,.int .i64 1),(8,.int .i64 n),(61,.slice (some ⟨Bv,0,none⟩) 1 1),(66,.slice (some ⟨B,(k+1)*6,none⟩) (n-k)<|c-(k+1))])) ?_ ?_
 .intro τ d;clear aH ho hg hcell hv;simp only[aK];go_wp2;exact⟨⟨_,_,rfl⟩,rfl,rfl⟩
 rintro a' w' ⟨⟨τ2,d2,rfl⟩,fM⟩;clear u;obtain⟨u,rfl⟩:=fM.open;clear fM;refine aj.YC hIn rfl (by rw[vP];decide) (i:=6) rfl rfl (x:=61) (y:=66) (by rw[vP];rfl) (p:=Bv) (q:=⟨B,(k+1)*6,none⟩) rfl rfl Ky hv (show(6:Nat)≠0 by decide) hg ab ?_;refine aj.kv E hIn 7 1 aG (λa' w'=>(∃τ d,w'=re V τ d)/\iz a' (rW 95 [(0,.slice (some ⟨B,0,none⟩) (n+1) c),(1,.int .i64 k),(2,.slice (some ⟨Bv,0,none⟩) 1 1),(7,.int .i64 1),(8,.int .i64 n),(68,.bool true)])) ?_ ?_
 .intro τ d;clear aH ho hg hcell hv;simp only[aK,Act.put];go_wp2;exact⟨⟨_,_,rfl⟩,rfl,rfl⟩
 rintro a' w' ⟨⟨Mf,d3,rfl⟩,fM⟩;clear u;obtain⟨u,rfl⟩:=fM.open;clear fM;refine aj.regionEnd E hIn<|aj.cond E hIn (t:=true) rfl ?_;refine aj.BL E hIn [_] _ (λa' w'=>(∃W:World,W.heap=V.heap/\w'.heap=(W.setCells B ((k+1)*6)<|aU (λj=>f<|k+j)<|n-k).heap)/\iz a' (rW 95 [(0,.slice (some ⟨B,0,none⟩) (n+1) c),(1,.int .i64 k),(2,.slice (some ⟨Bv,0,none⟩) 1 1),(7,.int .i64 1),(8,.int .i64 n),(68,.bool true)])) (λ_ _=>False) ?_ ?_ λ_ _ _ hh=>hh.elim
 .intro τ d;let⟨i0,hI,gE,eG,ga⟩:=eP;have zd:(re (re V Mf d3) τ d).drew.ownsRow N 31 6 (.slice B n c) n (aU f n):=eQ ho rfl;have P5:(re (re V Mf d3) τ d).drew.heap[Bv]?=some (.cells m.cells 31 (0,0)):=hv;have hhp:(re (re V Mf d3) τ d).drew.heap=V.heap:=rfl;revert zd P5 hhp;generalize re (re V Mf d3) τ d=w;intro zd P5 hhp;clear aH hg hcell ho hv P5;let⟨QN,qM,_,_,GU,_,Vt⟩:=di zd;obtain⟨xs,vU⟩:∃xs,xs=aU (λj=>f<|k+j) (n-k):=⟨_,rfl⟩;have hlen:xs.length=(n-k)*6:=by rw[vU,bq]
  have xJ:Hid (∀u∈xs,u.oneCell'=true):=by rw[vU];exact eR _ _
  have G4:Hid (∀t u,xs[t]?=some u->w.drew.cell? ((⟨B,k*6,none⟩:Addr).add t)=some u):=λt u hu=>by
   rw[vU]at hu;exact dZ (nu (dW zd) (show k<=n by omega)) t u hu
  have Ck:Hid (xs.length=Nat.min (n+1-k) (n-k)*6):=by have e:Nat.min (n+1-k) (n-k)=n-k:=Nat.min_eq_right ab;rw[hlen,e];exact rfl
  have vR:Hid (∀t,t<xs.length->(w.drew.cell? ⟨B,(k+1)*6+t,none⟩).isSome=true):=λt ht=>by
   have:w.drew.cell? ⟨B,(k+1)*6+t,none⟩=QN[(k+1)*6+t]?:=by simp only[World.cell?,qM];simp
   rw[this,ada ab];rfl
  have pH:Hid (∀t,t<xs.length->w.drew.frozen? ⟨B,(k+1)*6+t,none⟩=false):=λt ht=>by simp only[World.frozen?,qM];simp
  have Zq:Hid (w.drew.heap=V.heap):=hhp;obtain⟨W1,xy⟩:∃W1,W1=w.drew.setCells B ((k+1)*6) xs:=⟨_,rfl⟩;have kh:Hid (W1.heap=(w.drew.setCells B ((k+1)*6)<|aU (λj=>f<|k+j)<|n-k).heap):=by rw[xy,vU];exact rfl
  have Vh:Hid (W1=w.drew.setCells B ((k+1)*6) xs):=xy;clear xy vU hlen qM Vt zd GU hhp;simp only[aD];go_wp2_with fail
  go_region_law (refine qd rfl (.tmp 73) (.tmp 76) 23 23 rfl 31 i0 6 aR hI eG B ((k+1)*6) (n-k) (c-(k+1)) ⟨B,k*6,none⟩ (n+1-k) (c-k) (by simp[Act.eval,Act.put]) (by simp[Act.eval,Act.put]) xs Ck.out G4.out xJ.out vR.out pH.out ?_;rw[<-Vh.out])
  all_goals exact⟨⟨w.drew,Zq.out,kh.out⟩,rfl,rfl⟩
 rintro a' w1 ⟨⟨W,Xx,N6⟩,fM⟩;clear u;obtain⟨u,rfl⟩:=fM.open;clear fM;refine aj.last E hIn [_,_] (λa' w'=>w'.ownsRow N 31 6 (.slice B (n+1) c) (n+1) (aU (dR f k m)<|n+1)/\w'.heap.size=V.heap.size/\(∀i:Nat,i≠B->w'.heap[i]?=V.heap[i]?)/\a'.defers=[]/\a'.tmps[6]?=some (.slice B (n+1) c)) ?_ ?_
 .intro τ d;let⟨i0,hI,gE,eG,ga⟩:=eP;have KO:(re w1 τ d).heap=(W.setCells B ((k+1)*6)<|aU (λj=>f<|k+j)<|n-k).heap:=N6;revert KO;generalize re w1 τ d=w;intro KO;have hoW:W.ownsRow N 31 6 (.slice B n c) n (aU f n):=eQ ho (by rw[Xx]);obtain⟨mo,mw,abi⟩:∃mo,w.heap[B]?=some (.cells mo 31 (0,0))/\mo.size=cur.size:=by rw[KO];exact dy B _ _ _ _ _ (by rw[Xx];exact hg)
  have f_:w.heap[Bv]?=some (.cells m.cells 31 (0,0)):=by rw[KO,dP _ _ _ _ _ Ky,Xx];exact hv
  have TL:Hid (∀t u,m.cells.toList[t]?=some u->w.cell? ((Bv:Addr).add t)=some u):=uq f_;have ze:Hid (∀t,t<m.cells.toList.length->(w.cell? ⟨B,k*6+t,none⟩).isSome=true):=λt ht=>by
   have ht':t<6:=ht;have:w.cell? ⟨B,k*6+t,none⟩=mo[k*6+t]?:=by simp only[World.cell?,mw];simp
   rw[this,ada ab];rfl
  have Tg:Hid (∀t,t<m.cells.toList.length->w.frozen? ⟨B,k*6+t,none⟩=false):=λt ht=>by simp only[World.frozen?,mw];simp
  have To:Hid (m.cells.toList.length=Nat.min 1 (n+1-k)*6):=(show(6:Nat)=Nat.min 1 (n+1-k)*6 by have e:Nat.min 1 (n+1-k)=1:=Nat.min_eq_left ab;rw[e]);obtain⟨W2,uP⟩:∃W2,W2=w.setCells B (k*6) m.cells.toList:=⟨_,rfl⟩;have hp:=Lg (m:=m) hk uV hoW;have hq:W2.heap=((W.setCells B ((k+1)*6)<|aU (λj=>f<|k+j)<|n-k).setCells B (k*6) m.cells.toList).heap:=by rw[uP];exact vr B _ _ KO
  have kh:Hid (W2.ownsRow N 31 6 (.slice B (n+1) c) (n+1) (aU (dR f k m)<|n+1)/\W2.heap.size=V.heap.size/\∀i:Nat,i≠B->W2.heap[i]?=V.heap[i]?):=⟨eQ hp<|by rw[hq],by rw[hq,d8,d8,Xx],λi hi=>by rw[hq,dP _ _ _ _ _ hi,dP _ _ _ _ _ hi,Xx]⟩;have Za:∀ty,(Builtin.copy_ #[23,23] ty #[.slice (some ⟨B,k*6,none⟩) (n+1-k)<|c-k,.slice Bv 1 1]).run Tz.prog w=.ok (goInt<|Nat.min 1<|n+1-k) W2:=λty=>by rw[uP];exact mF w _ _ ty _ i0 6 aR hI eG B (k*6) (n+1-k) (c-k) Bv 1 1 m.cells.toList To.out TL.out (gb m) ze.out Tg.out
  clear TL ze Tg To;clear uP aH hg hcell ho hv mw abi f_ KO N6 hoW hp hq Xx hcs;simp only[aD];go_wp2;exact kh.out
 .rintro a' w' todo ⟨h1,h2,h3,h4,h5⟩;refine aj.leave E f7 (v:=.slice B (n+1) c) (λτ d=>⟨rfl,h4,rfl,_,Tz.func282,?_⟩)<|aH w' h1 h2 h3;have:=results_tmp (fn:=Tryz.f282) rfl a'.tmps Tz.prog<|re w' τ d;rw[kg h5]at this;exact this
end
def Es (B n c k N Bv:Nat)(f:Nat->Mv)(m:Mv)(w:World)(hn:n<=1048576)(hk:k<n)(hc:c<n+1)(hN:N<=w)(ho:w.ownsRow N 31 6 (.slice B n c) n (aU f n))(hv:w.heap[Bv]?=some (.cells m.cells 31 (0,0))):
  Calls Tz.prog 282 #[.slice (some ⟨B,0,none⟩) n c,.int .i64 k,.slice (some ⟨Bv,0,none⟩) 1 1] w λe w'=>(∃B' c',e=.returned (.slice (some ⟨B',0,none⟩) (n+1) c')/\w'.ownsRow N 31 6 (.slice (some ⟨B',0,none⟩) (n+1) c') (n+1) (aU (dR f k m)<|n+1))/\w.heap.size<=w'.heap.size/\∀i,i<w.heap.size->w'.heap[i]?=w.heap[i]?:=by
 let⟨i0,hI,gE,eG,ga⟩:=eP;let⟨cur,hg,P3,AB,hcs,L2,hcell⟩:=di ho;let⟨c',W,hr,h1,h2,⟨mo,mw,vR⟩,Cq,bW,VW⟩:=LW hn hk hc ho;obtain⟨B',Q9⟩:∃x,w.heap.size=x:=⟨_,rfl⟩;have lB:B<w:=(ac5.1 hg).1;have lv:Bv<w:=(ac5.1 hv).1;have gB:=(bW.block B lB).trans hg;have gv:=(bW.block Bv lv).trans hv;have pa:=bW.block;rw[Q9]at hr mw Cq lB lv VW hN pa;obtain⟨xs,vU⟩:∃xs,xs=aU (λj=>f<|k+j) (n-k):=⟨_,rfl⟩;have hlen:xs.length=(n-k)*6:=by rw[vU,bq]
 have lm:m.cells.toList.length=6:=rfl;have cell1:∀t,t<c'*6->W.cell? ⟨B',t,none⟩=mo[t]?:=λt ht=>by simp only[World.cell?,mw];simp
 have SU:∀t,t<c'*6->(W.cell? ⟨B',t,none⟩).isSome=true:=λt ht=>by rw[cell1 t ht,ada ab];rfl
 obtain⟨W2,uP⟩:∃W2,W2=W.setCells B' (k*6) m.cells.toList:=⟨_,rfl⟩;have Za:∀ty,(Builtin.copy_ #[23,23] ty #[.slice (some ⟨B',k*6,none⟩) (n+1-k)<|c'-k,.slice Bv 1 1]).run Tz.prog W=.ok (goInt<|Nat.min 1<|n+1-k) W2:=λty=>by
  rw[uP];exact mF W _ _ ty _ i0 6 aR hI eG B' (k*6) (n+1-k) (c'-k) Bv 1 1 m.cells.toList (show(6:Nat)=Nat.min 1 (n+1-k)*6 by have e:Nat.min 1 (n+1-k)=1:=Nat.min_eq_left ab;rw[e]) (uq gv) (gb m) (λt ht=>SU _<|by rw[lm]at ht;omega) (λt ht=>by simp only[World.frozen?,mw];simp)
 let⟨vK,jT,ze⟩:=dy B' _ m.cells.toList (k*6) W mo mw;rw[<-uP]at jT;have gB2:W2.heap[B]?=some (.cells cur 31 (0,0)):=by rw[uP,dP _ _ _ _ _ ab];exact gB
 have ut:=dW ho;have xJ:Hid (∀u∈xs,u.oneCell'=true):=by rw[vU];exact eR _ _
 have G4:Hid (∀t u,xs[t]?=some u->W2.drew.cell? ((⟨B,k*6,none⟩:Addr).add t)=some u):=λt u hu=>by
  rw[vU]at hu;have:=dZ (nu ut (show k<=n by omega)) t u hu;rw[pz]at this⊢;exact(ac0 (a:=⟨B,k*6+t,none⟩)<|gB2.trans hg.symm).trans this
 have Ck:Hid (xs.length=Nat.min (n-k) (n+1-(k+1))*6):=by have e:Nat.min (n-k) (n+1-(k+1))=n-k:=Nat.min_eq_left ab;rw[hlen,e];exact rfl
 have hd1:Hid (∀t,t<xs.length->(W2.drew.cell? ⟨B',(k+1)*6+t,none⟩).isSome=true):=λt ht=>by
  have:W2.drew.cell? ⟨B',(k+1)*6+t,none⟩=vK[(k+1)*6+t]?:=by show W2.cell? _=_;simp only[World.cell?,jT];simp
  rw[this,ada ab];rfl
 have pH:Hid (∀t,t<xs.length->W2.drew.frozen? ⟨B',(k+1)*6+t,none⟩=false):=λt ht=>by show W2.frozen? _=_;simp only[World.frozen?,jT];simp
 obtain⟨W3,Ch⟩:∃W3,W3=W2.drew.setCells B' ((k+1)*6) xs:=⟨_,rfl⟩;have Vh:Hid (W3=W2.drew.setCells B' ((k+1)*6) xs):=Ch;have kh:Hid (W3.ownsRow N 31 6 (.slice B' (n+1) c') (n+1) (aU (dR f k m)<|n+1)/\w.heap.size<=W3/\∀i,i<w.heap.size->W3.heap[i]?=w.heap[i]?):=by
  have Zk:W2.drew.heap[B']?=some (.cells vK 31 (0,0)):=jT;let⟨ab5,Zl,hs3⟩:=dy B' _ xs ((k+1)*6) W2.drew vK Zk;rw[<-Ch]at Zl;refine⟨M_ ab hN Zl ab h1 h2 (λj u hu=>?_) (λj u hu=>?_) λj u hu=>?_,?_⟩
  .have hj:=xq hu;rw[bq]at hj;rw[Ch,qy _ (.inl ab)];show W2.cell? _=_;rw[uP,qy _ (.inl ab)];exact Cq j u hu
  .have hj:=xq hu;rw[Ch,qy _ (.inl ab)];show W2.cell? _=_;rw[uP];exact C0 mw ab j u hu
  .rw[Ch];rw[<-vU]at hu;exact C0 Zk ab j u hu
  .have z3:W3.heap.size=W.heap.size:=by rw[Ch,d8];show W2.heap.size=_;rw[uP,d8]
   refine⟨ab,λi hi=>?_⟩;rw[Ch,dP _ _ _ _ _ ab];show W2.heap[i]?=_;rw[uP,dP _ _ _ _ _ ab];exact pa i ab
 have e1:(k:Int)<=c:=ab;have e2:(k:Int)<=n:=ab;have e3:¬(k:Int)=n:=ab;have e4:((n:Int)+1>c):=ab;have w1:IntKind.i64.wrap ((n:Int)+1)=(n:Int)+1:=ia;have w2:IntKind.i64.wrap ((k:Int)+1)=(k:Int)+1:=ia;have w3:IntKind.i64.wrap ((n:Int)+1-k)=(n:Int)+1-k:=ia;have e6:(k:Int)+1<=c':=ab;have e5:(k:Int)<=c':=ab;have e7:(k:Int)+1<=(n:Int)+1:=ab;have e8:¬c'=k+1:=ab;have UT:(0:Int)<=(k:Int)+1:=ab;have Xn:(k:Int)<=(n:Int)+1:=ab;have e9:¬c=k:=ab;have e12:¬c'=k:=ab;clear hg hcell hcs hv mw vR Cq VW gB gv cell1 SU uP jT ze gB2 ut Ch vU hlen ho pa bW;go_enter Tz.func282,Tryz.ntmps282
 go_wp2_with(at_builtin;refine Lib.wpList_append_run _ rfl (.tmp 34) (.tmp 39) _ _ rfl _ _ rfl rfl _ _ (hr _) ?_)
 all_goals try omega
 go_region_law (refine qd rfl (.tmp 50) (.tmp 53) 23 23 rfl 31 i0 6 aR hI eG B' ((k+1)*6) (n+1-(k+1)) (c'-(k+1)) ⟨B,k*6,none⟩ (n-k) (c-k) (by simp[Act.eval,Act.put]) (by simp[Act.eval,Act.put]) xs Ck.out G4.out xJ.out hd1.out pH.out ?_;rw[<-Vh.out])
 all_goals
  go_wp2;go_ret;exact⟨⟨B',c',rfl,kh.out.1⟩,kh.out.2⟩
section
variable [g:Gl]
def aj.TP {P0:Program}{Dr:FuncId->Array Value->World->(Value->World->Prop)->Prop}(E:dM P0 ok qL Dr){k:List Item}(hb:ok.aX fb.fn=true)(ho:ops[i]?=some o)(hw:Region.wanted o (yielded ops a.tmps)=true){f:FuncId}{xs:Array Value}(hx:∀w,(execOp a.eval o).run P0 w=.ok (.enter f xs) w){R:Value->World->Prop}
  (hc:∀τ d,Calls P0 f xs (re V τ d) λe w'=>∃v,e=.returned v/\R v w')(aH:∀v V',R v V'->aj P0 ok qL Dr Q ⟨fb.at (a.put o.dst v)<|.inRegion ops r::k,cs,V'⟩):aj P0 ok qL Dr Q ⟨fb.at a<|.inRegion ops (i::r)::k,cs,V⟩:=by
 refine aj.ops E hb i [o] r (λa' w'=>∃v,a'=a.put o.dst v/\R v w') (λj hj=>?_) (λτ d=>?_) λa' w' h=>?_
 .simp only[List.length_singleton,Nat.lt_one_iff]at hj;subst hj;simp[ho]
 .unfold wpList;rw[if_pos hw];left;unfold Oper.wp;rw[hx];refine(hc τ d).mono ?_;rintro e w' ⟨v,rfl,h⟩;exact⟨rfl,v,rfl,h⟩
 .obtain⟨v,rfl,h⟩:=h;exact aH v w' h
def aj.Og (E:dM Tz.prog ok qL bY)(hIn:ok.aX 282=true)(vP:g.ov=283){k:List Item}(hb:ok.aX fb.fn=true)(ho:ops[i]?=some o)(hw:Region.wanted o (yielded ops a.tmps)=true)
  (hx:∀w,(execOp a.eval o).run Tz.prog w=.ok (.enter 282 #[.slice (some ⟨B,0,none⟩) n c,.int .i64 p,.slice (some ⟨Bv,0,none⟩) 1 1]) w)
  (hn:n<=1048576)(hp:p<=n)(hN:N<=V)(hr:V.ownsRow N 31 6 (.slice B n c) n (aU f n))(Ky:Bv≠B)(hv:V.heap[Bv]?=some (.cells m.cells 31 (0,0)))
  (aH:∀BN cN V',V'.ownsRow N 31 6 (.slice (some ⟨BN,0,none⟩) (n+1) cN) (n+1) (aU (dR f p m)<|n+1)->V.heap.size<=V'.heap.size->(∀i,i<V.heap.size->i≠B->V'.heap[i]?=V.heap[i]?)->aj Tz.prog ok qL bY Q ⟨fb.at (a.put o.dst<|.slice (some ⟨BN,0,none⟩) (n+1) cN)<|.inRegion ops r::k,cs,V'⟩):aj Tz.prog ok qL bY Q ⟨fb.at a<|.inRegion ops (i::r)::k,cs,V⟩:=by
 have Tl:(∀τ d,Calls Tz.prog 282 #[.slice (some ⟨B,0,none⟩) n c,.int .i64 p,.slice (some ⟨Bv,0,none⟩) 1 1] (re V τ d) λe w'=>∃v,e=.returned v/\∃BN cN,v=.slice (some ⟨BN,0,none⟩) (n+1) cN/\w'.ownsRow N 31 6 (.slice (some ⟨BN,0,none⟩) (n+1) cN) (n+1) (aU (dR f p m)<|n+1)/\V.heap.size<=w'.heap.size/\∀i,i<V.heap.size->i≠B->w'.heap[i]?=V.heap[i]?)->aj Tz.prog ok qL bY Q ⟨fb.at a<|.inRegion ops (i::r)::k,cs,V⟩:=λh=>
  aj.TP E hb ho hw hx h (by rintro v V' ⟨BN,cN,rfl,h1,h2,h3⟩;exact aH BN cN V' h1 h2 h3)
 by_cases e1:p=n
 .subst e1;refine Tl λτ d=>(Hf B p c N Bv f m (re V τ d) hn hN (eQ hr rfl) hv).mono ?_
  rintro e w' ⟨⟨BN,cN,rfl,h1⟩,h2⟩;exact⟨_,rfl,BN,cN,rfl,h1,h2.size,λi hi hB=>h2.block i hi λe=>hB (by cases e;rfl)⟩
 by_cases e2:c<n+1
 .refine Tl λτ d=>(Es B n c p N Bv f m (re V τ d) hn (by omega) e2 hN (eQ hr rfl) hv).mono ?_
  rintro e w' ⟨⟨BN,cN,rfl,h1⟩,h2,h3⟩;exact⟨_,rfl,BN,cN,rfl,h1,h2,λi hi hB=>h3 i hi⟩
 .exact aj.dO E ho hw hIn hx (IE E hIn vP (r0:=fb.at a<|.inRegion ops (i::r)::k) hb hn (by omega) (by omega) hr Ky hv λV' h1 h2 h3=>by rw[bT ho];exact aH B c V' h1 (by omega) λi hi hB=>h3 i hB)
end
