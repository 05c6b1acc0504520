import Derived.Test.YtlmcblcijndipaaGreatM31
import Derived.Test.YtlmcblcijndipaaGreatM39
import Derived.Test.YtlmcblcijndipaaGreatM24d
import Derived.Test.YtlmcblcijndipaaGreatM25
import Derived.Test.YtlmcblcijndipaaGreatM17
import Derived.Test.YtlmcblcijndipaaGreatM35
import Derived.Test.YtlmcblcijndipaaGreatM37
import Derived.Test.YtlmcblcijndipaaGreatM16e
import Derived.Test.YtlmcblcijndipaaGreatM36
import Derived.Test.YtlmcblcijndipaaGreatM14
set_option linter.unusedVariables false
set_option maxHeartbeats 4000000
set_option maxRecDepth 10000
namespace Go.Proofs.YtlmcblcijndipaaGreat
open Go.RowKit
theorem tE (f:Nat->Mv)(n:Nat)(L:List (List Nat))(l:List Nat):df f n (L++[l])=cr f n (df f n L) l:=by simp[df,List.foldl_append]
theorem kR (p:List Nat->Bool){A:List (List Nat)}{k:Nat}{l:List Nat}(h:A[k]?=some l):(A.take (k+1)).filter p=(A.take k).filter p++(if p l then[l]else[]):=by
 rw[List.take_add_one,h,List.filter_append];simp[List.filter_cons]
def qu (r:Option (Nat->Int))(f:Nat->Mv)(n lo:Nat)(v fv:Value)(wr:World):Prop:=
 match r with
 |some T=>fv=.bool true/\dX f T n/\∃B c,v=.slice (some ⟨B,0,none⟩) n c/\lo<=B/\aq wr B n T/\n<=c
 |none=>fv=.bool false/\∃a c,v=.slice a 0 c
theorem qu.later {r:Option (Nat->Int)}{f:Nat->Mv}{n lo:Nat}{v fv:Value}{wr wr':World}(h:qu r f n lo v fv wr)(hb:Below wr.heap.size wr wr'):qu r f n lo v fv wr':=by
 cases r with
 |none=>exact h
 |some T=>obtain⟨h1,h2,B,c,h3,h4,h5,h6⟩:=h;exact⟨h1,h2,B,c,h3,h4,h5.below hb h5.lt,h6⟩
theorem tF (b off n cap:Nat)(f:Nat->Mv)(shift:Int)(w:World)(hm:ap f n=true)(hbs:b<w.heap.size)(hrow:aw w b off n f)(p:List Nat->Bool)
  (hp:∀g,bf f n g->∀l∈aA n,∀r,cg (λi=>((pl l i:Nat):Int)) (λi=>((g i:Nat):Int)) n r->(p l=true<->r<=shift)):
  Calls Tryz0.prog 28 #[.slice (some ⟨b,off,none⟩) n cap,.int .i64 shift] w λe w'=>gE (df f n ((aA n).filter p)) n w e w'/\Below w.heap.size w w':=by
 have h6:=aR hm;obtain⟨hN720,hN0⟩:=fd n h6;have hB0:∀o1,Below w.heap.size w (w.alloc o1):=λo1=>(Below.refl _ w).alloc (Nat.le_refl _) _
 have H1:=λo1=>jH b off n cap f (w.alloc o1) (by omega) (by simp;omega) (hrow.below (hB0 o1) hbs)
 go_enter Tryz0.func28,Tryz.ntmps28
 go_wp2_with(first|(go_at_call 55;refine(H1 _).mono ?_;clear H1;rintro e w1 ⟨⟨g,FB,Fc,hg,rfl,hFB,hFr⟩,b1⟩)|(go_at_call 56;refine(pA n _ h6).mono ?_;rintro e w2 ⟨⟨vL,vals,rfl,own2,rows2⟩,b2⟩;obtain⟨M,hM⟩:∃M,(aA n).length=M+1:=⟨(aA n).length-1,by omega⟩;rw[hM]at own2;obtain⟨LB,Lc,rfl⟩:=jb own2))
 have hBw1:Below w.heap.size w w1:=(hB0 _).trans (b1.mono (by simp));have hBw2:Below w.heap.size w w2:=hBw1.trans (b2.mono hBw1.size);have hFr2:=hFr.below b2 hFB;have hFB2:FB<w2.heap.size:=Nat.lt_of_lt_of_le hFB b2.size;have hLB1:=(nQ own2).1;have hall:∀(I:Nat) (lst:List Nat),(aA n)[I]?=some lst->∃tb tc,w2.cell? ⟨LB,I,none⟩=some (.slice (some ⟨tb,0,none⟩) n tc)/\tb<w2.heap.size/\ak w2 tb 0 n (λi=>((pl lst i:Nat):Int)):=λI lst hI=>by
  obtain⟨tb,tc,h1,h2,⟨cs,h3⟩,h4⟩:=rows2 I lst hI;have hlt:=(List.getElem?_eq_some_iff.1 hI).1;exact⟨tb,tc,by rw[own2.cellAt I (by omega)];exact h1,(Array.getElem?_eq_some_iff.1 h3).1,h4⟩
 clear own2 rows2 hFr hFB b1 b2;have HM:Hid _:=hm;clear hm;go_loopw [6,7,10] (λv fv x wr=>∃I:Nat,I<=(aA n).length/\x=.int .i64 I/\qu (df f n (((aA n).take I).filter p)) f n w.heap.size v fv wr/\Below w2.heap.size w2 wr) (λ_ _ x _=>(aA n).length-(intOf x).toNat)
 case atStart=>exact⟨0,Nat.zero_le _,rfl,⟨rfl,_,_,rfl⟩,Below.refl _ _⟩
 case round=>
  obtain⟨I,hI,rfl,hbest,hB⟩:=hrel;by_cases hlI:I<(aA n).length
  .obtain⟨lst,hlst⟩:∃x,(aA n)[I]?=some x:=⟨_,List.getElem?_eq_getElem hlI⟩;have hlI':(I:Int)<(M:Int)+1:=by omega
   have hmem:=List.mem_of_getElem? hlst;obtain⟨tb,tc,hc1,ht2,hr1⟩:=hall I lst hlst;obtain⟨hll,hlow,hdif⟩:=dY hmem;have hc2:wr.cell? ⟨LB,I,none⟩=some (.slice (some ⟨tb,0,none⟩) n tc):=(hB.cell (p:=⟨LB,I,none⟩) hLB1).trans hc1;have hz2:=hB.size;have hBwr:Below w.heap.size w wr:=hBw2.trans (hB.mono hBw2.size);have H2:=oD tb 0 n tc FB 0 n Fc (λi=>((pl lst i:Nat):Int)) (λi=>((g i:Nat):Int)) wr (by omega) (by omega) (by omega) (hr1.below hB ht2) (by omega) (hFr2.below hB hFB2);have hordl:eA (λi=>((pl lst i:Nat):Int)) n n:=⟨λi hi=>by have:=hlow i hi;dsimp only;omega,λi j hij hj=>by have:=hdif i j hij hj;dsimp only;omega⟩;have hsh:∀r,bP (λi=>((pl lst i:Nat):Int)) n (λi=>((g i:Nat):Int)) n r->(p lst=true<->r<=shift):=λr hr=>by
    unfold bP at hr;rw[if_pos ⟨rfl,nC hordl,nC hg.ord⟩]at hr;exact hp g hg lst hmem r hr
   have hsn:=λ(h:p lst=true)=>(by rw[kR p hlst,if_pos h,tE]:df f n (((aA n).take (I+1)).filter p)=cr f n (df f n (((aA n).take I).filter p)) lst)
   have hsn':=λ(h:p lst=false)=>(by rw[kR p hlst,if_neg (by simp[h]),List.append_nil]:df f n (((aA n).take (I+1)).filter p)=df f n (((aA n).take I).filter p))
   cases hpl:p lst with
   |false=>
    have hE:=hsn' hpl;have HE:Hid _:=hE;clear hsn hsn' hE;rw[hpl]at hsh;have HSH:Hid _:=hsh;clear hsh;go_wp2_with(go_at_call 57;refine H2.mono ?_;clear H2;rintro e w3 ⟨⟨r,rfl,hr⟩,b3⟩;have hrs:shift<r:=(by have:=(HSH.out r hr);simp at this;exact this))
    go_roundw
    case rel=>exact⟨I+1,by omega,by go_num,by rw[HE.out];exact hbest.later b3,hB.trans (b3.mono hB.size)⟩
    case measure=>simp[intOf];omega
   |true=>
    have hE:=hsn hpl;clear hsn hsn';rw[hpl]at hsh;have HSH:Hid _:=hsh;clear hsh;cases hEa:bZ f (pl lst) n with
    |none=>
     have HE:Hid (df f n (((aA n).take (I+1)).filter p)=df f n (((aA n).take I).filter p)):=by rw[hE];unfold cr;rw[hEa];exact rfl
     clear hE;go_wp2_with(first|(go_at_call 57;refine H2.mono ?_;clear H2;rintro e w3 ⟨⟨r,rfl,hr⟩,b3⟩;have hrs:r<=shift:=(by have:=(HSH.out r hr);simp at this;exact this);have hc3:w3.cell? ⟨LB,I,none⟩=some (.slice (some ⟨tb,0,none⟩) n tc):=(b3.cell (p:=⟨LB,I,none⟩) (by simp;omega)).trans hc2)|(go_at_call 58;refine(f7 b off n cap f tb 0 tc (pl lst) w3 HM.out hlow (by have:=b3.size;have:=hBwr.size;omega) (hrow.below (hBwr.trans (b3.mono hBwr.size)) hbs) (by have:=b3.size;omega) ((hr1.below hB ht2).below b3 (by omega))).mono ?_;rintro e w4 ⟨hs4,b4⟩;rw[hEa]at hs4;obtain⟨ta,tcc,rfl⟩:=hs4))
     go_roundw
     case rel=>exact⟨I+1,by omega,by go_num,by rw[HE.out];exact(hbest.later b3).later b4,(hB.trans (b3.mono hB.size)).trans (b4.mono (by have:=hB.size;have:=b3.size;omega))⟩
     case measure=>simp[intOf];omega
    |some T=>
     have hlT:dX f T n:=dX.fits HM.out (pt HM.out hlow hdif hEa).fit;cases hres:df f n (((aA n).take I).filter p)with
     |none=>
      have HE:Hid (df f n (((aA n).take (I+1)).filter p)=some T):=by rw[hE,hres];unfold cr;rw[hEa];exact rfl
      clear hE;rw[hres]at hbest;obtain⟨rfl,a,c,rfl⟩:=hbest;go_wp2_with(first|(go_at_call 57;refine H2.mono ?_;clear H2;rintro e w3 ⟨⟨r,rfl,hr⟩,b3⟩;have hrs:r<=shift:=(by have:=(HSH.out r hr);simp at this;exact this);have hc3:w3.cell? ⟨LB,I,none⟩=some (.slice (some ⟨tb,0,none⟩) n tc):=(b3.cell (p:=⟨LB,I,none⟩) (by simp;omega)).trans hc2)|(go_at_call 58;refine(f7 b off n cap f tb 0 tc (pl lst) w3 HM.out hlow (by have:=b3.size;have:=hBwr.size;omega) (hrow.below (hBwr.trans (b3.mono hBwr.size)) hbs) (by have:=b3.size;omega) ((hr1.below hB ht2).below b3 (by omega))).mono ?_;rintro e w4 ⟨hs4,b4⟩;rw[hEa]at hs4;obtain⟨TB,Tc,hTB,rfl,hTo,hTc⟩:=hs4))
      go_roundw
      case rel=>exact⟨I+1,by omega,by go_num,by rw[HE.out];exact⟨rfl,hlT,TB,Tc,rfl,by have:=b3.size;have:=hBwr.size;omega,hTo,hTc⟩,(hB.trans (b3.mono hB.size)).trans (b4.mono (by have:=hB.size;have:=b3.size;omega))⟩
      case measure=>simp[intOf];omega
     |some S=>
      rw[hres]at hbest;obtain⟨rfl,hlS,B,c,rfl,hBl,hown,hcb⟩:=hbest;cases hlx:dw (dq f n T) (dq f n S)with
      |true=>
       have h0:df f n (((aA n).take (I+1)).filter p)=some T:=by rw[hE,hres];unfold cr;rw[hEa];simp[hlx]
       have HE:Hid _:=h0;clear h0;clear hE;go_wp2_with(first|(go_at_call 57;refine H2.mono ?_;clear H2;rintro e w3 ⟨⟨r,rfl,hr⟩,b3⟩;have hrs:r<=shift:=(by have:=(HSH.out r hr);simp at this;exact this);have hc3:w3.cell? ⟨LB,I,none⟩=some (.slice (some ⟨tb,0,none⟩) n tc):=(b3.cell (p:=⟨LB,I,none⟩) (by simp;omega)).trans hc2)|(go_at_call 58;refine(f7 b off n cap f tb 0 tc (pl lst) w3 HM.out hlow (by have:=b3.size;have:=hBwr.size;omega) (hrow.below (hBwr.trans (b3.mono hBwr.size)) hbs) (by have:=b3.size;omega) ((hr1.below hB ht2).below b3 (by omega))).mono ?_;rintro e w4 ⟨hs4,b4⟩;rw[hEa]at hs4;obtain⟨TB,Tc,hTB,rfl,hTo,hTc⟩:=hs4)|(go_at_call 59;refine(nV b off n cap f TB Tc B c T S w4 h6 (by have:=b3.size;have:=b4.size;have:=hBwr.size;omega) (hrow.below ((hBwr.trans (b3.mono hBwr.size)).trans (b4.mono (by have:=b3.size;have:=hBwr.size;omega))) hbs) hTo.lt hTo.2 hlT (by have:=hown.lt;have:=b3.size;have:=b4.size;omega) ((hown.below b3 hown.lt).below b4 (Nat.lt_of_lt_of_le hown.lt b3.size)).2 hlS).mono ?_;rintro e w5 ⟨rfl,b5⟩;rw[hlx]))
       go_roundw
       case rel=>exact⟨I+1,by omega,by go_num,by rw[HE.out];exact⟨rfl,hlT,TB,Tc,rfl,by have:=b3.size;have:=hBwr.size;omega,hTo.below b5 hTo.lt,hTc⟩,((hB.trans (b3.mono hB.size)).trans (b4.mono (by have:=hB.size;have:=b3.size;omega))).trans (b5.mono (by have:=hB.size;have:=b3.size;have:=b4.size;omega))⟩
       case measure=>simp[intOf];omega
      |false=>
       have h0:df f n (((aA n).take (I+1)).filter p)=some S:=by rw[hE,hres];unfold cr;rw[hEa];simp[hlx]
       have HE:Hid _:=h0;clear h0;clear hE;go_wp2_with(first|(go_at_call 57;refine H2.mono ?_;clear H2;rintro e w3 ⟨⟨r,rfl,hr⟩,b3⟩;have hrs:r<=shift:=(by have:=(HSH.out r hr);simp at this;exact this);have hc3:w3.cell? ⟨LB,I,none⟩=some (.slice (some ⟨tb,0,none⟩) n tc):=(b3.cell (p:=⟨LB,I,none⟩) (by simp;omega)).trans hc2)|(go_at_call 58;refine(f7 b off n cap f tb 0 tc (pl lst) w3 HM.out hlow (by have:=b3.size;have:=hBwr.size;omega) (hrow.below (hBwr.trans (b3.mono hBwr.size)) hbs) (by have:=b3.size;omega) ((hr1.below hB ht2).below b3 (by omega))).mono ?_;rintro e w4 ⟨hs4,b4⟩;rw[hEa]at hs4;obtain⟨TB,Tc,hTB,rfl,hTo,hTc⟩:=hs4)|(go_at_call 59;refine(nV b off n cap f TB Tc B c T S w4 h6 (by have:=b3.size;have:=b4.size;have:=hBwr.size;omega) (hrow.below ((hBwr.trans (b3.mono hBwr.size)).trans (b4.mono (by have:=b3.size;have:=hBwr.size;omega))) hbs) hTo.lt hTo.2 hlT (by have:=hown.lt;have:=b3.size;have:=b4.size;omega) ((hown.below b3 hown.lt).below b4 (Nat.lt_of_lt_of_le hown.lt b3.size)).2 hlS).mono ?_;rintro e w5 ⟨rfl,b5⟩;rw[hlx]))
       go_roundw
       case rel=>exact⟨I+1,by omega,by go_num,by rw[HE.out];exact⟨rfl,hlS,B,c,rfl,hBl,((hown.below b3 hown.lt).below b4 (Nat.lt_of_lt_of_le hown.lt b3.size)).below b5 (by have:=hown.lt;have:=b3.size;have:=b4.size;omega),hcb⟩,((hB.trans (b3.mono hB.size)).trans (b4.mono (by have:=hB.size;have:=b3.size;omega))).trans (b5.mono (by have:=hB.size;have:=b3.size;have:=b4.size;omega))⟩
       case measure=>simp[intOf];omega
  .obtain rfl:I=(aA n).length:=by omega
   have hlI':¬(((aA n).length:Nat):Int)<(M:Int)+1:=by omega
   rw[List.take_length]at hbest;cases hres:df f n ((aA n).filter p)with
   |none=>
    rw[hres]at hbest;obtain⟨rfl,a,c,rfl⟩:=hbest;go_wp2;go_ret2
    exact⟨⟨a,c,rfl⟩,hBw2.trans (hB.mono hBw2.size)⟩
   |some T=>
    rw[hres]at hbest;obtain⟨rfl,_,B,c,rfl,hBl,hown,hcb⟩:=hbest;go_wp2;go_ret2
    exact⟨⟨B,c,hBl,rfl,hown,hcb⟩,hBw2.trans (hB.mono hBw2.size)⟩
def jc (f:Nat->Mv)(n:Nat)(shift:Int)(p:List Nat->Bool):Option (Nat->Int):=if ap f n=true/\0<=shift/\shift<=6 then df f n ((aA n).filter p)else none
def uy (f:Nat->Mv)(n:Nat)(shift:Int)(p:List Nat->Bool):Prop:=∀g,bf f n g->∀l∈aA n,∀r,cg (λi=>((pl l i:Nat):Int)) (λi=>((g i:Nat):Int)) n r->(p l=true<->r<=shift)
theorem vq {r:Option (Nat->Int)}{n:Nat}{w:World}{e:Ending}{w':World}(h:gE r n w e w'):∃a k c bo,e=.returned (.tuple #[.slice a k c,.bool bo]):=by
 cases r with
 |none=>obtain⟨a,c,rfl⟩:=h;exact⟨a,0,c,false,rfl⟩
 |some T=>obtain⟨B,c,_,rfl,_⟩:=h;exact⟨_,n,c,true,rfl⟩
theorem xp {r:Option (Nat->Int)}{n:Nat}{w w1:World}{e:Ending}{w':World}(h:gE r n w1 e w')(hl:w.heap.size<=w1.heap.size):gE r n w e w':=by
 cases r with
 |none=>exact h
 |some T=>obtain⟨B,c,h1,h2⟩:=h;exact⟨B,c,Nat.le_trans hl h1,h2⟩
end Go.Proofs.YtlmcblcijndipaaGreat
namespace Go.Proofs.YtlmcblcijndipaaGreat
open Go Go.RowKit
noncomputable def iy (f:Nat->Mv)(n:Nat)(shift:Int)(l:List Nat):Bool:=@decide (∃g r,bf f n g/\cg (λi=>((pl l i:Nat):Int)) (λi=>((g i:Nat):Int)) n r/\r<=shift) (Classical.propDecidable _)
theorem vr {f:Nat->Mv}{n:Nat}{shift:Int}{l:List Nat}:iy f n shift l=true<->∃g r,bf f n g/\cg (λi=>((pl l i:Nat):Int)) (λi=>((g i:Nat):Int)) n r/\r<=shift:=by
 unfold iy;simp only[decide_eq_true_eq]
theorem cg.congr {a a' b b':Nat->Int}{n:Nat}{r:Int}(h:cg a b n r)(ha:∀i,i<n->a i=a' i)(hb:∀i,i<n->b i=b' i):cg a' b' n r:=
 ⟨h.low,h.high,λi k hi hk e=>h.most i k hi hk (by rw[ha i hi,hb k hk];exact e),h.some.imp id λ⟨i,k,hi,hk,e,x⟩=>⟨i,k,hi,hk,by rw[<-ha i hi,<-hb k hk];exact e,x⟩⟩
theorem jX (f:Nat->Mv)(n:Nat)(shift:Int):uy f n shift (iy f n shift):=λg hg l hl r hr=>by
 rw[vr];constructor
 .rintro⟨g',r',hg',hr',hle⟩;have:=hr.unique (hr'.congr (λ_ _=>rfl) λi hi=>by rw[hg'.unique hg i hi]);omega
 .intro h;exact⟨g,r,hg,hr,h⟩
structure Bo (f:Nat->Mv)(n:Nat)(shift:Int)(T:Nat->Int):Prop where
 moves:ap f n=true
 low:0<=shift
 high:shift<=6
 is:∃l,l∈aA n/\iy f n shift l=true/\bZ f (pl l) n=some T
 least:∀l,l∈aA n->iy f n shift l=true->∀S,bZ f (pl l) n=some S->dw (dq f n S) (dq f n T)=false
def lH:Mv:=⟨ByteArray.empty,false,0,0,0,0⟩
def eR (l:List Mv)(i:Nat):Mv:=l.getD i lH
theorem kU {l:List Mv}{i:Nat}(h:i<l.length):eR l i=l[i]:=by simp[eR,h]
theorem mH {l:List Mv}{i:Nat}(h:i<l.length):eR l i∈l:=by rw[kU h];exact List.getElem_mem h
theorem uA {l:List Mv}{m:Mv}{i:Nat}:eR (l++[m]) i=if i=l.length then m else eR l i:=by
 unfold eR;rw[List.getD_eq_getElem?_getD,List.getD_eq_getElem?_getD,List.getElem?_append];split
 .rw[if_neg (by omega)]
 .split
  .rename_i h1 h2;subst h2;simp
  .rename_i h1 h2;rw[List.getElem?_eq_none (l:=l) (by omega),List.getElem?_eq_none (by simp;omega)]
def fP (m:Mv)(tick:Int):Mv:={m with est:=tick+6,prom:=-1}
def bK (f:Nat->Mv)(t:Nat->Int)(p k:Nat):Mv:=if k=p then fP (f p) (t p)else bU (f k) (t k) (t p)
def ah (f:Nat->Mv)(t:Nat->Int)(p:Nat):Nat->List Mv
 |0=>[]
 |k+1=>if t k<t p then ah f t p k else ah f t p k++[bK f t p k]
def bw (m:Mv)(frm:Int):Mv:=if m.prom=-1 then{m with est:=max m.est frm}else m
def bQ (m:Mv)(frm:Int):Bool:=!(m.prom==-1)||decide (frm<=m.late)
def bz (g:Nat->Mv)(frm:Int)(i:Nat):Mv:=bw (g i) frm
noncomputable def eD (g:Nat->Mv)(k:Nat)(now shift:Int):Option (Nat->Int):=
 if∀i,i<k->bQ (g i) (now+4)=true then jc (bz g (now+4)) k shift (iy (bz g (now+4)) k shift)else none
noncomputable def bd (f:Nat->Mv)(n:Nat)(t:Nat->Int)(p:Nat):Option (Nat->Int):=
 if t p+6<=(f p).late then eD (eR (ah f t p n)) (ah f t p n).length (t p) 6 else none
def pD (f:Nat->Mv)(n:Nat)(t:Nat->Int):Prop:=∀p,p<n->(f p).lands=true->(bd f n t p).isSome=true
theorem dr (f:Nat->Mv)(t:Nat->Int)(p:Nat):∀k,(ah f t p k).length<=k
 |0=>Nat.le_refl _
 |k+1=>by
  have:=dr f t p k;simp only[ah];split
  .omega
  .simp;omega
theorem rY (f:Nat->Mv)(t:Nat->Int)(p k:Nat):(bK f t p k).name=(f k).name:=by
 unfold bK;split
 .rename_i h;subst h;rfl
 .unfold bU;split<;>rfl
theorem gI {f:Nat->Mv}{t:Nat->Int}{p:Nat}:∀{k:Nat} {m:Mv},m∈ah f t p k->∃i,i<k/\t p<=t i/\m=bK f t p i
 |0,m,h=>by simp[ah]at h
 |k+1,m,h=>by
  simp only[ah]at h;split at h
  .obtain⟨i,h1,h2⟩:=gI h;exact⟨i,by omega,h2⟩
  .rename_i hk;rcases List.mem_append.1 h with h|h
   .obtain⟨i,h1,h2⟩:=gI h;exact⟨i,by omega,h2⟩
   .simp at h;exact⟨k,by omega,by omega,h⟩
theorem ml (f:Nat->Mv)(t:Nat->Int)(p:Nat):∀k,List.Sublist ((ah f t p k).map Mv.name) ((List.range k).map λi=>(f i).name)
 |0=>by simp[ah]
 |k+1=>by
  have ih:=ml f t p k;simp only[ah,List.range_succ,List.map_append,List.map_cons,List.map_nil];split
  .exact ih.trans (List.sublist_append_left _ _)
  .rw[List.map_append,List.map_cons,List.map_nil,rY];exact ih.append (List.Sublist.refl _)
theorem gJ {f:Nat->Mv}{n:Nat}(h:ap f n=true):∀j,j<n->∀i,i<j->aW (f i).name (f j).name=true:=by
 have hs:∀j,j<n->0<j->aW (f (j-1)).name (f j).name=true:=λj hj h0=>by
  unfold ap at h;simp only[Bool.and_eq_true,decide_eq_true_eq,List.all_eq_true,List.mem_range]at h;have:=h.2 j hj;unfold dK at this;simp only[Bool.and_eq_true,Bool.or_eq_true,beq_iff_eq]at this;exact this.2.resolve_left (by omega)
 intro j;induction j with
 |zero=>intro _ i hi;omega
 |succ j ih=>
  intro hj i hi;have h1:=hs (j+1) hj (by omega);simp only[Nat.add_sub_cancel]at h1;by_cases e:i=j
  .subst e;exact h1
  .exact nD (ih (by omega) i (by omega)) h1
theorem tG {f:Nat->Mv}{n:Nat}(h:ap f n=true):((List.range n).map λi=>(f i).name).Pairwise (λa b=>aW a b=true):=by
 rw[List.pairwise_map,List.pairwise_iff_getElem];intro i j hi hj hij;simp only[List.getElem_range];simp at hj;exact gJ h j hj i hij
theorem tH {g:Nat->Mv}{l:List Mv}(h6:l.length<=6)(hok:∀i,i<l.length->(g i).ok=true)(hn:∀i,i<l.length->(g i).name=(eR l i).name)(hp:(l.map Mv.name).Pairwise (λa b=>aW a b=true)):ap g l.length=true:=by
 refine eJ h6 λi hi=>?_
 unfold dK;rw[hok i hi];by_cases h0:i=0
 .subst h0;simp
 .rw[List.pairwise_map,List.pairwise_iff_getElem]at hp;have:=hp (i-1) i (by omega) hi (by omega);rw[hn i hi,hn (i-1) (by omega),kU hi,kU (by omega:i-1<l.length),this];simp
theorem Mv.ok_of {m m':Mv}(h:m.ok=true)(hn:m'.name=m.name)(hw:m'.wake=m.wake)(h1:0<=m'.est)(h2:m'.est<=m'.late)(h3:m'.late<=10000)(h4:m'.prom=-1\/m'.est<=m'.prom/\m'.prom<=m'.late):m'.ok=true:=by
 unfold Mv.ok lW ns dU at*;simp only[Bool.and_eq_true,Bool.or_eq_true,decide_eq_true_eq,beq_iff_eq,hn,hw]at*;refine⟨⟨⟨⟨h.1.1.1.1,?_⟩,?_⟩,?_⟩,?_⟩<;>omega
theorem uB {f:Nat->Mv}{n:Nat}{t:Nat->Int}(hm:ap f n=true)(hf:cZ f t n){p:Nat}(hp:p<n)(hl:t p+6<=(f p).late){i:Nat}(hi:i<n):(bK f t p i).ok=true:=by
 have b1:=Mv.ok_bd (aE hm i hi);have b2:=Mv.ok_bd (aE hm p hp);have s1:=cY (hf.1 i hi);have s2:=cY (hf.1 p hp);unfold bK;split
 .rename_i e;refine Mv.ok_of (aE hm p hp) rfl rfl ?_ ?_ ?_ (.inl rfl)<;>simp only[fP]<;>omega
 .unfold bU;split
  .refine Mv.ok_of (aE hm i hi) rfl rfl b1.1 b1.2.1 b1.2.2.1 (.inr ⟨?_,?_⟩)<;>simp only<;>omega
  .exact aE hm i hi
theorem rZ {m:Mv}{frm:Int}(h:m.ok=true)(h0:0<=frm)(hr:bQ m frm=true):(bw m frm).ok=true:=by
 have b:=Mv.ok_bd h;unfold bQ at hr;simp only[Bool.or_eq_true,Bool.not_eq_true',beq_eq_false_iff_ne,ne_eq,decide_eq_true_eq]at hr;unfold bw;split
 .rename_i e;have hle:frm<=m.late:=hr.resolve_left (λx=>x e);refine Mv.ok_of h rfl rfl ?_ ?_ b.2.2.1 (.inl e)<;>simp only<;>omega
 .exact h
theorem io (m:Mv)(frm:Int):(bw m frm).name=m.name:=by unfold bw;split<;>rfl
theorem sd {f:Nat->Mv}{n:Nat}{t:Nat->Int}(hm:ap f n=true)(hf:cZ f t n){p:Nat}(hp:p<n)(hl:t p+6<=(f p).late)(hr:∀i,i<(ah f t p n).length->bQ (eR (ah f t p n) i) (t p+4)=true):
  ap (bz (eR (ah f t p n)) (t p+4)) (ah f t p n).length=true:=by
 have h6:=aR hm;have hz:=dr f t p n;have b2:=Mv.ok_bd (aE hm p hp);have s2:=cY (hf.1 p hp);refine tH (by omega) (λi hi=>?_) (λi hi=>io _ _) ((tG hm).sublist (ml f t p n));obtain⟨k,hk,_,e⟩:=gI (mH hi);have:=hr i hi;unfold bz;rw[e]at this⊢;exact rZ (uB hm hf hp hl hk) (by omega) this
theorem j0 {f:Nat->Mv}{n:Nat}{t:Nat->Int}(hm:ap f n=true)(hf:cZ f t n){p:Nat}(hp:p<n)(hl:t p+6<=(f p).late){i:Nat}(hi:i<(ah f t p n).length):(eR (ah f t p n) i).ok=true:=by
 obtain⟨k,hk,_,e⟩:=gI (mH hi);rw[e];exact uB hm hf hp hl hk
def ge (f:Nat->Mv)(k:Nat)(m:Mv)(i:Nat):Mv:=if i<k then f i else if i=k then m else f (i-1)
def fg {α:Type}(f:Nat->α)(k i:Nat):α:=if i<k then f i else f (i+1)
theorem vv {f:Nat->Mv}{n k:Nat}{m:Mv}(hm:ap f n=true)(hn:n<6)(hk:k<=n)(hok:m.ok=true)(h1:∀j,j<k->aW (f j).name m.name=true)(h2:k<n->aW (f k).name m.name=false)(h3:∀j,j<n->bG (f j).name m.name=false):ap (ge f k m) (n+1)=true:=by
 refine eJ (by omega) λi hi=>?_
 have hstep:∀j,j<n->0<j->aW (f (j-1)).name (f j).name=true:=λj hj h0=>gJ hm j hj (j-1) (by omega)
 unfold dK;rw[Bool.and_eq_true,Bool.or_eq_true,beq_iff_eq];unfold ge;by_cases c1:i<k
 .rw[if_pos c1,if_pos (by omega:i-1<k)];refine⟨aE hm i (by omega),?_⟩;by_cases h0:i=0
  .exact .inl h0
  .exact .inr (hstep i (by omega) (by omega))
 .by_cases c2:i=k
  .rw[if_neg c1,if_pos c2];refine⟨hok,?_⟩;by_cases h0:i=0
   .exact .inl h0
   .rw[if_pos (by omega)];exact .inr (h1 (i-1) (by omega))
  .rw[if_neg c1,if_neg c2];refine⟨aE hm (i-1) (by omega),.inr ?_⟩;by_cases c3:i-1=k
   .rw[if_neg (by omega),if_pos c3,c3];exact rC (h2 (by omega)) (h3 k (by omega))
   .rw[if_neg (by omega),if_neg c3];exact hstep (i-1) (by omega) (by omega)
theorem vw {f:Nat->Mv}{n k:Nat}(hm:ap f n=true)(hk:k<n):ap (fg f k) (n-1)=true:=by
 have h6:=aR hm;refine eJ (by omega) λi hi=>?_
 unfold dK;rw[Bool.and_eq_true,Bool.or_eq_true,beq_iff_eq];unfold fg;by_cases c1:i<k
 .rw[if_pos c1,if_pos (by omega:i-1<k)];refine⟨aE hm i (by omega),?_⟩;by_cases h0:i=0
  .exact .inl h0
  .exact .inr (gJ hm i (by omega) (i-1) (by omega))
 .rw[if_neg c1];refine⟨aE hm (i+1) (by omega),?_⟩;by_cases h0:i=0
  .exact .inl h0
  .right;by_cases c3:i-1<k
   .rw[if_pos c3];exact gJ hm (i+1) (by omega) (i-1) (by omega)
   .rw[if_neg c3];exact gJ hm (i+1) (by omega) (i-1+1) (by omega)
theorem mo {g:Nat->Mv}{n:Nat}{frm:Int}(hm:ap g n=true)(h0:0<=frm)(hr:∀i,i<n->bQ (g i) frm=true):ap (bz g frm) n=true:=by
 refine eJ (aR hm) λi hi=>?_
 unfold dK bz;rw[rZ (aE hm i hi) h0 (hr i hi),io,io];by_cases h:i=0
 .simp[h]
 .rw[gJ hm i hi (i-1) (by omega)];simp
theorem uD {m:Mv}(h:m.ok=true):m.name.size<=8:=by
 unfold Mv.ok lW dJ at h;simp only[Bool.and_eq_true,decide_eq_true_eq]at h;exact h.1.1.1.1.1.2
theorem xy {f:Nat->Mv}{n:Nat}{t:Nat->Int}(hm:ap f n=true)(hf:cZ f t n){p:Nat}(hp:p<n)(hl:t p+6<=(f p).late){i:Nat}(hi:i<n):bQ (bK f t p i) (t p+4)=true:=by
 have b1:=Mv.ok_bd (aE hm i hi);have s1:=cY (hf.1 i hi);unfold bK bQ;split
 .unfold fP;simp;omega
 .unfold bU;split
  .simp;omega
  .by_cases h:(f i).prom=-1
   .simp[h];omega
   .simp[h]
def wL (f:Nat->Mv)(t:Nat->Int)(p k:Nat):List Mv:=(ah f t p k).map λm=>bw m (t p+4)
theorem qz (f:Nat->Mv)(t:Nat->Int)(p k:Nat):(wL f t p k).length=(ah f t p k).length:=by simp[wL]
theorem yQ {f:Nat->Mv}{t:Nat->Int}{p k:Nat}(h:¬t k<t p):wL f t p (k+1)=wL f t p k++[bw (bK f t p k) (t p+4)]:=by
 unfold wL;rw[show ah f t p (k+1)=ah f t p k++[bK f t p k] by simp only[ah];rw[if_neg h]];simp
theorem qA {f:Nat->Mv}{t:Nat->Int}{p k:Nat}(h:t k<t p):wL f t p (k+1)=wL f t p k:=by
 unfold wL;rw[show ah f t p (k+1)=ah f t p k by simp only[ah];rw[if_pos h]]
theorem AL (f:Nat->Mv)(t:Nat->Int)(p k:Nat){i:Nat}(hi:i<(ah f t p k).length):eR (wL f t p k) i=bz (eR (ah f t p k)) (t p+4) i:=by
 rw[kU (by rw[qz];exact hi)];unfold bz;rw[kU hi];simp[wL]
theorem Ak (f:Nat->Mv)(t:Nat->Int)(p:Nat):bw (bK f t p p) (t p+4)=fP (f p) (t p):=by
 unfold bK bw fP;simp only[if_true];rw[show max (t p+6) (t p+4)=t p+6 by omega]
theorem Al {f:Nat->Mv}{t:Nat->Int}{p k:Nat}(h:k≠p)(h1:t k<t p+4)(h0:0<=t k):bw (bK f t p k) (t p+4)={f k with prom:=t k}:=by
 unfold bK bU bw;rw[if_neg h,if_pos h1,if_neg (by simp only;omega)]
theorem Bc {f:Nat->Mv}{t:Nat->Int}{p k:Nat}(h:k≠p)(h1:¬t k<t p+4)(h2:(f k).prom=-1)(h3:(f k).est<t p+4):bw (bK f t p k) (t p+4)={f k with est:=t p+4}:=by
 unfold bK bU bw;rw[if_neg h,if_neg h1,if_pos h2,show max (f k).est (t p+4)=t p+4 by omega]
theorem xz {f:Nat->Mv}{t:Nat->Int}{p k:Nat}(h:k≠p)(h1:¬t k<t p+4)(h2:¬((f k).prom=-1/\(f k).est<t p+4)):bw (bK f t p k) (t p+4)=f k:=by
 unfold bK bU bw;rw[if_neg h,if_neg h1];split
 .rename_i h3;rw[show max (f k).est (t p+4)=(f k).est by have:=λx=>h2 ⟨h3,x⟩;omega]
 .rfl
theorem tM {f:Nat->Mv}{n:Nat}{t:Nat->Int}(hm:ap f n=true)(hf:cZ f t n){p:Nat}(hp:p<n)(hl:t p+6<=(f p).late):
  bd f n t p=jc (bz (eR (ah f t p n)) (t p+4)) (ah f t p n).length 6 (iy (bz (eR (ah f t p n)) (t p+4)) (ah f t p n).length 6):=by
 unfold bd eD;rw[if_pos hl,if_pos λi hi=>?_];obtain⟨k,hk,_,e⟩:=gI (mH hi);rw[e];exact xy hm hf hp hl hk
theorem od {f:Nat->Mv}{n:Nat}{t:Nat->Int}{p:Nat}(hl:¬t p+6<=(f p).late):bd f n t p=none:=by unfold bd;rw[if_neg hl]
end Go.Proofs.YtlmcblcijndipaaGreat
