import Derived.Test.YtlmcblcijndipaaGreatDoorj27
import Derived.Test.YtlmcblcijndipaaGreatDoorj17d
import Derived.Test.YtlmcblcijndipaaGreatDoorj31
set_option linter.defProp false
set_option linter.unusedVariables false
set_option maxHeartbeats 4000000
set_option maxRecDepth 10000
namespace Go.Proofs.YtlmcblcijndipaaGreatDoor
open RowKit
variable {e:Ending}{l:List Nat}{n:Nat}{f:Nat->Mv}{r:Option (Nat->Int)}{w w':World}
def wR (b off n cap:Nat)(f:Nat->Mv)(B1 c1 B2 c2:Nat)(T S:Nat->Int)(w:World)(h6:n<=6)(bz:b<w)(am:aJ w b off n f)(bI:B1<w)(hT:aA w B1 0 n T)(hbT:iF f T n)(cj:B2<w)(hS:aA w B2 0 n S)(Vo:iF f S n):
  Calls Tz.prog 105 #[.slice (some ⟨b,off,none⟩) n cap,.slice B1 n c1,.slice B2 n c2] w λe w'=>e=.returned (.bool<|gS (ge f n T)<|ge f n S)/\Below w w w':=by
 have H1:=ky b off n cap f B1 0 n c1 T w h6 (ac3 _) bz am bI hT hbT;have HK:gS (ge f n T) (ge f n S)=if sumTo f T n=sumTo f S n then(if cW f T n=cW f S n then gS (iZ T n 0) (iZ S n 0)else decide (cW f T n<cW f S n))else decide (sumTo f T n<sumTo f S n):=rfl
 obtain⟨R,hR⟩:∃R,gS (ge f n T) (ge f n S)=R:=⟨_,rfl⟩;rw[hR]at HK;rw[hR];clear hR;obtain⟨s1,e1⟩:∃s1,sumTo f T n=s1:=⟨_,rfl⟩;obtain⟨s2,e2⟩:∃s2,sumTo f S n=s2:=⟨_,rfl⟩;obtain⟨t1,e3⟩:∃t1,cW f T n=t1:=⟨_,rfl⟩;obtain⟨t2,e4⟩:∃t2,cW f S n=t2:=⟨_,rfl⟩;rw[e1,e2,e3,e4]at HK;by_cases hs:s1=s2
 .rw[if_pos hs]at HK;have mL:(s1 !=s2)=false:=by simp[hs]
  clear hs;by_cases ht:t1=t2
  .rw[if_pos ht]at HK;have ht':(t1 !=t2)=false:=by simp[ht]
   clear ht;have HK:Hid _:=HK;go_enter Tz.func105,Tryz.ntmps105
   go_wp2_with(first|(go_at_call 133;refine H1.mono ?_;clear H1;rintro e w1 ⟨rfl,mu⟩;rw[e1,e3])|(go_at_call 133;refine(ky b off n cap f B2 0 n c2 S _ h6 (ac3 _) (ac4 bz mu.size) (am.below mu bz) (ac4 cj mu.size) (hS.below mu cj) Vo).mono ?_;rintro e w2 ⟨rfl,KD⟩;rw[e2,e4]))
   have qp:Below w w w2:=mu.trans<|KD.mono mu.size;clear mu KD;go_loopw [11] (λi wr=>∃k:Nat,k<=n/\i=.int .i64 k/\gS (iZ T n 0) (iZ S n 0)=gS (iZ T (n-k) k) (iZ S (n-k) k)/\Below w w wr) (λi _=>n-(intOf i).toNat)
   case atStart=>exact⟨0,ac8 _,rfl,rfl,qp⟩
   case round=>
    obtain⟨k,hk,rfl,L8,hB⟩:=hrel;by_cases ay:k<n
    .have dq:(k:Int)<n:=by omega
     have cT:=hT.below hB bI k ay;have cS:=hS.below hB cj k ay;simp only[Nat.zero_add]at cT cS;have hx:gS (iZ T (n-k) k) (iZ S (n-k) k)=if T k=S k then gS (iZ T (n-(k+1))<|k+1) (iZ S (n-(k+1))<|k+1)else decide (T k<S k):=by
      rw[show n-k=(n-(k+1))+1 by omega];rfl
     by_cases he:T k=S k
     .rw[if_pos he]at hx;have Rr:(T k !=S k)=false:=by simp[he]
      have HX:Hid _:=L8.trans hx;clear L8 hx he;go_wp2;go_quiet (fail)
      go_wp2;go_roundw
      case rel=>exact⟨k+1,ab,by go_num,HX.out,fc hB _⟩
      case measure=>exact bZ
     .rw[if_neg he]at hx;have Rr:(T k !=S k)=true:=by simp[he]
      have HX:Hid _:=HK.out.trans<|L8.trans hx;clear L8 hx he HK;go_wp2;go_quiet (fail)
      go_wp2;go_quiet (fail)
      go_wp2;go_ret;exact⟨bQ HX.out.symm,fc (fc hB _) _⟩
    .obtain rfl:k=n:=by omega
     rw[Nat.sub_self]at L8;have HX:Hid _:=HK.out.trans L8;clear L8 HK;go_wp2;go_ret;exact⟨bQ HX.out.symm,hB⟩
  .rw[if_neg ht]at HK;have ht':(t1 !=t2)=true:=by simp[ht]
   clear ht;have HK:Hid _:=HK;go_enter Tz.func105,Tryz.ntmps105
   go_wp2_with(first|(go_at_call 133;refine H1.mono ?_;clear H1;rintro e w1 ⟨rfl,mu⟩;rw[e1,e3])|(go_at_call 133;refine(ky b off n cap f B2 0 n c2 S _ h6 (ac3 _) (ac4 bz mu.size) (am.below mu bz) (ac4 cj mu.size) (hS.below mu cj) Vo).mono ?_;rintro e w2 ⟨rfl,KD⟩;rw[e2,e4]))
   go_ret;exact⟨bQ HK.out.symm,mu.trans<|KD.mono mu.size⟩
 .rw[if_neg hs]at HK;have mL:(s1 !=s2)=true:=by simp[hs]
  clear hs;have HK:Hid _:=HK;go_enter Tz.func105,Tryz.ntmps105
  go_wp2_with(first|(go_at_call 133;refine H1.mono ?_;clear H1;rintro e w1 ⟨rfl,mu⟩;rw[e1,e3])|(go_at_call 133;refine(ky b off n cap f B2 0 n c2 S _ h6 (ac3 _) (ac4 bz mu.size) (am.below mu bz) (ac4 cj mu.size) (hS.below mu cj) Vo).mono ?_;rintro e w2 ⟨rfl,KD⟩;rw[e2,e4]))
  go_ret;exact⟨bQ HK.out.symm,mu.trans<|KD.mono mu.size⟩
def Gs (f:Nat->Mv)(n:Nat)(L:List (List Nat))(l:List Nat):fd f n (L++[l])=fe f n (fd f n L) l:=by simp[fd,List.foldl_append]
def sU (p:List Nat->Bool){A:List (List Nat)}{k:Nat}(h:A[k]?=some l):(A.take<|k+1).filter p=(A.take k).filter p++(if p l then[l]else[]):=by
 rw[List.take_add_one,h,List.filter_append];simp[List.filter_cons]
def BD (r:Option (Nat->Int))(f:Nat->Mv)(n lo:Nat)(v fv:Value)(wr:World):Prop:=
 match r with
 |some T=>fv=.bool true/\iF f T n/\∃B c,v=.slice (some ⟨B,0,none⟩) n c/\lo<=B/\aC wr B n T/\n<=c
 |none=>fv=.bool false/\∃a c,v=.slice a 0 c
def BD.later {lo:Nat}{v fv:Value}{wr wr':World}(h:BD r f n lo v fv wr)(hb:Below wr wr wr'):BD r f n lo v fv wr':=by
 cases r with
 |none=>exact h
 |some T=>let⟨h1,h2,B,c,h3,h4,h5,h6⟩:=h;exact⟨h1,h2,B,c,h3,h4,h5.below hb h5.lt,h6⟩
def Hj (b off n cap:Nat)(f:Nat->Mv)(shift:Int)(w:World)(hm:az f n=true)(bz:b<w)(am:aJ w b off n f)(p:List Nat->Bool)
  (hp:∀g,dr f n g->∀l∈aS n,∀r,eH (λi=>((pl l i:Nat):Int)) (λi=>((g i:Nat):Int)) n r->(p l=true<->r<=shift)):
  Calls Tz.prog 74 #[.slice (some ⟨b,off,none⟩) n cap,shift] w λe w'=>mO (fd f n<|(aS n).filter p) n w e w'/\Below w w w':=by
 have h6:=bP hm;let⟨S6,hN0⟩:=jE n h6;have lY:∀o1,Below w w (w.alloc o1):=λo1=>(acU _ w).alloc (ac3 _) _
 have H1:=λo1=>q9 b off n cap f (w.alloc o1) ab cH<|am.below (lY o1) bz
 go_enter Tz.func74,Tryz.ntmps74
 go_wp2_with(first|(go_at_call 101;refine(H1 _).mono ?_;clear H1;rintro e w1 ⟨⟨g,FB,Fc,hg,rfl,hFB,hFr⟩,b1⟩)|(go_at_call 102;refine(AG n _ h6).mono ?_;rintro e w2 ⟨⟨vL,cf,rfl,pY,T3⟩,b2⟩;obtain⟨M,hM⟩:∃M,(aS n).length=M+1:=⟨(aS n).length-1,ab⟩;rw[hM]at pY;obtain⟨LB,Lc,rfl⟩:=lq pY))
 have GS:Below w w w1:=(lY _).trans<|b1.mono aG;have Kz:Below w w w2:=GS.trans<|b2.mono GS.size;have aaN:=hFr.below b2 hFB;have aaM:FB<w2:=ac4 hFB b2.size;have Vd:=(yr pY).1;have cD:∀(I:Nat) (fg:List Nat),(aS n)[I]?=some fg->∃tb tc,w2.cell? ⟨LB,I,none⟩=some (.slice (some ⟨tb,0,none⟩) n tc)/\tb<w2.heap.size/\aA w2 tb 0 n (λi=>((pl fg i:Nat):Int)):=λI fg hI=>by
  let⟨tb,tc,h1,h2,⟨cs,h3⟩,h4⟩:=T3 I fg hI;have ay:=(adc.1 hI).1;exact⟨tb,tc,by rw[pY.cellAt I ab];exact h1,(ac5.1 h3).1,h4⟩
 clear pY T3 hFr hFB b1 b2;have HM:Hid _:=hm;clear hm;go_loopw [6,7,10] (λv fv x wr=>∃I:Nat,I<=(aS n).length/\x=.int .i64 I/\BD (fd f n<|((aS n).take I).filter p) f n w.heap.size v fv wr/\Below w2 w2 wr) (λ_ _ x _=>(aS n).length-(intOf x).toNat)
 case atStart=>exact⟨0,ac8 _,rfl,⟨rfl,_,_,rfl⟩,acU _ _⟩
 case round=>
  obtain⟨I,hI,rfl,pG,hB⟩:=hrel;by_cases hlI:I<(aS n).length
  .obtain⟨fg,oe⟩:∃x,(aS n)[I]?=some x:=⟨_,adp hlI⟩;have VH:(I:Int)<(M:Int)+1:=ab;have pJ:=List.mem_of_getElem? oe;let⟨tb,tc,kY,TN,nL⟩:=cD I fg oe;let⟨hll,xG,Ze⟩:=gj pJ;have hc2:wr.cell? ⟨LB,I,none⟩=some (.slice tb n tc):=(hB.cell (p:=⟨LB,I,none⟩) Vd).trans kY;have ga:=hB.size;have rF:Below w w wr:=Kz.trans<|hB.mono Kz.size;have H2:=zN tb 0 n tc FB 0 n Fc (λi=>((pl fg i:Nat):Int)) (λi=>((g i:Nat):Int)) wr ab ab ab (nL.below hB TN) ab<|aaN.below hB aaM;have Ei:jc (λi=>((pl fg i:Nat):Int)) n n:=⟨λi hi=>by have:=xG i hi;dsimp only;omega,λi j kq hj=>by have:=Ze i j kq hj;dsimp only;omega⟩;have lh:∀r,eu (λi=>((pl fg i:Nat):Int)) n (λi=>((g i:Nat):Int)) n r->(p fg=true<->r<=shift):=λr hr=>by
    unfold eu at hr;rw[if_pos ⟨rfl,yq Ei,yq hg.ord⟩]at hr;exact hp g hg fg pJ r hr
   have Z4:=λ(h:p fg=true)=>(by rw[sU p oe,if_pos h,Gs]:fd f n (((aS n).take<|I+1).filter p)=fe f n (fd f n<|((aS n).take I).filter p) fg)
   have VS:=λ(h:p fg=false)=>(by rw[sU p oe,if_neg (by simp[h]),List.append_nil]:fd f n (((aS n).take<|I+1).filter p)=fd f n (((aS n).take I).filter p))
   cases oh:p fg with
   |false=>
    have hE:=VS oh;have HE:Hid _:=hE;clear Z4 VS hE;rw[oh]at lh;have Xj:Hid _:=lh;clear lh;go_wp2_with(go_at_call 103;refine H2.mono ?_;clear H2;rintro e w3 ⟨⟨r,rfl,hr⟩,b3⟩;have Ek:shift<r:=(by have:=(Xj.out r hr);simp at this;exact this))
    go_roundw
    case rel=>exact⟨I+1,ab,by go_num,by rw[HE.out];exact pG.later b3,hB.trans<|b3.mono hB.size⟩
    case measure=>exact bZ
   |true=>
    have hE:=Z4 oh;clear Z4 VS;rw[oh]at lh;have Xj:Hid _:=lh;clear lh;cases Rc:eB f (pl fg) n with
    |none=>
     have HE:Hid (fd f n (((aS n).take<|I+1).filter p)=fd f n (((aS n).take I).filter p)):=by rw[hE];unfold fe;rw[Rc];exact rfl
     clear hE;go_wp2_with(first|(go_at_call 103;refine H2.mono ?_;clear H2;rintro e w3 ⟨⟨r,rfl,hr⟩,b3⟩;have Ek:r<=shift:=(by have:=(Xj.out r hr);simp at this;exact this);have Y5:w3.cell? ⟨LB,I,none⟩=some (.slice (some ⟨tb,0,none⟩) n tc):=(b3.cell (p:=⟨LB,I,none⟩) cH).trans hc2)|(go_at_call 104;refine(me b off n cap f tb 0 tc (pl fg) w3 HM.out xG DT (am.below (rF.trans<|b3.mono rF.size) bz) (by have:=b3.size;omega)<|(nL.below hB TN).below b3 ab).mono ?_;rintro e w4 ⟨El,b4⟩;rw[Rc]at El;obtain⟨ta,tcc,rfl⟩:=El))
     go_roundw
     case rel=>exact⟨I+1,ab,by go_num,by rw[HE.out];exact(pG.later b3).later b4,(hB.trans<|b3.mono hB.size).trans<|b4.mono (by have:=hB.size;have:=b3.size;omega)⟩
     case measure=>exact bZ
    |some T=>
     have hlT:iF f T n:=iF.fits HM.out (qn HM.out xG Ze Rc).fit;cases vQ:fd f n (((aS n).take I).filter p)with
     |none=>
      have HE:Hid (fd f n (((aS n).take<|I+1).filter p)=some T):=by rw[hE,vQ];unfold fe;rw[Rc];exact rfl
      clear hE;rw[vQ]at pG;obtain⟨rfl,a,c,rfl⟩:=pG;go_wp2_with(first|(go_at_call 103;refine H2.mono ?_;clear H2;rintro e w3 ⟨⟨r,rfl,hr⟩,b3⟩;have Ek:r<=shift:=(by have:=(Xj.out r hr);simp at this;exact this);have Y5:w3.cell? ⟨LB,I,none⟩=some (.slice (some ⟨tb,0,none⟩) n tc):=(b3.cell (p:=⟨LB,I,none⟩) cH).trans hc2)|(go_at_call 104;refine(me b off n cap f tb 0 tc (pl fg) w3 HM.out xG DT (am.below (rF.trans<|b3.mono rF.size) bz) (by have:=b3.size;omega)<|(nL.below hB TN).below b3 ab).mono ?_;rintro e w4 ⟨El,b4⟩;rw[Rc]at El;obtain⟨TB,Tc,hTB,rfl,AA,hTc⟩:=El))
      go_roundw
      case rel=>exact⟨I+1,ab,by go_num,by rw[HE.out];exact⟨rfl,hlT,TB,Tc,rfl,DT,AA,hTc⟩,(hB.trans<|b3.mono hB.size).trans<|b4.mono (by have:=hB.size;have:=b3.size;omega)⟩
      case measure=>exact bZ
     |some S=>
      rw[vQ]at pG;obtain⟨rfl,hlS,B,c,rfl,Xo,bc,XC⟩:=pG;cases L8:gS (ge f n T) (ge f n S)with
      |true=>
       have h0:fd f n (((aS n).take<|I+1).filter p)=some T:=by rw[hE,vQ];unfold fe;rw[Rc];simp[L8]
       have HE:Hid _:=h0;clear h0;clear hE;go_wp2_with(first|(go_at_call 103;refine H2.mono ?_;clear H2;rintro e w3 ⟨⟨r,rfl,hr⟩,b3⟩;have Ek:r<=shift:=(by have:=(Xj.out r hr);simp at this;exact this);have Y5:w3.cell? ⟨LB,I,none⟩=some (.slice (some ⟨tb,0,none⟩) n tc):=(b3.cell (p:=⟨LB,I,none⟩) cH).trans hc2)|(go_at_call 104;refine(me b off n cap f tb 0 tc (pl fg) w3 HM.out xG DT (am.below (rF.trans<|b3.mono rF.size) bz) (by have:=b3.size;omega)<|(nL.below hB TN).below b3 ab).mono ?_;rintro e w4 ⟨El,b4⟩;rw[Rc]at El;obtain⟨TB,Tc,hTB,rfl,AA,hTc⟩:=El)|(go_at_call 105;refine(wR b off n cap f TB Tc B c T S w4 h6 (by have:=b3.size;have:=b4.size;have:=rF.size;omega) (am.below ((rF.trans<|b3.mono rF.size).trans<|b4.mono DT) bz) AA.lt AA.2 hlT (by have:=bc.lt;have:=b3.size;have:=b4.size;omega) ((bc.below b3 bc.lt).below b4<|ac4 bc.lt b3.size).2 hlS).mono ?_;rintro e w5 ⟨rfl,b5⟩;rw[L8]))
       go_roundw
       case rel=>exact⟨I+1,ab,by go_num,by rw[HE.out];exact⟨rfl,hlT,TB,Tc,rfl,DT,AA.below b5 AA.lt,hTc⟩,((hB.trans<|b3.mono hB.size).trans<|b4.mono (by have:=hB.size;have:=b3.size;omega)).trans<|b5.mono (by have:=hB.size;have:=b3.size;have:=b4.size;omega)⟩
       case measure=>exact bZ
      |false=>
       have h0:fd f n (((aS n).take<|I+1).filter p)=some S:=by rw[hE,vQ];unfold fe;rw[Rc];simp[L8]
       have HE:Hid _:=h0;clear h0;clear hE;go_wp2_with(first|(go_at_call 103;refine H2.mono ?_;clear H2;rintro e w3 ⟨⟨r,rfl,hr⟩,b3⟩;have Ek:r<=shift:=(by have:=(Xj.out r hr);simp at this;exact this);have Y5:w3.cell? ⟨LB,I,none⟩=some (.slice (some ⟨tb,0,none⟩) n tc):=(b3.cell (p:=⟨LB,I,none⟩) cH).trans hc2)|(go_at_call 104;refine(me b off n cap f tb 0 tc (pl fg) w3 HM.out xG DT (am.below (rF.trans<|b3.mono rF.size) bz) (by have:=b3.size;omega)<|(nL.below hB TN).below b3 ab).mono ?_;rintro e w4 ⟨El,b4⟩;rw[Rc]at El;obtain⟨TB,Tc,hTB,rfl,AA,hTc⟩:=El)|(go_at_call 105;refine(wR b off n cap f TB Tc B c T S w4 h6 (by have:=b3.size;have:=b4.size;have:=rF.size;omega) (am.below ((rF.trans<|b3.mono rF.size).trans<|b4.mono DT) bz) AA.lt AA.2 hlT (by have:=bc.lt;have:=b3.size;have:=b4.size;omega) ((bc.below b3 bc.lt).below b4<|ac4 bc.lt b3.size).2 hlS).mono ?_;rintro e w5 ⟨rfl,b5⟩;rw[L8]))
       go_roundw
       case rel=>exact⟨I+1,ab,by go_num,by rw[HE.out];exact⟨rfl,hlS,B,c,rfl,Xo,((bc.below b3 bc.lt).below b4<|ac4 bc.lt b3.size).below b5 (by have:=bc.lt;have:=b3.size;have:=b4.size;omega),XC⟩,((hB.trans<|b3.mono hB.size).trans<|b4.mono (by have:=hB.size;have:=b3.size;omega)).trans<|b5.mono (by have:=hB.size;have:=b3.size;have:=b4.size;omega)⟩
       case measure=>exact bZ
  .obtain rfl:I=(aS n).length:=by omega
   have VH:¬(((aS n).length:Nat):Int)<(M:Int)+1:=ab;rw[List.take_length]at pG;cases vQ:fd f n ((aS n).filter p)with
   |none=>
    rw[vQ]at pG;obtain⟨rfl,a,c,rfl⟩:=pG;go_wp2;go_ret2
    exact⟨⟨a,c,rfl⟩,Kz.trans<|hB.mono Kz.size⟩
   |some T=>
    rw[vQ]at pG;obtain⟨rfl,_,B,c,rfl,Xo,bc,XC⟩:=pG;go_wp2;go_ret2
    exact⟨⟨B,c,Xo,rfl,bc,XC⟩,Kz.trans<|hB.mono Kz.size⟩
def kR (f:Nat->Mv)(n:Nat)(shift:Int)(p:List Nat->Bool):Option (Nat->Int):=if az f n=true/\0<=shift/\shift<=6 then fd f n ((aS n).filter p)else none
def IR (f:Nat->Mv)(n:Nat)(shift:Int)(p:List Nat->Bool):Prop:=∀g,dr f n g->∀l∈aS n,∀r,eH (λi=>((pl l i:Nat):Int)) (λi=>((g i:Nat):Int)) n r->(p l=true<->r<=shift)
def Lp (h:mO r n w e w'):∃a k c bo,e=.returned (.tuple #[.slice a k c,.bool bo]):=by
 cases r with
 |none=>obtain⟨a,c,rfl⟩:=h;exact⟨a,0,c,false,rfl⟩
 |some T=>obtain⟨B,c,_,rfl,_⟩:=h;exact⟨_,n,c,true,rfl⟩
def OZ {w1:World}(h:mO r n w1 e w')(hl:w.heap.size<=w1):mO r n w e w':=by
 cases r with
 |none=>exact h
 |some T=>let⟨B,c,h1,h2⟩:=h;exact⟨B,c,ac6 hl h1,h2⟩
section
variable {m:Nat}{g:Nat->Int}
def plc (g:Nat->Int)(i:Nat):Nat:=(g i).toNat
def abx (f:Nat->Mv)(n:Nat)(g:Nat->Int)(m:Nat):Option (Nat->Int):=if az f n=true/\np g m n=true then eB f (plc g) n else none
end
def abR (f:Nat->Mv)(n:Nat)(t:Nat->Int)(m:Nat):Int×Int:=if eC f n t m=true then(sumTo f t n,cW f t n)else(0,0)
section
variable {o o':Nat->Nat}{T S:Nat->Int}{shift r:Int}
noncomputable def fS (f:Nat->Mv)(n:Nat)(shift:Int)(l:List Nat):Bool:=@decide (∃g r,dr f n g/\eH (λi=>((pl l i:Nat):Int)) (λi=>((g i:Nat):Int)) n r/\r<=shift) (Classical.propDecidable _)
def AL:fS f n shift l=true<->∃g r,dr f n g/\eH (λi=>((pl l i:Nat):Int)) (λi=>((g i:Nat):Int)) n r/\r<=shift:=by
 unfold fS;simp only[decide_eq_true_eq]
def eH.congr {a a' b b':Nat->Int}(h:eH a b n r)(ha:∀i,i<n->a i=a' i)(hb:∀i,i<n->b i=b' i):eH a' b' n r:=
 ⟨h.low,h.high,λi k hi hk e=>h.most i k hi hk (by rw[ha i hi,hb k hk];exact e),h.some.imp id λ⟨i,k,hi,hk,e,x⟩=>⟨i,k,hi,hk,by rw[<-ha i hi,<-hb k hk];exact e,x⟩⟩
def yj (f:Nat->Mv)(n:Nat)(shift:Int):IR f n shift (fS f n shift):=λg hg l hl r hr=>by
 rw[AL];constructor
 .rintro⟨g',r',qM,fH,hle⟩;have:=hr.unique (fH.congr (λ_ _=>rfl) λi hi=>by rw[qM.unique hg i hi]);omega
 .intro h;exact⟨g,r,hg,hr,h⟩
structure Ml (f:Nat->Mv)(n:Nat)(shift:Int)(T:Nat->Int):Prop where
 moves:az f n=true
 low:0<=shift
 high:shift<=6
 is:∃l,l∈aS n/\fS f n shift l=true/\eB f (pl l) n=some T
 least:∀l,l∈aS n->fS f n shift l=true->∀S,eB f (pl l) n=some S->gS (ge f n S) (ge f n T)=false
def D7 (h:kR f n shift (fS f n shift)=some T):Ml f n shift T:=by
 unfold kR at h;split at h
 .rename_i hc;let⟨h1,_,h3⟩:=sQ f n ((aS n).filter<|fS f n shift) none;change fd f n ((aS n).filter<|fS f n shift)=none\/∃l∈(aS n).filter (fS f n shift),fd f n ((aS n).filter<|fS f n shift)=eB f (pl l) n at h1;change ∀l∈(aS n).filter (fS f n shift),dD _ ((fd f n<|(aS n).filter<|fS f n shift).map<|ge f n)=false at h3;rw[h]at h1 h3;let⟨l,hl,e⟩:=h1.resolve_left aG;let⟨l1,l2⟩:=List.mem_filter.1 hl;refine⟨hc.1,hc.2.1,hc.2.2,⟨l,l1,l2,e.symm⟩,λl hl hp S hS=>?_⟩;have:=h3 l<|List.mem_filter.2 ⟨hl,hp⟩;rw[hS]at this;exact this
 .cases h
def Ml.fits (h:Ml f n shift T):eC f n T n=true:=by
 let⟨l,hl,hp,he⟩:=h.is;let⟨_,o1,o2⟩:=gj hl;exact(fV h.moves).mpr (qn h.moves o1 o2 he).fit
end
