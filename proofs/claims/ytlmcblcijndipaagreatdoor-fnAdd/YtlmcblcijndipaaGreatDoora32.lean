import Derived.Test.YtlmcblcijndipaaGreatDoora25
import Derived.Test.YtlmcblcijndipaaGreatDoora16d
import Derived.Test.YtlmcblcijndipaaGreatDoora29
set_option linter.defProp false
set_option linter.unusedVariables false
set_option maxHeartbeats 4000000
set_option maxRecDepth 10000
namespace Go.Proofs.YtlmcblcijndipaaGreatDoor
open RowKit
variable {e:Ending}{l:List Nat}{n:Nat}{f:Nat->Mv}{r:Option (Nat->Int)}{w w':World}
def wv (b off n cap:Nat)(f:Nat->Mv)(B1 c1 B2 c2:Nat)(T S:Nat->Int)(w:World)(h6:n<=6)(bH:b<w)(aq:aI w b off n f)(bP:B1<w)(hT:aA w B1 0 n T)(hbT:iC f T n)(cP:B2<w)(hS:aA w B2 0 n S)(Up:iC f S n):
  Calls Tz.prog 105 #[.slice (some ⟨b,off,none⟩) n cap,.slice B1 n c1,.slice B2 n c2] w λe w'=>e=.returned (.bool<|gO (f7 f n T)<|f7 f n S)/\Below w w w':=by
 have H1:=kA b off n cap f B1 0 n c1 T w h6 (ac5 _) bH aq bP hT hbT;have HK:gO (f7 f n T) (f7 f n S)=if sumTo f T n=sumTo f S n then(if dc f T n=dc f S n then gO (jc T n 0) (jc S n 0)else decide (dc f T n<dc f S n))else decide (sumTo f T n<sumTo f S n):=rfl
 obtain⟨R,hR⟩:∃R,gO (f7 f n T) (f7 f n S)=R:=⟨_,rfl⟩;rw[hR]at HK;rw[hR];clear hR;obtain⟨s1,e1⟩:∃s1,sumTo f T n=s1:=⟨_,rfl⟩;obtain⟨s2,e2⟩:∃s2,sumTo f S n=s2:=⟨_,rfl⟩;obtain⟨t1,e3⟩:∃t1,dc f T n=t1:=⟨_,rfl⟩;obtain⟨t2,e4⟩:∃t2,dc f S n=t2:=⟨_,rfl⟩;rw[e1,e2,e3,e4]at HK;by_cases hs:s1=s2
 .rw[if_pos hs]at HK;have mJ:(s1 !=s2)=false:=by simp[hs]
  clear hs;by_cases ht:t1=t2
  .rw[if_pos ht]at HK;have ht':(t1 !=t2)=false:=by simp[ht]
   clear ht;have HK:Hid _:=HK;go_enter Tz.func105,Tryz.ntmps105
   go_wp2_with(first|(go_at_call 133;refine H1.mono ?_;clear H1;rintro e w1 ⟨rfl,mj⟩;rw[e1,e3])|(go_at_call 133;refine(kA b off n cap f B2 0 n c2 S _ h6 (ac5 _) (ac6 bH mj.size) (aq.below mj bH) (ac6 cP mj.size) (hS.below mj cP) Up).mono ?_;rintro e w2 ⟨rfl,J4⟩;rw[e2,e4]))
   have rl:Below w w w2:=mj.trans<|J4.mono mj.size;clear mj J4;go_loopw [11] (λi wr=>∃k:Nat,k<=n/\i=.int .i64 k/\gO (jc T n 0) (jc S n 0)=gO (jc T (n-k) k) (jc S (n-k) k)/\Below w w wr) (λi _=>n-(intOf i).toNat)
   case atStart=>exact⟨0,ada _,rfl,rfl,rl⟩
   case round=>
    obtain⟨k,hk,rfl,Lm,hB⟩:=hrel;by_cases aB:k<n
    .have dr:(k:Int)<n:=by omega
     have cT:=hT.below hB bP k aB;have cS:=hS.below hB cP k aB;simp only[Nat.zero_add]at cT cS;have hx:gO (jc T (n-k) k) (jc S (n-k) k)=if T k=S k then gO (jc T (n-(k+1))<|k+1) (jc S (n-(k+1))<|k+1)else decide (T k<S k):=by
      rw[show n-k=(n-(k+1))+1 by omega];rfl
     by_cases he:T k=S k
     .rw[if_pos he]at hx;have Qo:(T k !=S k)=false:=by simp[he]
      have HX:Hid _:=Lm.trans hx;clear Lm hx he;go_wp2;go_quiet (fail)
      go_wp2;go_roundw
      case rel=>exact⟨k+1,aa,by go_num,HX.out,eV hB _⟩
      case measure=>exact cI
     .rw[if_neg he]at hx;have Qo:(T k !=S k)=true:=by simp[he]
      have HX:Hid _:=HK.out.trans<|Lm.trans hx;clear Lm hx he HK;go_wp2;go_quiet (fail)
      go_wp2;go_quiet (fail)
      go_wp2;go_ret;exact⟨bQ HX.out.symm,eV (eV hB _) _⟩
    .obtain rfl:k=n:=by omega
     rw[Nat.sub_self]at Lm;have HX:Hid _:=HK.out.trans Lm;clear Lm HK;go_wp2;go_ret;exact⟨bQ HX.out.symm,hB⟩
  .rw[if_neg ht]at HK;have ht':(t1 !=t2)=true:=by simp[ht]
   clear ht;have HK:Hid _:=HK;go_enter Tz.func105,Tryz.ntmps105
   go_wp2_with(first|(go_at_call 133;refine H1.mono ?_;clear H1;rintro e w1 ⟨rfl,mj⟩;rw[e1,e3])|(go_at_call 133;refine(kA b off n cap f B2 0 n c2 S _ h6 (ac5 _) (ac6 bH mj.size) (aq.below mj bH) (ac6 cP mj.size) (hS.below mj cP) Up).mono ?_;rintro e w2 ⟨rfl,J4⟩;rw[e2,e4]))
   go_ret;exact⟨bQ HK.out.symm,mj.trans<|J4.mono mj.size⟩
 .rw[if_neg hs]at HK;have mJ:(s1 !=s2)=true:=by simp[hs]
  clear hs;have HK:Hid _:=HK;go_enter Tz.func105,Tryz.ntmps105
  go_wp2_with(first|(go_at_call 133;refine H1.mono ?_;clear H1;rintro e w1 ⟨rfl,mj⟩;rw[e1,e3])|(go_at_call 133;refine(kA b off n cap f B2 0 n c2 S _ h6 (ac5 _) (ac6 bH mj.size) (aq.below mj bH) (ac6 cP mj.size) (hS.below mj cP) Up).mono ?_;rintro e w2 ⟨rfl,J4⟩;rw[e2,e4]))
  go_ret;exact⟨bQ HK.out.symm,mj.trans<|J4.mono mj.size⟩
def FY (f:Nat->Mv)(n:Nat)(L:List (List Nat))(l:List Nat):eY f n (L++[l])=eZ f n (eY f n L) l:=by simp[eY,List.foldl_append]
def sJ (p:List Nat->Bool){A:List (List Nat)}{k:Nat}(h:A[k]?=some l):(A.take<|k+1).filter p=(A.take k).filter p++(if p l then[l]else[]):=by
 rw[List.take_add_one,h,List.filter_append];simp[List.filter_cons]
def Be (r:Option (Nat->Int))(f:Nat->Mv)(n lo:Nat)(v fv:Value)(wr:World):Prop:=
 match r with
 |some T=>fv=.bool true/\iC f T n/\∃B c,v=.slice (some ⟨B,0,none⟩) n c/\lo<=B/\aC wr B n T/\n<=c
 |none=>fv=.bool false/\∃a c,v=.slice a 0 c
def Be.later {lo:Nat}{v fv:Value}{wr wr':World}(h:Be r f n lo v fv wr)(hb:Below wr wr wr'):Be r f n lo v fv wr':=by
 cases r with
 |none=>exact h
 |some T=>let⟨h1,h2,B,c,h3,h4,h5,h6⟩:=h;exact⟨h1,h2,B,c,h3,h4,h5.below hb h5.lt,h6⟩
def GT (b off n cap:Nat)(f:Nat->Mv)(shift:Int)(w:World)(hm:aE f n=true)(bH:b<w)(aq:aI w b off n f)(p:List Nat->Bool)
  (hp:∀g,dt f n g->∀l∈aQ n,∀r,ew (λi=>((pl l i:Nat):Int)) (λi=>((g i:Nat):Int)) n r->(p l=true<->r<=shift)):
  Calls Tz.prog 74 #[.slice (some ⟨b,off,none⟩) n cap,shift] w λe w'=>mK (eY f n<|(aQ n).filter p) n w e w'/\Below w w w':=by
 have h6:=bZ hm;let⟨Sc,hN0⟩:=jI n h6;have mF:∀o1,Below w w (w.alloc o1):=λo1=>(acW _ w).alloc (ac5 _) _
 have H1:=λo1=>qT b off n cap f (w.alloc o1) aa cU<|aq.below (mF o1) bH
 go_enter Tz.func74,Tryz.ntmps74
 go_wp2_with(first|(go_at_call 101;refine(H1 _).mono ?_;clear H1;rintro e w1 ⟨⟨g,FB,Fc,hg,rfl,hFB,hFr⟩,b1⟩)|(go_at_call 102;refine(AA n _ h6).mono ?_;rintro e w2 ⟨⟨vL,cm,rfl,pU,SV⟩,b2⟩;obtain⟨M,hM⟩:∃M,(aQ n).length=M+1:=⟨(aQ n).length-1,aa⟩;rw[hM]at pU;obtain⟨LB,Lc,rfl⟩:=pW pU))
 have Gn:Below w w w1:=(mF _).trans<|b1.mono aF;have J0:Below w w w2:=Gn.trans<|b2.mono Gn.size;have aaC:=hFr.below b2 hFB;have aaB:FB<w2:=ac6 hFB b2.size;have Uf:=(xV pU).1;have cE:∀(I:Nat) (fg:List Nat),(aQ n)[I]?=some fg->∃tb tc,w2.cell? ⟨LB,I,none⟩=some (.slice (some ⟨tb,0,none⟩) n tc)/\tb<w2.heap.size/\aA w2 tb 0 n (λi=>((pl fg i:Nat):Int)):=λI fg hI=>by
  let⟨tb,tc,h1,h2,⟨cs,h3⟩,h4⟩:=SV I fg hI;have aB:=(adf.1 hI).1;exact⟨tb,tc,by rw[pU.cellAt I aa];exact h1,(ac7.1 h3).1,h4⟩
 clear pU SV hFr hFB b1 b2;have HM:Hid _:=hm;clear hm;go_loopw [6,7,10] (λv fv x wr=>∃I:Nat,I<=(aQ n).length/\x=.int .i64 I/\Be (eY f n<|((aQ n).take I).filter p) f n w.heap.size v fv wr/\Below w2 w2 wr) (λ_ _ x _=>(aQ n).length-(intOf x).toNat)
 case atStart=>exact⟨0,ada _,rfl,⟨rfl,_,_,rfl⟩,acW _ _⟩
 case round=>
  obtain⟨I,hI,rfl,pD,hB⟩:=hrel;by_cases hlI:I<(aQ n).length
  .obtain⟨fg,nU⟩:∃x,(aQ n)[I]?=some x:=⟨_,adr hlI⟩;have UI:(I:Int)<(M:Int)+1:=aa;have pG:=List.mem_of_getElem? nU;let⟨tb,tc,kq,UW,nD⟩:=cE I fg nU;let⟨hll,xf,Yt⟩:=gI pG;have X_:wr.cell? ⟨LB,I,none⟩=some (.slice tb n tc):=(hB.cell (p:=⟨LB,I,none⟩) Uf).trans kq;have gM:=hB.size;have rm:Below w w wr:=J0.trans<|hB.mono J0.size;have H2:=zC tb 0 n tc FB 0 n Fc (λi=>((pl fg i:Nat):Int)) (λi=>((g i:Nat):Int)) wr aa aa aa (nD.below hB UW) aa<|aaC.below hB aaB;have DR:je (λi=>((pl fg i:Nat):Int)) n n:=⟨λi hi=>by have:=xf i hi;dsimp only;omega,λi j lH hj=>by have:=Yt i j lH hj;dsimp only;omega⟩;have ku:∀r,d8 (λi=>((pl fg i:Nat):Int)) n (λi=>((g i:Nat):Int)) n r->(p fg=true<->r<=shift):=λr hr=>by
    unfold d8 at hr;rw[if_pos ⟨rfl,xU DR,xU hg.ord⟩]at hr;exact hp g hg fg pG r hr
   have Zh:=λ(h:p fg=true)=>(by rw[sJ p nU,if_pos h,FY]:eY f n (((aQ n).take<|I+1).filter p)=eZ f n (eY f n<|((aQ n).take I).filter p) fg)
   have UU:=λ(h:p fg=false)=>(by rw[sJ p nU,if_neg (by simp[h]),List.append_nil]:eY f n (((aQ n).take<|I+1).filter p)=eY f n (((aQ n).take I).filter p))
   cases oW:p fg with
   |false=>
    have hE:=UU oW;have HE:Hid _:=hE;clear Zh UU hE;rw[oW]at ku;have VW:Hid _:=ku;clear ku;go_wp2_with(go_at_call 103;refine H2.mono ?_;clear H2;rintro e w3 ⟨⟨r,rfl,hr⟩,b3⟩;have xr:shift<r:=(by have:=(VW.out r hr);simp at this;exact this))
    go_roundw
    case rel=>exact⟨I+1,aa,by go_num,by rw[HE.out];exact pD.later b3,hB.trans<|b3.mono hB.size⟩
    case measure=>exact cI
   |true=>
    have hE:=Zh oW;clear Zh UU;rw[oW]at ku;have VW:Hid _:=ku;clear ku;cases Qe:er f (pl fg) n with
    |none=>
     have HE:Hid (eY f n (((aQ n).take<|I+1).filter p)=eY f n (((aQ n).take I).filter p)):=by rw[hE];unfold eZ;rw[Qe];exact rfl
     clear hE;go_wp2_with(first|(go_at_call 103;refine H2.mono ?_;clear H2;rintro e w3 ⟨⟨r,rfl,hr⟩,b3⟩;have xr:r<=shift:=(by have:=(VW.out r hr);simp at this;exact this);have Yi:w3.cell? ⟨LB,I,none⟩=some (.slice (some ⟨tb,0,none⟩) n tc):=(b3.cell (p:=⟨LB,I,none⟩) cU).trans X_)|(go_at_call 104;refine(lW b off n cap f tb 0 tc (pl fg) w3 HM.out xf DC (aq.below (rm.trans<|b3.mono rm.size) bH) (by have:=b3.size;omega)<|(nD.below hB UW).below b3 aa).mono ?_;rintro e w4 ⟨DW,b4⟩;rw[Qe]at DW;obtain⟨ta,tcc,rfl⟩:=DW))
     go_roundw
     case rel=>exact⟨I+1,aa,by go_num,by rw[HE.out];exact(pD.later b3).later b4,(hB.trans<|b3.mono hB.size).trans<|b4.mono (by have:=hB.size;have:=b3.size;omega)⟩
     case measure=>exact cI
    |some T=>
     have hlT:iC f T n:=iC.fits HM.out (tO HM.out xf Yt Qe).fit;cases vz:eY f n (((aQ n).take I).filter p)with
     |none=>
      have HE:Hid (eY f n (((aQ n).take<|I+1).filter p)=some T):=by rw[hE,vz];unfold eZ;rw[Qe];exact rfl
      clear hE;rw[vz]at pD;obtain⟨rfl,a,c,rfl⟩:=pD;go_wp2_with(first|(go_at_call 103;refine H2.mono ?_;clear H2;rintro e w3 ⟨⟨r,rfl,hr⟩,b3⟩;have xr:r<=shift:=(by have:=(VW.out r hr);simp at this;exact this);have Yi:w3.cell? ⟨LB,I,none⟩=some (.slice (some ⟨tb,0,none⟩) n tc):=(b3.cell (p:=⟨LB,I,none⟩) cU).trans X_)|(go_at_call 104;refine(lW b off n cap f tb 0 tc (pl fg) w3 HM.out xf DC (aq.below (rm.trans<|b3.mono rm.size) bH) (by have:=b3.size;omega)<|(nD.below hB UW).below b3 aa).mono ?_;rintro e w4 ⟨DW,b4⟩;rw[Qe]at DW;obtain⟨TB,Tc,hTB,rfl,As,U_⟩:=DW))
      go_roundw
      case rel=>exact⟨I+1,aa,by go_num,by rw[HE.out];exact⟨rfl,hlT,TB,Tc,rfl,DC,As,U_⟩,(hB.trans<|b3.mono hB.size).trans<|b4.mono (by have:=hB.size;have:=b3.size;omega)⟩
      case measure=>exact cI
     |some S=>
      rw[vz]at pD;obtain⟨rfl,hlS,B,c,rfl,V9,bc,Wx⟩:=pD;cases Lm:gO (f7 f n T) (f7 f n S)with
      |true=>
       have h0:eY f n (((aQ n).take<|I+1).filter p)=some T:=by rw[hE,vz];unfold eZ;rw[Qe];simp[Lm]
       have HE:Hid _:=h0;clear h0;clear hE;go_wp2_with(first|(go_at_call 103;refine H2.mono ?_;clear H2;rintro e w3 ⟨⟨r,rfl,hr⟩,b3⟩;have xr:r<=shift:=(by have:=(VW.out r hr);simp at this;exact this);have Yi:w3.cell? ⟨LB,I,none⟩=some (.slice (some ⟨tb,0,none⟩) n tc):=(b3.cell (p:=⟨LB,I,none⟩) cU).trans X_)|(go_at_call 104;refine(lW b off n cap f tb 0 tc (pl fg) w3 HM.out xf DC (aq.below (rm.trans<|b3.mono rm.size) bH) (by have:=b3.size;omega)<|(nD.below hB UW).below b3 aa).mono ?_;rintro e w4 ⟨DW,b4⟩;rw[Qe]at DW;obtain⟨TB,Tc,hTB,rfl,As,U_⟩:=DW)|(go_at_call 105;refine(wv b off n cap f TB Tc B c T S w4 h6 (by have:=b3.size;have:=b4.size;have:=rm.size;omega) (aq.below ((rm.trans<|b3.mono rm.size).trans<|b4.mono DC) bH) As.lt As.2 hlT (by have:=bc.lt;have:=b3.size;have:=b4.size;omega) ((bc.below b3 bc.lt).below b4<|ac6 bc.lt b3.size).2 hlS).mono ?_;rintro e w5 ⟨rfl,b5⟩;rw[Lm]))
       go_roundw
       case rel=>exact⟨I+1,aa,by go_num,by rw[HE.out];exact⟨rfl,hlT,TB,Tc,rfl,DC,As.below b5 As.lt,U_⟩,((hB.trans<|b3.mono hB.size).trans<|b4.mono (by have:=hB.size;have:=b3.size;omega)).trans<|b5.mono (by have:=hB.size;have:=b3.size;have:=b4.size;omega)⟩
       case measure=>exact cI
      |false=>
       have h0:eY f n (((aQ n).take<|I+1).filter p)=some S:=by rw[hE,vz];unfold eZ;rw[Qe];simp[Lm]
       have HE:Hid _:=h0;clear h0;clear hE;go_wp2_with(first|(go_at_call 103;refine H2.mono ?_;clear H2;rintro e w3 ⟨⟨r,rfl,hr⟩,b3⟩;have xr:r<=shift:=(by have:=(VW.out r hr);simp at this;exact this);have Yi:w3.cell? ⟨LB,I,none⟩=some (.slice (some ⟨tb,0,none⟩) n tc):=(b3.cell (p:=⟨LB,I,none⟩) cU).trans X_)|(go_at_call 104;refine(lW b off n cap f tb 0 tc (pl fg) w3 HM.out xf DC (aq.below (rm.trans<|b3.mono rm.size) bH) (by have:=b3.size;omega)<|(nD.below hB UW).below b3 aa).mono ?_;rintro e w4 ⟨DW,b4⟩;rw[Qe]at DW;obtain⟨TB,Tc,hTB,rfl,As,U_⟩:=DW)|(go_at_call 105;refine(wv b off n cap f TB Tc B c T S w4 h6 (by have:=b3.size;have:=b4.size;have:=rm.size;omega) (aq.below ((rm.trans<|b3.mono rm.size).trans<|b4.mono DC) bH) As.lt As.2 hlT (by have:=bc.lt;have:=b3.size;have:=b4.size;omega) ((bc.below b3 bc.lt).below b4<|ac6 bc.lt b3.size).2 hlS).mono ?_;rintro e w5 ⟨rfl,b5⟩;rw[Lm]))
       go_roundw
       case rel=>exact⟨I+1,aa,by go_num,by rw[HE.out];exact⟨rfl,hlS,B,c,rfl,V9,((bc.below b3 bc.lt).below b4<|ac6 bc.lt b3.size).below b5 (by have:=bc.lt;have:=b3.size;have:=b4.size;omega),Wx⟩,((hB.trans<|b3.mono hB.size).trans<|b4.mono (by have:=hB.size;have:=b3.size;omega)).trans<|b5.mono (by have:=hB.size;have:=b3.size;have:=b4.size;omega)⟩
       case measure=>exact cI
  .obtain rfl:I=(aQ n).length:=by omega
   have UI:¬(((aQ n).length:Nat):Int)<(M:Int)+1:=aa;rw[List.take_length]at pD;cases vz:eY f n ((aQ n).filter p)with
   |none=>
    rw[vz]at pD;obtain⟨rfl,a,c,rfl⟩:=pD;go_wp2;go_ret2
    exact⟨⟨a,c,rfl⟩,J0.trans<|hB.mono J0.size⟩
   |some T=>
    rw[vz]at pD;obtain⟨rfl,_,B,c,rfl,V9,bc,Wx⟩:=pD;go_wp2;go_ret2
    exact⟨⟨B,c,V9,rfl,bc,Wx⟩,J0.trans<|hB.mono J0.size⟩
def lP (f:Nat->Mv)(n:Nat)(shift:Int)(p:List Nat->Bool):Option (Nat->Int):=if aE f n=true/\0<=shift/\shift<=6 then eY f n ((aQ n).filter p)else none
def Ih (f:Nat->Mv)(n:Nat)(shift:Int)(p:List Nat->Bool):Prop:=∀g,dt f n g->∀l∈aQ n,∀r,ew (λi=>((pl l i:Nat):Int)) (λi=>((g i:Nat):Int)) n r->(p l=true<->r<=shift)
def KI (h:mK r n w e w'):∃a k c bo,e=.returned (.tuple #[.slice a k c,.bool bo]):=by
 cases r with
 |none=>obtain⟨a,c,rfl⟩:=h;exact⟨a,0,c,false,rfl⟩
 |some T=>obtain⟨B,c,_,rfl,_⟩:=h;exact⟨_,n,c,true,rfl⟩
def Oc {w1:World}(h:mK r n w1 e w')(hl:w.heap.size<=w1):mK r n w e w':=by
 cases r with
 |none=>exact h
 |some T=>let⟨B,c,h1,h2⟩:=h;exact⟨B,c,ac8 hl h1,h2⟩
section
variable {m:Nat}{g:Nat->Int}
def plc (g:Nat->Int)(i:Nat):Nat:=(g i).toNat
def abq (f:Nat->Mv)(n:Nat)(g:Nat->Int)(m:Nat):Option (Nat->Int):=if aE f n=true/\nk g m n=true then er f (plc g) n else none
end
def abL (f:Nat->Mv)(n:Nat)(t:Nat->Int)(m:Nat):Int×Int:=if eI f n t m=true then(sumTo f t n,dc f t n)else(0,0)
section
variable {o o':Nat->Nat}{T S:Nat->Int}{shift r:Int}
noncomputable def fW (f:Nat->Mv)(n:Nat)(shift:Int)(l:List Nat):Bool:=@decide (∃g r,dt f n g/\ew (λi=>((pl l i:Nat):Int)) (λi=>((g i:Nat):Int)) n r/\r<=shift) (Classical.propDecidable _)
def AG:fW f n shift l=true<->∃g r,dt f n g/\ew (λi=>((pl l i:Nat):Int)) (λi=>((g i:Nat):Int)) n r/\r<=shift:=by
 unfold fW;simp only[decide_eq_true_eq]
def ew.congr {a a' b b':Nat->Int}(h:ew a b n r)(ha:∀i,i<n->a i=a' i)(hb:∀i,i<n->b i=b' i):ew a' b' n r:=
 ⟨h.low,h.high,λi k hi hk e=>h.most i k hi hk (by rw[ha i hi,hb k hk];exact e),h.some.imp id λ⟨i,k,hi,hk,e,x⟩=>⟨i,k,hi,hk,by rw[<-ha i hi,<-hb k hk];exact e,x⟩⟩
def xP (f:Nat->Mv)(n:Nat)(shift:Int):Ih f n shift (fW f n shift):=λg hg l hl r hr=>by
 rw[AG];constructor
 .rintro⟨g',r',qE,gG,hle⟩;have:=hr.unique (gG.congr (λ_ _=>rfl) λi hi=>by rw[qE.unique hg i hi]);omega
 .intro h;exact⟨g,r,hg,hr,h⟩
structure Xc (f:Nat->Mv)(n:Nat)(shift:Int)(T:Nat->Int):Prop where
 moves:aE f n=true
 low:0<=shift
 high:shift<=6
 is:∃l,l∈aQ n/\fW f n shift l=true/\er f (pl l) n=some T
 least:∀l,l∈aQ n->fW f n shift l=true->∀S,er f (pl l) n=some S->gO (f7 f n S) (f7 f n T)=false
def Mx (h:lP f n shift (fW f n shift)=some T):Xc f n shift T:=by
 unfold lP at h;split at h
 .rename_i hc;let⟨h1,_,h3⟩:=sF f n ((aQ n).filter<|fW f n shift) none;change eY f n ((aQ n).filter<|fW f n shift)=none\/∃l∈(aQ n).filter (fW f n shift),eY f n ((aQ n).filter<|fW f n shift)=er f (pl l) n at h1;change ∀l∈(aQ n).filter (fW f n shift),dD _ ((eY f n<|(aQ n).filter<|fW f n shift).map<|f7 f n)=false at h3;rw[h]at h1 h3;let⟨l,hl,e⟩:=h1.resolve_left aF;let⟨l1,l2⟩:=List.mem_filter.1 hl;refine⟨hc.1,hc.2.1,hc.2.2,⟨l,l1,l2,e.symm⟩,λl hl hp S hS=>?_⟩;have:=h3 l<|List.mem_filter.2 ⟨hl,hp⟩;rw[hS]at this;exact this
 .cases h
end
