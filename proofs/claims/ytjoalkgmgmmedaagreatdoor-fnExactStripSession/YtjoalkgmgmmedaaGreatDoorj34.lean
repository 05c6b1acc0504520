import Derived.Test.YtjoalkgmgmmedaaGreatDoorj28
import Derived.Test.YtjoalkgmgmmedaaGreatDoorj14d
import Derived.Test.YtjoalkgmgmmedaaGreatDoorj27
set_option linter.defProp false
set_option linter.unusedVariables false
set_option maxHeartbeats 4000000
set_option maxRecDepth 10000
open List renaming pairwise_iff_getElem->aa,pairwise_map->ac,mem_filter->ad,map_append->ai,map_cons->ao,map_nil->au,range->av
namespace Go.Proofs.YtjoalkgmgmmedaaGreatDoor
open RowKit
variable {e:Ending}{s:Int}{l:List Nat}{m:Mv}{i k n p:Nat}{T t:Nat->Int}{f g:Nat->Mv}{o:Nat->Nat}{r:Option (Nat->Int)}{w w':World}
def ab4 {p:Prop}(x9:p:=by
  have HK:Hid _:=HK;go_enter Tz.func88,Tryz.ntmps88
  go_wp2_with(first|(go_at_call 65;refine H1.mono ?_;clear H1;rintro e w1 ⟨rfl,ub⟩;rw[e1,e3])|(go_at_call 65;refine(lh b off n cap f B2 0 n c2 S _ h6 (afK _) (afL bN ub.size) (aB.below ub bN) (afL dg ub.size) (hS.below ub dg) hbS).mono ?_;rintro e w2 ⟨rfl,T9⟩;rw[e2,e4]))
  go_ret;exact⟨cY HK.out.symm,ub.trans<|T9.mono ub.size⟩):p:=x9
def yJ (b off n cap:Nat)(f:Nat->Mv)(J Z B2 c2:Nat)(T S:Nat->Int)(w:World)(h6:n<=6)(bN:b<w)(aB:aK w b off n f)(bL:J<w)(hT:aD w J 0 n T)(O:gb f T n)(dg:B2<w)(hS:aD w B2 0 n S)(hbS:gb f S n):
  Calls Tz.prog 88 #[.slice (some ⟨b,off,none⟩) n cap,.slice J n Z,.slice B2 n c2] w λe w'=>e=.returned (.bool<|iI (gZ f n T)<|gZ f n S)/\Below w w w':=by
 have H1:=lh b off n cap f J 0 n Z T w h6 ab bN aB bL hT O;have HK:iI (gZ f n T) (gZ f n S)=if sumTo f T n=sumTo f S n then(if cZ f T n=cZ f S n then iI (jv T n 0) (jv S n 0)else decide (cZ f T n<cZ f S n))else decide (sumTo f T n<sumTo f S n):=rfl
 obtain⟨R,U⟩:∃R,iI (gZ f n T) (gZ f n S)=R:=⟨_,rfl⟩;rw[U]at HK;rw[U];clear U;obtain⟨x,e1⟩:∃x,sumTo f T n=x:=⟨_,rfl⟩;obtain⟨y,e2⟩:∃y,sumTo f S n=y:=⟨_,rfl⟩;obtain⟨A,e3⟩:∃A,cZ f T n=A:=⟨_,rfl⟩;obtain⟨B,e4⟩:∃B,cZ f S n=B:=⟨_,rfl⟩;rw[e1,e2,e3,e4]at HK;by_cases hs:x=y
 .rw[if_pos hs]at HK;have nQ:(x !=y)=false:=cO;clear hs;by_cases N:A=B
  .rw[if_pos N]at HK;have Y:(A !=B)=false:=cO;clear N;have HK:Hid _:=HK;go_enter Tz.func88,Tryz.ntmps88
   go_wp2_with(first|(go_at_call 65;refine H1.mono ?_;clear H1;rintro e w1 ⟨rfl,ub⟩;rw[e1,e3])|(go_at_call 65;refine(lh b off n cap f B2 0 n c2 S _ h6 ab (afL bN ub.size) (aB.below ub bN) (afL dg ub.size) (hS.below ub dg) hbS).mono ?_;rintro e w2 ⟨rfl,T9⟩;rw[e2,e4]))
   have qn:Below w w w2:=ub.trans<|T9.mono ub.size;clear ub T9;go_loopw [11] (λi wr=>∃k:Nat,k<=n/\i=.int .i64 k/\iI (jv T n 0) (jv S n 0)=iI (jv T (n-k) k) (jv S (n-k) k)/\Below w w wr) (λi _=>n-(intOf i).toNat)
   .grind
   obtain⟨k,hk,rfl,u,C⟩:=hrel;by_cases aF:k<n
   .have dV:(k:Int)<n:=by omega
    have cT:=hT.below C bL k aF;have cS:=hS.below C dg k aF;simp[Nat.zero_add]at cT cS;have v:iI (jv T (n-k) k) (jv S (n-k) k)=if T k=S k then iI (jv T (n-(k+1))<|k+1) (jv S (n-(k+1))<|k+1)else decide (T k<S k):=by
     rw[show n-k=(n-(k+1))+1 by omega];rfl
    by_cases he:T k=S k
    .rw[if_pos he]at v;have PH:(T k !=S k)=false:=cO;have D:Hid _:=u.trans v;clear u v he;go_wp2;go_quiet (fail)
     go_wp2;go_roundw
     .exact⟨k+1,ab,by go_num,D.out,below_drewN C _⟩
     exact cD
    rw[if_neg he]at v;have PH:(T k !=S k)=true:=cO;have D:Hid _:=HK.out.trans<|u.trans v;clear u v he HK;go_wp2;go_quiet (fail)
    go_wp2;go_quiet (fail)
    go_wp2;go_ret;exact⟨cY D.out.symm,below_drewN (below_drewN C _) _⟩
   .obtain rfl:k=n:=by omega
    rw[Nat.sub_self]at u;have D:Hid _:=HK.out.trans u;clear u HK;go_wp2;go_ret;exact⟨cY D.out.symm,C⟩
  .rw[if_neg N]at HK;have Y:(A !=B)=true:=cO;clear N;exact ab4
 .rw[if_neg hs]at HK;have nQ:(x !=y)=true:=cO;clear hs;exact ab4
def Iq (f) n (L l):fL f n (L++[l])=fA f n (fL f n L) l:=by simp[fL,List.foldl_append]
def tZ (p){A:List (List Nat)}(h:A[k]?=some l):(A.take<|k+1).filter p=(A.take k).filter p++(if p l then[l]else[]):=by
 rw[List.take_add_one,h,List.filter_append];grind
def Du (r:Option (Nat->Int))(f:Nat->Mv)(n x:Nat)(v u:Value)(wr:World):Prop:=
 match r with
 |some T=>u=.bool true/\gb f T n/\∃B c,v=.slice (some ⟨B,0,none⟩) n c/\x<=B/\aC wr B n T/\n<=c
 |none=>u=.bool false/\∃a c,v=.slice a 0 c
def Du.later {x v y wr u}(h:Du r f n x v y wr)(hb:Below wr wr u):Du r f n x v y u:=by
 cases r with
 |none=>exact h
 |some T=>let⟨C,D,B,c,J,N,A,O⟩:=h;exact⟨C,D,B,c,J,N,A.below hb A.lt,O⟩
def Jj (b off n cap:Nat)(f:Nat->Mv) shift (w:World)(hm:aG f n)(bN:b<w)(aB:aK w b off n f)(p:List Nat->Bool)
  (hp:∀g,dI f n g->∀l∈ba n,∀r,fk (λi=>((pl l i:Nat):Int)) (λi=>((g i:Nat):Int)) n r->(p l<->r<=shift)):
  Calls Tz.prog 63 #[.slice (some ⟨b,off,none⟩) n cap,shift] w λe w'=>nA (fL f n<|(ba n).filter p) n w e w'/\Below w w w':=by
 have h6:=bX hm;let⟨Wt,hN0⟩:=ku n h6;have oN:∀o1,Below w w (w.alloc o1):=λo1=>(afB _ w).alloc ab _
 have H1:=λo1=>sw b off n cap f (w.alloc o1) ab dj<|aB.below (oN o1) bN
 go_enter Tz.func63,Tryz.ntmps63
 go_wp2_with(first|(go_at_call 84;refine(H1 _).mono ?_;clear H1;rintro e w1 ⟨⟨g,FB,Fc,hg,rfl,hFB,hFr⟩,b1⟩)|(go_at_call 85;refine(CC n _ h6).mono ?_;rintro e w2 ⟨⟨vL,cG,rfl,rR,abP⟩,b2⟩;obtain⟨M,hM⟩:∃M,(ba n).length=M+1:=⟨(ba n).length-1,ab⟩;rw[hM]at rR;obtain⟨LB,Lc,rfl⟩:=iv rR))
 have IV:Below w w w1:=(oN _).trans<|b1.mono aP;have Mm:Below w w w2:=IV.trans<|b2.mono IV.size;have ac7:=hFr.below b2 hFB;have ac6:FB<w2:=afL hFB b2.size;have Y1:=(kO rR).1;have dw:∀(I:Nat) (fB:List Nat),(ba n)[I]?=some fB->∃tb tc,w2.cell? ⟨LB,I,none⟩=some (.slice (some ⟨tb,0,none⟩) n tc)/\tb<w2.heap.size/\aD w2 tb 0 n (λi=>((pl fB i:Nat):Int)):=λI fB hI=>by
  let⟨tb,tc,h1,h2,⟨cs,h3⟩,h4⟩:=abP I fB hI;have aF:=(afT.1 hI).1;exact⟨tb,tc,by rw[rR.cellAt I ab];exact h1,(afM.1 h3).1,h4⟩
 have HM:Hid _:=hm;go_loopw [6,7,10] (λv fv x wr=>∃I:Nat,I<=(ba n).length/\x=.int .i64 I/\Du (fL f n<|((ba n).take I).filter p) f n w.heap.size v fv wr/\Below w2 w2 wr) (λ_ _ x _=>(ba n).length-(intOf x).toNat)
 case atStart=>exact⟨0,afP _,rfl,⟨rfl,_,_,rfl⟩,afB _ _⟩
 obtain⟨I,hI,rfl,qo,hB⟩:=hrel;by_cases hlI:I<(ba n).length
 .obtain⟨fB,oP⟩:∃x,(ba n)[I]?=some x:=⟨_,af5 hlI⟩;have Zt:(I:Int)<(M:Int)+1:=ab;have sS:=List.mem_of_getElem? oP;let⟨tb,tc,ng,ZG,pR⟩:=dw I fB oP;let⟨hll,A4,aaL⟩:=io sS;have hc2:wr.cell? ⟨LB,I,none⟩=some (.slice tb n tc):=(hB.cell Y1).trans ng;have fZ:=hB.size;have sO:Below w w wr:=Mm.trans<|hB.mono Mm.size;have H2:=BG tb 0 n tc FB 0 n Fc (λi=>((pl fB i:Nat):Int)) (λi=>((g i:Nat):Int)) wr ab ab ab (pR.below hB ZG) ab<|ac7.below hB ac6;have FH:jy (λi=>((pl fB i:Nat):Int)) n n:=⟨λi hi=>by have:=A4 i hi;dsimp only;omega,λi j mz hj=>by have:=aaL i j mz hj;dsimp only;omega⟩;have nk:∀r,eI (λi=>((pl fB i:Nat):Int)) n (λi=>((g i:Nat):Int)) n r->(p fB=true<->r<=shift):=λr hr=>by
   unfold eI at hr;rw[if_pos ⟨rfl,Ae FH,Ae hg.ord⟩]at hr;exact hp g hg fB sS r hr
  have hsn:=λ(h:p fB=true)=>(by rw[tZ p oP,if_pos h,Iq]:fL f n (((ba n).take<|I+1).filter p)=fA f n (fL f n<|((ba n).take I).filter p) fB)
  have adK:=λ(h:p fB=false)=>(by rw[tZ p oP,if_neg (by simp[h]),List.append_nil]:fL f n (((ba n).take<|I+1).filter p)=fL f n (((ba n).take I).filter p))
  cases p9:p fB with
  |false=>
   have hE:=adK p9;have HE:Hid _:=hE;rw[p9]at nk;have Q_:Hid _:=nk;go_wp2_with(go_at_call 86;refine H2.mono ?_;clear H2;rintro e w3 ⟨⟨r,rfl,hr⟩,b3⟩;have FJ:shift<r:=(by have:=(Q_.out r hr);simp at this;exact this))
   go_roundw
   case rel=>exact⟨I+1,ab,by go_num,by rw[HE.out];exact qo.later b3,hB.trans<|b3.mono hB.size⟩
   exact cD
  |true=>
   have hE:=hsn p9;rw[p9]at nk;have Q_:Hid _:=nk;clear nk;cases TV:eT f (pl fB) n with
   |none=>
    have HE:Hid (fL f n (((ba n).take<|I+1).filter p)=fL f n (((ba n).take I).filter p)):=by rw[hE];unfold fA;rw[TV];exact rfl
    go_wp2_with(first|(go_at_call 86;refine H2.mono ?_;clear H2;rintro e w3 ⟨⟨r,rfl,hr⟩,b3⟩;have FJ:r<=shift:=(by have:=(Q_.out r hr);simp at this;exact this);have Wz:w3.cell? ⟨LB,I,none⟩=some (.slice (some ⟨tb,0,none⟩) n tc):=(b3.cell (p:=⟨LB,I,none⟩) dj).trans hc2)|(go_at_call 87;refine(mP b off n cap f tb 0 tc (pl fB) w3 HM.out A4 Fo (aB.below (sO.trans<|b3.mono sO.size) bN) (by have:=b3.size;omega)<|(pR.below hB ZG).below b3 ab).mono ?_;rintro e w4 ⟨FK,b4⟩;rw[TV]at FK;obtain⟨ta,tcc,rfl⟩:=FK))
    go_roundw
    case rel=>exact⟨I+1,ab,by go_num,by rw[HE.out];exact(qo.later b3).later b4,(hB.trans<|b3.mono hB.size).trans<|b4.mono (by have:=hB.size;have:=b3.size;omega)⟩
    case measure=>exact cD
   |some T=>
    have hlT:gb f T n:=gb.fits HM.out (vq HM.out A4 aaL TV).fit;cases pT:fL f n (((ba n).take I).filter p)with
    |none=>
     have HE:Hid (fL f n (((ba n).take<|I+1).filter p)=some T):=by rw[hE,pT];unfold fA;rw[TV];exact rfl
     clear hE;rw[pT]at qo;obtain⟨rfl,a,c,rfl⟩:=qo;go_wp2_with(first|(go_at_call 86;refine H2.mono ?_;clear H2;rintro e w3 ⟨⟨r,rfl,hr⟩,b3⟩;have FJ:r<=shift:=(by have:=(Q_.out r hr);simp at this;exact this);have Wz:w3.cell? ⟨LB,I,none⟩=some (.slice (some ⟨tb,0,none⟩) n tc):=(b3.cell (p:=⟨LB,I,none⟩) dj).trans hc2)|(go_at_call 87;refine(mP b off n cap f tb 0 tc (pl fB) w3 HM.out A4 Fo (aB.below (sO.trans<|b3.mono sO.size) bN) (by have:=b3.size;omega)<|(pR.below hB ZG).below b3 ab).mono ?_;rintro e w4 ⟨FK,b4⟩;rw[TV]at FK;obtain⟨TB,Tc,hTB,rfl,Ct,hTc⟩:=FK))
     go_roundw
     case rel=>exact⟨I+1,ab,by go_num,by rw[HE.out];exact⟨rfl,hlT,TB,Tc,rfl,Fo,Ct,hTc⟩,(hB.trans<|b3.mono hB.size).trans<|b4.mono (by have:=hB.size;have:=b3.size;omega)⟩
     case measure=>exact cD
    |some S=>
     rw[pT]at qo;obtain⟨rfl,hlS,B,c,rfl,TT,bj,hcb⟩:=qo;cases Oh:iI (gZ f n T) (gZ f n S)with
     |true=>
      have h0:fL f n (((ba n).take<|I+1).filter p)=some T:=by rw[hE,pT];unfold fA;rw[TV];simp[Oh]
      have HE:Hid _:=h0;clear h0;clear hE;go_wp2_with(first|(go_at_call 86;refine H2.mono ?_;clear H2;rintro e w3 ⟨⟨r,rfl,hr⟩,b3⟩;have FJ:r<=shift:=(by have:=(Q_.out r hr);simp at this;exact this);have Wz:w3.cell? ⟨LB,I,none⟩=some (.slice (some ⟨tb,0,none⟩) n tc):=(b3.cell (p:=⟨LB,I,none⟩) dj).trans hc2)|(go_at_call 87;refine(mP b off n cap f tb 0 tc (pl fB) w3 HM.out A4 Fo (aB.below (sO.trans<|b3.mono sO.size) bN) (by have:=b3.size;omega)<|(pR.below hB ZG).below b3 ab).mono ?_;rintro e w4 ⟨FK,b4⟩;rw[TV]at FK;obtain⟨TB,Tc,hTB,rfl,Ct,hTc⟩:=FK)|(go_at_call 88;refine(yJ b off n cap f TB Tc B c T S w4 h6 (by have:=b3.size;have:=b4.size;have:=sO.size;omega) (aB.below ((sO.trans<|b3.mono sO.size).trans<|b4.mono Fo) bN) Ct.lt Ct.2 hlT (by have:=bj.lt;have:=b3.size;have:=b4.size;omega) ((bj.below b3 bj.lt).below b4<|afL bj.lt b3.size).2 hlS).mono ?_;rintro e w5 ⟨rfl,b5⟩;rw[Oh]))
      go_roundw
      case rel=>exact⟨I+1,ab,by go_num,by rw[HE.out];exact⟨rfl,hlT,TB,Tc,rfl,Fo,Ct.below b5 Ct.lt,hTc⟩,((hB.trans<|b3.mono hB.size).trans<|b4.mono (by have:=hB.size;have:=b3.size;omega)).trans<|b5.mono (by have:=hB.size;have:=b3.size;have:=b4.size;omega)⟩
      case measure=>exact cD
     |false=>
      have h0:fL f n (((ba n).take<|I+1).filter p)=some S:=by rw[hE,pT];unfold fA;rw[TV];simp[Oh]
      have HE:Hid _:=h0;clear h0;clear hE;go_wp2_with(first|(go_at_call 86;refine H2.mono ?_;clear H2;rintro e w3 ⟨⟨r,rfl,hr⟩,b3⟩;have FJ:r<=shift:=(by have:=(Q_.out r hr);simp at this;exact this);have Wz:w3.cell? ⟨LB,I,none⟩=some (.slice (some ⟨tb,0,none⟩) n tc):=(b3.cell (p:=⟨LB,I,none⟩) dj).trans hc2)|(go_at_call 87;refine(mP b off n cap f tb 0 tc (pl fB) w3 HM.out A4 Fo (aB.below (sO.trans<|b3.mono sO.size) bN) (by have:=b3.size;omega)<|(pR.below hB ZG).below b3 ab).mono ?_;rintro e w4 ⟨FK,b4⟩;rw[TV]at FK;obtain⟨TB,Tc,hTB,rfl,Ct,hTc⟩:=FK)|(go_at_call 88;refine(yJ b off n cap f TB Tc B c T S w4 h6 (by have:=b3.size;have:=b4.size;have:=sO.size;omega) (aB.below ((sO.trans<|b3.mono sO.size).trans<|b4.mono Fo) bN) Ct.lt Ct.2 hlT (by have:=bj.lt;have:=b3.size;have:=b4.size;omega) ((bj.below b3 bj.lt).below b4<|afL bj.lt b3.size).2 hlS).mono ?_;rintro e w5 ⟨rfl,b5⟩;rw[Oh]))
      go_roundw
      case rel=>exact⟨I+1,ab,by go_num,by rw[HE.out];exact⟨rfl,hlS,B,c,rfl,TT,((bj.below b3 bj.lt).below b4<|afL bj.lt b3.size).below b5 (by have:=bj.lt;have:=b3.size;have:=b4.size;omega),hcb⟩,((hB.trans<|b3.mono hB.size).trans<|b4.mono (by have:=hB.size;have:=b3.size;omega)).trans<|b5.mono (by have:=hB.size;have:=b3.size;have:=b4.size;omega)⟩
      case measure=>exact cD
 .obtain rfl:I=(ba n).length:=by omega
  have Zt:¬(((ba n).length:Nat):Int)<(M:Int)+1:=ab;rw[List.take_length]at qo;cases pT:fL f n ((ba n).filter p)with
  |none=>
   rw[pT]at qo;obtain⟨rfl,a,c,rfl⟩:=qo;go_wp2;go_ret2
   exact⟨⟨a,c,rfl⟩,Mm.trans<|hB.mono Mm.size⟩
  |some T=>
   rw[pT]at qo;obtain⟨rfl,_,B,c,rfl,TT,bj,hcb⟩:=qo;go_wp2;go_ret2
   exact⟨⟨B,c,TT,rfl,bj,hcb⟩,Mm.trans<|hB.mono Mm.size⟩
def nF (f:Nat->Mv)(n:Nat)(shift:Int)(p:List Nat->Bool):Option (Nat->Int):=if aG f n/\0<=shift/\shift<=6 then fL f n ((ba n).filter p)else none
def Kw (f:Nat->Mv)(n:Nat)(shift:Int)(p:List Nat->Bool):Prop:=∀g,dI f n g->∀l∈ba n,∀r,fk (λi=>((pl l i:Nat):Int)) (λi=>((g i:Nat):Int)) n r->(p l<->r<=shift)
def Nq (h:nA r n w e w'):∃a k c bo,e=.returned (.tuple #[.slice a k c,.bool bo]):=by
 cases r with
 |none=>obtain⟨a,c,rfl⟩:=h;grind
 |some T=>obtain⟨B,c,_,rfl,_⟩:=h;grind
def Q2 {q}(h:nA r n q e w')(u:w.heap.size<=q):nA r n w e w':=by
 cases r with
 |none=>exact h
 |some T=>let⟨B,c,v,x⟩:=h;exact⟨B,c,afN u v,x⟩
section
variable {m:Nat}{g:Nat->Int}
def plc (g:Nat->Int)(i:Nat):Nat:=(g i).toNat
def adY (f:Nat->Mv)(n:Nat)(g:Nat->Int)(m:Nat):Option (Nat->Int):=if aG f n/\nX g m n then eT f (plc g) n else none
end
section
variable {a:Nat->Nat}{S:Nat->Int}{shift r:Int}
noncomputable def jG (f:Nat->Mv)(n:Nat)(shift:Int)(l:List Nat):Bool:=@decide (∃g r,dI f n g/\fk (λi=>((pl l i:Nat):Int)) (λi=>((g i:Nat):Int)) n r/\r<=shift) (Classical.propDecidable _)
def MX:jG f n shift l<->∃g r,dI f n g/\fk (λi=>((pl l i:Nat):Int)) (λi=>((g i:Nat):Int)) n r/\r<=shift:=by
 unfold jG;grind
def fk.congr {a a' b j}(h:fk a b n r)(q:∀i,i<n->a i=a' i)(u:∀i,i<n->b i=j i):fk a' j n r:=
 ⟨h.low,h.high,λi k c d e=>h.most i k c d gC,h.some.imp id λ⟨i,k,c,d,e,x⟩=>⟨i,k,c,d,gC,x⟩⟩
def zY (f) n shift:Kw f n shift (jG f n shift):=λg u l C r v=>by
 rw[MX];constructor
 .rintro⟨g',D,x,y,A⟩;have:=v.unique (y.congr (λ_ _=>rfl) λi B=>by rw[x.unique u i B]);omega
 .intro h;exact⟨g,r,u,v,h⟩
structure Found (f) n (shift:Int)(T):Prop where
 moves:aG f n
 low:0<=shift
 high:shift<=6
 is:∃l,l∈ba n/\jG f n shift l/\eT f (pl l) n=some T
 least:∀l,l∈ba n->jG f n shift l->∀S,eT f (pl l) n=some S->iI (gZ f n S) (gZ f n T)=false
def Pk (h:nF f n shift (jG f n shift)=some T):Found f n shift T:=by
 unfold nF at h;split at h
 .rename_i hc;obtain⟨u,_,v⟩:=yI f n _ none;change fL f n ((ba n).filter<|jG f n shift)=none\/∃l∈(ba n).filter (jG f n shift),fL f n ((ba n).filter<|jG f n shift)=eT f (pl l) n at u;change ∀l∈(ba n).filter (jG f n shift),eb _ ((fL f n<|(ba n).filter<|jG f n shift).map<|gZ f n)=false at v;rw[h]at u v;obtain⟨l,x,e⟩:=u.resolve_left aP;obtain⟨y,A⟩:=ad.1 x;refine⟨hc.1,hc.2.1,hc.2.2,⟨l,y,A,e.symm⟩,λl x B S hS=>?_⟩;have:=v l<|ad.2 ⟨x,B⟩;rw[hS]at this;exact this
 grind
def Found.fits (h:Found f n shift T):er f n T n:=by
 let⟨l,u,y,he⟩:=h.is;let⟨_,v,x⟩:=io u;exact(fN h.moves).mpr (vq h.moves v x he).fit
end
section
variable {l:List Mv}
def Ko:Mv:=⟨ByteArray.empty,false,0,0,0,0⟩
def jO (l:List Mv)(i:Nat):Mv:=l.getD i Ko
theorem xV (h):jO l i=l[i]:=by simp[jO,h]
def xW (h:i<l.length):jO l i∈l:=by rw[xV h];exact List.getElem_mem h
def K9:jO (l++[m]) i=if i=l.length then m else jO l i:=by
 unfold jO;grind
def vu (m:Mv)(b:Int):Mv:={m with cE:=b+6,prom:=-1}
def gR (f:Nat->Mv)(t:Nat->Int)(p k:Nat):Mv:=if k=p then vu (f p) (t p)else bT (f k) (t k) (t p)
def aw (f:Nat->Mv)(t:Nat->Int)(p:Nat):Nat->List Mv
 |0=>[]
 |k+1=>if t k<t p then aw f t p k else aw f t p k++[gR f t p k]
def fJ (m:Mv)(s:Int):Mv:=if m.prom=-1 then{m with cE:=max m.cE s}else m
def eL (m:Mv)(s:Int):Bool:=!(m.prom==-1)||decide (s<=m.late)
def eU (g:Nat->Mv)(s:Int)(i:Nat):Mv:=fJ (g i) s
noncomputable def gw (g:Nat->Mv)(k:Nat)(now shift:Int):Option (Nat->Int):=
 if∀i,i<k->eL (g i) (now+4)then nF (eU g<|now+4) k shift (jG (eU g<|now+4) k shift)else none
noncomputable def dG (f:Nat->Mv)(n:Nat)(t:Nat->Int)(p:Nat):Option (Nat->Int):=
 if t p+6<=(f p).late then gw (jO<|aw f t p n) (aw f t p n).length (t p) 6 else none
def LE (f:Nat->Mv)(n:Nat)(t:Nat->Int):Prop:=∀p,p<n->(f p).ax->(dG f n t p).isSome
def iX (f t) p:∀k,(aw f t p k).length<=k
 |0=>afK _
 |k+1=>by
  have:=iX f t p k;simp only[aw];split
  .omega
  .simp;omega
def Hn (f t p k):(gR f t p k).name=(f k).name:=by
 unfold gR;split
 .rename_i h;subst h;rfl
 grind [bT]
def lG:∀{k:Nat} {m:Mv},m∈aw f t p k->∃i,i<k/\t p<=t i/\m=gR f t p i
 |0,m,h=>by simp[aw]at h
 |k+1,m,h=>by
  simp only[aw]at h;split at h
  .let⟨i,v,u⟩:=lG h;exact⟨i,ab,u⟩
  .rename_i hk;rcases agb.1 h with h|h
   .let⟨i,v,u⟩:=lG h;exact⟨i,ab,u⟩
   .simp at h;exact⟨k,ab,ab,h⟩
def qT (f:Nat->Mv)(t:Nat->Int) p:∀k,List.Sublist ((aw f t p k).map Mv.name) ((av k).map λi=>(f i).name)
 |0=>by simp[aw]
 |k+1=>by
  have u:=qT f t p k;simp only[aw,List.range_succ,ai,ao,au];split
  .exact u.trans (List.sublist_append_left _ _)
  .rw[ai,ao,au,Hn];exact u.append<|List.Sublist.refl _
def nU (h:aG f n):∀j,j<n->∀i,i<j->cr (f i).name (f j).name:=by
 have hs:∀j,j<n->0<j->cr (f<|j-1).name (f j).name=true:=λj u x=>by
  unfold aG at h;simp at h;have:=h.2 j u;unfold iV at this;grind
 intro j;induction j with
 |zero=>omega
 |succ j v=>
  intro u i y;by_cases e:i=j
  .grind
  exact zO (v ab i ab)<|hs (j+1) u ab
def tq (h:aG f n):((av n).map λi=>(f i).name).Pairwise (λa b=>cr a b):=by
 rw[ac,aa];intro i j x u v;simp;simp at u;exact nU h j u i v
def tm (c:l.length<=6)(h:∀i,i<l.length->(g i).ok)(j:∀i,i<l.length->(g i).name=(jO l i).name)(d:(l.map Mv.name).Pairwise (λa b=>cr a b)):aG g l.length:=by
 refine mf c λi q=>?_
 unfold iV;by_cases u:i=0
 .grind
 rw[ac,aa]at d;grind [xV]
theorem Mv.Le {b:Mv}(h:m.ok)(c:b.name=m.name)(d:b.aI=m.aI)(j:0<=b.cE)(q:b.cE<=b.late)(u:b.late<=10000)(v:b.prom=-1\/b.cE<=b.prom/\b.prom<=b.late):b.ok:=by
 unfold Mv.ok moveB Ah jj at*;grind
def then_ok (u:aG f n)(A:fX f t n)(x:p<n)(B:t p+6<=(f p).late)(v:i<n):(gR f t p i).ok:=by
 have y:=Mv.gj<|bd u i v;have C:=Mv.gj<|bd u p x;have D:=iA<|A.1 i v;have J:=iA<|A.1 p x;unfold gR;split
 .refine Mv.Le (bd u p x) rfl rfl ?_ ?_ ?_ (.inl rfl)<;>simp[vu]<;>omega
 unfold bT;split
 .refine Mv.Le (bd u i v) rfl rfl y.1 y.2.1 y.2.2.1 (.inr ⟨?_,?_⟩)<;>simp<;>omega
 exact bd u i v
def GN (h:m.ok)(d:0<=s)(c:eL m s):(fJ m s).ok:=by
 have b:=Mv.gj h;unfold eL at c;grind [fJ,Mv.Le]
def po (m) s:(fJ m s).name=m.name:=by unfold fJ;split<;>rfl
def GT (u:aG f n)(y:fX f t n)(v:p<n)(A:t p+6<=(f p).late)(B:∀i,i<(aw f t p n).length->eL (jO (aw f t p n) i) (t p+4)):
  aG (eU (jO<|aw f t p n)<|t p+4) (aw f t p n).length:=by
 have C:=bX u;have D:=iX f t p n;have J:=Mv.gj<|bd u p v;have N:=iA<|y.1 p v;refine tm ab (λi x=>?_) (λi x=>po _ _)<|(tq u).sublist<|qT f t p n;let⟨k,hk,_,e⟩:=lG<|xW x;have:=B i x;unfold eU;rw[e]at this⊢;exact GN (then_ok u y v A hk) ab this
def tx (u:aG f n)(v:fX f t n)(x:p<n)(y:t p+6<=(f p).late)(A:i<(aw f t p n).length):(jO (aw f t p n) i).ok:=by
 let⟨k,hk,_,e⟩:=lG<|xW A;rw[e];exact then_ok u v x y hk
end
def ee (f:Nat->Mv)(k:Nat)(m:Mv)(i:Nat):Mv:=if i<k then f i else if i=k then m else f (i-1)
def CV (u:aG f n)(J:n<6)(hk:k<=n)(N:m.ok)(O:∀j,j<k->cr (f j).name m.name)(y:k<n->cr (f k).name m.name=false)(A:∀j,j<n->de (f j).name m.name=false):aG (ee f k m) (n+1):=by
 refine mf ab λi R=>?_
 have B:∀j,j<n->0<j->cr (f<|j-1).name (f j).name=true:=λj C U=>nU u j C (j-1) ab
 unfold iV;rw[agd,agc,beq_iff_eq];unfold ee;by_cases x:i<k
 .rw[if_pos x,if_pos ab];refine⟨bd u i ab,?_⟩;grind
 by_cases D:i=k
 .grind
 rw[if_neg x,if_neg D];refine⟨bd u (i-1) ab,.inr ?_⟩;by_cases v:i-1=k
 .rw[if_neg ab,if_pos v,v];exact Gb (y ab)<|A k ab
 rw[if_neg ab,if_neg v];exact B (i-1) ab ab
def vZ (u:aG f n)(hk:k<n):aG (dX f k) (n-1):=by
 have A:=bX u;refine mf ab λi B=>?_
 unfold iV;rw[agd,agc,beq_iff_eq];unfold dX;by_cases v:i<k
 .rw[if_pos v,if_pos ab];exact⟨bd u i ab,if y:i=0 then ab else .inr (nU u i ab (i-1) ab)⟩
 rw[if_neg v];refine⟨bd u (i+1) ab,?_⟩;by_cases y:i=0
 .omega
 right;by_cases x:i-1<k
 .rw[if_pos x];exact nU u (i+1) ab (i-1) ab
 rw[if_neg x];exact nU u (i+1) ab (i-1+1) ab
def wY (b:aG g n)(d:0<=s)(j:∀i,i<n->eL (g i) s):aG (eU g s) n:=by
 refine mf (bX b) λi c=>?_
 unfold iV eU;rw[GN (bd b i c) d (j i c),po,po];by_cases h:i=0
 .grind
 rw[nU b i c (i-1) ab];simp
def Ld (h:m.ok):m.name.size<=8:=by
 unfold Mv.ok moveB jF at h;grind
def Ql (v:aG f n)(x:fX f t n)(y:p<n)(A:t p+6<=(f p).late)(u:i<n):eL (gR f t p i) (t p+4):=by
 have B:=Mv.gj<|bd v i u;have C:=iA<|x.1 i u;grind [gR,eL,vu,bT]
def wL (f:Nat->Mv)(t:Nat->Int)(p k:Nat):List Mv:=(aw f t p k).map λm=>fJ m<|t p+4
def JI (v:aG f n)(x:fX f t n)(y:p<n)(u:t p+6<=(f p).late):
  dG f n t p=nF (eU (jO<|aw f t p n)<|t p+4) (aw f t p n).length 6 (jG (eU (jO<|aw f t p n)<|t p+4) (aw f t p n).length 6):=by
 unfold dG gw;rw[if_pos u,if_pos λi A=>?_];let⟨k,hk,_,e⟩:=lG<|xW A;rw[e];exact Ql v x y u hk
theorem Aq (u:¬t p+6<=(f p).late):dG f n t p=none:=by unfold dG;rw[if_neg u]
section
open Classical in
open Classical in
end
