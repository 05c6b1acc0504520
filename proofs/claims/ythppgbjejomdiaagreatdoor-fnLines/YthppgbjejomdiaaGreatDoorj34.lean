import Derived.Test.YthppgbjejomdiaaGreatDoorj26
import Derived.Test.YthppgbjejomdiaaGreatDoorj18d
import Derived.Test.YthppgbjejomdiaaGreatDoorj33
set_option linter.all false
set_option maxHeartbeats 4000000
set_option maxRecDepth 10000
open Go.Value renaming slice->aa,bool->ac
open List renaming pairwise_iff_getElem->ad,pairwise_map->aj,mem_filter->ao,map_append->au,map_cons->av,map_nil->ay,range->aE
namespace Go.Proofs.YthppgbjejomdiaaGreatDoor
open RowKit
variable {e:Ending}{s:Int}{l:List Nat}{m:Mv}{i k n p:Nat}{T t:Nat->Int}{f g:Nat->Mv}{o:Nat->Nat}{r:Option (Nat->Int)}{w w':World}
def acV {p:Prop}(x9:p:=by have HK:Hid _:=HK;go_enter Tz.func114,Tryz.ntmps114;(go_wp2_with(first|(go_at_call 88;refine H1.mono ?_;clear H1;rintro e w1 ⟨rfl,uv⟩;rw[e1,e3])|(go_at_call 88;refine(lA b off n cap f B2 0 n c2 S _ h6 (agw _) (agx bN uv.size) (az.below uv bN) (agx dh uv.size) (hS.below uv dh) hbS).mono ?_;rintro e w2 ⟨rfl,UN⟩;rw[e2,e4])));go_ret;exact⟨de HK.out.symm,uv.trans<|UN.mono uv.size⟩):p:=x9
def yX (b off n cap:Nat)(f:Nat->Mv)(J Z B2 c2:Nat)(T S:Nat->Int)(w:World)(h6:n<=6)(bN:b<w)(az:aM w b off n f)(bK:J<w)(hT:aD w J 0 n T)(O:gh f T n)(dh:B2<w)(hS:aD w B2 0 n S)(hbS:gh f S n):
  Calls Tz.prog 114 #[aa (some ⟨b,off,none⟩) n cap,aa J n Z,aa B2 n c2] w λe w'=>e=.returned (ac<|iN (ic f n T)<|ic f n S)/\Below w w w':=by
 have H1:=lA b off n cap f J 0 n Z T w h6 ab bN az bK hT O;have HK:iN (ic f n T) (ic f n S)=if sumTo f T n=sumTo f S n then(if dg f T n=dg f S n then iN (jD T n 0) (jD S n 0)else decide (dg f T n<dg f S n))else decide (sumTo f T n<sumTo f S n):=rfl
 obtain⟨R,U⟩:∃R,iN (ic f n T) (ic f n S)=R:=⟨_,rfl⟩;rw[U]at HK;rw[U];clear U;obtain⟨x,e1⟩:∃x,sumTo f T n=x:=⟨_,rfl⟩;obtain⟨y,e2⟩:∃y,sumTo f S n=y:=⟨_,rfl⟩;obtain⟨A,e3⟩:∃A,dg f T n=A:=⟨_,rfl⟩;obtain⟨B,e4⟩:∃B,dg f S n=B:=⟨_,rfl⟩;rw[e1,e2,e3,e4]at HK;by_cases hs:x=y
 .rw[if_pos hs]at HK;have pd:(x !=y)=false:=cQ;clear hs;by_cases N:A=B
  .rw[if_pos N]at HK;have Y:(A !=B)=false:=cQ;clear N;have HK:Hid _:=HK;go_enter Tz.func114,Tryz.ntmps114
   go_wp2_with(first|(go_at_call 88;refine H1.mono ?_;clear H1;rintro e w1 ⟨rfl,uv⟩;rw[e1,e3])|(go_at_call 88;refine(lA b off n cap f B2 0 n c2 S _ h6 ab (agx bN uv.size) (az.below uv bN) (agx dh uv.size) (hS.below uv dh) hbS).mono ?_;rintro e w2 ⟨rfl,UN⟩;rw[e2,e4]))
   have qu:Below w w w2:=uv.trans<|UN.mono uv.size;clear uv UN;go_loopw [11] (λi wr=>∃k:Nat,k<=n/\i=.int .i64 k/\iN (jD T n 0) (jD S n 0)=iN (jD T (n-k) k) (jD S (n-k) k)/\Below w w wr) (λi _=>n-(intOf i).toNat)
   .grind
   obtain⟨k,hk,rfl,u,C⟩:=hrel;by_cases aG:k<n
   .have dQ:(k:Int)<n:=by omega
    have cT:=hT.below C bK k aG;have cS:=hS.below C dh k aG;simp[Nat.zero_add]at cT cS;have v:iN (jD T (n-k) k) (jD S (n-k) k)=if T k=S k then iN (jD T (n-(k+1))<|k+1) (jD S (n-(k+1))<|k+1)else decide (T k<S k):=by
     rw[show n-k=(n-(k+1))+1 by omega];rfl
    by_cases he:T k=S k
    .rw[if_pos he]at v;have Qm:(T k !=S k)=false:=cQ;have D:Hid _:=u.trans v;clear u v he;go_wp2;go_quiet (fail)
     go_wp2;go_roundw
     .exact⟨k+1,ab,by go_num,D.out,below_drewN C _⟩
     exact cD
    rw[if_neg he]at v;have Qm:(T k !=S k)=true:=cQ;have D:Hid _:=HK.out.trans<|u.trans v;clear u v he HK;go_wp2;go_quiet (fail)
    go_wp2;go_quiet (fail)
    go_wp2;go_ret;exact⟨de D.out.symm,below_drewN (below_drewN C _) _⟩
   .obtain rfl:k=n:=by omega
    rw[Nat.sub_self]at u;have D:Hid _:=HK.out.trans u;clear u HK;go_wp2;go_ret;exact⟨de D.out.symm,C⟩
  .rw[if_neg N]at HK;have Y:(A !=B)=true:=cQ;clear N;exact acV
 .rw[if_neg hs]at HK;have pd:(x !=y)=true:=cQ;clear hs;exact acV
def IZ (f) n (L l):fQ f n (L++[l])=fD f n (fQ f n L) l:=by simp[fQ,List.foldl_append]
def uo (p){A:List (List Nat)}(h:A[k]?=some l):(A.take<|k+1).filter p=(A.take k).filter p++(if p l then[l]else[]):=by rw[List.take_add_one,h,List.filter_append];grind
def DR (r:Option (Nat->Int))(f:Nat->Mv)(n x:Nat)(v u:Value)(wr:World):Prop:=
 match r with
 |some T=>u=ac true/\gh f T n/\∃B c,v=aa (some ⟨B,0,none⟩) n c/\x<=B/\aC wr B n T/\n<=c
 |none=>u=ac false/\∃a c,v=aa a 0 c
def DR.later {x v y wr u}(h:DR r f n x v y wr)(hb:Below wr wr u):DR r f n x v y u:=by rcases r with _|T;exact h;let⟨C,D,B,c,J,N,A,O⟩:=h;exact⟨C,D,B,c,J,N,A.below hb A.lt,O⟩
def JQ (b off n cap:Nat)(f) shift (w:World)(hm:aH f n)(bN:b<w)(az:aM w b off n f)(p) (hp:∀g,dK f n g->∀l∈ba n,∀r,ft (λi=>((pl l i:Nat):Int)) (λi=>((g i:Nat):Int)) n r->(p l<->r<=shift)): Calls Tz.prog 86 #[aa (some ⟨b,off,none⟩) n cap,shift] w λe w'=>nJ (fQ f n<|(ba n).filter p) n w e w'/\Below w w w':=by
 have h6:=bY hm;let⟨Xt,bb⟩:=kD n h6;have o0:∀o1,Below w w (w.alloc o1):=λo1=>(agn _ w).alloc ab _;have H1:=λo1=>sH b off n cap f (w.alloc o1) ab cY<|az.below (o0 o1) bN;go_enter Tz.func86,Tryz.ntmps86;go_wp2_with(first|(go_at_call 110;refine(H1 _).mono ?_;clear H1;rintro e w1 ⟨⟨g,FB,Fc,hg,rfl,a0,a3⟩,b1⟩)|(go_at_call 111;refine(C0 n _ h6).mono ?_;rintro e w2 ⟨⟨vL,cH,rfl,sj,a4⟩,b2⟩;obtain⟨M,hM⟩:∃M,(ba n).length=M+1:=⟨(ba n).length-1,ab⟩;rw[hM]at sj;obtain⟨Z,Lc,rfl⟩:=iz sj))
 have Jv:Below w w w1:=(o0 _).trans<|b1.mono aN;have M8:Below w w w2:=Jv.trans<|b2.mono Jv.size;have a5:=a3.below b2 a0;have a6:FB<w2:=agx a0 b2.size;have ZW:=(kW sj).1;have dq:∀(I:Nat) (y:List Nat),(ba n)[I]?=some y->∃C D,w2.cell? ⟨Z,I,none⟩=some (aa (some ⟨C,0,none⟩) n D)/\C<w2/\aD w2 C 0 n (λi=>((pl y i:Nat):Int)):=λI y hI=>by let⟨C,D,h1,h2,⟨cs,h3⟩,h4⟩:=a4 I y hI;have aG:=(agF.1 hI).1;exact⟨C,D,by rw[sj.cellAt I ab];exact h1,(agy.1 h3).1,h4⟩
 have HM:Hid _:=hm;go_loopw [6,7,10] (λv fv x wr=>∃I:Nat,I<=(ba n).length/\x=.int .i64 I/\DR (fQ f n<|((ba n).take I).filter p) f n w v fv wr/\Below w2 w2 wr) (λ_ _ x _=>(ba n).length-(intOf x).toNat)
 case atStart=>exact⟨0,agB _,rfl,⟨rfl,_,_,rfl⟩,agn _ _⟩
 obtain⟨I,hI,rfl,U,u⟩:=hrel;by_cases a7:I<(ba n).length
 .obtain⟨y,pb⟩:∃x,(ba n)[I]?=some x:=⟨_,agR a7⟩;have p_:(I:Int)<(M:Int)+1:=ab;have th:=List.mem_of_getElem? pb;let⟨C,D,nA,B_,oC⟩:=dq I y pb;let⟨be,BI,a1⟩:=ir th;have ax:wr.cell? ⟨Z,I,none⟩=some (aa C n D):=(u.cell ZW).trans nA;have f8:=u.size;have sZ:Below w w wr:=M8.trans<|u.mono M8.size;have H2:=Ch C 0 n D FB 0 n Fc (λi=>((pl y i:Nat):Int)) (λi=>((g i:Nat):Int)) wr ab ab ab (oC.below u B_) ab<|a5.below u a6;have F9:jF (λi=>((pl y i:Nat):Int)) n n:=⟨λi hi=>by have:=BI i hi;dsimp only;omega,λi j mI hj=>by have:=a1 i j mI hj;dsimp only;omega⟩;have m8:∀r,eN (λi=>((pl y i:Nat):Int)) n (λi=>((g i:Nat):Int)) n r->(p y=true<->r<=shift):=λr N=>by unfold eN at N;rw[if_pos ⟨rfl,Ay F9,Ay hg.ord⟩]at N;exact hp g hg y th r N
  have a8:=λ(h:p y=true)=>(by rw[uo p pb,if_pos h,IZ]:fQ f n (((ba n).take<|I+1).filter p)=fD f n (fQ f n<|((ba n).take I).filter p) y);have a9:=λ(h:p y=false)=>(by rw[uo p pb,if_neg (by simp[h]),List.append_nil]:fQ f n (((ba n).take<|I+1).filter p)=fQ f n (((ba n).take I).filter p));cases qf:p y with|false=>have hE:=a9 qf;have HE:Hid _:=hE;rw[qf]at m8;have O:Hid _:=m8;(go_wp2_with(go_at_call 112;refine H2.mono ?_;clear H2;rintro e R ⟨⟨r,rfl,N⟩,b3⟩;have Ga:shift<r:=(by have:=(O.out r N);simp at this;exact this)));(go_roundw);(case rel=>exact⟨I+1,ab,by go_num,by rw[HE.out];exact U.later b3,u.trans<|b3.mono u.size⟩);exact cD|true=>have hE:=a8 qf;rw[qf]at m8;have O:Hid _:=m8;clear m8;cases UA:eY f (pl y) n with|none=>(have HE:Hid (fQ f n (((ba n).take<|I+1).filter p)=fQ f n (((ba n).take I).filter p)):=by rw[hE];unfold fD;rw[UA];exact rfl);(go_wp2_with(first|(go_at_call 112;refine H2.mono ?_;clear H2;rintro e R ⟨⟨r,rfl,N⟩,b3⟩;have Ga:r<=shift:=(by have:=(O.out r N);simp at this;exact this);have XB:R.cell? ⟨Z,I,none⟩=some (aa (some ⟨C,0,none⟩) n D):=(b3.cell (p:=⟨Z,I,none⟩) cY).trans ax)|(go_at_call 113;refine(ng b off n cap f C 0 D (pl y) R HM.out BI FO (az.below (sZ.trans<|b3.mono sZ.size) bN) (by have:=b3.size;omega)<|(oC.below u B_).below b3 ab).mono ?_;rintro e w4 ⟨Y,A⟩;rw[UA]at Y;obtain⟨ta,bi,rfl⟩:=Y)));(go_roundw);(case rel=>exact⟨I+1,ab,by go_num,by rw[HE.out];exact(U.later b3).later A,(u.trans<|b3.mono u.size).trans<|A.mono (by have:=u.size;have:=b3.size;omega)⟩);case measure=>exact cD|some T=>have aI:gh f T n:=gh.fits HM.out (vN HM.out BI a1 UA).fit;cases p6:fQ f n (((ba n).take I).filter p)with|none=>(have HE:Hid (fQ f n (((ba n).take<|I+1).filter p)=some T):=by rw[hE,p6];unfold fD;rw[UA];exact rfl);clear hE;rw[p6]at U;obtain⟨rfl,a,c,rfl⟩:=U;(go_wp2_with(first|(go_at_call 112;refine H2.mono ?_;clear H2;rintro e R ⟨⟨r,rfl,N⟩,b3⟩;have Ga:r<=shift:=(by have:=(O.out r N);simp at this;exact this);have XB:R.cell? ⟨Z,I,none⟩=some (aa (some ⟨C,0,none⟩) n D):=(b3.cell (p:=⟨Z,I,none⟩) cY).trans ax)|(go_at_call 113;refine(ng b off n cap f C 0 D (pl y) R HM.out BI FO (az.below (sZ.trans<|b3.mono sZ.size) bN) (by have:=b3.size;omega)<|(oC.below u B_).below b3 ab).mono ?_;rintro e w4 ⟨Y,A⟩;rw[UA]at Y;obtain⟨TB,Tc,a2,rfl,CQ,aL⟩:=Y)));(go_roundw);(case rel=>exact⟨I+1,ab,by go_num,by rw[HE.out];exact⟨rfl,aI,TB,Tc,rfl,FO,CQ,aL⟩,(u.trans<|b3.mono u.size).trans<|A.mono (by have:=u.size;have:=b3.size;omega)⟩);case measure=>exact cD|some S=>rw[p6]at U;obtain⟨rfl,aV,B,c,rfl,Uy,J,aZ⟩:=U;cases OV:iN (ic f n T) (ic f n S)with|true=>(have h0:fQ f n (((ba n).take<|I+1).filter p)=some T:=by rw[hE,p6];unfold fD;rw[UA];simp[OV]);have HE:Hid _:=h0;clear h0;clear hE;(go_wp2_with(first|(go_at_call 112;refine H2.mono ?_;clear H2;rintro e R ⟨⟨r,rfl,N⟩,b3⟩;have Ga:r<=shift:=(by have:=(O.out r N);simp at this;exact this);have XB:R.cell? ⟨Z,I,none⟩=some (aa (some ⟨C,0,none⟩) n D):=(b3.cell (p:=⟨Z,I,none⟩) cY).trans ax)|(go_at_call 113;refine(ng b off n cap f C 0 D (pl y) R HM.out BI FO (az.below (sZ.trans<|b3.mono sZ.size) bN) (by have:=b3.size;omega)<|(oC.below u B_).below b3 ab).mono ?_;rintro e w4 ⟨Y,A⟩;rw[UA]at Y;obtain⟨TB,Tc,a2,rfl,CQ,aL⟩:=Y)|(go_at_call 114;refine(yX b off n cap f TB Tc B c T S w4 h6 (by have:=b3.size;have:=A.size;have:=sZ.size;omega) (az.below ((sZ.trans<|b3.mono sZ.size).trans<|A.mono FO) bN) CQ.lt CQ.2 aI (by have:=J.lt;have:=b3.size;have:=A.size;omega) ((J.below b3 J.lt).below A<|agx J.lt b3.size).2 aV).mono ?_;rintro e w5 ⟨rfl,b5⟩;rw[OV])));(go_roundw);(case rel=>exact⟨I+1,ab,by go_num,by rw[HE.out];exact⟨rfl,aI,TB,Tc,rfl,FO,CQ.below b5 CQ.lt,aL⟩,((u.trans<|b3.mono u.size).trans<|A.mono (by have:=u.size;have:=b3.size;omega)).trans<|b5.mono (by have:=u.size;have:=b3.size;have:=A.size;omega)⟩);case measure=>exact cD|false=>(have h0:fQ f n (((ba n).take<|I+1).filter p)=some S:=by rw[hE,p6];unfold fD;rw[UA];simp[OV]);have HE:Hid _:=h0;clear h0;clear hE;(go_wp2_with(first|(go_at_call 112;refine H2.mono ?_;clear H2;rintro e R ⟨⟨r,rfl,N⟩,b3⟩;have Ga:r<=shift:=(by have:=(O.out r N);simp at this;exact this);have XB:R.cell? ⟨Z,I,none⟩=some (aa (some ⟨C,0,none⟩) n D):=(b3.cell (p:=⟨Z,I,none⟩) cY).trans ax)|(go_at_call 113;refine(ng b off n cap f C 0 D (pl y) R HM.out BI FO (az.below (sZ.trans<|b3.mono sZ.size) bN) (by have:=b3.size;omega)<|(oC.below u B_).below b3 ab).mono ?_;rintro e w4 ⟨Y,A⟩;rw[UA]at Y;obtain⟨TB,Tc,a2,rfl,CQ,aL⟩:=Y)|(go_at_call 114;refine(yX b off n cap f TB Tc B c T S w4 h6 (by have:=b3.size;have:=A.size;have:=sZ.size;omega) (az.below ((sZ.trans<|b3.mono sZ.size).trans<|A.mono FO) bN) CQ.lt CQ.2 aI (by have:=J.lt;have:=b3.size;have:=A.size;omega) ((J.below b3 J.lt).below A<|agx J.lt b3.size).2 aV).mono ?_;rintro e w5 ⟨rfl,b5⟩;rw[OV])));(go_roundw);(case rel=>exact⟨I+1,ab,by go_num,by rw[HE.out];exact⟨rfl,aV,B,c,rfl,Uy,((J.below b3 J.lt).below A<|agx J.lt b3.size).below b5 (by have:=J.lt;have:=b3.size;have:=A.size;omega),aZ⟩,((u.trans<|b3.mono u.size).trans<|A.mono (by have:=u.size;have:=b3.size;omega)).trans<|b5.mono (by have:=u.size;have:=b3.size;have:=A.size;omega)⟩);case measure=>exact cD
 obtain rfl:I=(ba n).length:=by omega
 have p_:¬(((ba n).length:Nat):Int)<(M:Int)+1:=ab;rw[List.take_length]at U;cases p6:fQ f n ((ba n).filter p)with|none=>rw[p6]at U;obtain⟨rfl,a,c,rfl⟩:=U;go_wp2;go_ret2;exact⟨⟨a,c,rfl⟩,M8.trans<|u.mono M8.size⟩|some T=>rw[p6]at U;obtain⟨rfl,_,B,c,rfl,Uy,J,aZ⟩:=U;go_wp2;go_ret2;exact⟨⟨B,c,Uy,rfl,J,aZ⟩,M8.trans<|u.mono M8.size⟩
def nQ (f:Nat->Mv)(n:Nat)(shift:Int)(p:List Nat->Bool):Option (Nat->Int):=if aH f n/\0<=shift/\shift<=6 then fQ f n ((ba n).filter p)else none
def K5 (f:Nat->Mv)(n:Nat)(shift:Int)(p:List Nat->Bool):Prop:=∀g,dK f n g->∀l∈ba n,∀r,ft (λi=>((pl l i:Nat):Int)) (λi=>((g i:Nat):Int)) n r->(p l<->r<=shift)
def Oa (h:nJ r n w e w'):∃a k c bo,e=.returned (.tuple #[aa a k c,ac bo]):=by rcases r with _|T;obtain⟨a,c,rfl⟩:=h;grind;obtain⟨B,c,_,rfl,_⟩:=h;grind
def RL {q}(h:nJ r n q e w')(u:(w:Nat)<=q):nJ r n w e w':=by rcases r with _|T;exact h;let⟨B,c,v,x⟩:=h;exact⟨B,c,agz u v,x⟩
section
variable {m:Nat}{g:Nat->Int}
def plc (g:Nat->Int)(i:Nat):Nat:=(g i).toNat
def aeK (f:Nat->Mv)(n:Nat)(g:Nat->Int)(m:Nat):Option (Nat->Int):=if aH f n/\oe g m n then eY f (plc g) n else none
end
section
variable {a:Nat->Nat}{S:Nat->Int}{shift r:Int}
noncomputable def jM (f:Nat->Mv)(n:Nat)(shift:Int)(l:List Nat):Bool:=@decide (∃g r,dK f n g/\ft (λi=>((pl l i:Nat):Int)) (λi=>((g i:Nat):Int)) n r/\r<=shift) (Classical.propDecidable _)
def NI:jM f n shift l<->∃g r,dK f n g/\ft (λi=>((pl l i:Nat):Int)) (λi=>((g i:Nat):Int)) n r/\r<=shift:=by unfold jM;grind
def ft.congr {a a' b j}(h:ft a b n r)(q:∀i,i<n->a i=a' i)(u:∀i,i<n->b i=j i):ft a' j n r:=
 ⟨h.low,h.high,λi k c d e=>h.most i k c d f7,h.some.imp id λ⟨i,k,c,d,e,x⟩=>⟨i,k,c,d,f7,x⟩⟩
def At (f) n shift:K5 f n shift (jM f n shift):=λg u l C r v=>by
 rw[NI];constructor
 .rintro⟨g',D,x,y,A⟩;have:=v.unique (y.congr (λ_ _=>rfl) λi B=>by rw[x.unique u i B]);omega
 .intro h;exact⟨g,r,u,v,h⟩
structure Found (f) n (shift:Int)(T):Prop where
 moves:aH f n
 low:0<=shift
 high:shift<=6
 is:∃l,l∈ba n/\jM f n shift l/\eY f (pl l) n=some T
 least:∀l,l∈ba n->jM f n shift l->∀S,eY f (pl l) n=some S->iN (ic f n S) (ic f n T)=false
def PZ (h:nQ f n shift (jM f n shift)=some T):Found f n shift T:=by unfold nQ at h;split at h;rename_i hc;obtain⟨u,_,v⟩:=yW f n _ none;change fQ f n ((ba n).filter<|jM f n shift)=none\/∃l∈(ba n).filter (jM f n shift),fQ f n ((ba n).filter<|jM f n shift)=eY f (pl l) n at u;change ∀l∈(ba n).filter (jM f n shift),ep _ ((fQ f n<|(ba n).filter<|jM f n shift).map<|ic f n)=false at v;rw[h]at u v;obtain⟨l,x,e⟩:=u.resolve_left aN;obtain⟨y,A⟩:=ao.1 x;refine⟨hc.1,hc.2.1,hc.2.2,⟨l,y,A,e.symm⟩,λl x B S hS=>?_⟩;have:=v l<|ao.2 ⟨x,B⟩;rw[hS]at this;exact this;grind
def Found.fits (h:Found f n shift T):eB f n T n:=by let⟨l,u,y,he⟩:=h.is;let⟨_,v,x⟩:=ir u;exact(fS h.moves).mpr (vN h.moves v x he).fit
end
section
variable {l:List Mv}
def KY:Mv:=⟨ByteArray.empty,false,0,0,0,0⟩
def jT (l:List Mv)(i:Nat):Mv:=l.getD i KY
theorem yt (h):jT l i=l[i]:=by simp[jT,h]
def yu (h:i<l.length):jT l i∈l:=by rw[yt h];exact List.getElem_mem h
def LO:jT (l++[m]) i=if i=l.length then m else jT l i:=by unfold jT;grind
def vQ (m:Mv)(b:Int):Mv:={m with cj:=b+6,prom:=-1}
def gT (f:Nat->Mv)(t:Nat->Int)(p k:Nat):Mv:=if k=p then vQ (f p) (t p)else bT (f k) (t k) (t p)
def aw (f:Nat->Mv)(t:Nat->Int)(p:Nat):Nat->List Mv
 |0=>[]
 |k+1=>if t k<t p then aw f t p k else aw f t p k++[gT f t p k]
def fO (m:Mv)(s:Int):Mv:=if m.prom=-1 then{m with cj:=max m.cj s}else m
def eR (m:Mv)(s:Int):Bool:=!(m.prom==-1)||decide (s<=m.late)
def eZ (g:Nat->Mv)(s:Int)(i:Nat):Mv:=fO (g i) s
noncomputable def gG (g:Nat->Mv)(k:Nat)(now shift:Int):Option (Nat->Int):=
 if∀i,i<k->eR (g i) (now+4)then nQ (eZ g<|now+4) k shift (jM (eZ g<|now+4) k shift)else none
noncomputable def dI (f:Nat->Mv)(n:Nat)(t:Nat->Int)(p:Nat):Option (Nat->Int):=
 if t p+6<=(f p).late then gG (jT<|aw f t p n) (aw f t p n).length (t p) 6 else none
def Mm (f:Nat->Mv)(n:Nat)(t:Nat->Int):Prop:=∀p,p<n->(f p).ax->(dI f n t p).isSome
def jc (f t) p:∀k,(aw f t p k).length<=k
 |0=>agw _
 |k+1=>by
  have:=jc f t p k;simp only[aw];split
  .omega
  .simp;omega
def Ij (f t p k):(gT f t p k).name=(f k).name:=by unfold gT;split;rename_i h;subst h;rfl;grind [bT]
def lQ:∀{k:Nat} {m:Mv},m∈aw f t p k->∃i,i<k/\t p<=t i/\m=gT f t p i
 |0,m,h=>by simp[aw]at h
 |k+1,m,h=>by
  simp only[aw]at h;split at h
  .let⟨i,v,u⟩:=lQ h;exact⟨i,ab,u⟩
  .rename_i hk;rcases agX.1 h with h|h
   .let⟨i,v,u⟩:=lQ h;exact⟨i,ab,u⟩
   .simp at h;exact⟨k,ab,ab,h⟩
def q8 (f:Nat->Mv)(t:Nat->Int) p:∀k,List.Sublist ((aw f t p k).map Mv.name) ((aE k).map λi=>(f i).name)
 |0=>by simp[aw]
 |k+1=>by
  have u:=q8 f t p k;simp only[aw,List.range_succ,au,av,ay];split
  .exact u.trans (List.sublist_append_left _ _)
  .rw[au,av,ay,Ij];exact u.append<|List.Sublist.refl _
def oa (h:aH f n):∀j,j<n->∀i,i<j->cG (f i).name (f j).name:=by (have hs:∀j,j<n->0<j->cG (f<|j-1).name (f j).name=true:=λj u x=>by unfold aH at h;simp at h;have:=h.2 j u;unfold jb at this;grind);intro j;induction j with|zero=>omega|succ j v=>intro u i y;by_cases e:i=j;grind;exact Ak (v ab i ab)<|hs (j+1) u ab
def tG (h:aH f n):((aE n).map λi=>(f i).name).Pairwise (λa b=>cG a b):=by rw[aj,ad];intro i j x u v;simp;simp at u;exact oa h j u i v
def tF (c:l.length<=6)(h:∀i,i<l.length->(g i).ok)(j:∀i,i<l.length->(g i).name=(jT l i).name)(d:(l.map Mv.name).Pairwise (λa b=>cG a b)):aH g l.length:=by refine mo c λi q=>?_;unfold jb;by_cases u:i=0;grind;rw[aj,ad]at d;grind [yt]
theorem Mv.LT {b:Mv}(h:m.ok)(c:b.name=m.name)(d:b.aI=m.aI)(j:0<=b.cj)(q:b.cj<=b.late)(u:b.late<=10000)(v:b.prom=-1\/b.cj<=b.prom/\b.prom<=b.late):b.ok:=by unfold Mv.ok moveB AB jr at*;grind
def then_ok (u:aH f n)(A:ga f t n)(x:p<n)(B:t p+6<=(f p).late)(v:i<n):(gT f t p i).ok:=by have y:=Mv.gp<|bf u i v;have C:=Mv.gp<|bf u p x;have D:=iE<|A.1 i v;have J:=iE<|A.1 p x;unfold gT;split;refine Mv.LT (bf u p x) rfl rfl ?_ ?_ ?_ (.inl rfl)<;>simp[vQ]<;>omega;unfold bT;split;refine Mv.LT (bf u i v) rfl rfl y.1 y.2.1 y.2.2.1 (.inr ⟨?_,?_⟩)<;>simp<;>omega;exact bf u i v
def Hd (h:m.ok)(d:0<=s)(c:eR m s):(fO m s).ok:=by have b:=Mv.gp h;unfold eR at c;grind [fO,Mv.LT]
def pB (m) s:(fO m s).name=m.name:=by unfold fO;split<;>rfl
def Hj (u:aH f n)(y:ga f t n)(v:p<n)(A:t p+6<=(f p).late)(B:∀i,i<(aw f t p n).length->eR (jT (aw f t p n) i) (t p+4)): aH (eZ (jT<|aw f t p n)<|t p+4) (aw f t p n).length:=by have C:=bY u;have D:=jc f t p n;have J:=Mv.gp<|bf u p v;have N:=iE<|y.1 p v;refine tF ab (λi x=>?_) (λi x=>pB _ _)<|(tG u).sublist<|q8 f t p n;let⟨k,hk,_,e⟩:=lQ<|yu x;have:=B i x;unfold eZ;rw[e]at this⊢;exact Hd (then_ok u y v A hk) ab this
def tL (u:aH f n)(v:ga f t n)(x:p<n)(y:t p+6<=(f p).late)(A:i<(aw f t p n).length):(jT (aw f t p n) i).ok:=by let⟨k,hk,_,e⟩:=lQ<|yu A;rw[e];exact then_ok u v x y hk
end
def er (f:Nat->Mv)(k:Nat)(m:Mv)(i:Nat):Mv:=if i<k then f i else if i=k then m else f (i-1)
def Dl (u:aH f n)(J:n<6)(hk:k<=n)(N:m.ok)(O:∀j,j<k->cG (f j).name m.name)(y:k<n->cG (f k).name m.name=false)(A:∀j,j<n->di (f j).name m.name=false):aH (er f k m) (n+1):=by refine mo ab λi R=>?_;have B:∀j,j<n->0<j->cG (f<|j-1).name (f j).name=true:=λj C U=>oa u j C (j-1) ab;unfold jb;rw[agZ,agY,beq_iff_eq];unfold er;by_cases x:i<k;rw[if_pos x,if_pos ab];refine⟨bf u i ab,?_⟩;grind;by_cases D:i=k;grind;rw[if_neg x,if_neg D];refine⟨bf u (i-1) ab,.inr ?_⟩;by_cases v:i-1=k;rw[if_neg ab,if_pos v,v];exact GF (y ab)<|A k ab;rw[if_neg ab,if_neg v];exact B (i-1) ab ab
def wH (u:aH f n)(hk:k<n):aH (d6 f k) (n-1):=by have A:=bY u;refine mo ab λi B=>?_;unfold jb;rw[agZ,agY,beq_iff_eq];unfold d6;by_cases v:i<k;rw[if_pos v,if_pos ab];exact⟨bf u i ab,if y:i=0 then ab else .inr (oa u i ab (i-1) ab)⟩;rw[if_neg v];refine⟨bf u (i+1) ab,?_⟩;by_cases y:i=0;omega;right;by_cases x:i-1<k;rw[if_pos x];exact oa u (i+1) ab (i-1) ab;rw[if_neg x];exact oa u (i+1) ab (i-1+1) ab
def xC (b:aH g n)(d:0<=s)(j:∀i,i<n->eR (g i) s):aH (eZ g s) n:=by refine mo (bY b) λi c=>?_;unfold jb eZ;rw[Hd (bf b i c) d (j i c),pB,pB];by_cases h:i=0;grind;rw[oa b i c (i-1) ab];simp
def LR (h:m.ok):m.name.size<=8:=by unfold Mv.ok moveB jL at h;grind
def QV (v:aH f n)(x:ga f t n)(y:p<n)(A:t p+6<=(f p).late)(u:i<n):eR (gT f t p i) (t p+4):=by have B:=Mv.gp<|bf v i u;have C:=iE<|x.1 i u;grind [gT,eR,vQ,bT]
def wL (f:Nat->Mv)(t:Nat->Int)(p k:Nat):List Mv:=(aw f t p k).map λm=>fO m<|t p+4
def Kh (v:aH f n)(x:ga f t n)(y:p<n)(u:t p+6<=(f p).late): dI f n t p=nQ (eZ (jT<|aw f t p n)<|t p+4) (aw f t p n).length 6 (jM (eZ (jT<|aw f t p n)<|t p+4) (aw f t p n).length 6):=by unfold dI gG;rw[if_pos u,if_pos λi A=>?_];let⟨k,hk,_,e⟩:=lQ<|yu A;rw[e];exact QV v x y u hk
theorem AH (u:¬t p+6<=(f p).late):dI f n t p=none:=by unfold dI;rw[if_neg u]
section
open Classical in
open Classical in
end
