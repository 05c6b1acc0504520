import Derived.Test.YthppgbjejomdiaaGreatDoorj30
import Derived.Test.YthppgbjejomdiaaGreatDoorj27
import Derived.Test.YthppgbjejomdiaaGreatDoorj34
set_option linter.all false
set_option maxHeartbeats 4000000
set_option maxRecDepth 100000
open Go renaming Value->aa,World->aj,Frame->au,results_tmp2->a3
open Go.Value renaming int->ac,slice->ad,tuple->ao,bool->ay,string->aV
open Go.World renaming cell?_setCell_same'->a0,cell?->a2
open List renaming range'->av,mem_cons->a1
namespace Go.Proofs.YthppgbjejomdiaaGreatDoor
open Conc RowKit
variable {a:Act}{ops:Array Oper}{ok:Ctx}{c r0:au}{t shift:Int}{cs:List au}{k:List Item}{r seq:List Nat}{p:List Nat->Bool}{m:Mv}{b cap i lo n off:Nat}{f g h:Nat->Mv}{o:Nat->Nat}{v:aa}{Q:aa->aj->Prop}{V s w w':aj}{x:aX}
theorem zh (g h) n:∀f k,k+f=n->decide (jO g h n n f k<0)=iN (jD g f k) (jD h f k)
 |0,k,_=>by simp[jO,jD,iN]
 |f+1,k,e=>by
  rw[jO,if_neg ab,jD,jD,iN];unfold lq;by_cases B:g k=h k
  .rw[B];simp only[Int.lt_irrefl,if_false,if_true];exact zh g h n f (k+1) ab
  .rw[if_neg B];by_cases y:g k<h k
   .rw[if_pos y];simp[y]
   .have C:h k<g k:=by omega
    rw[if_neg y,if_pos C];simp[y]
def aX.key (x:aX):Option (List Int):=if x.ok then some (x.sum::x.most::jD x.g x.n 0)else none
def kx (n:Nat)(x:aX):Prop:=if x.ok then x.n=n else x.sum=0/\x.most=0/\x.n=0
def kx.len (h:kx n x):∀l,x.key=some l->l.length=n+2:=by intro l d;unfold aX.key at d;unfold kx at h;split at d;grind [qU,Option.some.inj];grind
def Ut n:kx n ff:=by simp[kx,ff]
theorem Vv (a b c):decide (LW a b c<0)=if a=0 then(if b=0 then decide (c<0)else decide (b<0))else decide (a<0):=by grind [LW]
theorem MK {a b}:lq a b=0<->a=b:=by unfold lq;split<;>(try split)<;>omega
theorem PC {a b}:lq a b<0<->a<b:=by unfold lq;split<;>(try split)<;>omega
def C6 {y}(d:kx n x)(e:kx n y):sC x y=ep x.key y.key:=by unfold sC oL aX.key;unfold kx at d e;cases h1:x.ok<;>cases j:y.ok<;>simp[h1,j,ep]at d e⊢;rw[d.1,d.2.1,d.2.2,e.1,e.2.1,e.2.2];simp[LW,lq,jO];all_goals grind [Vv,zh,iN,MK,PC]
theorem fK.BE (h:fK f n o x):kx n x:=by unfold fK at h;unfold kx;grind
theorem fK.key (h:fK f n o x):x.key=(eY f o n).map (ic f n):=by unfold fK at h;unfold aX.key;split at h;rename_i T e;rw[if_pos h.1,h.2.1,h.2.2.1,h.2.2.2.1,AL n 0 (λi _ y=>h.2.2.2.2.2.1 i ab),e];rfl;grind
structure K4 (J:Jb)(n:Nat)(seq:List Nat)(x):Prop where
 is:x=ff\/∃i∈seq,J.Is i x
 all:∀i∈seq,∃y,J.Is i y/\ep y.key x.key=false
section
variable {J:Jb}{o:Nat->Nat->Nat}(A:J.lt=sC)(u:J.Is=λi x=>fK f n (o i) x)
include A u
theorem K4.BE (h:K4 J n seq x):kx n x:=by rcases h.is with rfl|⟨i,_,d⟩;exact Ut n;grind [fK.BE]
theorem BZ (h:yL J seq x):K4 J n seq x:=by induction h with|nil=>exact⟨.inl rfl,λi d=>cQ⟩|@snoc seq i x y hb d j=>have B:=j.BE A u;(have C:kx n y:=by rw[u]at d;grind [fK.BE]);(have hk:J.lt y x=ep y.key x.key:=by rw[A];exact C6 C B);unfold Jb.pick;rw[hk];by_cases l:ep y.key x.key=true;rw[if_pos l];refine⟨.inr ⟨i,aN,d⟩,λk hk=>?_⟩;rcases agX.1 hk with hk|hk;let⟨z,D,E⟩:=j.all k hk;(have F:kx n z:=by rw[u]at D;grind [fK.BE]);exact⟨z,D,NL B.len C.len E l F.len⟩;simp at hk;subst hk;exact⟨y,d,fF _⟩;rw[if_neg l];refine⟨?_,λk hk=>?_⟩;rcases j.is with e|⟨k,hk,e⟩<;>grind;rcases agX.1 hk with hk|hk;exact j.all k hk;grind
theorem tx:∀(xs:List aX) (x:aX),kx n x->(∀y∈xs,kx n y)->kx n (xs.foldl J.pick x)/\(xs.foldl J.pick x=x\/xs.foldl J.pick x∈xs)/\ep x.key (xs.foldl J.pick x).key=false/\∀y∈xs,ep y.key (xs.foldl J.pick x).key=false
 |[],x,C,_=>⟨C,.inl rfl,fF _,λy O=>by simp at O⟩
 |y::xs,x,C,h=>by
  have N:=h y aN;have hk:J.lt y x=ep y.key x.key:=by rw[A];exact C6 N C
  rw[List.foldl_cons];by_cases D:ep y.key x.key=true
  .have e:J.pick x y=y:=by unfold Jb.pick;rw[hk,if_pos D]
   rw[e];let⟨a,b,c,d⟩:=tx xs y N λz B=>h z<|by simp[B]
   refine⟨a,b.elim (λe=>.inr<|by simp[e]) λe=>.inr<|by simp[e],?_,λz B=>?_⟩
   .cases R:ep x.key (xs.foldl J.pick y).key with
    |false=>rfl
    |true=>rw[qO D R]at c;cases c
   .rcases a1.1 B with rfl|B
    .exact c
    .exact d z B
  .have e:J.pick x y=x:=by unfold Jb.pick;rw[hk,if_neg D]
   rw[e];let⟨a,b,c,d⟩:=tx xs x C λz B=>h z<|by simp[B]
   refine⟨a,b.elim .inl λe=>.inr<|by simp[e],c,λz B=>?_⟩;rcases a1.1 B with rfl|B
   .exact py N.len C.len a.len (by simpa using D) c
   .exact d z B
end
def MG {R}{o:Nat->Nat->Nat}(h:Ans sC (λi x=>fK f n (o i) x) R x): (x=ff\/∃k,k<R/\fK f n (o k) x)/\∀k,k<R->ep ((eY f (o k) n).map<|ic f n) x.key=false:=by obtain⟨J,T,seq,A,u,Z,hB,dq,BI,rfl⟩:=h;have C:∀i y,T[i]?=some y->K4 J n (seq i) y:=λi y B=>BZ A u<|hB i y B;(have O:∀y∈T,kx n y:=λy B=>by let⟨i,D⟩:=List.getElem?_of_mem B;exact(C i y D).BE A u);match T,Z,C,O with|x::r,Z,C,O=>let⟨a,b,c,d⟩:=tx A u r x (O x aN) λy B=>O y cQ;(have hle:∀y∈x::r,ep y.key (r.foldl J.pick x).key=false:=λy B=>by grind);have th:r.foldl J.pick x∈x::r:=b.elim (λe=>cQ) (λe=>by simp[e]);refine⟨?_,λk hk=>?_⟩;let⟨i,D⟩:=List.getElem?_of_mem th;(have U:i<4:=by have:=(agF.1 D).1;omega);rcases(C i _ D).is with e|⟨k,hk,e⟩;exact .inl e;rw[u]at e;exact .inr ⟨k,BI i U k hk,e⟩;let⟨i,D,hm⟩:=dq k hk;obtain⟨y,B⟩:∃y,(x::r)[i]?=some y:=⟨_,agR ab⟩;have N:=C i y B;let⟨z,Y,OX⟩:=N.all k hm;rw[u]at Y;rw[<-fK.key Y];exact py (fK.BE Y).len (N.BE A u).len a.len OX<|hle y<|List.mem_of_getElem? B
def Pe {L}(h:Ans sC (λi x=>fK f n (pl<|L.getD i []) x) L.length x):
  match fQ f n L with
  |some T=>x.ok=true/\x.n=n/\x.cap=n/\x.a≠none/\∀i,i<n->x.g i=T i
  |none=>x.ok=false/\x.n=0/\x.cap=0/\x.a=none:=by
 let⟨y,Y⟩:=MG h;let⟨B,_,C⟩:=yW f n L none;change (fQ f n L=none\/∃l∈L,fQ f n L=eY f (pl l) n)at B;change ∀l∈L,ep _ ((fQ f n L).map<|ic f n)=false at C;have Z:∀k,k<L.length->L.getD k []∈L:=λk hk=>cQ
 have hI:∀l∈L,∃k,k<L.length/\L.getD k []=l:=λl R=>by
  grind [List.getD,List.getElem?_of_mem]
 have lw:x.ok=false->x.n=0/\x.cap=0/\x.a=none/\x.key=none:=λe=>by
  refine and_assoc.1 (and_assoc.1 ⟨?_,by grind [aX.key]⟩)|>λh=>h
  rcases y with rfl|⟨k,hk,y⟩
  .exact⟨⟨rfl,rfl⟩,rfl⟩
  grind [fK]
 cases hb:fQ f n L with
 |none=>
  grind [fK,ff,ep]
 |some T=>
  rw[hb]at B C;let⟨l,R,e⟩:=B.resolve_left aN;let⟨k,hk,e2⟩:=hI l R;have D:=Y k hk;rw[e2,<-e]at D;cases U:x.ok with
  |false=>grind [ep]
  |true=>
   rcases y with rfl|⟨q,hq,y⟩
   .grind [ff]
   have N:=fK.key y;have O:=C _<|Z q hq;rw[<-N]at O;unfold fK at y;split at y
   .rename_i S e3;rw[e3]at N;rw[N]at D O;have:=Al (by rw[qG,qG]) D O;unfold ic at this;simp at this;exact⟨rfl,y.2.2.2.1,y.2.2.2.2.1,y.2.2.2.2.2.2,λi qe=>(y.2.2.2.2.2.1 i qe).trans ((Hp n 0 this.2.2) i ab ab).symm⟩
   .rw[y.1]at U;cases U
def dL (h:aM w b off n f)(e:w'.heap[b]?=w.heap[b]?):aM w' b off n f:=λi B=>by
 let⟨C,D,N,O,R,T⟩:=h i B;have k:∀{j:Nat} {v:aa},w.cell? ⟨b,j,none⟩=some v->w'.cell? ⟨b,j,none⟩=some v:=λ{j v} y=>by simp[a2,e]at y⊢;exact y
 exact⟨k C,k D,k N,k O,k R,k T⟩
def fX {g}(h:aC w b n g)(e:w'.heap[b]?=w.heap[b]?):aC w' b n g:=by let⟨⟨cs,d,j⟩,l⟩:=h;exact⟨⟨cs,e.trans d,j⟩,λi q=>by have:=l i q;simp[a2,e]at this⊢;exact this⟩
def AA (h:cE w b)(e:w'.heap[b]?=w.heap[b]?):cE w' b:=by let⟨cs,t,d,j⟩:=h;exact⟨cs,t,e.trans d,j⟩
def mX {a:Array aa}(h:a[i]?=some v):a.getD i undef=v:=by simp[Array.getD_eq_getD_getElem?,h]
def gI (r:Option (Nat->Int))(n:Nat)(V:aj)(v:aa)(s:aj):Prop:=
 (match r with
 |some T=>∃B c,((V:Nat)<=B/\n<=c)/\v=ao #[ad B n c,true]/\aC s B n T
 |none=>∃a c,v=ao #[ad a 0 c,false])/\Bl V V s
def Q9 {cap:Nat}(D:n<=1048576)(N:b<w)(O:aM w b off n f)(R:K5 f n shift p)(T:0<=shift):0<((ba n).filter p).length:=by let⟨e,w',⟨g,_,_,y,_⟩,_⟩:=wU<|sH b off n cap f w D N O;let⟨l,B,U⟩:=FI y.low y.inj;(have hs:ft (λi=>((pl l i:Nat):Int)) (λi=>((g i:Nat):Int)) n 0:=by refine⟨Int.le_refl _,ab,λi k C hk he=>?_,.inl rfl⟩;rw[U i C]at he;(have:i=k:=by rcases Nat.lt_trichotomy i k with h|h|h;exact absurd ab<|y.inj i k h hk;omega;exact absurd ab<|y.inj k i h C);omega);have:=(R g y l B 0 hs).2 T;exact List.length_pos_of_mem<|List.mem_filter.2 ⟨B,this⟩
def ZL {N U:Nat}{cH}(O:aH f n)(Y:aM w b off n f)(Z:cE w b)(gZ:0<((ba n).filter p).length) (own:w.ownsRow lo 106 1 (ad N ((ba n).filter p).length U) ((ba n).filter p).length cH)(B:RowsIn w n lo cH ((ba n).filter p)): ∃tb pK D,Fed w b off n N 0 ((ba n).filter p).length f tb pK D (λi=>pl<|((ba n).filter p).getD i []):=by
 have C:∀i,∃q:Nat×Nat,i<((ba n).filter p).length->cH[i]?=some (ad (some ⟨q.1,0,none⟩) n q.2)/\n<=q.2/\jg w q.1/\aD w q.1 0 n (λj=>((pl (((ba n).filter p).getD i []) j:Nat):Int)):=λi=>by by_cases y:i<((ba n).filter p).length;let⟨tb,D,R,h2,h3,h4,h5⟩:=B i (((ba n).filter p).getD i []) cQ;exact⟨(tb,D),λ_=>⟨R,h2,h4,h5⟩⟩;exact⟨(0,0),λh=>absurd h y⟩
 have T:∀i,i<((ba n).filter p).length->((ba n).filter p).getD i []∈ba n:=λi y=>by(have:((ba n).filter p).getD i []∈(ba n).filter p:=by simp only[List.getD_eq_getElem?_getD];grind);grind
 refine⟨λi=>(C i).choose.1,λ_=>0,λi=>(C i).choose.2,⟨O,Y,Z,λi y=>?_,λi y=>?_,λi y=>((C i).choose_spec y).2.1,λi y=>((C i).choose_spec y).2.2.2,λi y=>(ir<|T i y).2.1,λi y=>(ir<|T i y).2.2,?_,gZ⟩⟩;rw[Nat.zero_add,own.cellAt i ab];grind;let⟨cs,g1,g2⟩:=((C i).choose_spec y).2.2.1;exact⟨cs,_,g1,λv hv=>.inr<|.inl f7⟩;have R:=(kD n<|bY O).1;grind
def aaA {p:Prop}(x9:p:=by clear hE;(go_wp2_with(go_at_call 102;refine H1.mono ?_;clear H1;rintro e w1 ⟨rfl,b1⟩));right;refine⟨Xf,Bl.kP b1,?_⟩;first|exact⟨rfl,rfl,rfl⟩|simp):p:=x9
section
variable [Gl]{Dr:FuncId->Array aa->aj->(aa->aj->Prop)->Prop}{af8:Program}
def ae.ret {b:au}(E:dC af8 ok c Dr)(hb:ok.aP b.fn)(h:ae af8 ok c Dr Q ⟨{b.at a (.code .ret::k)with mode:=.returning},cs,V⟩):ae af8 ok c Dr Q ⟨b.at a<|.code .ret::k,cs,V⟩:=
 ae.of_steps E.pair E.shut E.floor (λq=>∃τ d,q=St.re ⟨{b.at a (.code .ret::k)with mode:=.returning},cs,V⟩ τ d) (by rintro _ ⟨τ,d,rfl⟩;exact hb) (λτ d=>⟨_,⟨τ,d,rfl⟩,.one step_ret⟩) (by rintro _ ⟨τ,d,rfl⟩;exact λe y=>h e y)
def ae.last {b:au}(E:dC af8 ok c Dr)(hb:ok.aP b.fn)(y)(R:Act->aj->Prop)
  (h:∀τ d,ak af8 (λe a w=>(e=.normal/\R a w)\/(e=.ret/\R a w)) y a<|re V τ d)(hR:∀a' w' q,R a' w'->ae af8 ok c Dr Q ⟨{b.at a' q with mode:=.returning},cs,w'⟩):
  ae af8 ok c Dr Q ⟨b.at a<|.code (Proofs.YthppgbjejomdiaaGreatDoor.chain y .ret)::k,cs,V⟩:=
 ae.chain E hb y .ret R R h (λa' w' z=>ae.ret E hb<|hR a' w' _ z) hR
def ae.lx {b:au}(E:dC af8 ok c Dr)(hb:ok.aP b.fn)(j m)(y:j+m<=ops.size)(K:Act->aj->Prop) (h:∀τ d,wpList af8 ops (λe a w=>e=.normal/\K a w) ((ops.toList.drop j).take m) a<|re V τ d)(q:∀a' w',K a' w'->ae af8 ok c Dr Q ⟨b.at a'<|.inRegion ops (av (j+m)<|ops.size-(j+m))::k,cs,w'⟩): ae af8 ok c Dr Q ⟨b.at a<|.inRegion ops (av j<|ops.size-j)::k,cs,V⟩:=by have z:((ops.toList.drop j).take m).length=m:=cY;(have e:av j (ops.size-j)=av j ((ops.toList.drop j).take m).length++av (j+m) (ops.size-(j+m)):=by grind);rw[e];refine ae.ops E hb j _ _ K (λi B=>?_) h q;grind
def my:List.range ops.size=av 0 (ops.size-0):=by rw[List.range_eq_range'];rfl
def WT (E:dC Tz.prog ok c aS)(N:ok.aP 146)(Ft:ok.aP 173=false)(eU:ok.aP r0.fn) (hn:n<=1048576)(bN:b<V)(az:aM V b off n f)(qz:cE V b)(hp:K5 f n shift p) (aE:∀v s,gI (nQ f n shift p) n V v s->ae Tz.prog ok c aS Q ⟨r0.finish v,cs,s⟩): ae Tz.prog ok c aS Q ⟨Frame.enter Tz.prog 146 #[.slice (some ⟨b,off,none⟩) n cap,shift] .normal,r0::cs,V⟩:=by have hE:=enter_at (P:=Tz.prog) #[.slice (some ⟨b,off,none⟩) n cap,.int .i64 shift] Tz.func146 rfl;simp only[Tryz.ntmps146,List.size_toArray,List.length_cons,List.length_nil,Nat.reduceAdd,Nat.reduceSub,Array.replicate_succ,Array.replicate_zero,List.push_toArray,List.append_toArray,List.nil_append,List.cons_append]at hE;rw[hE];by_cases hg:aH f n=true/\0<=shift/\shift<=6;(.let⟨O,Th,LA⟩:=hg;have a9:¬shift<0:=ab;have bb:¬6<shift:=ab;refine ae.chain E N [_,_] _ (λa w=>Bl V V w/\∃R U Y Z u6 u7 u8 u9 Tq YU Ts Tt Tu Tv y Tw C Tx Ty D YV YW YX YY YZ,a=⟨#[.slice (some ⟨b,off,none⟩) n cap,.int .i64 shift,R,U,Y,Z,u6,u7,u8,u9,Tq,YU,Ts,Tt,Tu,Tv,y,Tw,C,Tx,Ty,D,YV,YW,YX,YY,YZ],[]⟩) (λ_ _=>False) ?_ ?_ λ_ _ _ h=>h.elim;(.intro τ d;have H1:=iy b off n cap f (re V τ d) hn bN<|dL az rfl;rw[O]at H1;simp only[ak];clear hE;(go_wp2_with(go_at_call 102;refine H1.mono ?_;clear H1;rintro e w1 ⟨rfl,b1⟩));left;refine⟨Xf,Bl.kP b1,?_⟩;(repeat apply Exists.intro);rfl);rintro a w1 ⟨bK,R,U,Y,Z,u6,u7,u8,u9,Tq,YU,Ts,Tt,Tu,Tv,y,Tw,C,Tx,Ty,D,YV,YW,YX,YY,YZ,rfl⟩;refine ae.seq E N<|ae.region E N ?_;rw[my];have aZ:=dL az<|bK.block b bN;have eI:=bK.size;have gZ:=Q9 (cap:=cap) hn bN az hp Th;refine ae.lx E N 0 4 aN (λa w=>Bl w1 w1 w/\(∃NB nc cH,w.ownsRow w1 106 1 (.slice (some ⟨NB,0,none⟩) ((ba n).filter p).length nc) ((ba n).filter p).length cH/\RowsIn w n w1 cH ((ba n).filter p)/\∃R U Y Z u6 u7 u8 u9 Tq YU Ts Tt Tu Tv y Tw Tx Ty YV YW YX YY YZ,a=⟨#[.slice (some ⟨b,off,none⟩) n cap,.int .i64 shift,R,U,Y,Z,u6,u7,u8,u9,Tq,YU,Ts,Tt,Tu,Tv,y,Tw,.slice (some ⟨b,off,none⟩) n cap,Tx,Ty,.slice (some ⟨NB,0,none⟩) ((ba n).filter p).length nc,YV,YW,YX,YY,YZ],[]⟩)) ?_ ?_;(.intro τ d;have H2:=Ra b off n cap f shift (re w1 τ d) O (by show b<w1;omega) (dL aZ rfl) p hp;clear hE;simp only[an];(go_wp2_with(go_at_call 174;refine H2.mono ?_;clear H2;rintro e B ⟨⟨v,cH,rfl,o2,r2⟩,b2⟩));obtain⟨M,hM⟩:∃M,((ba n).filter p).length=M+1:=⟨((ba n).filter p).length-1,ab⟩;(obtain⟨NB,nc,rfl⟩:∃NB nc,v=.slice (some ⟨NB,0,none⟩) ((ba n).filter p).length nc:=by rw[hM]at o2⊢;exact iz o2);exact⟨Bl.kP b2,NB,nc,cH,o2,r2,rfl⟩);rintro a B ⟨dh,NB,nc,cH,o2,r2,R,U,Y,Z,u6,u7,u8,u9,Tq,YU,Ts,Tt,Tu,Tv,y,Tw,Tx,Ty,YV,YW,YX,YY,YZ,rfl⟩;have Z6:Bl V V B:=bK.trans dh eI;have f8:=dh.size;let⟨tb,pK,tc,a4⟩:=ZL O (dL az<|Z6.block b bN) (AA qz<|Z6.block b bN) gZ o2 r2;refine ae.PJ E (i:=4) rfl rfl Ft (λw=>?_) (λτ d=>.inl ⟨rfl,b,off,n,cap,NB,0,_,nc,f,tb,pK,tc,_,rfl,a4.re τ d,rfl⟩) ?_;(.simp[execOp,resolve,invoke,Act.eval,go_sem]);rintro τ d v V3 ⟨x,aL,hA,a5,rfl,jo⟩;have Qg:=Pe hA;(have vz:Bl B B V3:=by rcases jo with⟨_,_,rfl⟩|⟨cs,_,rfl,_⟩;exact⟨agw _,λ_ _=>rfl⟩;exact⟨by simp[re],λk hk=>ago _ _ _ hk⟩);have a6:Bl V V V3:=Z6.trans vz ab;have ED:=vz.size;(have gD:∀w',Bl V3 V3 w'->gI (nQ f n shift p) n V (.tuple #[.slice aL x.n x.cap,.bool x.ok]) w':=λw' aG=>by refine⟨?_,a6.trans aG ab⟩;unfold nQ;rw[if_pos ⟨O,Th,LA⟩];cases hO:fQ f n ((ba n).filter p)with|none=>rw[hO]at Qg;let⟨h1,h2,h3,h4⟩:=Qg;exact⟨aL,x.cap,by rw[h1,h2]⟩|some T=>rw[hO]at Qg;let⟨h1,h2,h3,h4,h5⟩:=Qg;rcases jo with⟨h,_⟩|⟨cs,ha,rfl,hi,a7,_,iV⟩;exact absurd (a5.2 h) h4;replace ha:aL=some ⟨B,0,none⟩:=ha;replace iV:cs.size=x.n:=iV;have zN:((re B τ d).alloc<|.cells cs 3).heap[(B:Nat)]?=some (.cells cs 3 (0,0)):=heap_alloc_new (re B τ d) _;(have a8:aD ((re B τ d).alloc<|.cells cs 3) B 0 n T:=by rcases a7 with h|⟨b5,o5,h,hr⟩;replace h:x.n=0:=h;intro i qe;omega;replace h:aL=some ⟨b5,o5,none⟩:=h;rw[ha]at h;simp only[Option.some.injEq,Addr.mk.injEq]at h;obtain⟨rfl,rfl,_⟩:=h;intro i qe;have:=hr i (by show i<x.n;omega);rw[this];exact congrArg (λz=>some<|Value.int .i64 z)<|h5 i qe);refine⟨B,x.cap,⟨ab,ab⟩,by rw[h1,h2,ha],?_⟩;(have A:(B:Nat)<((re B τ d).alloc<|.cells cs 3).heap.size:=by simp[re]);exact fX ⟨⟨cs,zN,ab⟩,a8⟩<|aG.block _ A);clear hA Qg jo;refine ae.lx E N 5 2 aN (λa w=>Bl V3 V3 w/\∃B6,w.cell? ⟨B6,0,none⟩=some (.bool x.ok)/\w.cell? ⟨B6,3,none⟩=some (.slice aL x.n x.cap)/\∃u0 u1 R U Y Z u7 u8 u9 Tq YU Ts Tt Tu Tv y Tw C Tx Ty D YV YW YX YY YZ,a=⟨#[u0,u1,R,U,Y,Z,.pointer<|some ⟨B6,0,none⟩,u7,u8,u9,Tq,YU,Ts,Tt,Tu,Tv,y,Tw,C,Tx,Ty,D,YV,YW,YX,YY,YZ],[]⟩) ?_ ?_;(.intro ax d';clear hE gD;simp only[an,Act.put,aX.val];go_wp2;exact⟨by simp[re],λk hk=>ago _ _ _ hk⟩);rintro a w4 ⟨IA,B6,c0,c3,u0,u1,R,U,Y,Z,u7,u8,u9,Tq,YU,Ts,Tt,Tu,Tv,y,Tw,C,Tx,Ty,D,YV,YW,YX,YY,YZ,rfl⟩;refine ae.regionEnd E N ?_;refine ae.last E N [_] (λa w=>Bl V3 V3 w/\a.defers=[]/\a.tmps[4]?=some (.slice aL x.n x.cap)/\a.tmps[5]?=some (.bool x.ok)) ?_ ?_;(.intro ax d';have be:(re w4 ax d').cell? ⟨B6,0,none⟩=some (.bool x.ok):=c0;have bi:(re w4 ax d').cell? ⟨B6,3,none⟩=some (.slice aL x.n x.cap):=c3;clear hE gD c0 c3;simp only[ak];(go_quiet (fail));left;refine⟨Xf,IA.trans (M:=(w4:Nat)) ⟨agw _,λ_ _=>rfl⟩ IA.size,?_⟩;first|exact⟨rfl,rfl,rfl⟩|simp);rintro a w5 aI ⟨h1,h2,h3,h4⟩;refine ae.leave E eU (v:=.tuple #[.slice aL x.n x.cap,.bool x.ok]) (λτ d=>⟨rfl,h2,rfl,_,Tz.func146,?_⟩)<|aE _ _<|gD _ h1;have:=results_tmp2 (fn:=Tryz.f146) rfl a.tmps Tz.prog<|re w5 τ d;rw[mX h3,mX h4]at this;exact this);refine ae.chain E N [_,_] _ (λ_ _=>False) (λa w=>Bl V V w/\a.defers=[]/\a.tmps[4]?=some (.slice none 0 0)/\a.tmps[5]?=some (.bool false)) ?_ (λ_ _ h=>h.elim) ?_;intro τ d;have H1:=iy b off n cap f (re V τ d) hn bN<|dL az rfl;simp only[ak];cases O:aH f n;rw[O]at H1;exact aaA;rw[O]at H1;by_cases h0:shift<0;exact aaA;(have h6:6<shift:=by have:¬(0<=shift/\shift<=6):=λh=>hg ⟨O,h⟩;omega);have bj:0<=shift:=ab;exact aaA;rintro a w aI ⟨h1,h2,h3,h4⟩;refine ae.leave E eU (v:=.tuple #[.slice none 0 0,.bool false]) (λτ d=>⟨rfl,h2,rfl,_,Tz.func146,?_⟩)<|aE _ _ ⟨by unfold nQ;rw[if_neg hg];exact⟨none,0,rfl⟩,h1⟩;have:=results_tmp2 (fn:=Tryz.f146) rfl a.tmps Tz.prog<|re w τ d;rw[mX h3,mX h4]at this;exact this
end
def Fx:List (Nat×aa)->aa->Nat->aa
 |[],d,_=>d
 |(j,v)::l,d,i=>if i=j then v else Fx l d i
def wlW (l:List (Nat×aa))(u:Nat->aa):Nat->Nat->List aa
 |_,0=>[]
 |i,k+1=>Fx l (u i) i::wlW l u (i+1) k
def rW (n:Nat)(l:List (Nat×aa))(u:Nat->aa):Array Value:=(wlW l u 0 n).toArray
@[go_sem] def Yk n (l) (u):rW n l u=(wlW l u 0 n).toArray:=rfl
@[go_sem] def Y0 (l) (u) (i k):wlW l u i (k+1)=Fx l (u i) i::wlW l u (i+1) k:=rfl
@[go_sem] def adq (l) (u) i:wlW l u i 0=[]:=rfl
@[go_sem] theorem Q0 j v (l) d i:Fx ((j,v)::l) d i=if i=j then v else Fx l d i:=rfl
@[go_sem] def ace d i:Fx [] d i=d:=rfl
def jz (a:Act)(s:(Nat->aa)->Array aa):Prop:=a.defers=[]/\a.tmps=s (λi=>a.tmps.getD i undef)
def jz.open {s}(h:jz a s):∃u,a=⟨s u,[]⟩:=by let⟨d,e⟩:=h;refine⟨λi=>a.tmps.getD i undef,?_⟩;rw[<-e,<-d]
def aq {b:au}{o}(ho:ops[i]?=some o) v:(b.at a<|.inRegion ops (i::r)::k).finish v=b.at (a.put o.dst v) (.inRegion ops r::k):=by grind [Frame.finish_at]
section
variable [Gl]
def ae.Zl (E:dC Tz.prog ok c aS)(y:ok.aP 146)(C:ok.aP 173=false){b:au}(hb:ok.aP b.fn){o}(ho:ops[i]?=some o)(hw:Region.wanted o (yielded ops a.tmps))
  {B}(D:∀w,(execOp a.eval o).run Tz.prog w=.ok (.enter 146 #[ad (some ⟨B,off,none⟩) n cap,shift]) w)
  (N:n<=1048576)(O:B<V)(R:aM V B off n f)(T:cE V B)(U:K5 f n shift p)
  (Y:∀v s,gI (nQ f n shift p) n V v s->ae Tz.prog ok c aS Q ⟨b.at (a.put o.dst v)<|.inRegion ops r::k,cs,s⟩):ae Tz.prog ok c aS Q ⟨b.at a<|.inRegion ops (i::r)::k,cs,V⟩:=
 ae.aZ E ho hw y D (WT E y C (r0:=b.at a _) hb N O R T U λv s Z=>by rw[aq ho];exact Y v s Z)
end
section
variable {r:Option (Nat->Int)}{m:Nat}
def Tk (r:Option (Nat->Int))(m lo:Nat)(w:aj)(v:aa):Prop:=
 match r with
 |some T=>∃B c,lo<=B/\v=ad B m c/\aC w B m T
 |none=>∃a c,v=ad a 0 c
def Tk.same (h:Tk r m lo w v)(e:∀b,lo<=b->b<w->w'.heap[b]?=w.heap[b]?):Tk r m lo w' v:=by rcases r with _|T;exact h;let⟨B,c,q,z,y⟩:=h;exact⟨B,c,q,z,fX y<|e B q y.lt⟩
def yz (h:gI r m V v s):∃e,v=ao #[e,r.isSome]/\Tk r m V s e/\Bl V V s:=by rcases r with _|T;obtain⟨⟨a,c,rfl⟩,hb⟩:=h;exact⟨_,rfl,⟨a,c,rfl⟩,hb⟩;obtain⟨⟨B,c,q,rfl,y⟩,hb⟩:=h;exact⟨_,rfl,⟨B,c,q.1,rfl,y⟩,hb⟩
def Hb {b}(h:gI r m V (ao #[v,b]) s){a l c}(e:v=ad a l c):l<=c:=by rcases r with _|T;let⟨⟨a',q,h⟩,_⟩:=h;grind;let⟨⟨B,q,y,h,_⟩,_⟩:=h;grind
end
def Md {k}(C:aM w b 0 n h)(hk:k<n) x:aM (w.setCell ⟨b,k*6+3,none⟩<|ac .i64 x) b 0 n (λi=>if i=k then{h k with cj:=x}else h i):=λi D=>by
 let⟨d,l,q,y,z,B⟩:=C i D;have o:∀j,j≠k*6+3->(w.setCell ⟨b,k*6+3,none⟩<|ac .i64 x).cell? ⟨b,j,none⟩=w.cell? ⟨b,j,none⟩:=λj F=>World.cell?_setCell_other _ _ _ _ f7
 by_cases e:i=k
 .subst e;simp only[if_true];have E:w.cell? ⟨b,i*6+3,none⟩=some (ac .i64 (h i).cj):=by rw[<-y];congr 2;omega
  have s:(w.setCell ⟨b,i*6+3,none⟩<|ac .i64 x).cell? ⟨b,i*6+3,none⟩=some (ac .i64 x):=a0 _ _ _ f7;exact⟨(o _ ab).trans d,(o _ ab).trans l,(o _ ab).trans q,f7,(o _ ab).trans z,(o _ ab).trans B⟩
 .simp only[if_neg e];exact⟨(o _ ab).trans d,(o _ ab).trans l,(o _ ab).trans q,(o _ ab).trans y,(o _ ab).trans z,(o _ ab).trans B⟩
def aM.oR {d}(l:aM w b off n h)(e:∀i,i<n->h i=d i):aM w b off n d:=λi j=>by rw[<-e i j];exact l i j
def Ha (h:cE w b) j:w.frozen? ⟨b,j,none⟩=false:=by let⟨cs,e,d,_⟩:=h;exact frozen_of_row _ _ j _ _ d
theorem gI.re {r}(h:gI r n V v s)(τ:Nat->Question->Nat) d:gI r n V v (re s τ d):=by let⟨j,e⟩:=h;refine⟨?_,⟨e.size,e.block⟩⟩;assumption
def eT (g:Nat->Mv)(t:Int)(k i:Nat):Mv:=if i<k then fO (g i) t else g i
def vb {k}(h:¬(g k).prom=-1) i:eT g t k i=eT g t (k+1) i:=by unfold eT;by_cases e:i=k;unfold fO;grind;grind
def AE {x k}(h:(g k).prom=-1)(d:max (g k).cj t=x) i:(if i=k then{eT g t k k with cj:=x}else eT g t k i)=eT g t (k+1) i:=by unfold eT;by_cases e:i=k;unfold fO;grind;grind
def mw (h:m.prom=-1):eR m t=decide (t<=m.late):=by unfold eR;simp[h]
def AD (h:¬m.prom=-1):eR m t:=by unfold eR;simp[h]
def adf {p:Prop}(x9:p:=by go_wp2;exact⟨⟨τ,d,rfl⟩,rfl,rfl⟩):p:=x9
def Yx {p:Prop}(x9:p:=by simp only[an];go_wp2;exact⟨⟨τ,d,rfl⟩,rfl,rfl⟩):p:=x9
section
variable [Gl]
def Fl (E:dC Tz.prog ok c aS)(C:ok.aP 107)(wW:ok.aP 146)(Ft:ok.aP 173=false)(eU:ok.aP r0.fn)
  {now:Int}(hn:n<=6)(hg:∀i,i<n->(g i).ok)(h0:0<=now)(h1:now<=20000)(bN:b<V)(az:aM V b 0 n g)
  (aE:∀v s,gI (gG g n now shift) n V v s->ae Tz.prog ok c aS Q ⟨r0.finish v,cs,s⟩):
  ae Tz.prog ok c aS Q ⟨Frame.enter Tz.prog 107 #[ad b n cap,now,shift] .normal,r0::cs,V⟩:=by
 have hE:=enter_at (P:=Tz.prog) #[ad b n cap,now,shift] Tz.func107 rfl;simp only[Tryz.ntmps107,List.size_toArray,List.length_cons,List.length_nil,Nat.reduceAdd,Nat.reduceSub,Array.replicate_succ,Array.replicate_zero,List.push_toArray,List.append_toArray,List.nil_append,List.cons_append]at hE;rw[hE];refine ae.chain E C [_,_,_] _ (λa' w'=>(∀i,i<n->eR (g i) (now+4)=true)/\Bl V V w'/\∃B N,(V:Nat)<=B/\aM w' B 0 n (eZ g<|now+4)/\cE w' B/\jz a' (rW 46 [(2,ac .i64 shift),(8,ad (some ⟨B,0,none⟩) n N)])) (λa' w'=>(¬∀i,i<n->eR (g i) (now+4)=true)/\Bl V V w'/\a'.defers=[]/\a'.tmps[6]?=some (ad none 0 0)/\a'.tmps[7]?=some (ay false)) ?_ ?_ ?_
 .intro τ d;have H1:=zf b n cap g (re V τ d) ab bN<|dL az rfl;have zH:∀W,Below (re V τ d).heap.size (re V τ d) W->Bl V V W:=λW h=>Bl.kP h
  have gE:(re V τ d).heap.size=(V:Nat):=rfl;simp only[ak];go_wp2_with(go_at_call 145;refine H1.mono ?_;clear H1;rintro e w1 ⟨B,N,rfl,ow,y,D⟩;have Ce:=eu ow;have o0:=(ow.lt B rfl).1;clear ow)
  have CY:IntKind.i64.wrap (now+4)=now+4:=jh;go_loopw [15,9,10] (λx _ _ W=>∃k:Nat,x=ac .i64 k/\k<=n/\Below (re V τ d).heap.size (re V τ d) W/\aM W B 0 n (eT g (now+4) k)/\cE W B/\∀i,i<k->eR (g i) (now+4)=true) (λx _ _ _=>n-(intOf x).toNat)
  case atStart=>exact⟨0,rfl,agB _,D,Ce.oR λi _=>by unfold eT;rw[if_neg ab],y,λi Z=>absurd Z ab⟩
  obtain⟨k,rfl,hk,iK,Tg,qf,dq⟩:=hrel;by_cases A:k<n
  .have dQ:(k:Int)<n:=by omega
   have a4:eT g (now+4) k k=g k:=by unfold eT;rw[if_neg ab]
   have eK:=Mv.gp<|hg k A;let⟨c0,c1,c2,c3,c4,c5⟩:=Tg k A;rw[a4]at c0 c1 c2 c3 c4 c5;simp only[Nat.zero_add]at c0 c1 c2 c3 c4 c5;have aG:=qf.lt;have bA:=gJ wr<|g k;have a7:=lZ wr<|g k;by_cases hp:(g k).prom=-1
   .obtain⟨x,hx⟩:∃x,max (g k).cj (now+4)=x:=⟨_,rfl⟩;have a8:=Ha qf<|k*6+3;go_wp2;all_goals try omega
    try rw[hx]
    have rS:=(Md Tg A x).oR λi _=>AE hp hx i;have R:cE (wr.setCell ⟨B,k*6+3,none⟩ x) B:=qf.set<|.inr<|.inl ⟨_,_,rfl⟩;have bS:=iK.setCell (p:=⟨B,k*6+3,none⟩) (by show(re V τ d).heap.size<=B;omega) x;have eS:(wr.setCell ⟨B,k*6+3,none⟩ x).cell? ⟨B,k*6+3,none⟩=some (ac .i64 x):=a0 _ _ _ (by rw[c3];rfl);have zS:(wr.setCell ⟨B,k*6+3,none⟩ x).heap.size=(wr:Nat):=aN;revert rS R bS eS zS;generalize wr.setCell ⟨B,k*6+3,none⟩ (ac .i64 x)=W0;intro rS R bS eS zS;have bB:Below W0 W0 (W0.alloc<|.cells #[aV (g k).name,ay (g k).ax,ac .i64 (g k).aI,ac .i64 (g k).cj,ac .i64 (g k).late,ac .i64 (-1)] 30):=(agn _ _).alloc ab _;have e1:=(bB.cell (p:=⟨B,k*6+3,none⟩) R.lt).trans eS;have l1:(W0.alloc<|.cells #[aV (g k).name,ay (g k).ax,ac .i64 (g k).aI,ac .i64 (g k).cj,ac .i64 (g k).late,ac .i64 (-1)] 30).cell? ⟨wr,4,none⟩=some (ac .i64 (g k).late):=by rw[<-zS];simp
    have r1:=rS.below bB R.lt;have p1:=R.same<|bB.block B R.lt;have D:=bS.trans<|bB.mono bS.size;revert e1 l1 r1 p1 D;generalize (W0.alloc<|.cells #[aV (g k).name,ay (g k).ax,ac .i64 (g k).aI,ac .i64 (g k).cj,ac .i64 (g k).late,ac .i64 (-1)] 30)=U;intro e1 l1 r1 p1 D;by_cases a9:x<=(g k).late
    .have Qr:¬(g k).late<x:=by omega
     have a5:decide ((g k).late<x)=false:=by simpa using Qr
     have aL:=aK U;have x0:=λx:am U=>x.cell e1
     have x1:=λx:am U=>x.cell l1
     refine nh ?_;intro w2 dh;go_wp2;all_goals try omega
     go_roundw
     case rel=>exact⟨k+1,by go_num,ab,D.trans<|dh.mono D.size,r1.below dh p1.lt,p1.same<|dh.block B p1.lt,λi Z=>by
      by_cases e:i=k
      .subst e;rw[mw hp];simp;omega
      .exact dq i ab⟩
     exact cD
    have Qr:(g k).late<x:=by omega
    have lw:¬∀i,i<n->eR (g i) (now+4)=true:=λh=>by
     have:=h k A;rw[mw hp]at this;simp at this;omega
    have a5:decide ((g k).late<x)=true:=by simpa using Qr
    have aL:=aK U;have x0:=λx:am U=>x.cell e1
    have x1:=λx:am U=>x.cell l1
    refine nh ?_;intro w2 dh;clear aL x0 x1;have lu:=zH _<|D.trans<|dh.mono D.size;go_wp2;all_goals try omega
    first
     |exact⟨lw,lu⟩
     |(right;exact⟨rfl,lw,lu,rfl,rfl,rfl⟩)
     |trace_state
   go_wp2;go_roundw
   case rel=>exact⟨k+1,by go_num,ab,iK.trans<|bA.mono iK.size,(Tg.below bA aG).oR λi _=>vb hp i,qf.same<|bA.block B aG,λi Z=>by
    by_cases e:i=k
    .subst e;exact AD hp
    .exact dq i ab⟩
   case measure=>exact cD
  have dQ:¬(k:Int)<n:=by omega
  have tX:k=n:=ab;subst tX;go_wp2;exact⟨dq,zH _ iK,B,ab,Tg.oR (λi Z=>by unfold eT eZ;rw[if_pos Z]),qf,N,rfl,rfl⟩
 .rintro a' w1 ⟨dq,bK,B,N,o0,Ce,y,O⟩;obtain⟨u,rfl⟩:=O.open;have hP:gG g n now shift=nQ (eZ g<|now+4) n shift (jM (eZ g<|now+4) n shift):=by unfold gG;rw[if_pos dq]
  have eI:=bK.size;refine ae.seq E C<|ae.region E C ?_;rw[my];refine ae.lx E C 0 2 aN (λa' w'=>(∃τ d,w'=re w1 τ d)/\jz a' (rW 46 [(2,shift),(8,ad B n N),(41,ad B n N),(42,shift)])) ?_ ?_
  .intro τ d;exact Yx
  rintro a' w' ⟨⟨τ,d,rfl⟩,O⟩;obtain⟨u,rfl⟩:=O.open;clear O;refine ae.Zl E wW Ft C (i:=2) rfl rfl (B:=B) (off:=0) (n:=n) (cap:=N) (f:=eZ g<|now+4) (shift:=shift) (λw=>nU) ab y.lt (dL Ce rfl) (AA y rfl) (At _ n shift) ?_;intro v V2 gD;have Qy:gI (gG g n now shift) n V v V2:=by
   rw[hP];refine⟨?_,⟨agz bK.size gD.2.size,λk hk=>(gD.2.block k (by show k<w1;omega)).trans<|bK.block k hk⟩⟩;have:=gD.1;revert this;cases nQ (eZ g<|now+4) n shift (jM (eZ g<|now+4) n shift)with
   |none=>exact id
   |some T=>rintro⟨B',c',h1,h2⟩;exact⟨B',c',⟨agz eI h1.1,h1.2⟩,h2⟩
  obtain⟨v5,rfl,t5,bb⟩:=yz gD;obtain⟨Y,mY⟩:∃Y,(nQ (eZ g<|now+4) n shift<|jM (eZ g<|now+4) n shift).isSome=Y:=⟨_,rfl⟩;rw[mY]at Qy⊢;refine ae.lx E C 3 4 aN (λa' w'=>(∃τ d,w'=re V2 τ d)/\jz a' (rW 46 [(6,v5),(7,Y)])) ?_ ?_
  .intro τ d;simp only[an,Act.put];exact adf
  rintro a' w' ⟨⟨aZ,d2,rfl⟩,O⟩;clear u;obtain⟨u,rfl⟩:=O.open;clear O;refine ae.regionEnd E C<|ae.ret E C<|ae.leave E eU (v:=ao #[v5,Y]) (λτ d=>⟨rfl,rfl,rfl,_,Tz.func107,?_⟩)<|aE (ao #[v5,Y]) _<|Qy.re aZ d2;have:=a3 (fn:=Tryz.f107) rfl ((rW 46 [(6,v5),(7,Y)]) u) Tz.prog<|re (re V2 aZ d2) τ d;exact this
 rintro a w a6 ⟨h2,h3,h4,h5,h6⟩;refine ae.leave E eU (v:=ao #[(),false]) (λτ d=>⟨rfl,h4,rfl,_,Tz.func107,?_⟩)<|aE _ _ ⟨by unfold gG;rw[if_neg h2];exact⟨none,0,rfl⟩,h3⟩;have:=a3 (fn:=Tryz.f107) rfl a.tmps Tz.prog<|re w τ d;rw[mX h5,mX h6]at this;exact this
end
