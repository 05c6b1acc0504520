import Derived.Test.YtjoalkgmgmmedaaGreatDoorj31
import Derived.Test.YtjoalkgmgmmedaaGreatDoorj29
import Derived.Test.YtjoalkgmgmmedaaGreatDoorj34
set_option linter.unusedVariables false
set_option linter.defProp false
set_option linter.unusedSectionVars false
set_option maxHeartbeats 4000000
set_option maxRecDepth 100000
open Array renaming replicate_succ->a1,replicate_zero->a2
open Go renaming Value->ac,results_tmp2->ay,World->a0,Frame->a8
open Go.Value renaming slice->aa,int->ad,tuple->au,bool->av,string->bn
open Go.World renaming cell?_setCell_same'->aV,cell?->bi
open List renaming range'->ai,getElem?_of_mem->ao,append_toArray->a3,size_toArray->a4,push_toArray->a5,length_cons->a6,cons_append->a7,length_nil->a9,nil_append->bb,mem_cons->be
open Nat renaming reduceAdd->bj,reduceSub->bk,zero_add->bm
namespace Go.Proofs.YtjoalkgmgmmedaaGreatDoor
open Conc RowKit
variable {a:Act}{ops:Array Oper}{ok:Ctx}{c r0:a8}{t shift:Int}{cs:List a8}{k:List Item}{r seq:List Nat}{p:List Nat->Bool}{m:Mv}{b cap i lo n off:Nat}{f g h:Nat->Mv}{o:Nat->Nat}{v:ac}{Q:ac->a0->Prop}{V s w w':a0}{x:aX}
theorem yT (g h) n:∀f k,k+f=n->decide (jJ g h n n f k<0)=iI (jv g f k) (jv h f k)
 |0,k,_=>by simp[jJ,jv,iI]
 |f+1,k,e=>by
  rw[jJ,if_neg ab,jv,jv,iI];unfold kX;by_cases B:g k=h k
  .rw[B];simp only[Int.lt_irrefl,if_false,if_true];exact yT g h n f (k+1) ab
  .rw[if_neg B];by_cases y:g k<h k
   .rw[if_pos y];simp[y]
   .have C:h k<g k:=by omega
    rw[if_neg y,if_pos C];simp[y]
def aX.key (x:aX):Option (List Int):=if x.ok then some (x.sum::x.most::jv x.g x.n 0)else none
def ka (n:Nat)(x:aX):Prop:=if x.ok then x.n=n else x.sum=0/\x.most=0/\x.n=0
def ka.len (h:ka n x):∀l,x.key=some l->l.length=n+2:=by
 intro l d;unfold aX.key at d;unfold ka at h;split at d
 .grind [qN,Option.some.inj]
 grind
def TO n:ka n eY:=by simp[ka,eY]
theorem UQ (a b c):decide (Lh a b c<0)=if a=0 then(if b=0 then decide (c<0)else decide (b<0))else decide (a<0):=by
 grind [Lh]
theorem L3 {a b}:kX a b=0<->a=b:=by unfold kX;split<;>(try split)<;>omega
theorem OX {a b}:kX a b<0<->a<b:=by unfold kX;split<;>(try split)<;>omega
def CH {y}(d:ka n x)(e:ka n y):se x y=eb x.key y.key:=by
 unfold se oD aX.key;unfold ka at d e;cases h1:x.ok<;>cases j:y.ok<;>simp[h1,j,eb]at d e⊢
 .rw[d.1,d.2.1,d.2.2,e.1,e.2.1,e.2.2];simp[Lh,kX,jJ]
 all_goals grind [UQ,yT,iI,L3,OX]
theorem fF.A1 (h:fF f n o x):ka n x:=by
 unfold fF at h;unfold ka;grind
theorem fF.key (h:fF f n o x):x.key=(eT f o n).map (gZ f n):=by
 unfold fF at h;unfold aX.key;split at h
 .rename_i T e;rw[if_pos h.1,h.2.1,h.2.2.1,h.2.2.2.1,Au n 0 (λi _ y=>h.2.2.2.2.2.1 i ab),e];rfl
 grind
structure Kv (J:Jb)(n:Nat)(seq:List Nat)(x):Prop where
 is:x=eY\/∃i∈seq,J.Is i x
 all:∀i∈seq,∃y,J.Is i y/\eb y.key x.key=false
section
variable {J:Jb}{o:Nat->Nat->Nat}(A:J.lt=se)(u:J.Is=λi x=>fF f n (o i) x)
include A u
theorem Kv.A1 (h:Kv J n seq x):ka n x:=by
 rcases h.is with rfl|⟨i,_,d⟩
 .exact TO n
 grind [fF.A1]
theorem Bh (h:yw J seq x):Kv J n seq x:=by
 induction h with
 |nil=>exact⟨.inl rfl,λi d=>cO⟩
 |@snoc seq i x y hb d j=>
  have B:=j.A1 A u;have C:ka n y:=by rw[u]at d;grind [fF.A1]
  have hk:J.lt y x=eb y.key x.key:=by rw[A];exact CH C B
  unfold Jb.pick;rw[hk];by_cases l:eb y.key x.key=true
  .rw[if_pos l];refine⟨.inr ⟨i,aP,d⟩,λk hk=>?_⟩;rcases agb.1 hk with hk|hk
   .let⟨z,D,E⟩:=j.all k hk;have F:ka n z:=by rw[u]at D;grind [fF.A1]
    exact⟨z,D,M7 B.len C.len E l F.len⟩
   simp at hk;subst hk;exact⟨y,d,fC _⟩
  rw[if_neg l];refine⟨?_,λk hk=>?_⟩
  .rcases j.is with e|⟨k,hk,e⟩<;>grind
  rcases agb.1 hk with hk|hk
  .exact j.all k hk
  grind
theorem sZ:∀(xs:List aX) (x:aX),ka n x->(∀y∈xs,ka n y)->ka n (xs.foldl J.pick x)/\(xs.foldl J.pick x=x\/xs.foldl J.pick x∈xs)/\eb x.key (xs.foldl J.pick x).key=false/\∀y∈xs,eb y.key (xs.foldl J.pick x).key=false
 |[],x,C,_=>⟨C,.inl rfl,fC _,λy O=>by simp at O⟩
 |y::xs,x,C,h=>by
  have N:=h y aP;have hk:J.lt y x=eb y.key x.key:=by rw[A];exact CH N C
  rw[List.foldl_cons];by_cases D:eb y.key x.key=true
  .have e:J.pick x y=y:=by unfold Jb.pick;rw[hk,if_pos D]
   rw[e];let⟨a,b,c,d⟩:=sZ xs y N λz B=>h z<|by simp[B]
   refine⟨a,b.elim (λe=>.inr<|by simp[e]) λe=>.inr<|by simp[e],?_,λz B=>?_⟩
   .cases R:eb x.key (xs.foldl J.pick y).key with
    |false=>rfl
    |true=>rw[qH D R]at c;cases c
   .rcases be.1 B with rfl|B
    .exact c
    .exact d z B
  .have e:J.pick x y=x:=by unfold Jb.pick;rw[hk,if_neg D]
   rw[e];let⟨a,b,c,d⟩:=sZ xs x C λz B=>h z<|by simp[B]
   refine⟨a,b.elim .inl λe=>.inr<|by simp[e],c,λz B=>?_⟩;rcases be.1 B with rfl|B
   .exact pj N.len C.len a.len (by simpa using D) c
   .exact d z B
end
def LW {R}{o:Nat->Nat->Nat}(h:Ans se (λi x=>fF f n (o i) x) R x):
  (x=eY\/∃k,k<R/\fF f n (o k) x)/\∀k,k<R->eb ((eT f (o k) n).map<|gZ f n) x.key=false:=by
 obtain⟨J,T,seq,A,u,Z,hB,dw,A4,rfl⟩:=h;have C:∀i y,T[i]?=some y->Kv J n (seq i) y:=λi y B=>Bh A u<|hB i y B
 have O:∀y∈T,ka n y:=λy B=>by
  let⟨i,D⟩:=ao B;exact(C i y D).A1 A u
 match T,Z,C,O with
 |x::r,Z,C,O=>
  let⟨a,b,c,d⟩:=sZ A u r x (O x aP) λy B=>O y cO
  have hle:∀y∈x::r,eb y.key (r.foldl J.pick x).key=false:=λy B=>by
   grind
  have sS:r.foldl J.pick x∈x::r:=b.elim (λe=>cO) (λe=>by simp[e]);refine⟨?_,λk hk=>?_⟩
  .let⟨i,D⟩:=ao sS;have U:i<4:=by have:=(afT.1 D).1;omega
   rcases(C i _ D).is with e|⟨k,hk,e⟩
   .exact .inl e
   rw[u]at e;exact .inr ⟨k,A4 i U k hk,e⟩
  let⟨i,D,hm⟩:=dw k hk;obtain⟨y,B⟩:∃y,(x::r)[i]?=some y:=⟨_,af5 ab⟩;have N:=C i y B;let⟨z,Y,Ok⟩:=N.all k hm;rw[u]at Y;rw[<-fF.key Y];exact pj (fF.A1 Y).len (N.A1 A u).len a.len Ok<|hle y<|List.mem_of_getElem? B
def OE {L}(h:Ans se (λi x=>fF f n (pl<|L.getD i []) x) L.length x):
  match fL f n L with
  |some T=>x.ok=true/\x.n=n/\x.cap=n/\x.a≠none/\∀i,i<n->x.g i=T i
  |none=>x.ok=false/\x.n=0/\x.cap=0/\x.a=none:=by
 let⟨y,Y⟩:=LW h;let⟨B,_,C⟩:=yI f n L none;change (fL f n L=none\/∃l∈L,fL f n L=eT f (pl l) n)at B;change ∀l∈L,eb _ ((fL f n L).map<|gZ f n)=false at C;have Z:∀k,k<L.length->L.getD k []∈L:=λk hk=>cO
 have hI:∀l∈L,∃k,k<L.length/\L.getD k []=l:=λl R=>by
  grind [List.getD,ao]
 have kY:x.ok=false->x.n=0/\x.cap=0/\x.a=none/\x.key=none:=λe=>by
  refine and_assoc.1 (and_assoc.1 ⟨?_,by grind [aX.key]⟩)|>λh=>h
  rcases y with rfl|⟨k,hk,y⟩
  .exact⟨⟨rfl,rfl⟩,rfl⟩
  grind [fF]
 cases hb:fL f n L with
 |none=>
  grind [fF,eY,eb]
 |some T=>
  rw[hb]at B C;let⟨l,R,e⟩:=B.resolve_left aP;let⟨k,hk,e2⟩:=hI l R;have D:=Y k hk;rw[e2,<-e]at D;cases U:x.ok with
  |false=>grind [eb]
  |true=>
   rcases y with rfl|⟨q,hq,y⟩
   .grind [eY]
   have N:=fF.key y;have O:=C _<|Z q hq;rw[<-N]at O;unfold fF at y;split at y
   .rename_i S e3;rw[e3]at N;rw[N]at D O;have:=zP (by rw[qz,qz]) D O;unfold gZ at this;simp at this;exact⟨rfl,y.2.2.2.1,y.2.2.2.2.1,y.2.2.2.2.2.2,λi p8=>(y.2.2.2.2.2.1 i p8).trans ((GZ n 0 this.2.2) i ab ab).symm⟩
   .rw[y.1]at U;cases U
def dJ (h:aK w b off n f)(e:w'.heap[b]?=w.heap[b]?):aK w' b off n f:=λi B=>by
 let⟨C,D,N,O,R,T⟩:=h i B;have k:∀{j:Nat} {v:ac},w.cell? ⟨b,j,none⟩=some v->w'.cell? ⟨b,j,none⟩=some v:=λ{j v} y=>by simp[bi,e]at y⊢;exact y
 exact⟨k C,k D,k N,k O,k R,k T⟩
def fT {g}(h:aC w b n g)(e:w'.heap[b]?=w.heap[b]?):aC w' b n g:=by
 let⟨⟨cs,d,j⟩,l⟩:=h;exact⟨⟨cs,e.trans d,j⟩,λi q=>by have:=l i q;simp[bi,e]at this⊢;exact this⟩
def Ag (h:cm w b)(e:w'.heap[b]?=w.heap[b]?):cm w' b:=by
 let⟨cs,t,d,j⟩:=h;exact⟨cs,t,e.trans d,j⟩
def mN {a:Array ac}(h:a[i]?=some v):a.getD i undef=v:=by simp[Array.getD_eq_getD_getElem?,h]
def gE (r:Option (Nat->Int))(n:Nat)(V:a0)(v:ac)(s:a0):Prop:=
 (match r with
 |some T=>∃B c,(V.heap.size<=B/\n<=c)/\v=au #[aa B n c,true]/\aC s B n T
 |none=>∃a c,v=au #[aa a 0 c,false])/\Bl V V s
def Qx {cap:Nat}(D:n<=1048576)(N:b<w)(O:aK w b off n f)(R:Kw f n shift p)(T:0<=shift):0<((ba n).filter p).length:=by
 let⟨e,w',⟨g,_,_,y,_⟩,_⟩:=wu<|sw b off n cap f w D N O;let⟨l,B,U⟩:=Fh y.low y.inj;have hs:fk (λi=>((pl l i:Nat):Int)) (λi=>((g i:Nat):Int)) n 0:=by
  refine⟨Int.le_refl _,ab,λi k C hk he=>?_,.inl rfl⟩;rw[U i C]at he;have:i=k:=by
   rcases Nat.lt_trichotomy i k with h|h|h
   .exact absurd ab (y.inj i k h hk)
   .omega
   exact absurd ab<|y.inj k i h C
  omega
 have:=(R g y l B 0 hs).2 T;exact List.length_pos_of_mem<|List.mem_filter.2 ⟨B,this⟩
def YR {N U:Nat}{cG}(O:aG f n)(Y:aK w b off n f)(Z:cm w b)(iG:0<((ba n).filter p).length)
  (own:w.ownsRow lo 102 1 (aa N ((ba n).filter p).length U) ((ba n).filter p).length cG)(B:RowsIn w n lo cG ((ba n).filter p)):
  ∃tb pB D,Fed w b off n N 0 ((ba n).filter p).length f tb pB D (λi=>pl<|((ba n).filter p).getD i []):=by
 have C:∀i,∃q:Nat×Nat,i<((ba n).filter p).length->cG[i]?=some (aa (some ⟨q.1,0,none⟩) n q.2)/\n<=q.2/\jb w q.1/\aD w q.1 0 n (λj=>((pl (((ba n).filter p).getD i []) j:Nat):Int)):=λi=>by
  by_cases y:i<((ba n).filter p).length
  .let⟨tb,D,R,h2,h3,h4,h5⟩:=B i (((ba n).filter p).getD i []) cO;exact⟨(tb,D),λ_=>⟨R,h2,h4,h5⟩⟩
  exact⟨(0,0),λh=>absurd h y⟩
 have T:∀i,i<((ba n).filter p).length->((ba n).filter p).getD i []∈ba n:=λi y=>by
  have:((ba n).filter p).getD i []∈(ba n).filter p:=by simp only[List.getD_eq_getElem?_getD];grind
  grind
 refine⟨λi=>(C i).choose.1,λ_=>0,λi=>(C i).choose.2,⟨O,Y,Z,λi y=>?_,λi y=>?_,λi y=>((C i).choose_spec y).2.1,λi y=>((C i).choose_spec y).2.2.2,λi y=>(io<|T i y).2.1,λi y=>(io<|T i y).2.2,?_,iG⟩⟩
 .rw[bm,own.cellAt i ab];grind
 .let⟨cs,g1,g2⟩:=((C i).choose_spec y).2.2.1;exact⟨cs,_,g1,λv hv=>.inr<|.inl gC⟩
 have R:=(ku n<|bX O).1;grind
section
variable [Gl]{Dr:FuncId->Array ac->a0->(ac->a0->Prop)->Prop}{afn:Program}
def ae.ret {b:a8}(E:dB afn ok c Dr)(hb:ok.aN b.fn)(h:ae afn ok c Dr Q ⟨{b.at a (.code .ret::k)with mode:=.returning},cs,V⟩):ae afn ok c Dr Q ⟨b.at a<|.code .ret::k,cs,V⟩:=
 ae.of_steps E.pair E.shut E.floor (λq=>∃τ d,q=St.re ⟨{b.at a (.code .ret::k)with mode:=.returning},cs,V⟩ τ d) (by rintro _ ⟨τ,d,rfl⟩;exact hb) (λτ d=>⟨_,⟨τ,d,rfl⟩,.one step_ret⟩) (by rintro _ ⟨τ,d,rfl⟩;exact λe y=>h e y)
def ae.last {b:a8}(E:dB afn ok c Dr)(hb:ok.aN b.fn)(y)(R:Act->a0->Prop)
  (h:∀τ d,ak afn (λe a w=>(e=.normal/\R a w)\/(e=.ret/\R a w)) y a<|re V τ d)(hR:∀a' w' q,R a' w'->ae afn ok c Dr Q ⟨{b.at a' q with mode:=.returning},cs,w'⟩):
  ae afn ok c Dr Q ⟨b.at a<|.code (Proofs.YtjoalkgmgmmedaaGreatDoor.chain y .ret)::k,cs,V⟩:=
 ae.chain E hb y .ret R R h (λa' w' z=>ae.ret E hb<|hR a' w' _ z) hR
def ae.kZ {b:a8}(E:dB afn ok c Dr)(hb:ok.aN b.fn)(j m)(y:j+m<=ops.size)(K:Act->a0->Prop)
  (h:∀τ d,wpList afn ops (λe a w=>e=.normal/\K a w) ((ops.toList.drop j).take m) a<|re V τ d)(q:∀a' w',K a' w'->ae afn ok c Dr Q ⟨b.at a'<|.inRegion ops (ai (j+m)<|ops.size-(j+m))::k,cs,w'⟩):
  ae afn ok c Dr Q ⟨b.at a<|.inRegion ops (ai j<|ops.size-j)::k,cs,V⟩:=by
 have z:((ops.toList.drop j).take m).length=m:=dj;have e:ai j (ops.size-j)=ai j ((ops.toList.drop j).take m).length++ai (j+m) (ops.size-(j+m)):=by
  grind
 rw[e];refine ae.ops E hb j _ _ K (λi B=>?_) h q;grind
def mj:List.range ops.size=ai 0 (ops.size-0):=by rw[List.range_eq_range'];rfl
def E' {p:Prop}(x9:p:=by
  clear hE;go_wp2_with(go_at_call 103;refine H1.mono ?_;clear H1;rintro e w1 ⟨rfl,b1⟩)
  right;refine⟨V8,Bl.kH b1,?_⟩;first|exact⟨rfl,rfl,rfl⟩|simp):p:=x9
def VR (E:dB Tz.prog ok c aS)(D:ok.aN 142)(E3:ok.aN 166=false)(eN:ok.aN r0.fn)
  (hn:n<=1048576)(bN:b<V)(aB:aK V b off n f)(qs:cm V b)(hp:Kw f n shift p)
  (aE:∀v s,gE (nF f n shift p) n V v s->ae Tz.prog ok c aS Q ⟨r0.finish v,cs,s⟩):
  ae Tz.prog ok c aS Q ⟨Frame.enter Tz.prog 142 #[aa (some ⟨b,off,none⟩) n cap,shift] .normal,r0::cs,V⟩:=by
 have hE:=enter_at (P:=Tz.prog) #[aa (some ⟨b,off,none⟩) n cap,ad .i64 shift] Tz.func142 rfl;simp only[Tryz.ntmps142,a4,a6,a9,bj,bk,a1,a2,a5,a3,bb,a7]at hE;rw[hE];by_cases hg:aG f n=true/\0<=shift/\shift<=6
 .let⟨N,Sx,KW⟩:=hg;have bs:¬shift<0:=ab;have bt:¬6<shift:=ab;refine ae.chain E D [_,_] _ (λa w=>Bl V.heap.size V w/\∃O R U Y u6 Z u8 u9 SE X3 SF SG SH SI y SJ M_ SK SL C X4 X5 X6 X7 X8,a=⟨#[aa (some ⟨b,off,none⟩) n cap,ad .i64 shift,O,R,U,Y,u6,Z,u8,u9,SE,X3,SF,SG,SH,SI,y,SJ,M_,SK,SL,C,X4,X5,X6,X7,X8],[]⟩) (λ_ _=>False) ?_ ?_ (λ_ _ _ h=>h.elim)
  .intro τ d;have H1:=iu b off n cap f (re V τ d) hn bN<|dJ aB rfl;rw[N]at H1;simp only[ak];clear hE;go_wp2_with(go_at_call 103;refine H1.mono ?_;clear H1;rintro e w1 ⟨rfl,b1⟩)
   left;refine⟨V8,Bl.kH b1,?_⟩;repeat apply Exists.intro
   rfl
  .rintro a w1 ⟨bL,O,R,U,Y,u6,Z,u8,u9,SE,X3,SF,SG,SH,SI,y,SJ,M_,SK,SL,C,X4,X5,X6,X7,X8,rfl⟩;refine ae.seq E D<|ae.region E D ?_;rw[mj];have aZ:=dJ aB<|bL.block b bN;have eO:=bL.size;have iG:=Qx (cap:=cap) hn bN aB hp Sx;refine ae.kZ E D 0 4 aP (λa w=>Bl w1.heap.size w1 w/\(∃NB nc cG,w.ownsRow w1.heap.size 102 1 (aa (some ⟨NB,0,none⟩) ((ba n).filter p).length nc) ((ba n).filter p).length cG/\RowsIn w n w1.heap.size cG ((ba n).filter p)/\∃O R U Y u6 Z u8 u9 SE X3 SF SG SH SI y SJ SK SL X4 X5 X6 X7 X8,a=⟨#[aa (some ⟨b,off,none⟩) n cap,ad .i64 shift,O,R,U,Y,u6,Z,u8,u9,SE,X3,SF,SG,SH,SI,y,SJ,aa (some ⟨b,off,none⟩) n cap,SK,SL,aa (some ⟨NB,0,none⟩) ((ba n).filter p).length nc,X4,X5,X6,X7,X8],[]⟩)) ?_ ?_
   .intro τ d;have H2:=Qy b off n cap f shift (re w1 τ d) N (by show b<w1.heap.size;omega) (dJ aZ rfl) p hp;clear hE;simp only[ap];go_wp2_with(go_at_call 167;refine H2.mono ?_;clear H2;rintro e B ⟨⟨v,cG,rfl,o2,r2⟩,b2⟩)
    obtain⟨M,hM⟩:∃M,((ba n).filter p).length=M+1:=⟨((ba n).filter p).length-1,ab⟩;obtain⟨NB,nc,rfl⟩:∃NB nc,v=aa (some ⟨NB,0,none⟩) ((ba n).filter p).length nc:=by rw[hM]at o2⊢;exact iv o2
    exact⟨Bl.kH b2,NB,nc,cG,o2,r2,rfl⟩
   .rintro a B ⟨dg,NB,nc,cG,o2,r2,O,R,U,Y,u6,Z,u8,u9,SE,X3,SF,SG,SH,SI,y,SJ,SK,SL,X4,X5,X6,X7,X8,rfl⟩;have Za:Bl V.heap.size V B:=bL.trans dg eO;have fZ:=dg.size;let⟨tb,pB,tc,bl⟩:=YR N (dJ aB<|Za.block b bN) (Ag qs<|Za.block b bN) iG o2 r2;refine ae.O4 E (i:=4) rfl rfl E3 (λw=>?_) (λτ d=>.inl ⟨rfl,b,off,n,cap,NB,0,_,nc,f,tb,pB,tc,_,rfl,bl.re τ d,rfl⟩) ?_
    .simp[execOp,resolve,invoke,Act.eval,go_sem]
    .rintro τ d v V3 ⟨x,aL,hA,bo,rfl,jB⟩;have PA:=OE hA;have vd:Bl B.heap.size B V3:=by
      rcases jB with⟨_,_,rfl⟩|⟨cs,_,rfl,_⟩
      .exact⟨afK _,λ_ _=>rfl⟩
      .exact⟨by simp[re],λk hk=>afC _ _ _ hk⟩
     have bp:Bl V.heap.size V V3:=Za.trans vd ab;have FP:=vd.size;have gt:∀w',Bl V3.heap.size V3 w'->gE (nF f n shift p) n V (au #[aa aL x.n x.cap,av x.ok]) w':=λw' aF=>by
      refine⟨?_,bp.trans aF ab⟩;unfold nF;rw[if_pos ⟨N,Sx,KW⟩];cases hO:fL f n ((ba n).filter p)with
      |none=>
       rw[hO]at PA;let⟨h1,h2,h3,h4⟩:=PA;exact⟨aL,x.cap,by rw[h1,h2]⟩
      |some T=>
       rw[hO]at PA;let⟨h1,h2,h3,h4,h5⟩:=PA;rcases jB with⟨h,_⟩|⟨cs,ha,rfl,hi,bq,_,iP⟩
       .exact absurd (bo.2 h) h4
       .replace ha:aL=some ⟨B.heap.size,0,none⟩:=ha;replace iP:cs.size=x.n:=iP;have vz:((re B τ d).alloc<|.cells cs 3).heap[B.heap.size]?=some (.cells cs 3 (0,0)):=heap_alloc_new (re B τ d) _;have br:aD ((re B τ d).alloc<|.cells cs 3) B.heap.size 0 n T:=by
         rcases bq with h|⟨b5,o5,h,hr⟩
         .replace h:x.n=0:=h;intro i p8;omega
         .replace h:aL=some ⟨b5,o5,none⟩:=h;rw[ha]at h;simp only[Option.some.injEq,Addr.mk.injEq]at h;obtain⟨rfl,rfl,_⟩:=h;intro i p8;have:=hr i (by show i<x.n;omega);rw[this];exact congrArg (λz=>some<|ad .i64 z)<|h5 i p8
        refine⟨B.heap.size,x.cap,⟨ab,ab⟩,by rw[h1,h2,ha],?_⟩;have A:B.heap.size<((re B τ d).alloc<|.cells cs 3).heap.size:=by simp[re]
        exact fT ⟨⟨cs,vz,ab⟩,br⟩<|aF.block _ A
     clear hA PA jB;refine ae.kZ E D 5 2 aP (λa w=>Bl V3.heap.size V3 w/\∃B6,w.cell? ⟨B6,0,none⟩=some (av x.ok)/\w.cell? ⟨B6,3,none⟩=some (aa aL x.n x.cap)/\∃u0 u1 O R U Y Z u8 u9 SE X3 SF SG SH SI y SJ M_ SK SL C X4 X5 X6 X7 X8,a=⟨#[u0,u1,O,R,U,Y,.pointer<|some ⟨B6,0,none⟩,Z,u8,u9,SE,X3,SF,SG,SH,SI,y,SJ,M_,SK,SL,C,X4,X5,X6,X7,X8],[]⟩) ?_ ?_
     .intro ax d';clear hE gt;simp only[ap,Act.put,aX.val];go_wp2;exact⟨by simp[re],λk hk=>afC _ _ _ hk⟩
     .rintro a w4 ⟨H0,B6,c0,c3,u0,u1,O,R,U,Y,Z,u8,u9,SE,X3,SF,SG,SH,SI,y,SJ,M_,SK,SL,C,X4,X5,X6,X7,X8,rfl⟩;refine ae.regionEnd E D ?_;refine ae.last E D [_] (λa w=>Bl V3.heap.size V3 w/\a.defers=[]/\a.tmps[4]?=some (aa aL x.n x.cap)/\a.tmps[5]?=some (av x.ok)) ?_ ?_
      .intro ax d';have bv:(re w4 ax d').cell? ⟨B6,0,none⟩=some (av x.ok):=c0;have bx:(re w4 ax d').cell? ⟨B6,3,none⟩=some (aa aL x.n x.cap):=c3;clear hE gt c0 c3;simp only[ak];go_quiet (fail)
       left;refine⟨V8,H0.trans (M:=w4.heap.size) ⟨afK _,λ_ _=>rfl⟩ H0.size,?_⟩;first|exact⟨rfl,rfl,rfl⟩|simp
      .rintro a w5 aI ⟨h1,h2,h3,h4⟩;refine ae.leave E eN (v:=au #[aa aL x.n x.cap,av x.ok]) (λτ d=>⟨rfl,h2,rfl,_,Tz.func142,?_⟩)<|aE _ _<|gt _ h1;have:=ay (fn:=Tryz.f142) rfl a.tmps Tz.prog<|re w5 τ d;rw[mN h3,mN h4]at this;exact this
 .refine ae.chain E D [_,_] _ (λ_ _=>False) (λa w=>Bl V.heap.size V w/\a.defers=[]/\a.tmps[4]?=some (aa none 0 0)/\a.tmps[5]?=some (av false)) ?_ (λ_ _ h=>h.elim) ?_
  .intro τ d;have H1:=iu b off n cap f (re V τ d) hn bN<|dJ aB rfl;simp only[ak];cases N:aG f n with
   |false=>
    rw[N]at H1;exact E'
   |true=>
    rw[N]at H1;by_cases h0:shift<0
    .exact E'
    .have h6:6<shift:=by have:¬(0<=shift/\shift<=6):=λh=>hg ⟨N,h⟩;omega
     have bz:0<=shift:=ab;exact E'
  .rintro a w aI ⟨h1,h2,h3,h4⟩;refine ae.leave E eN (v:=au #[aa none 0 0,av false]) (λτ d=>⟨rfl,h2,rfl,_,Tz.func142,?_⟩)<|aE _ _ ⟨by unfold nF;rw[if_neg hg];exact⟨none,0,rfl⟩,h1⟩;have:=ay (fn:=Tryz.f142) rfl a.tmps Tz.prog<|re w τ d;rw[mN h3,mN h4]at this;exact this
end
def E7:List (Nat×ac)->ac->Nat->ac
 |[],d,_=>d
 |(j,v)::l,d,i=>if i=j then v else E7 l d i
def O_ (l:List (Nat×ac))(u:Nat->ac):Nat->Nat->List ac
 |_,0=>[]
 |i,k+1=>E7 l (u i) i::O_ l u (i+1) k
def rW (n:Nat)(l:List (Nat×ac))(u:Nat->ac):Array Value:=(O_ l u 0 n).toArray
@[go_sem] def abI n (l) (u):rW n l u=(O_ l u 0 n).toArray:=rfl
@[go_sem] def acA (l) (u) (i k):O_ l u i (k+1)=E7 l (u i) i::O_ l u (i+1) k:=rfl
@[go_sem] def aev (l) (u) i:O_ l u i 0=[]:=rfl
@[go_sem] theorem Xk j v (l) d i:E7 ((j,v)::l) d i=if i=j then v else E7 l d i:=rfl
@[go_sem] def aer d i:E7 [] d i=d:=rfl
def jI (a:Act)(s:(Nat->ac)->Array ac):Prop:=a.defers=[]/\a.tmps=s (λi=>a.tmps.getD i undef)
def jI.open {s}(h:jI a s):∃u,a=⟨s u,[]⟩:=by
 let⟨d,e⟩:=h;refine⟨λi=>a.tmps.getD i undef,?_⟩;rw[<-e,<-d]
def ar {b:a8}{o}(ho:ops[i]?=some o) v:(b.at a<|.inRegion ops (i::r)::k).finish v=b.at (a.put o.dst v) (.inRegion ops r::k):=by
 grind [Frame.finish_at]
section
variable [Gl]
def ae.Yr (E:dB Tz.prog ok c aS)(y:ok.aN 142)(C:ok.aN 166=false){b:a8}(hb:ok.aN b.fn){o}(ho:ops[i]?=some o)(hw:Region.wanted o (yielded ops a.tmps))
  {B}(D:∀w,(execOp a.eval o).run Tz.prog w=.ok (.enter 142 #[aa (some ⟨B,off,none⟩) n cap,shift]) w)
  (N:n<=1048576)(O:B<V)(R:aK V B off n f)(T:cm V B)(U:Kw f n shift p)
  (Y:∀v s,gE (nF f n shift p) n V v s->ae Tz.prog ok c aS Q ⟨b.at (a.put o.dst v)<|.inRegion ops r::k,cs,s⟩):ae Tz.prog ok c aS Q ⟨b.at a<|.inRegion ops (i::r)::k,cs,V⟩:=
 ae.aZ E ho hw y D (VR E y C (r0:=b.at a _) hb N O R T U λv s Z=>by rw[ar ho];exact Y v s Z)
end
section
variable {r:Option (Nat->Int)}{m:Nat}
def Tk (r:Option (Nat->Int))(m lo:Nat)(w:a0)(v:ac):Prop:=
 match r with
 |some T=>∃B c,lo<=B/\v=aa B m c/\aC w B m T
 |none=>∃a c,v=aa a 0 c
def Tk.same (h:Tk r m lo w v)(e:∀b,lo<=b->b<w->w'.heap[b]?=w.heap[b]?):Tk r m lo w' v:=by
 cases r with
 |none=>exact h
 |some T=>let⟨B,c,q,z,y⟩:=h;exact⟨B,c,q,z,fT y<|e B q y.lt⟩
def yd (h:gE r m V v s):∃e,v=au #[e,r.isSome]/\Tk r m V s e/\Bl V V s:=by
 cases r with
 |none=>obtain⟨⟨a,c,rfl⟩,hb⟩:=h;exact⟨_,rfl,⟨a,c,rfl⟩,hb⟩
 |some T=>obtain⟨⟨B,c,q,rfl,y⟩,hb⟩:=h;exact⟨_,rfl,⟨B,c,q.1,rfl,y⟩,hb⟩
def GK {b}(h:gE r m V (au #[v,b]) s){a l c}(e:v=aa a l c):l<=c:=by
 cases r with
 |none=>let⟨⟨a',q,h⟩,_⟩:=h;grind
 |some T=>let⟨⟨B,q,y,h,_⟩,_⟩:=h;grind
end
def Lw {k}(C:aK w b 0 n h)(hk:k<n) x:aK (w.setCell ⟨b,k*6+3,none⟩<|ad .i64 x) b 0 n (λi=>if i=k then{h k with cE:=x}else h i):=λi D=>by
 let⟨d,l,q,y,z,B⟩:=C i D;have o:∀j,j≠k*6+3->(w.setCell ⟨b,k*6+3,none⟩<|ad .i64 x).cell? ⟨b,j,none⟩=w.cell? ⟨b,j,none⟩:=λj F=>World.cell?_setCell_other _ _ _ _ gC
 by_cases e:i=k
 .subst e;simp only[if_true];have E:w.cell? ⟨b,i*6+3,none⟩=some (ad .i64 (h i).cE):=by rw[<-y];congr 2;omega
  have s:(w.setCell ⟨b,i*6+3,none⟩<|ad .i64 x).cell? ⟨b,i*6+3,none⟩=some (ad .i64 x):=aV _ _ _ gC;exact⟨(o _ ab).trans d,(o _ ab).trans l,(o _ ab).trans q,gC,(o _ ab).trans z,(o _ ab).trans B⟩
 .simp only[if_neg e];exact⟨(o _ ab).trans d,(o _ ab).trans l,(o _ ab).trans q,(o _ ab).trans y,(o _ ab).trans z,(o _ ab).trans B⟩
def aK.oH {d}(l:aK w b off n h)(e:∀i,i<n->h i=d i):aK w b off n d:=λi j=>by rw[<-e i j];exact l i j
def GJ (h:cm w b) j:w.frozen? ⟨b,j,none⟩=false:=by let⟨cs,e,d,_⟩:=h;exact frozen_of_row _ _ j _ _ d
theorem gE.re {r}(h:gE r n V v s)(τ:Nat->Question->Nat) d:gE r n V v (re s τ d):=by
 let⟨j,e⟩:=h;refine⟨?_,⟨e.size,e.block⟩⟩;assumption
def eM (g:Nat->Mv)(t:Int)(k i:Nat):Mv:=if i<k then fJ (g i) t else g i
def uM {k}(h:¬(g k).prom=-1) i:eM g t k i=eM g t (k+1) i:=by
 unfold eM;by_cases e:i=k
 .unfold fJ;grind
 grind
def Ak {x k}(h:(g k).prom=-1)(d:max (g k).cE t=x) i:(if i=k then{eM g t k k with cE:=x}else eM g t k i)=eM g t (k+1) i:=by
 unfold eM;by_cases e:i=k
 .unfold fJ;grind
 grind
def mi (h:m.prom=-1):eL m t=decide (t<=m.late):=by unfold eL;simp[h]
def Aj (h:¬m.prom=-1):eL m t:=by unfold eL;simp[h]
section
variable [Gl]
def aco {p:Prop}(x9:p:=by
  go_wp2;exact⟨⟨τ,d,rfl⟩,rfl,rfl⟩):p:=x9
def XF {p:Prop}(x9:p:=by
  simp only[ap];go_wp2;exact⟨⟨τ,d,rfl⟩,rfl,rfl⟩):p:=x9
def EW (E:dB Tz.prog ok c aS)(C:ok.aN 108)(ww:ok.aN 142)(E3:ok.aN 166=false)(eN:ok.aN r0.fn)
  {now}(hn:n<=6)(hg:∀i,i<n->(g i).ok)(h0:0<=now)(h1:now<=20000)(bN:b<V)(aB:aK V b 0 n g)
  (aE:∀v s,gE (gw g n now shift) n V v s->ae Tz.prog ok c aS Q ⟨r0.finish v,cs,s⟩):
  ae Tz.prog ok c aS Q ⟨Frame.enter Tz.prog 108 #[aa b n cap,now,shift] .normal,r0::cs,V⟩:=by
 have hE:=enter_at (P:=Tz.prog) #[aa b n cap,now,shift] Tz.func108 rfl;simp only[Tryz.ntmps108,a4,a6,a9,bj,bk,a1,a2,a5,a3,bb,a7]at hE;rw[hE];refine ae.chain E C [_,_,_] _ (λa' w'=>(∀i,i<n->eL (g i) (now+4)=true)/\Bl V.heap.size V w'/\∃B N,V.heap.size<=B/\aK w' B 0 n (eU g<|now+4)/\cm w' B/\jI a' (rW 46 [(2,ad .i64 shift),(8,aa (some ⟨B,0,none⟩) n N)])) (λa' w'=>(¬∀i,i<n->eL (g i) (now+4)=true)/\Bl V.heap.size V w'/\a'.defers=[]/\a'.tmps[6]?=some (aa none 0 0)/\a'.tmps[7]?=some (av false)) ?_ ?_ ?_
 .intro τ d;have H1:=yR b n cap g (re V τ d) ab bN<|dJ aB rfl;have zk:∀W,Below (re V τ d).heap.size (re V τ d) W->Bl V V W:=λW h=>Bl.kH h
  have gK:(re V τ d).heap.size=V.heap.size:=rfl;simp only[ak];go_wp2_with(go_at_call 141;refine H1.mono ?_;clear H1;rintro e w1 ⟨B,N,rfl,ow,y,D⟩;have BD:=eh ow;have oN:=(ow.lt B rfl).1;clear ow)
  have H5:IntKind.i64.wrap (now+4)=now+4:=kw;go_loopw [15,9,10] (λx _ _ W=>∃k:Nat,x=ad .i64 k/\k<=n/\Below (re V τ d).heap.size (re V τ d) W/\aK W B 0 n (eM g (now+4) k)/\cm W B/\∀i,i<k->eL (g i) (now+4)=true) (λx _ _ _=>n-(intOf x).toNat)
  case atStart=>exact⟨0,rfl,afP _,D,BD.oH λi _=>by unfold eM;rw[if_neg ab],y,λi Z=>absurd Z ab⟩
  obtain⟨k,rfl,hk,iY,Sw,p9,dw⟩:=hrel;by_cases A:k<n
  .have dV:(k:Int)<n:=by omega
   have bl:eM g (now+4) k k=g k:=by unfold eM;rw[if_neg ab]
   have eF:=Mv.gj<|hg k A;let⟨c0,c1,c2,c3,c4,c5⟩:=Sw k A;rw[bl]at c0 c1 c2 c3 c4 c5;simp only[bm]at c0 c1 c2 c3 c4 c5;have aF:=p9.lt;have bA:=gG wr<|g k;have bq:=lP wr<|g k;by_cases hp:(g k).prom=-1
   .obtain⟨x,hx⟩:∃x,max (g k).cE (now+4)=x:=⟨_,rfl⟩;have bs:=GJ p9<|k*6+3;go_wp2;all_goals try omega
    try rw[hx]
    have rS:=(Lw Sw A x).oH λi _=>Ak hp hx i;have R:cm (wr.setCell ⟨B,k*6+3,none⟩ x) B:=p9.set<|.inr<|.inl ⟨_,_,rfl⟩;have bS:=iY.setCell (p:=⟨B,k*6+3,none⟩) (by show(re V τ d).heap.size<=B;omega) x;have eS:(wr.setCell ⟨B,k*6+3,none⟩ x).cell? ⟨B,k*6+3,none⟩=some (ad .i64 x):=aV _ _ _ (by rw[c3];rfl);have zS:(wr.setCell ⟨B,k*6+3,none⟩ x).heap.size=wr.heap.size:=aP;revert rS R bS eS zS;generalize wr.setCell ⟨B,k*6+3,none⟩ (ad .i64 x)=W0;intro rS R bS eS zS;have bB:Below W0 W0 (W0.alloc<|.cells #[bn (g k).name,av (g k).ax,ad .i64 (g k).aI,ad .i64 (g k).cE,ad .i64 (g k).late,ad .i64 (-1)] 55):=(afB _ _).alloc ab _;have e1:=(bB.cell (p:=⟨B,k*6+3,none⟩) R.lt).trans eS;have l1:(W0.alloc<|.cells #[bn (g k).name,av (g k).ax,ad .i64 (g k).aI,ad .i64 (g k).cE,ad .i64 (g k).late,ad .i64 (-1)] 55).cell? ⟨wr.heap.size,4,none⟩=some (ad .i64 (g k).late):=by rw[<-zS];simp
    have r1:=rS.below bB R.lt;have p1:=R.same<|bB.block B R.lt;have D:=bS.trans<|bB.mono bS.size;revert e1 l1 r1 p1 D;generalize (W0.alloc<|.cells #[bn (g k).name,av (g k).ax,ad .i64 (g k).aI,ad .i64 (g k).cE,ad .i64 (g k).late,ad .i64 (-1)] 55)=U;intro e1 l1 r1 p1 D;by_cases bt:x<=(g k).late
    .have PN:¬(g k).late<x:=by omega
     have bo:decide ((g k).late<x)=false:=by simpa using PN
     have aL:=aM U;have x0:=λx:an U=>x.cell e1
     have x1:=λx:an U=>x.cell l1
     refine nl ?_;intro w2 dg;go_wp2;all_goals try omega
     go_roundw
     case rel=>exact⟨k+1,by go_num,ab,D.trans<|dg.mono D.size,r1.below dg p1.lt,p1.same<|dg.block B p1.lt,λi Z=>by
      by_cases e:i=k
      .subst e;rw[mi hp];simp;omega
      .exact dw i ab⟩
     exact cD
    have PN:(g k).late<x:=by omega
    have kY:¬∀i,i<n->eL (g i) (now+4)=true:=λh=>by
     have:=h k A;rw[mi hp]at this;simp at this;omega
    have bo:decide ((g k).late<x)=true:=by simpa using PN
    have aL:=aM U;have x0:=λx:an U=>x.cell e1
    have x1:=λx:an U=>x.cell l1
    refine nl ?_;intro w2 dg;clear aL x0 x1;have pP:=zk _<|D.trans<|dg.mono D.size;go_wp2;all_goals try omega
    first
     |exact⟨kY,pP⟩
     |(right;exact⟨rfl,kY,pP,rfl,rfl,rfl⟩)
     |trace_state
   go_wp2;go_roundw
   case rel=>exact⟨k+1,by go_num,ab,iY.trans<|bA.mono iY.size,(Sw.below bA aF).oH λi _=>uM hp i,p9.same<|bA.block B aF,λi Z=>by
    by_cases e:i=k
    .subst e;exact Aj hp
    .exact dw i ab⟩
   case measure=>exact cD
  have dV:¬(k:Int)<n:=by omega
  have tM:k=n:=ab;subst tM;go_wp2;exact⟨dw,zk _ iY,B,ab,Sw.oH (λi Z=>by unfold eM eU;rw[if_pos Z]),p9,N,rfl,rfl⟩
 .rintro a' w1 ⟨dw,bL,B,N,oN,BD,y,O⟩;obtain⟨u,rfl⟩:=O.open;have hP:gw g n now shift=nF (eU g<|now+4) n shift (jG (eU g<|now+4) n shift):=by unfold gw;rw[if_pos dw]
  have eO:=bL.size;refine ae.seq E C<|ae.region E C ?_;rw[mj];refine ae.kZ E C 0 2 aP (λa' w'=>(∃τ d,w'=re w1 τ d)/\jI a' (rW 46 [(2,shift),(8,aa B n N),(41,aa B n N),(42,shift)])) ?_ ?_
  .intro τ d;exact XF
  rintro a' w' ⟨⟨τ,d,rfl⟩,O⟩;obtain⟨u,rfl⟩:=O.open;clear O;refine ae.Yr E ww E3 C (i:=2) rfl rfl (B:=B) (off:=0) (n:=n) (cap:=N) (f:=eU g<|now+4) (shift:=shift) (λw=>od) ab y.lt (dJ BD rfl) (Ag y rfl) (zY _ n shift) ?_;intro v V2 gt;have PV:gE (gw g n now shift) n V v V2:=by
   rw[hP];refine⟨?_,⟨afN bL.size gt.2.size,λk hk=>(gt.2.block k (by show k<w1.heap.size;omega)).trans<|bL.block k hk⟩⟩;have:=gt.1;revert this;cases nF (eU g<|now+4) n shift (jG (eU g<|now+4) n shift)with
   |none=>exact id
   |some T=>rintro⟨B',c',h1,h2⟩;exact⟨B',c',⟨afN eO h1.1,h1.2⟩,h2⟩
  obtain⟨v5,rfl,t5,bv⟩:=yd gt;obtain⟨Y,oh⟩:∃Y,(nF (eU g<|now+4) n shift<|jG (eU g<|now+4) n shift).isSome=Y:=⟨_,rfl⟩;rw[oh]at PV⊢;refine ae.kZ E C 3 4 aP (λa' w'=>(∃τ d,w'=re V2 τ d)/\jI a' (rW 46 [(6,v5),(7,Y)])) ?_ ?_
  .intro τ d;simp only[ap,Act.put];exact aco
  rintro a' w' ⟨⟨aZ,d2,rfl⟩,O⟩;clear u;obtain⟨u,rfl⟩:=O.open;clear O;refine ae.regionEnd E C<|ae.ret E C<|ae.leave E eN (v:=au #[v5,Y]) (λτ d=>⟨rfl,rfl,rfl,_,Tz.func108,?_⟩)<|aE (au #[v5,Y]) _<|PV.re aZ d2;have:=ay (fn:=Tryz.f108) rfl ((rW 46 [(6,v5),(7,Y)]) u) Tz.prog<|re (re V2 aZ d2) τ d;exact this
 rintro a w bp ⟨h2,h3,h4,h5,h6⟩;refine ae.leave E eN (v:=au #[(),false]) (λτ d=>⟨rfl,h4,rfl,_,Tz.func108,?_⟩)<|aE _ _ ⟨by unfold gw;rw[if_neg h2];exact⟨none,0,rfl⟩,h3⟩;have:=ay (fn:=Tryz.f108) rfl a.tmps Tz.prog<|re w τ d;rw[mN h5,mN h6]at this;exact this
end
