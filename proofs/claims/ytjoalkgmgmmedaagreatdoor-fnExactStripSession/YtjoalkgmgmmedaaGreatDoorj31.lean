import Derived.Test.YtjoalkgmgmmedaaGreatDoorj16
import Derived.Test.YtjoalkgmgmmedaaGreatDoorj26
import Derived.Test.YtjoalkgmgmmedaaGreatDoorj22
import Derived.Test.YtjoalkgmgmmedaaGreatDoorj25
set_option linter.unusedVariables false
set_option linter.defProp false
set_option maxHeartbeats 2000000
open Array renaming mem_iff_getElem->ax,mem_of_getElem?->aE
open Go renaming World->ad,heap_alloc_new->au,Value->a4,below_setRow->a5,bodyPost_ret->a6,setRow_heap->a7
open Go.Value renaming slice->ac,int->ao,bool->av
open Go.World renaming cell?->aa,frozen?->a3
open List renaming flatMap_cons->aI,cons_append->a2
namespace Go.Proofs.YtjoalkgmgmmedaaGreatDoor
open Conc RowKit
variable {ok:Ctx}{b y j n nb u no off:Nat}{f:Nat->Mv}{A tb C:Nat->Nat}{o:Nat->Nat->Nat}{V:ad}
def fF (f:Nat->Mv)(n:Nat)(o:Nat->Nat)(x:aX):Prop:=
 match eT f o n with
 |some T=>x.ok/\x.sum=sumTo f T n/\x.most=cZ f T n/\x.n=n/\x.cap=n/\(∀i,i<n->x.g i=T i)/\x.a≠none
 |none=>x.ok=false/\x.sum=0/\x.most=0/\x.n=0/\x.cap=0/\x.a=none
def Ma {o T}(r:aG f n)(ho:∀i,i<n->o i<n)(s:∀j k,j<k->k<n->o j≠o k)(h:eT f o n=some T):gb f T n:=gb.fits r (vq r ho s h).fit
def EU (b off n cap:Nat)(f:Nat->Mv)(y R cap':Nat)(o:Nat->Nat)(w:ad)(U:aG f n)(ho:∀i,i<n->o i<n)(hd:∀j k,j<k->k<n->o j≠o k)(PC:n<=cap')(Y:b<w)(aB:aK w b off n f)(bz:y<w)(aV:aD w y R n (λi=>(o i:Int))):
  Calls Tz.prog 201 #[ac (some ⟨b,off,none⟩) n cap,ac (some ⟨y,R,none⟩) n cap'] w λe w'=>∃x,e=.returned x.val/\fF f n o x/\(∀a,x.a=some a->∃B,a=⟨B,0,none⟩/\w<=B/\aC w' B n x.g)/\Below w w w':=by
 have h6:=bX U;have J:=DM b off n cap f y R cap' o (w.alloc<|.cells #[false,(0:Int),(0:Int),()] 208) U ho PC dj (aB.below ((afB _ w).alloc ab _) Y) dj<|aV.below ((afB _ w).alloc ab _) bz;go_enter Tz.func201,Tryz.ntmps201
 cases N:eT f o n with
 |none=>
  rw[N]at J;go_wp2_with(go_at_call 219;refine J.mono ?_;clear J;rintro e t ⟨rfl,D⟩;have r:=(D.block w.heap.size aP).trans<|heap_alloc_new _ _;have s0:t.cell? ⟨w.heap.size,0,none⟩=some (av false):=(by simp[aa,r]);have s1:t.cell? ⟨w.heap.size,1,none⟩=some (ao .i64 0):=(by simp[aa,r]);have s2:t.cell? ⟨w.heap.size,2,none⟩=some (ao .i64 0):=(by simp[aa,r]);have s3:t.cell? ⟨w.heap.size,3,none⟩=some (ac none 0 0):=(by simp[aa,r]);have sf:∀j,t.frozen? ⟨w.heap.size,j,none⟩=false:=(λj=>by simp[a3,r]);have jU:=((afB w.heap.size w).alloc ab<|.cells #[av false,(0:Int),(0:Int),ac none 0 0] 208).trans<|D.mono aP)
  rw[uL r];have hw5:=a7 t w.heap.size _ #[false,(0:Int),(0:Int),()] _ _ r;have O:=a5 jU (afK _) #[false,(0:Int),(0:Int),()];generalize t.setRow w.heap.size #[av false,(0:Int),(0:Int),ac none 0 0]=s at hw5 O⊢;have Z:s.cell? w.heap.size=some (av false):=xD;have q1:s.cell? ⟨w.heap.size,1,none⟩=some (ao .i64 0):=xD;have q2:s.cell? ⟨w.heap.size,2,none⟩=some (ao .i64 0):=xD;have q3:s.cell? ⟨w.heap.size,3,none⟩=some (ac none 0 0):=xD;refine a6 ?_ rfl ⟨eY,rfl,by simp[fF,N,eY],λa ha=>by simp[eY]at ha,O⟩;simp[results,Tryz.f201,go_sem,aX.val,eY,Z,q1,q2,q3]
 |some T=>
  rw[N]at J;have Oc:gb f T n:=Ma U ho hd N;have sT:=(Oc.sum n ab);go_wp2_with(first|(go_at_call 219;refine J.mono ?_;clear J;rintro e t ⟨⟨B,oN,rfl,bj⟩,D⟩;have TT:=bj.lt;have HL:=uq b off n cap f B 0 n n T t h6 ab (afL Y (by have:=D.size;simp at this;omega)) (aB.below (((afB w.heap.size w).alloc (afK _)<|.cells #[av false,(0:Int),(0:Int),ac none 0 0] 208).trans<|D.mono aP) Y) TT (λi hi=>by have:=bj.2 i hi;simpa using this) Oc)|(go_at_call 79;refine HL.mono ?_;clear HL;rintro e v ⟨rfl,dg⟩;have qn:=(D.trans<|dg.mono D.size);have r:=(qn.block w.heap.size aP).trans<|heap_alloc_new _ _;have s0:v.cell? ⟨w.heap.size,0,none⟩=some (av false):=(by simp[aa,r]);have s1:v.cell? ⟨w.heap.size,1,none⟩=some (ao .i64 0):=(by simp[aa,r]);have s2:v.cell? ⟨w.heap.size,2,none⟩=some (ao .i64 0):=(by simp[aa,r]);have s3:v.cell? ⟨w.heap.size,3,none⟩=some (ac none 0 0):=(by simp[aa,r]);have sf:∀j,v.frozen? ⟨w.heap.size,j,none⟩=false:=(λj=>by simp[a3,r])))
  rw[uL r];have ay:B≠w.heap.size:=by simp at oN;omega
  have hw5:=a7 v w.heap.size _ #[true,ao .i64<|sumTo f T n,ao .i64<|cZ f T n,ac B n n] _ _ r;have O:=a5 (((afB w.heap.size w).alloc ab<|.cells #[false,(0:Int),(0:Int),()] 208).trans<|qn.mono aP) (afK _) #[true,ao .i64<|sumTo f T n,ao .i64<|cZ f T n,ac B n n];have xI:(v.setRow w.heap.size #[true,ao .i64<|sumTo f T n,ao .i64<|cZ f T n,ac B n n]).heap[B]?=v.heap[B]?:=setRow_other _ _ _ _ ay;have KV:=bj.below dg TT;generalize v.setRow w.heap.size #[av true,ao .i64<|sumTo f T n,ao .i64<|cZ f T n,ac (some ⟨B,0,none⟩) n n]=s at hw5 O xI⊢;have aF:aC s B n T:=by
   let⟨⟨cs,g1,g2⟩,g3⟩:=KV;exact⟨⟨cs,xI.trans g1,g2⟩,λi hi=>by rw[<-g3 i hi];simp[aa,xI]⟩
  have Z:s.cell? w.heap.size=some (av true):=xD;have q1:s.cell? ⟨w.heap.size,1,none⟩=some (ao .i64<|sumTo f T n):=xD;have q2:s.cell? ⟨w.heap.size,2,none⟩=some (ao .i64<|cZ f T n):=xD;have q3:s.cell? ⟨w.heap.size,3,none⟩=some (ac B n n):=xD;refine a6 ?_ rfl ⟨⟨true,sumTo f T n,cZ f T n,some ⟨B,0,none⟩,n,n,T⟩,rfl,by simp[fF,N],λa ha=>⟨B,(afQ ha).symm,by simp at oN;omega,aF⟩,O⟩;simp[results,Tryz.f201,go_sem,aX.val,Z,q1,q2,q3]
def se (y x:aX):Bool:=decide (oD y x<0)
theorem Cq:∀(xs:List aX) i (y:aX) o,xs[i]?=some y->o<4->(xs.flatMap aX.cells)[i*4+o]?=y.cells[o]?
 |[],i,y,o,h,_=>by simp at h
 |x::xs,0,y,o,h,ho=>by
  simp only[List.getElem?_cons_zero,Option.some.injEq]at h;subst h;rw[aI,Nat.zero_mul,Nat.zero_add,afV (by simp[aX.cells];exact ho)]
 |x::xs,i+1,y,o,h,ho=>by
  simp only[List.getElem?_cons_succ]at h;have c:x.cells.length=4:=rfl;rw[aI,afW (by rw[c];omega),c,show(i+1)*4+o-4=i*4+o by omega];exact Cq xs i y o h ho
def G1 {xs:List aX}{T z}(h:V.heap[b]?=some (.cells (xs.flatMap aX.cells).toArray T z))(e:∀x∈xs,eR V x.a x.n x.g/\x.n<=1048576):Ii V b 0 xs.length (λi=>xs.getD i eY):=by
 intro i r;have l:xs[i]?=some (xs.getD i eY):=cO;have d:=List.mem_of_getElem? l;have c:∀o,o<4->V.cell? ⟨b,0+i*4+o,none⟩=(xs.getD i eY).cells[o]?:=λo ho=>by
  grind [Cq,aa]
 show VV V b (0+i*4) (xs.getD i eY);generalize xs.getD i eY=y at d c;exact⟨c 0 ab,c 1 ab,c 2 ab,c 3 ab,(e y d).1,(e y d).2⟩
theorem Hp (J:Jb)(a:J.lt=se)(xs:List aX):∀k,k<=xs.length->cW (λi=>xs.getD i eY) k=J.dA (xs.take k):=by
 intro k;induction k with
 |zero=>intro _;rfl
 |succ k c=>
  intro g;have d:k<xs.length:=ab;simp only[cW,c ab];rw[List.take_succ_eq_append_getElem d];have e:xs.getD k eY=xs[k]:=cO;rw[e];cases k with
  |zero=>simp[Jb.dA]
  |succ k=>
   cases xs with
   |nil=>grind
   |cons x xs=>
    simp only[List.take_succ_cons,a2,Jb.dA,List.foldl_append,List.foldl_cons,Jb.pick,a,se];simp
def Jm (J:Jb)(l:J.lt=se)(V:ad)(b:Nat)(xs:List aX)(z:Nat×Nat)(c:xs.length<=1048576)(h:V.heap[b]?=some (.cells (xs.flatMap aX.cells).toArray 208 z))(d:∀x∈xs,eR V x.a x.n x.g/\x.n<=1048576):
  Calls Tz.prog 182 #[ac b xs.length xs.length,.func (.func 183) #[] #[]] V λe w'=>e=.returned (J.dA xs).val/\Below V V w':=by
 refine(F9 b 0 xs.length xs.length (λi=>xs.getD i eY) V c ((afM.1 h).1)<|G1 h d).mono ?_;grind [Hp,List.take_length]
section
variable [Gl]
def acD {M:Nat->Prop}{w:ad}{cap:Nat}(hm:aG f n)
  (aB:aK w b off n f)(U:cm w b)(mb:M b)(ZR:M nb)(pI:∀i,i<u->w.cell? ⟨nb,no+i,none⟩=some (.slice (some ⟨tb i,A i,none⟩) n<|C i))
  (ay:∀i,i<u->M (tb i))(ve:∀i,i<u->cm w (tb i))(Y:∀i,i<u->n<=C i)(Z:∀i,i<u->aD w (tb i) (A i) n (λj=>(o i j:Int)))(ho:∀i,i<u->∀j,j<n->o i j<n)(hd:∀i,i<u->∀j k,j<k->k<n->o i j≠o i k)
  (eF:ok.aN 201/\ok.aN 182/\ok.fn 183):
  LP Tz.prog ok M w (some ⟨b,off,none⟩) n cap nb no u (λi=>.slice (some ⟨tb i,A i,none⟩) n<|C i) (λi x=>i<u/\(x=b\/x=tb i)) (λi x=>fF f n (o i) x) se:=by
 have n6:=bX hm;have qs:∀{S:Nat->Prop} {ai:ad} {x:Nat},cm w x->ai.heap[x]?=w.heap[x]?->∃cs e,ai.heap[x]?=some (.cells cs e (0,0))/\∀v∈cs,aq ok (ul S) v v:=by
  rintro S ai x ⟨cs,e,r,D⟩ hk;refine⟨cs,e,hk.trans r,λv hv=>?_⟩;rcases D v hv with⟨x,rfl⟩|⟨k,x,rfl⟩|⟨s,rfl⟩
  .exact .bool _
  .exact .int _ _
  .exact .string _
 refine⟨ZR,pI,λi x O=>?_,λi t ai k=>⟨λx O=>?_⟩,λi t=>.slice _ _ ⟨gi.2 ⟨⟨t,.inl rfl⟩,rfl⟩,rfl,rfl⟩,λi t=>.slice _ _ ⟨gi.2 ⟨⟨t,.inr rfl⟩,rfl⟩,rfl,rfl⟩,λi t F ai k τ d=>?_,?_,λV b xs z r D h3=>Jm _ rfl V b xs z r D h3,eF⟩
 .grind
 .have hk:=k.block x<|.inr ⟨i,O⟩;obtain⟨_,rfl|rfl⟩:=O
  .exact qs U hk
  .exact qs (ve i t) hk
 .have kb:=k.block b<|.inr ⟨i,t,.inl rfl⟩;have kt:=k.block (tb i)<|.inr ⟨i,t,.inr rfl⟩;have N:∀j,(re (froze F ai) τ d).cell? ⟨b,j,none⟩=w.cell? ⟨b,j,none⟩:=λj=>(sN F ai _).trans (by grind [aa])
  have ct:∀j,(re (froze F ai) τ d).cell? ⟨tb i,j,none⟩=w.cell? ⟨tb i,j,none⟩:=λj=>(sN F ai _).trans<|by grind [aa]
  have hz:(re (froze F ai) τ d).heap.size=ai.heap.size:=jK F ai;have aF:∀x,cm w x->x<ai:=λx O=>by let⟨cs,e,r,_⟩:=O;exact afL (afM.1 r).1 k.size
  have hr:aK (re (froze F ai) τ d) b off n f:=λj R=>by
   let⟨c0,c1,c2,c3,c4,c5⟩:=aB j R;exact⟨(N _).trans c0,(N _).trans c1,(N _).trans c2,(N _).trans c3,(N _).trans c4,(N _).trans c5⟩
  apply(EU b off n cap f (tb i) (A i) (C i) (o i) _ hm (ho i t) (hd i t) (Y i t) cO hr cO λj R=>(ct _).trans<|Z i t j R).mono;rintro e w' ⟨x,rfl,r,D,h3⟩;refine⟨x,rfl,r,?_,?_,λa J=>?_,λa J=>?_⟩
  .unfold fF at r;cases J:x.a with
   |none=>
    split at r
    .exact absurd J r.2.2.2.2.2.2
    .exact .inl r.2.2.2.1
   |some a=>
    obtain⟨B,rfl,_,hO⟩:=D a J;split at r
    .refine .inr ⟨B,0,rfl,?_⟩;rw[r.2.2.2.1];exact hO.2
    .rw[r.2.2.2.2.2]at J;cases J
  .unfold fF at r;split at r
   .rw[r.2.2.2.1];omega
   .rw[r.2.2.2.1];omega
  .obtain⟨B,rfl,hB,⟨cs,T,g2⟩,g3⟩:=D a J;refine⟨rfl,by rw[<-hz];exact hB,cs,_,T,λv hv=>?_⟩;obtain⟨j,R,rfl⟩:=ax.1 hv;have:=g3 j ab;simp[aa,T]at this;rw[afR R]at this;exact⟨_,afQ this⟩
  obtain⟨B,rfl,hB,⟨cs,T,g2⟩,g3⟩:=D a J;refine⟨rfl,cs,T,?_⟩;unfold fF at r;split at r
  .rw[g2,r.2.2.2.1]
  .rw[r.2.2.2.2.2]at J;cases J
 intro i x a' r D;unfold fF at r⊢;split at r
 .refine⟨r.1,r.2.1,r.2.2.1,r.2.2.2.1,r.2.2.2.2.1,r.2.2.2.2.2.1,λe=>r.2.2.2.2.2.2<|D.2 e⟩
 .exact⟨r.1,r.2.1,r.2.2.1,r.2.2.2.1,r.2.2.2.2.1,D.1 r.2.2.2.2.2⟩
end
structure Fed (V:ad)(b off n nb no u:Nat)(f:Nat->Mv)(tb A C:Nat->Nat)(o:Nat->Nat->Nat):Prop where
 moves:aG f n
 row:aK V b off n f
 plain:cm V b
 iJ:∀i,i<u->V.cell? ⟨nb,no+i,none⟩=some (ac (some ⟨tb i,A i,none⟩) n<|C i)
 RK:∀i,i<u->cm V (tb i)
 ab0:∀i,i<u->n<=C i
 turn:∀i,i<u->aD V (tb i) (A i) n (λj=>(o i j:Int))
 lt:∀i,i<u->∀j,j<n->o i j<n
 ne:∀i,i<u->∀j k,j<k->k<n->o i j≠o i k
 small:u+4<4611686018427387904
 some_:0<u
theorem Fed.re (h:Fed V b off n nb no u f tb A C o)(τ:Nat->Question->Nat) d:Fed (re V τ d) b off n nb no u f tb A C o:=
 ⟨h.moves,λi r=>by let⟨s,t,v,x,B,D⟩:=h.row i r;exact⟨s,t,v,x,B,D⟩,h.plain,h.iJ,h.RK,h.ab0,λi r j J=>h.turn i r j J,h.lt,h.ne,h.small,h.some_⟩
def Ot (V:ad)(x:aX)(c:ad):Prop:=
 (x.a=none/\x.n=0/\c=V)\/∃d,x.a=some ⟨V,0,none⟩/\c=V.alloc (.cells d 3)/\(∀v∈d,∃n,v=ao .i64 n)/\eR c x.a x.n x.g/\x.n<=1048576/\d.size=x.n
def DrB (f:FuncId)(xs:Array a4)(V:ad)(R:a4->ad->Prop):Prop:=
 f=166/\∃b off n r nb no u B t tb A C o,xs=#[ac (some ⟨b,off,none⟩) n r,ac (some ⟨nb,no,none⟩) u B]/\Fed V b off n nb no u t tb A C o/\
  R=λv D=>∃(x:aX) (s:Option Addr),Ans se (λi x=>fF t n (o i) x) u x/\(x.a=none<->s=none)/\v=aX.val {x with a:=s}/\Ot V {x with a:=s} D
section
variable [Gl]{okw:Ctx}{ρ:Ren}{W:ad}
def bw.cell (hw:bw ok true ρ V W)(g:ρ b=some y){v:a4}(d:V.cell? ⟨b,j,none⟩=some v):∃c,W.cell? ⟨y,j,none⟩=some c/\aq ok ρ v c:=by
 let⟨o,t,l,p,q⟩:=hw.heap b y g;simp[aa,l,p]at d⊢;cases q with
 |cells s _=>
  let⟨c,e,r⟩:=s.get d;grind
 |_=>grind
def bw.oW (a:bw ok true ρ V W)(c:ρ b=some y){k:IntKind}{n:Int}(d:V.cell? ⟨b,j,none⟩=some (ao k n)):W.cell? ⟨y,j,none⟩=some (ao k n):=by
 let⟨g,e,r⟩:=a.cell c d;cases r;omega
def bw.nG (a:bw ok true ρ V W)(c:ρ b=some y){n:Bool}(d:V.cell? ⟨b,j,none⟩=some (av n)):W.cell? ⟨y,j,none⟩=some (av n):=by
 let⟨g,e,r⟩:=a.cell c d;cases r;omega
def bw.rF (a:bw ok true ρ V W)(c:ρ b=some y){n:ByteArray}(d:V.cell? ⟨b,j,none⟩=some (.string n)):W.cell? ⟨y,j,none⟩=some (.string n):=by
 let⟨g,e,r⟩:=a.cell c d;cases r;omega
def bw.plain (hw:bw ok true ρ V W)(t:ρ b=some y)(w:cm V b):cm W y:=by
 let⟨cs,e,z,B⟩:=w;let⟨o,J,g,L,D⟩:=hw.heap b y t;rw[z]at g;obtain rfl:=afQ g;cases D with
 |@cells _ d _ _ N l q=>
  replace q:=q.resolve_right λh=>gC;refine⟨d,e,cO,λv E=>?_⟩;obtain⟨i,F,rfl⟩:=ax.1 E;have r:i<cs.size:=by rw[l.size];omega
  have c:=l.at_ i cs[i] d[i] (afR r)<|afR F;generalize d[i]=u at c;rcases B cs[i] (Array.getElem_mem r)with⟨x,e⟩|⟨k,x,e⟩|⟨s,e⟩
  .rw[e]at c;cases c;grind
  .rw[e]at c;cases c;grind
  rw[e]at c;cases c;grind
def bw.abu (hw:bw ok true ρ V W)(hb:ρ b=some y)(D:aK V b off n f):aK W y off n f:=by
 intro j J;let⟨r,s,t,v,x,B⟩:=D j J;exact⟨by first|exact hw.rF hb r|exact hw.oW hb r|exact hw.nG hb r,by first|exact hw.rF hb s|exact hw.oW hb s|exact hw.nG hb s,by first|exact hw.rF hb t|exact hw.oW hb t|exact hw.nG hb t,by first|exact hw.rF hb v|exact hw.oW hb v|exact hw.nG hb v,by first|exact hw.rF hb x|exact hw.oW hb x|exact hw.nG hb x,by first|exact hw.rF hb B|exact hw.oW hb B|exact hw.nG hb B⟩
def AB {a:Addr}{c:Nat}{e:a4}(h:aq ok ρ (ac (some a) n c) e):∃a',e=ac (some a') n c/\dD ρ a a':=by
 cases h with
 |slice _ _ r=>grind
def YK:qb ok DrB:=by
 rintro f xs V V' v ρ R ⟨rfl,b,off,n,Z,nb,no,u,nc,mv,tb,A,C,o,rfl,hf,rfl⟩ ⟨t,aL,_,_,rfl,N⟩ _ hw;generalize ({t with a:=aL}:aX)=x at N⊢;rcases N with⟨B,_,rfl⟩|⟨cs,B,rfl,h3,_,_⟩
 .refine⟨ρ,Ren.le_refl _,?_,hw⟩;rw[aX.val,B];exact(aq.agg rfl λi x O h r=>by
   match i with
   |0=>simp at h r;subst h r;exact .bool _
   |1=>simp at h r;subst h r;exact .int _ _
   |2=>simp at h r;subst h r;exact .int _ _
   |3=>simp at h r;subst h r;exact .dr _ _
   |i+4=>simp at h)
 have D:∀b c,ρ b=some c->b≠V.heap.size/\c≠V.heap.size:=λb c hb=>by have:=hw.lt hb;omega
 refine⟨ρ.ext V.heap.size V.heap.size D hw.gV hw.gV,λb c hb=>?_,?_,?_⟩
 .show(if b=V.heap.size then some V.heap.size else ρ b)=some c;grind
 .rw[aX.val,B];exact(aq.agg rfl λi x O h r=>by
   match i with
   |0=>simp at h r;subst h r;exact .bool _
   |1=>simp at h r;subst h r;exact .int _ _
   |2=>simp at h r;subst h r;exact .int _ _
   |3=>simp at h r;subst h r;exact .slice _ _ ⟨if_pos rfl,rfl,rfl⟩
   |i+4=>simp at h)
 refine⟨λb c hb=>?_,rfl,rfl,by simp;exact Nat.le_succ_of_le hw.gV,by simp;exact Nat.le_succ_of_le hw.gV,⟨λg T=>(if_neg (D g g<|hw.gl g T).1).trans<|hw.gl g T,hw.gs.2⟩⟩;have J:ρ.le (ρ.ext V.heap.size V.heap.size D hw.gV hw.gV):=λb c hb=>by show(if b=V.heap.size then some V.heap.size else ρ b)=some c;grind
 have s:(if b=V.heap.size then some V.heap.size else ρ b)=some c:=hb;split at s
 .rename_i e1;obtain rfl:=afQ s;rw[e1];refine⟨_,_,au _ _,au _ _,.cells ⟨rfl,λi x O U Y=>?_⟩<|.inl rfl⟩;rw[U]at Y;obtain rfl:=afQ Y;obtain⟨n,rfl⟩:=h3 x<|aE U;exact .int _ _
 let⟨o,o',g1,g2,g3⟩:=hw.heap b c s;have:=hw.lt s;exact⟨o,o',by grind [Go.RowKit.Below.heap_alloc],by rw[afC _ _ _ this.2];exact g2,g3.mono J⟩
def O5 {afn:Program}{c:Frame}(hA:afn=Tz.prog)(eV:dQ afn afn okw)(hP:dQ afn Tryz.prog okw)(jq:∀f,okw.fn f->okw.aN f)(A2:j9 afn c)
  (eF:okw.aN 201/\okw.aN 182/\okw.fn 183){Inv:(Nat->Prop)->ad->Prop}:qa Tryz.prog ok Inv DrB:=by
 subst hA;rintro f xs V ρ bi W M ay gs r0 rest t q sl R-⟨rfl,b,off,n,cap,nb,no,u,nc,mv,tb,A,C,o,rfl,D,rfl⟩ vh hw ho hl;have hV:∀a,(re V W.tape W.drawn).cell? a=V.cell? a:=λ_=>rfl
 have bm:=D;replace D:=D.re W.tape W.drawn;obtain⟨x0,e0,U2⟩:=vh.get (i:=0) rfl;obtain⟨x1,e1,bj⟩:=vh.get (i:=1) rfl;obtain⟨a0,rfl,s0⟩:=AB U2;obtain⟨a1,rfl,s1⟩:=AB bj;obtain⟨y,bH,sp⟩:=a0;obtain⟨O,Y,bn⟩:=a1;have q1:=s0.off;have q2:=s0.spot;have q3:=s1.off;have q4:=s1.spot;have hb:ρ b=some y:=s0.blk;have Uj:ρ nb=some O:=s1.blk;simp only at q1 q2 q3 q4;subst q1 q2 q3 q4;have hx:bi=#[.slice (some ⟨y,bH,none⟩) n cap,.slice (some ⟨O,Y,none⟩) u nc]:=by
  refine Array.ext (by simpa using vh.size.symm) λi T h2=>?_
  have h2:i<2:=h2;match i with
  |0=>rw[afR T]at e0;exact afQ e0
  |1=>rw[afR T]at e1;exact afQ e1
 subst hx;have pI:∀i,i<u->∃Z,ρ (tb i)=some Z/\W.cell? ⟨O,Y+i,none⟩=some (.slice (some ⟨Z,A i,none⟩) n<|C i):=λi B=>by
  obtain⟨v',T,h2⟩:=hw.cell Uj<|D.iJ i B;obtain⟨a',rfl,r⟩:=AB h2;obtain⟨Z,o',sp⟩:=a';have h3:=r.off;have h4:=r.spot;simp only at h3 h4;subst h3 h4;exact⟨Z,r.blk,T⟩
 let a8:Nat->Nat:=λi=>(ρ<|tb i).getD 0
 have aL:∀i,i<u->ρ (tb i)=some (a8 i):=λi B=>by obtain⟨Z,T,_⟩:=pI i B;simp[a8,T]
 have bk:=acD (cap:=cap) (o:=o) D.moves (hw.abu hb D.row) (hw.plain hb D.plain) (ho _ _ hb) (ho _ _ Uj)
  (λi B=>by obtain⟨Z,T,h2⟩:=pI i B;rw[aL i B]at T;rw[h2,<-afQ T]) (λi B=>ho _ _<|aL i B) (λi B=>hw.plain (aL i B)<|D.RK i B) D.ab0 (λi B j hj=>hw.oW (aL i B)<|D.turn i B j hj) D.lt D.ne eF
 have Oc:Tryz.f166.body=some eD:=by unfold eD;kernel_rfl
 have hE:Frame.enter Tryz.prog 166 #[.slice (some ⟨y,bH,none⟩) n cap,.slice (some ⟨O,Y,none⟩) u nc] .normal=(base 166).at ⟨#[.slice (some ⟨y,bH,none⟩) n cap,.slice (some ⟨O,Y,none⟩) u nc,ud,ud,ud,ud,ud,ud,ud,ud,ud,ud,ud,ud,ud,ud,ud,ud,ud,ud,ud],[]⟩ [.code eD]:=
  (enter_at _ Tryz.func166 Oc).trans (by simp only[Tryz.ntmps166,List.size_toArray,List.length_cons,List.length_nil,Nat.reduceAdd,Nat.reduceSub,Array.replicate_succ,Array.replicate_zero,List.push_toArray,List.append_toArray,List.nil_append,a2])
 rw[hE]at hl;obtain⟨N,kJ,w',ot,Z,q',tU,M',x,g1,g2,g3,g4,g5⟩:=YG eV hP jq A2 D.small hl bk hw.gW;have hk:∀b d,ρ b=some d->w'.heap[d]?=W.heap[d]?:=λb d hb=>g3.keep.block d<|ho b d hb
 have iP:=g3.keep.size;cases U:x.a with
 |none=>
  have bl:x.n=0:=by
   rcases g4.row with h|⟨_,_,h,_⟩
   .exact h
   .rw[U]at h;cases h
  have a9:({x with a:=none}:aX)=x:=by rw[<-U]
  refine⟨N,kJ,w',ot,Z,q',tU,M',x.val,ρ,x.val,V,g1,g2,Ren.le_refl _,?_,⟨λb d hb=>?_,rfl,rfl,hw.gV,afN hw.gW iP,hw.gs⟩,λb d hb=>g3.own d<|ho b d hb,⟨x,none,g5,by rw[U],by rw[a9],by rw[a9];exact .inl ⟨U,bl,rfl⟩⟩,g3.keep.mono λ_ h=>h.1,g3.own,λb d hb=>.inl hb,λb _=>rfl⟩
  .rw[aX.val,U];exact(aq.agg rfl λi x x' h s=>by
    match i with
    |0=>simp at h s;subst h s;exact .bool _
    |1=>simp at h s;subst h s;exact .int _ _
    |2=>simp at h s;subst h s;exact .int _ _
    |3=>simp at h s;subst h s;exact .dr _ _
    |i+4=>simp at h)
  .obtain⟨o,o',i1,i2,i3⟩:=hw.heap b d hb;exact⟨o,o',i1,(hk b d hb).trans i2,i3⟩
 |some a=>
  obtain⟨j1,⟨j2,j3⟩,bo,e0,aV,j5⟩:=g4.blk a U;obtain⟨j6,cs,j4,j7⟩:=g4.full a U;rw[j4]at aV;simp only[Option.some.injEq,Obj.cells.injEq]at aV;obtain⟨y1,y2,_⟩:=aV;subst y1 y2;have bb:Gl.n<=V:=hw.gV;have aF:∀b d,ρ b=some d->b≠V.heap.size/\d≠a.block:=λb d hb=>by
   have T:b<V:=(hw.lt hb).1;have h2:=(hw.lt hb).2;omega
  have be:Gl.n<=a.block:=afN hw.gW j3;have aZ:ρ.le (ρ.ext V.heap.size a.block aF bb be):=λb d hb=>by show(if b=V.heap.size then some a.block else ρ b)=some d;rw[if_neg (aF b d hb).1];exact hb
  have aB:eR (V.alloc<|.cells cs 3) V.heap.size x.n x.g:=by
   rcases g4.row with h|⟨b1,o1,h,hr⟩
   .exact .inl h
   rw[U]at h;obtain rfl:=afQ h;subst j6;refine .inr ⟨_,_,rfl,λi B=>?_⟩;have:=hr i B;simp only[aa,j4]at this;simp only[aa,au];exact this
  refine⟨N,kJ,w',ot,Z,q',tU,M',x.val,ρ.ext V.heap.size a.block aF bb be,aX.val {x with a:=some ⟨V.heap.size,0,none⟩},V.alloc<|.cells cs 3,g1,g2,aZ,?_,⟨λb d hb=>?_,rfl,rfl,?_,afN hw.gW iP,⟨λg hg=>aZ _ _<|hw.gl g hg,hw.gs.2⟩⟩,λb d hb=>?_,⟨x,some ⟨V.heap.size,0,none⟩,g5,by rw[U];simp,rfl,.inr ⟨cs,rfl,rfl,j5,aB,g4.small,j7⟩⟩,g3.keep.mono λ_ h=>h.1,g3.own,λb d hb=>?_,λb hr=>?_⟩
  .rw[aX.val,aX.val,U];exact(aq.agg rfl λi x x' h s=>by
    match i with
    |0=>simp at h s;subst h s;exact .bool _
    |1=>simp at h s;subst h s;exact .int _ _
    |2=>simp at h s;subst h s;exact .int _ _
    |3=>simp at h s;subst h s;exact .slice _ _ ⟨if_pos rfl,j6,j1⟩
    |i+4=>simp at h)
  .have J:(if b=V.heap.size then some a.block else ρ b)=some d:=hb;split at J
   .rename_i e1;obtain rfl:=afQ J;rw[e1];refine⟨_,_,au _ _,j4,.cells ⟨rfl,λi x x' hx eX=>?_⟩<|.inl rfl⟩;rw[hx]at eX;obtain rfl:=afQ eX;obtain⟨n,rfl⟩:=j5 x<|aE hx;exact .int _ _
   .obtain⟨o,o',i1,i2,i3⟩:=hw.heap b d J;exact⟨o,o',(afC _ _ _<|(hw.lt J).1).trans i1,(hk b d J).trans i2,i3.mono aZ⟩
  .show Gl.n<=(V.alloc<|.cells cs 3).heap.size;simp;omega
  .have J:(if b=V.heap.size then some a.block else ρ b)=some d:=hb;split at J
   .obtain rfl:=afQ J;exact j2
   .exact g3.own d (ho b d J)
  .have J:(if b=V.heap.size then some a.block else ρ b)=some d:=hb;split at J
   .obtain rfl:=afQ J;exact .inr j3
   .exact .inl J
  .obtain⟨c,e,hr⟩:=hr;exact afC _ _ _ (afM.1 hr).1
end
section
variable [Gl]{ok:Ctx}
def aS (f:FuncId)(xs:Array a4)(V:ad)(R:a4->ad->Prop):Prop:=DrB f xs V R\/DrC f xs V R
def Tw:qb ok aS:=by
 rintro f r V s v ρ R (h|h)
 .exact YK h
 exact YL h
def Tt (h:qa Tryz.prog ok LR DrB):qa Tryz.prog ok LR aS:=by
 rintro f x V ρ v W M B D J rest t q N R s (r|r)
 .exact h s r
 exact O6 s r
end
