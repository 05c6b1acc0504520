import Derived.Test.YthppgbjejomdiaaGreatDoorj19
import Derived.Test.YthppgbjejomdiaaGreatDoorj25
import Derived.Test.YthppgbjejomdiaaGreatDoorj22
import Derived.Test.YthppgbjejomdiaaGreatDoorj12
import Derived.Test.YthppgbjejomdiaaGreatDoorj21
set_option linter.all false
set_option maxHeartbeats 2000000
open Go renaming World->aa,Value->ac
open Go.World renaming cell?->ad
namespace Go.Proofs.YthppgbjejomdiaaGreatDoor
open Conc RowKit
variable {ok:Ctx}{b y j n nb nn no off:Nat}{f:Nat->Mv}{u tb A:Nat->Nat}{o:Nat->Nat->Nat}{V:aa}
def fK (f:Nat->Mv)(n:Nat)(o:Nat->Nat)(x:aX):Prop:=
 match eY f o n with
 |some T=>x.ok/\x.sum=sumTo f T n/\x.most=dg f T n/\x.n=n/\x.cap=n/\(∀i,i<n->x.g i=T i)/\x.a≠none
 |none=>x.ok=false/\x.sum=0/\x.most=0/\x.n=0/\x.cap=0/\x.a=none
def MS {o T}(r:aH f n)(ho:∀i,i<n->o i<n)(s:∀j k,j<k->k<n->o j≠o k)(h:eY f o n=some T):gh f T n:=gh.fits r (vN r ho s h).fit
def Fj (b off n cap:Nat)(f)(y O cap':Nat)(o)(w:World)(R:aH f n)(ho:∀i,i<n->o i<n)(hd:∀j k,j<k->k<n->o j≠o k)(BG:n<=cap')(U:b<w)(az:aM w b off n f)(bz:y<w)(aV:aD w y O n (λi=>(o i:Int))): Calls Tz.prog 208 #[.slice (some ⟨b,off,none⟩) n cap,.slice (some ⟨y,O,none⟩) n cap'] w λe w'=>∃x,e=.returned x.val/\fK f n o x/\(∀a,x.a=some a->∃B,a=⟨B,0,none⟩/\w<=B/\aC w' B n x.g)/\Below w w w':=by have h6:=bY R;have D:=Ee b off n cap f y O cap' o (w.alloc<|.cells #[false,(0:Int),(0:Int),()] 217) R ho BG cY (az.below ((agn _ w).alloc ab _) U) cY<|aV.below ((agn _ w).alloc ab _) bz;go_enter Tz.func208,Tryz.ntmps208;cases J:eY f o n with|none=>rw[J]at D;(go_wp2_with(go_at_call 226;refine D.mono ?_;clear D;rintro e t ⟨rfl,C⟩;have r:=(C.block w aN).trans<|heap_alloc_new _ _;have s0:t.cell? ⟨w,0,none⟩=some (.bool false):=(by simp[World.cell?,r]);have s1:t.cell? ⟨w,1,none⟩=some (.int .i64 0):=(by simp[World.cell?,r]);have s2:t.cell? ⟨w,2,none⟩=some (.int .i64 0):=(by simp[World.cell?,r]);have s3:t.cell? ⟨w,3,none⟩=some (.slice none 0 0):=(by simp[World.cell?,r]);have sf:∀j,t.frozen? ⟨w,j,none⟩=false:=(λj=>by simp[World.frozen?,r]);have j9:=((agn w w).alloc ab<|.cells #[.bool false,(0:Int),(0:Int),.slice none 0 0] 217).trans<|C.mono aN));rw[va r];have hw5:=setRow_heap t w _ #[false,(0:Int),(0:Int),()] _ _ r;have N:=below_setRow j9 (agw _) #[false,(0:Int),(0:Int),()];generalize t.setRow w #[.bool false,(0:Int),(0:Int),.slice none 0 0]=s at hw5 N⊢;have Y:s.cell? (w:Nat)=some (.bool false):=xU;have Z:s.cell? ⟨w,1,none⟩=some (.int .i64 0):=xU;have q2:s.cell? ⟨w,2,none⟩=some (.int .i64 0):=xU;have q3:s.cell? ⟨w,3,none⟩=some (.slice none 0 0):=xU;refine bodyPost_ret ?_ rfl ⟨ff,rfl,by simp[fK,J,ff],λa ha=>by simp[ff]at ha,N⟩;simp[results,Tryz.f208,go_sem,aX.val,ff,Y,Z,q2,q3]|some T=>rw[J]at D;have OR:gh f T n:=MS R ho hd J;have sT:=(OR.sum n ab);(go_wp2_with(first|(go_at_call 226;refine D.mono ?_;clear D;rintro e t ⟨⟨B,o0,rfl,bj⟩,C⟩;have Uy:=bj.lt;have HL:=uG b off n cap f B 0 n n T t h6 ab (agx U (by have:=C.size;simp at this;omega)) (az.below (((agn w w).alloc (agw _)<|.cells #[.bool false,(0:Int),(0:Int),.slice none 0 0] 217).trans<|C.mono aN) U) Uy (λi hi=>by have:=bj.2 i hi;simpa using this) OR)|(go_at_call 79;refine HL.mono ?_;clear HL;rintro e v ⟨rfl,dh⟩;have qu:=(C.trans<|dh.mono C.size);have r:=(qu.block w aN).trans<|heap_alloc_new _ _;have s0:v.cell? ⟨w,0,none⟩=some (.bool false):=(by simp[World.cell?,r]);have s1:v.cell? ⟨w,1,none⟩=some (.int .i64 0):=(by simp[World.cell?,r]);have s2:v.cell? ⟨w,2,none⟩=some (.int .i64 0):=(by simp[World.cell?,r]);have s3:v.cell? ⟨w,3,none⟩=some (.slice none 0 0):=(by simp[World.cell?,r]);have sf:∀j,v.frozen? ⟨w,j,none⟩=false:=(λj=>by simp[World.frozen?,r]))));rw[va r];(have ao:B≠(w:Nat):=by simp at o0;omega);have hw5:=setRow_heap v w _ #[true,.int .i64<|sumTo f T n,.int .i64<|dg f T n,.slice B n n] _ _ r;have N:=below_setRow (((agn w w).alloc ab<|.cells #[false,(0:Int),(0:Int),()] 217).trans<|qu.mono aN) (agw _) #[true,.int .i64<|sumTo f T n,.int .i64<|dg f T n,.slice B n n];have xZ:(v.setRow w #[true,.int .i64<|sumTo f T n,.int .i64<|dg f T n,.slice B n n]).heap[B]?=v.heap[B]?:=setRow_other _ _ _ _ ao;have Lz:=bj.below dh Uy;generalize v.setRow w #[.bool true,.int .i64<|sumTo f T n,.int .i64<|dg f T n,.slice (some ⟨B,0,none⟩) n n]=s at hw5 N xZ⊢;(have au:aC s B n T:=by let⟨⟨cs,g1,g2⟩,g3⟩:=Lz;exact⟨⟨cs,xZ.trans g1,g2⟩,λi hi=>by rw[<-g3 i hi];simp[World.cell?,xZ]⟩);have Y:s.cell? (w:Nat)=some (.bool true):=xU;have Z:s.cell? ⟨w,1,none⟩=some (.int .i64<|sumTo f T n):=xU;have q2:s.cell? ⟨w,2,none⟩=some (.int .i64<|dg f T n):=xU;have q3:s.cell? ⟨w,3,none⟩=some (.slice B n n):=xU;refine bodyPost_ret ?_ rfl ⟨⟨true,sumTo f T n,dg f T n,some ⟨B,0,none⟩,n,n,T⟩,rfl,by simp[fK,J],λa ha=>⟨B,(agC ha).symm,by simp at o0;omega,au⟩,N⟩;simp[results,Tryz.f208,go_sem,aX.val,Y,Z,q2,q3]
def sC (y x:aX):Bool:=decide (oL y x<0)
theorem CL:∀(xs:List aX) i (y:aX) o,xs[i]?=some y->o<4->(xs.flatMap aX.cells)[i*4+o]?=y.cells[o]?
 |[],i,y,o,h,_=>by simp at h
 |x::xs,0,y,o,h,ho=>by
  simp only[List.getElem?_cons_zero,Option.some.injEq]at h;subst h;rw[List.flatMap_cons,Nat.zero_mul,Nat.zero_add,agH (by simp[aX.cells];exact ho)]
 |x::xs,i+1,y,o,h,ho=>by
  simp only[List.getElem?_cons_succ]at h;have c:x.cells.length=4:=rfl;rw[List.flatMap_cons,agI (by rw[c];omega),c,show(i+1)*4+o-4=i*4+o by omega];exact CL xs i y o h ho
def Hq {xs:List aX}{T z}(h:V.heap[b]?=some (.cells (xs.flatMap aX.cells).toArray T z))(e:∀x∈xs,eX V x.a x.n x.g/\x.n<=1048576):IS V b 0 xs.length (λi=>xs.getD i ff):=by intro i r;have l:xs[i]?=some (xs.getD i ff):=cQ;have d:=List.mem_of_getElem? l;(have c:∀o,o<4->V.cell? ⟨b,0+i*4+o,none⟩=(xs.getD i ff).cells[o]?:=λo ho=>by grind [CL,ad]);show WX V b (0+i*4) (xs.getD i ff);generalize xs.getD i ff=y at d c;exact⟨c 0 ab,c 1 ab,c 2 ab,c 3 ab,(e y d).1,(e y d).2⟩
theorem Il (J:Jb)(a:J.lt=sC)(xs:List aX):∀k,k<=xs.length->cX (λi=>xs.getD i ff) k=J.dB (xs.take k):=by intro k;induction k with|zero=>intro _;rfl|succ k c=>intro g;have d:k<xs.length:=ab;simp only[cX,c ab];rw[List.take_succ_eq_append_getElem d];have e:xs.getD k ff=xs[k]:=cQ;rw[e];cases k with|zero=>simp[Jb.dB]|succ k=>rcases xs with _|⟨x,xs⟩;grind;simp only[List.take_succ_cons,List.cons_append,Jb.dB,List.foldl_append,List.foldl_cons,Jb.pick,a,sC];simp
def JU (J:Jb)(l:J.lt=sC)(V:aa)(b:Nat)(xs:List aX)(z:Nat×Nat)(c:xs.length<=1048576)(h:V.heap[b]?=some (.cells (xs.flatMap aX.cells).toArray 217 z))(d:∀x∈xs,eX V x.a x.n x.g/\x.n<=1048576): Calls Tz.prog 189 #[.slice b xs.length xs.length,.func (.func 190) #[] #[]] V λe w'=>e=.returned (J.dB xs).val/\Below V V w':=by refine(GD b 0 xs.length xs.length (λi=>xs.getD i ff) V c ((agy.1 h).1)<|Hq h d).mono ?_;grind [Il,List.take_length]
section
variable [Gl]
def adu {M:Nat->Prop}{w:aa}{cap:Nat}(hm:aH f n) (az:aM w b off n f)(T:cE w b)(mb:M b)(I_:M nb)(pR:∀i,i<nn->w.cell? ⟨nb,no+i,none⟩=some (.slice (some ⟨tb i,u i,none⟩) n<|A i)) (ao:∀i,i<nn->M (tb i))(vA:∀i,i<nn->cE w (tb i))(U:∀i,i<nn->n<=A i)(Y:∀i,i<nn->aD w (tb i) (u i) n (λj=>(o i j:Int)))(ho:∀i,i<nn->∀j,j<n->o i j<n)(hd:∀i,i<nn->∀j k,j<k->k<n->o i j≠o i k) (eK:ok.aP 208/\ok.aP 189/\ok.fn 190): MA Tz.prog ok M w (some ⟨b,off,none⟩) n cap nb no nn (λi=>.slice (some ⟨tb i,u i,none⟩) n<|A i) (λi x=>i<nn/\(x=b\/x=tb i)) (λi x=>fK f n (o i) x) sC:=by
 have n6:=bY hm;have qz:∀{S:Nat->Prop} {aj:aa} {x:Nat},cE w x->aj.heap[x]?=w.heap[x]?->∃cs e,aj.heap[x]?=some (.cells cs e (0,0))/\∀v∈cs,ar ok (uD S) v v:=by rintro S aj x ⟨cs,e,r,C⟩ hk;refine⟨cs,e,hk.trans r,λv Z=>?_⟩;rcases C v Z with⟨x,rfl⟩|⟨k,x,rfl⟩|⟨s,rfl⟩;exact .bool _;exact .int _ _;exact .string _
 refine⟨I_,pR,λi x N=>?_,λi t aj k=>⟨λx N=>?_⟩,λi t=>.slice _ _ ⟨gn.2 ⟨⟨t,.inl rfl⟩,rfl⟩,rfl,rfl⟩,λi t=>.slice _ _ ⟨gn.2 ⟨⟨t,.inr rfl⟩,rfl⟩,rfl,rfl⟩,λi t F aj k τ d=>?_,?_,λV b xs z r C h3=>JU _ rfl V b xs z r C h3,eK⟩;grind;have hk:=k.block x<|.inr ⟨i,N⟩;obtain⟨_,rfl|rfl⟩:=N;exact qz T hk;exact qz (vA i t) hk;have kb:=k.block b<|.inr ⟨i,t,.inl rfl⟩;have kt:=k.block (tb i)<|.inr ⟨i,t,.inr rfl⟩;have J:∀j,(re (froze F aj) τ d).cell? ⟨b,j,none⟩=w.cell? ⟨b,j,none⟩:=λj=>(sY F aj _).trans (by grind [ad]);have ct:∀j,(re (froze F aj) τ d).cell? ⟨tb i,j,none⟩=w.cell? ⟨tb i,j,none⟩:=λj=>(sY F aj _).trans (by grind [ad]);have hz:(re (froze F aj) τ d).heap.size=(aj:Nat):=jP F aj;have au:∀x,cE w x->x<aj:=λx N=>by let⟨cs,e,r,_⟩:=N;exact agx (agy.1 r).1 k.size
 have hr:aM (re (froze F aj) τ d) b off n f:=λj O=>by let⟨c0,c1,c2,c3,c4,c5⟩:=az j O;exact⟨(J _).trans c0,(J _).trans c1,(J _).trans c2,(J _).trans c3,(J _).trans c4,(J _).trans c5⟩
 apply(Fj b off n cap f (tb i) (u i) (A i) (o i) _ hm (ho i t) (hd i t) (U i t) cQ hr cQ λj O=>(ct _).trans<|Y i t j O).mono;rintro e w' ⟨x,rfl,r,C,h3⟩;refine⟨x,rfl,r,?_,?_,λa D=>?_,λa D=>?_⟩;unfold fK at r;rcases D:x.a with _|a;split at r;exact absurd D r.2.2.2.2.2.2;exact .inl r.2.2.2.1;obtain⟨B,rfl,_,hO⟩:=C a D;split at r;refine .inr ⟨B,0,rfl,?_⟩;rw[r.2.2.2.1];exact hO.2;rw[r.2.2.2.2.2]at D;cases D;unfold fK at r;split at r;rw[r.2.2.2.1];omega;rw[r.2.2.2.1];omega;obtain⟨B,rfl,hB,⟨cs,R,g2⟩,g3⟩:=C a D;refine⟨rfl,by rw[<-hz];exact hB,cs,_,R,λv Z=>?_⟩;obtain⟨j,O,rfl⟩:=Array.mem_iff_getElem.1 Z;have:=g3 j ab;simp[ad,R]at this;rw[agD O]at this;exact⟨_,agC this⟩;obtain⟨B,rfl,hB,⟨cs,R,g2⟩,g3⟩:=C a D;refine⟨rfl,cs,R,?_⟩;unfold fK at r;split at r;rw[g2,r.2.2.2.1];rw[r.2.2.2.2.2]at D;cases D;intro i x a' r C;unfold fK at r⊢;split at r;refine⟨r.1,r.2.1,r.2.2.1,r.2.2.2.1,r.2.2.2.2.1,r.2.2.2.2.2.1,λe=>r.2.2.2.2.2.2<|C.2 e⟩;exact⟨r.1,r.2.1,r.2.2.1,r.2.2.2.1,r.2.2.2.2.1,C.1 r.2.2.2.2.2⟩
end
structure Fed (V:aa)(b off n nb no nn:Nat)(f:Nat->Mv)(tb u A:Nat->Nat)(o:Nat->Nat->Nat):Prop where
 moves:aH f n
 row:aM V b off n f
 plain:cE V b
 iO:∀i,i<nn->V.cell? ⟨nb,no+i,none⟩=some (.slice (some ⟨tb i,u i,none⟩) n<|A i)
 Sv:∀i,i<nn->cE V (tb i)
 acR:∀i,i<nn->n<=A i
 turn:∀i,i<nn->aD V (tb i) (u i) n (λj=>(o i j:Int))
 lt:∀i,i<nn->∀j,j<n->o i j<n
 ne:∀i,i<nn->∀j k,j<k->k<n->o i j≠o i k
 small:nn+4<4611686018427387904
 some_:0<nn
theorem Fed.re (h:Fed V b off n nb no nn f tb u A o)(τ:Nat->Question->Nat) d:Fed (re V τ d) b off n nb no nn f tb u A o:=
 ⟨h.moves,λi r=>by let⟨s,t,v,x,B,C⟩:=h.row i r;exact⟨s,t,v,x,B,C⟩,h.plain,h.iO,h.Sv,h.acR,λi r j D=>h.turn i r j D,h.lt,h.ne,h.small,h.some_⟩
def O3 (V:aa)(x:aX)(c:aa):Prop:=
 (x.a=none/\x.n=0/\c=V)\/∃d,x.a=some ⟨V,0,none⟩/\c=V.alloc (.cells d 3)/\(∀v∈d,∃n,v=.int .i64 n)/\eX c x.a x.n x.g/\x.n<=1048576/\d.size=x.n
def DrB (f:FuncId)(xs:Array ac)(V:aa)(R:ac->aa->Prop):Prop:=
 f=173/\∃b off n r nb no nn B t tb u A o,xs=#[.slice (some ⟨b,off,none⟩) n r,.slice (some ⟨nb,no,none⟩) nn B]/\Fed V b off n nb no nn t tb u A o/\
  R=λv C=>∃(x:aX) (s:Option Addr),Ans sC (λi x=>fK t n (o i) x) nn x/\(x.a=none<->s=none)/\v=aX.val {x with a:=s}/\O3 V {x with a:=s} C
section
variable [Gl]{okw:Ctx}{ρ:Ren}{W:aa}
def bw.cell (hw:bw ok true ρ V W)(g:ρ b=some y){v:ac}(d:V.cell? ⟨b,j,none⟩=some v):∃c,W.cell? ⟨y,j,none⟩=some c/\ar ok ρ v c:=by let⟨o,t,l,p,q⟩:=hw.heap b y g;simp[ad,l,p]at d⊢;cases q with|cells s _=>let⟨c,e,r⟩:=s.get d;grind|_=>grind
def bw.pj (a:bw ok true ρ V W)(c:ρ b=some y){k:IntKind}{n:Int}(d:V.cell? ⟨b,j,none⟩=some (.int k n)):W.cell? ⟨y,j,none⟩=some (.int k n):=by let⟨g,e,r⟩:=a.cell c d;cases r;omega
def bw.nR (a:bw ok true ρ V W)(c:ρ b=some y){n:Bool}(d:V.cell? ⟨b,j,none⟩=some (.bool n)):W.cell? ⟨y,j,none⟩=some (.bool n):=by let⟨g,e,r⟩:=a.cell c d;cases r;omega
def bw.rP (a:bw ok true ρ V W)(c:ρ b=some y){n:ByteArray}(d:V.cell? ⟨b,j,none⟩=some (.string n)):W.cell? ⟨y,j,none⟩=some (.string n):=by let⟨g,e,r⟩:=a.cell c d;cases r;omega
def bw.plain (hw:bw ok true ρ V W)(t:ρ b=some y)(w:cE V b):cE W y:=by let⟨cs,e,z,B⟩:=w;let⟨o,F,g,J,C⟩:=hw.heap b y t;rw[z]at g;obtain rfl:=agC g;cases C with|@cells _ d _ _ L l q=>replace q:=q.resolve_right λh=>f7;refine⟨d,e,cQ,λv D=>?_⟩;obtain⟨i,E,rfl⟩:=Array.mem_iff_getElem.1 D;(have r:i<cs.size:=by rw[l.size];omega);have c:=l.at_ i cs[i] d[i] (agD r)<|agD E;generalize d[i]=u at c;rcases B cs[i] (Array.getElem_mem r)with⟨x,e⟩|⟨k,x,e⟩|⟨s,e⟩;rw[e]at c;cases c;grind;rw[e]at c;cases c;grind;rw[e]at c;cases c;grind
def bw.acj (hw:bw ok true ρ V W)(hb:ρ b=some y)(C:aM V b off n f):aM W y off n f:=by intro j D;let⟨r,s,t,v,x,B⟩:=C j D;exact⟨by first|exact hw.rP hb r|exact hw.pj hb r|exact hw.nR hb r,by first|exact hw.rP hb s|exact hw.pj hb s|exact hw.nR hb s,by first|exact hw.rP hb t|exact hw.pj hb t|exact hw.nR hb t,by first|exact hw.rP hb v|exact hw.pj hb v|exact hw.nR hb v,by first|exact hw.rP hb x|exact hw.pj hb x|exact hw.nR hb x,by first|exact hw.rP hb B|exact hw.pj hb B|exact hw.nR hb B⟩
def AU {a:Addr}{c:Nat}{e:ac}(h:ar ok ρ (.slice (some a) n c) e):∃a',e=.slice (some a') n c/\dG ρ a a':=by cases h with|slice _ _ r=>grind
def ZE:qi ok DrB:=by
 rintro f xs V V' v ρ R ⟨rfl,b,off,n,cap,nb,no,nn,nc,mv,tb,u,A,o,rfl,hf,rfl⟩ ⟨ae5,aL,_,_,rfl,jo⟩ _ hw;generalize ({ae5 with a:=aL}:aX)=x at jo⊢;rcases jo with⟨h1,_,rfl⟩|⟨cs,h1,rfl,h3,_,_⟩
 .refine⟨ρ,Ren.le_refl _,?_,hw⟩;rw[aX.val,h1];exact(ar.agg rfl λi x x' h h'=>by
   match i with
   |0=>simp at h h';subst h h';exact .bool _
   |1=>simp at h h';subst h h';exact .int _ _
   |2=>simp at h h';subst h h';exact .int _ _
   |3=>simp at h h';subst h h';exact .dj _ _
   |i+4=>simp at h)
 have aG:∀b c,ρ b=some c->b≠V.heap.size/\c≠V.heap.size:=λb c hb=>by have:=hw.lt hb;omega
 refine⟨ρ.ext V.heap.size V.heap.size aG hw.gV hw.gV,λb c hb=>?_,?_,?_⟩
 .show(if b=V.heap.size then some V.heap.size else ρ b)=some c;grind
 .rw[aX.val,h1];exact(ar.agg rfl λi x x' h h'=>by
   match i with
   |0=>simp at h h';subst h h';exact .bool _
   |1=>simp at h h';subst h h';exact .int _ _
   |2=>simp at h h';subst h h';exact .int _ _
   |3=>simp at h h';subst h h';exact .slice _ _ ⟨if_pos rfl,rfl,rfl⟩
   |i+4=>simp at h)
 refine⟨λb c hb=>?_,rfl,rfl,by simp;exact Nat.le_succ_of_le hw.gV,by simp;exact Nat.le_succ_of_le hw.gV,⟨λg hg=>(if_neg (aG g g (hw.gl g hg)).1).trans (hw.gl g hg),hw.gs.2⟩⟩;have hle:ρ.le (ρ.ext V.heap.size V.heap.size aG hw.gV hw.gV):=λb c hb=>by show(if b=V.heap.size then some V.heap.size else ρ b)=some c;grind
 have dr:(if b=V.heap.size then some V.heap.size else ρ b)=some c:=hb;split at dr
 .rename_i e1;obtain rfl:=agC dr;rw[e1];refine⟨_,_,heap_alloc_new _ _,heap_alloc_new _ _,.cells ⟨rfl,λi x x' hx fe=>?_⟩ (.inl rfl)⟩;rw[hx]at fe;obtain rfl:=agC fe;obtain⟨n,rfl⟩:=h3 x (Array.mem_of_getElem? hx);exact .int _ _
 obtain⟨o,o',g1,g2,g3⟩:=hw.heap b c dr;have:=hw.lt dr;exact⟨o,o',by grind [Below.heap_alloc],by rw[ago _ _ _ this.2];exact g2,g3.mono hle⟩
def PK {af8:Program}{c:Frame}(hA:af8=Tz.prog)(fd:dV af8 af8 okw)(hP:dV af8 Tryz.prog okw)(jp:∀f,okw.fn f->okw.aP f)(BF:kw af8 c)
  (eK:okw.aP 208/\okw.aP 189/\okw.fn 190){Inv:(Nat->Prop)->World->Prop}:qh Tryz.prog ok Inv DrB:=by
 subst hA;rintro f xs V ρ xs' W M ay gs r0 rest t q sl R-⟨rfl,b,off,n,cap,nb,no,nn,nc,mv,tb,u,A,o,rfl,hf,rfl⟩ vD hw ho hl;have hV:∀a,(re V W.tape W.drawn).cell? a=V.cell? a:=λ_=>rfl
 have hf0:=hf;replace hf:=hf.re W.tape W.drawn;obtain⟨x0,e0,VH⟩:=vD.get (i:=0) rfl;obtain⟨x1,e1,r1'⟩:=vD.get (i:=1) rfl;obtain⟨a0,rfl,s0⟩:=AU VH;obtain⟨a1,rfl,s1⟩:=AU r1';obtain⟨y,bJ,sp⟩:=a0;obtain⟨nb',no',sp'⟩:=a1;have q1:=s0.off;have q2:=s0.spot;have q3:=s1.off;have q4:=s1.spot;have hb:ρ b=some y:=s0.blk;have UW:ρ nb=some nb':=s1.blk;simp only at q1 q2 q3 q4;subst q1 q2 q3 q4;have hx:xs'=#[.slice (some ⟨y,bJ,none⟩) n cap,.slice (some ⟨nb',no',none⟩) nn nc]:=by
  refine Array.ext (by simpa using vD.size.symm) λi h1 h2=>?_
  have h2:i<2:=h2;match i with
  |0=>rw[agD h1]at e0;exact agC e0
  |1=>rw[agD h1]at e1;exact agC e1
 subst hx;have pR:∀i,i<nn->∃t',ρ (tb i)=some t'/\W.cell? ⟨nb',no'+i,none⟩=some (.slice (some ⟨t',u i,none⟩) n (A i)):=λi hi=>by
  obtain⟨v',h1,h2⟩:=hw.cell UW (hf.iO i hi);obtain⟨a',rfl,r⟩:=AU h2;obtain⟨t',o',sp⟩:=a';have h3:=r.off;have h4:=r.spot;simp only at h3 h4;subst h3 h4;exact⟨t',r.blk,h1⟩
 let tb':Nat->Nat:=λi=>(ρ (tb i)).getD 0
 have htb:∀i,i<nn->ρ (tb i)=some (tb' i):=λi hi=>by obtain⟨t',h1,_⟩:=pR i hi;simp[tb',h1]
 have hfd:=adu (cap:=cap) (o:=o) hf.moves (hw.acj hb hf.row) (hw.plain hb hf.plain) (ho _ _ hb) (ho _ _ UW)
  (λi hi=>by obtain⟨t',h1,h2⟩:=pR i hi;rw[htb i hi]at h1;rw[h2,<-agC h1]) (λi hi=>ho _ _ (htb i hi)) (λi hi=>hw.plain (htb i hi) (hf.Sv i hi)) hf.acR (λi hi j hj=>hw.pj (htb i hi) (hf.turn i hi j hj)) hf.lt hf.ne eK
 have OR:Tryz.f173.body=some eJ:=by unfold eJ;kernel_rfl
 have hE:Frame.enter Tryz.prog 173 #[.slice (some ⟨y,bJ,none⟩) n cap,.slice (some ⟨nb',no',none⟩) nn nc] .normal=(base 173).at ⟨#[.slice (some ⟨y,bJ,none⟩) n cap,.slice (some ⟨nb',no',none⟩) nn nc,undef,undef,undef,undef,undef,undef,undef,undef,undef,undef,undef,undef,undef,undef,undef,undef,undef,undef,undef],[]⟩ [.code eJ]:=
  (enter_at _ Tryz.func173 OR).trans (by simp only[Tryz.ntmps173,List.size_toArray,List.length_cons,List.length_nil,Nat.reduceAdd,Nat.reduceSub,Array.replicate_succ,Array.replicate_zero,List.push_toArray,List.append_toArray,List.nil_append,List.cons_append])
 rw[hE]at hl;obtain⟨N,kR,w',oE,t',q',uh,M',x,g1,g2,g3,g4,g5⟩:=ZA fd hP jp BF hf.small hl hfd hw.gW;have hk:∀b d,ρ b=some d->w'.heap[d]?=W.heap[d]?:=λb d hb=>g3.keep.block d (ho b d hb)
 have iV:=g3.keep.size;cases ha:x.a with
 |none=>
  have hn0:x.n=0:=by
   rcases g4.row with h|⟨_,_,h,_⟩
   .exact h
   .rw[ha]at h;cases h
  have hxe:({x with a:=none}:aX)=x:=by rw[<-ha]
  refine⟨N,kR,w',oE,t',q',uh,M',x.val,ρ,x.val,V,g1,g2,Ren.le_refl _,?_,⟨λb d hb=>?_,rfl,rfl,hw.gV,agz hw.gW iV,hw.gs⟩,λb d hb=>g3.own d (ho b d hb),⟨x,none,g5,by rw[ha],by rw[hxe],by rw[hxe];exact .inl ⟨ha,hn0,rfl⟩⟩,g3.keep.mono λ_ h=>h.1,g3.own,λb d hb=>.inl hb,λb _=>rfl⟩
  .rw[aX.val,ha];exact(ar.agg rfl λi x x' h h'=>by
    match i with
    |0=>simp at h h';subst h h';exact .bool _
    |1=>simp at h h';subst h h';exact .int _ _
    |2=>simp at h h';subst h h';exact .int _ _
    |3=>simp at h h';subst h h';exact .dj _ _
    |i+4=>simp at h)
  .obtain⟨o,o',i1,i2,i3⟩:=hw.heap b d hb;exact⟨o,o',i1,(hk b d hb).trans i2,i3⟩
 |some a=>
  obtain⟨j1,⟨j2,j3⟩,cs0,e0,j40,j5⟩:=g4.blk a ha;obtain⟨j6,cs,j4,j7⟩:=g4.full a ha;rw[j4]at j40;simp only[Option.some.injEq,Obj.cells.injEq]at j40;obtain⟨y1,y2,_⟩:=j40;subst y1 y2;have hgV:Gl.n<=V:=hw.gV;have aG:∀b d,ρ b=some d->b≠V.heap.size/\d≠a.block:=λb d hb=>by
   have h1:b<V:=(hw.lt hb).1;have h2:=(hw.lt hb).2;omega
  have hga:Gl.n<=a.block:=agz hw.gW j3;have hle:ρ.le (ρ.ext V.heap.size a.block aG hgV hga):=λb d hb=>by show(if b=V.heap.size then some a.block else ρ b)=some d;rw[if_neg (aG b d hb).1];exact hb
  have az:eX (V.alloc (.cells cs 3)) V.heap.size x.n x.g:=by
   rcases g4.row with h|⟨b1,o1,h,hr⟩
   .exact .inl h
   rw[ha]at h;obtain rfl:=agC h;subst j6;refine .inr ⟨_,_,rfl,λi hi=>?_⟩;have:=hr i hi;simp only[World.cell?,j4]at this;simp only[World.cell?,heap_alloc_new];exact this
  refine⟨N,kR,w',oE,t',q',uh,M',x.val,ρ.ext V.heap.size a.block aG hgV hga,aX.val {x with a:=some ⟨V.heap.size,0,none⟩},V.alloc (.cells cs 3),g1,g2,hle,?_,⟨λb d hb=>?_,rfl,rfl,?_,agz hw.gW iV,⟨λg hg=>hle _ _ (hw.gl g hg),hw.gs.2⟩⟩,λb d hb=>?_,⟨x,some ⟨V.heap.size,0,none⟩,g5,by rw[ha];simp,rfl,.inr ⟨cs,rfl,rfl,j5,az,g4.small,j7⟩⟩,g3.keep.mono λ_ h=>h.1,g3.own,λb d hb=>?_,λb hr=>?_⟩
  .rw[aX.val,aX.val,ha];exact(ar.agg rfl λi x x' h h'=>by
    match i with
    |0=>simp at h h';subst h h';exact .bool _
    |1=>simp at h h';subst h h';exact .int _ _
    |2=>simp at h h';subst h h';exact .int _ _
    |3=>simp at h h';subst h h';exact .slice _ _ ⟨if_pos rfl,j6,j1⟩
    |i+4=>simp at h)
  .have dr:(if b=V.heap.size then some a.block else ρ b)=some d:=hb;split at dr
   .rename_i e1;obtain rfl:=agC dr;rw[e1];refine⟨_,_,heap_alloc_new _ _,j4,.cells ⟨rfl,λi x x' hx fe=>?_⟩ (.inl rfl)⟩;rw[hx]at fe;obtain rfl:=agC fe;obtain⟨n,rfl⟩:=j5 x (Array.mem_of_getElem? hx);exact .int _ _
   .obtain⟨o,o',i1,i2,i3⟩:=hw.heap b d dr;exact⟨o,o',(ago _ _ _ ((hw.lt dr).1)).trans i1,(hk b d dr).trans i2,i3.mono hle⟩
  .show Gl.n<=(V.alloc (.cells cs 3)).heap.size;simp;omega
  .have dr:(if b=V.heap.size then some a.block else ρ b)=some d:=hb;split at dr
   .obtain rfl:=agC dr;exact j2
   .exact g3.own d (ho b d dr)
  .have dr:(if b=V.heap.size then some a.block else ρ b)=some d:=hb;split at dr
   .obtain rfl:=agC dr;exact .inr j3
   .exact .inl dr
  .obtain⟨c,e,hr⟩:=hr;exact ago _ _ _ (agy.1 hr).1
end
section
variable [Gl]{ok:Ctx}
def aS (f:FuncId)(xs:Array ac)(V:aa)(R:ac->aa->Prop):Prop:=DrB f xs V R\/DrC f xs V R
def Ud:qi ok aS:=by rintro f r V s v ρ R (h|h);exact ZE h;exact ZF h
def Ua (h:qh Tryz.prog ok MC DrB):qh Tryz.prog ok MC aS:=by rintro f x V ρ v W M B C D rest t q J R s (r|r);exact h s r;exact PL s r
end
