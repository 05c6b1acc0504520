import Derived.Test.YtlmcblcijndipaaGreatDoorj22
import Derived.Test.YtlmcblcijndipaaGreatDoorj23
import Derived.Test.YtlmcblcijndipaaGreatDoorj21
import Derived.Test.YtlmcblcijndipaaGreatDoorj12
import Derived.Test.YtlmcblcijndipaaGreatDoorj29
set_option linter.unusedVariables false
set_option linter.defProp false
set_option maxHeartbeats 2000000
namespace Go.Proofs.YtlmcblcijndipaaGreatDoor
open Conc RowKit
variable {ok:Ctx}{b b' j n nb nn no off:Nat}{f:Nat->Mv}{tb tc toff:Nat->Nat}{o:Nat->Nat->Nat}{V:World}
def fk (f:Nat->Mv)(n:Nat)(o:Nat->Nat)(x:aN):Prop:=
 match eB f o n with
 |some T=>x.ok=true/\x.sum=sumTo f T n/\x.most=cW f T n/\x.n=n/\x.cap=n/\(∀i,i<n->x.g i=T i)/\x.a≠none
 |none=>x.ok=false/\x.sum=0/\x.most=0/\x.n=0/\x.cap=0/\x.a=none
def Ko {o:Nat->Nat}{T:Nat->Int}(hm:az f n=true)(ho:∀i,i<n->o i<n)(hd:∀j k,j<k->k<n->o j≠o k)(h:eB f o n=some T):iF f T n:=iF.fits hm (qn hm ho hd h).fit
def Di (b off n cap:Nat)(f:Nat->Mv)(b' aZ cap':Nat)(o:Nat->Nat)(w:World)(hm:az f n=true)(ho:∀i,i<n->o i<n)(hd:∀j k,j<k->k<n->o j≠o k)(xE:n<=cap')(bz:b<w)(am:aJ w b off n f)(bu:b'<w)(aP:aA w b' aZ n (λi=>(o i:Int))):
  Calls Tz.prog 189 #[.slice (some ⟨b,off,none⟩) n cap,.slice (some ⟨b',aZ,none⟩) n cap'] w λe w'=>∃x:aN,e=.returned x.val/\fk f n o x/\(∀a,x.a=some a->∃B,a=⟨B,0,none⟩/\w.heap.size<=B/\aC w' B n x.g)/\Below w w w':=by
 have h6:=bP hm;have HC:=BX b off n cap f b' aZ cap' o (w.alloc<|.cells #[false,(0:Int),(0:Int),()] 177) hm ho xE cH (am.below ((acU _ w).alloc (ac3 _) _) bz) cH<|aP.below ((acU _ w).alloc (ac3 _) _) bu;go_enter Tz.func189,Tryz.ntmps189
 cases hE:eB f o n with
 |none=>
  rw[hE]at HC;go_wp2_with(go_at_call 231;refine HC.mono ?_;clear HC;rintro e w1 ⟨rfl,bI⟩;have rK:=(bI.block w.heap.size aG).trans<|heap_alloc_new _ _;have s0:w1.cell? ⟨w.heap.size,0,none⟩=some (.bool false):=(by simp[World.cell?,rK]);have s1:w1.cell? ⟨w.heap.size,1,none⟩=some (.int .i64 0):=(by simp[World.cell?,rK]);have s2:w1.cell? ⟨w.heap.size,2,none⟩=some (.int .i64 0):=(by simp[World.cell?,rK]);have s3:w1.cell? ⟨w.heap.size,3,none⟩=some (.slice none 0 0):=(by simp[World.cell?,rK]);have sf:∀j,w1.frozen? ⟨w.heap.size,j,none⟩=false:=(λj=>by simp[World.frozen?,rK]);have oa:=((acU w.heap.size w).alloc (ac3 _)<|.cells #[.bool false,(0:Int),(0:Int),.slice none 0 0] 177).trans<|bI.mono aG)
  rw[tD rK];have XR:=setRow_heap w1 w.heap.size _ #[false,(0:Int),(0:Int),()] _ _ rK;have jQ:=below_setRow oa (ac3 _) #[false,(0:Int),(0:Int),()];generalize w1.setRow w.heap.size #[.bool false,(0:Int),(0:Int),.slice none 0 0]=W5 at XR jQ⊢;have q0:W5.cell? w.heap.size=some (.bool false):=vI;have q1:W5.cell? ⟨w.heap.size,1,none⟩=some (.int .i64 0):=vI;have q2:W5.cell? ⟨w.heap.size,2,none⟩=some (.int .i64 0):=vI;have q3:W5.cell? ⟨w.heap.size,3,none⟩=some (.slice none 0 0):=vI;refine bodyPost_ret (v:=ep.val) ?_ rfl ⟨ep,rfl,by simp[fk,hE,ep],λa ha=>by simp[ep]at ha,jQ⟩;simp[results,Tryz.f189,go_sem,aN.val,ep,q0,q1,q2,q3]
 |some T=>
  rw[hE]at HC;have I6:iF f T n:=Ko hm ho hd hE;have sT:=(I6.sum n<|ac3 _);go_wp2_with(first|(go_at_call 231;refine HC.mono ?_;clear HC;rintro e w1 ⟨⟨B,lY,rfl,bc⟩,bI⟩;have Xo:=bc.lt;have HL:=Cw b off n cap f B 0 n n T w1 h6 (ac3 _) (ac4 bz (by have:=bI.size;simp at this;omega)) (am.below (((acU w.heap.size w).alloc (ac3 _)<|.cells #[.bool false,(0:Int),(0:Int),.slice none 0 0] 177).trans<|bI.mono aG) bz) Xo (λi hi=>by have:=bc.2 i hi;simpa using this) I6)|(go_at_call 150;refine HL.mono ?_;clear HL;rintro e w2 ⟨rfl,cj⟩;have qp:=(bI.trans<|cj.mono bI.size);have rK:=(qp.block w.heap.size aG).trans<|heap_alloc_new _ _;have s0:w2.cell? ⟨w.heap.size,0,none⟩=some (.bool false):=(by simp[World.cell?,rK]);have s1:w2.cell? ⟨w.heap.size,1,none⟩=some (.int .i64 0):=(by simp[World.cell?,rK]);have s2:w2.cell? ⟨w.heap.size,2,none⟩=some (.int .i64 0):=(by simp[World.cell?,rK]);have s3:w2.cell? ⟨w.heap.size,3,none⟩=some (.slice none 0 0):=(by simp[World.cell?,rK]);have sf:∀j,w2.frozen? ⟨w.heap.size,j,none⟩=false:=(λj=>by simp[World.frozen?,rK])))
  rw[tD rK];have hBs:B≠w.heap.size:=by simp at lY;omega
  have XR:=setRow_heap w2 w.heap.size _ #[true,.int .i64<|sumTo f T n,.int .i64<|cW f T n,.slice B n n] _ _ rK;have jQ:=below_setRow (((acU w.heap.size w).alloc (ac3 _)<|.cells #[false,(0:Int),(0:Int),()] 177).trans<|qp.mono aG) (ac3 _) #[true,.int .i64<|sumTo f T n,.int .i64<|cW f T n,.slice B n n];have F7:(w2.setRow w.heap.size #[true,.int .i64<|sumTo f T n,.int .i64<|cW f T n,.slice B n n]).heap[B]?=w2.heap[B]?:=setRow_other _ _ _ _ hBs;have Jj:=bc.below cj Xo;generalize w2.setRow w.heap.size #[.bool true,.int .i64<|sumTo f T n,.int .i64<|cW f T n,.slice (some ⟨B,0,none⟩) n n]=W5 at XR jQ F7⊢;have ZM:aC W5 B n T:=by
   let⟨⟨cs,g1,g2⟩,g3⟩:=Jj;exact⟨⟨cs,F7.trans g1,g2⟩,λi hi=>by rw[<-g3 i hi];simp only[World.cell?,F7]⟩
  have q0:W5.cell? w.heap.size=some (.bool true):=vI;have q1:W5.cell? ⟨w.heap.size,1,none⟩=some (.int .i64<|sumTo f T n):=vI;have q2:W5.cell? ⟨w.heap.size,2,none⟩=some (.int .i64<|cW f T n):=vI;have q3:W5.cell? ⟨w.heap.size,3,none⟩=some (.slice B n n):=vI;refine bodyPost_ret (v:=aN.val ⟨true,sumTo f T n,cW f T n,some ⟨B,0,none⟩,n,n,T⟩) ?_ rfl ⟨⟨true,sumTo f T n,cW f T n,some ⟨B,0,none⟩,n,n,T⟩,rfl,by simp[fk,hE],λa ha=>⟨B,(ac9 ha).symm,by simp at lY;omega,ZM⟩,jQ⟩;simp[results,Tryz.f189,go_sem,aN.val,q0,q1,q2,q3]
def qX (y x:aN):Bool:=decide (nW y x<0)
def Aw:∀(xs:List aN) (i:Nat) (y:aN) (o:Nat),xs[i]?=some y->o<4->(xs.flatMap aN.cells)[i*4+o]?=y.cells[o]?
 |[],i,y,o,h,_=>by simp at h
 |x::xs,0,y,o,h,ho=>by
  simp only[List.getElem?_cons_zero,Option.some.injEq]at h;subst h;rw[List.flatMap_cons,Nat.zero_mul,Nat.zero_add,adf (by simp[aN.cells];exact ho)]
 |x::xs,i+1,y,o,h,ho=>by
  simp only[List.getElem?_cons_succ]at h;have hl:x.cells.length=4:=rfl;rw[List.flatMap_cons,adg (by rw[hl];omega),hl,show(i+1)*4+o-4=i*4+o by omega];exact Aw xs i y o h ho
def Fo {xs:List aN}{T:TypeId}{z:Nat×Nat}(h:V.heap[b]?=some (.cells (xs.flatMap aN.cells).toArray T z))(hx:∀x∈xs,eA V x.a x.n x.g/\x.n<=1048576):Gm V b 0 xs.length (λi=>xs.getD i ep):=by
 intro i hi;have hg:xs[i]?=some (xs.getD i ep):=by simp[hi]
 have hm:xs.getD i ep∈xs:=List.mem_of_getElem? hg;have hc:∀o,o<4->V.cell? ⟨b,0+i*4+o,none⟩=(xs.getD i ep).cells[o]?:=λo ho=>by
  rw[<-Aw xs i _ o hg ho];simp[World.cell?,h]
 show SN V b (0+i*4) (xs.getD i ep);generalize xs.getD i ep=y at hm hc;exact⟨hc 0 ab,hc 1 ab,hc 2 ab,hc 3 ab,(hx y hm).1,(hx y hm).2⟩
def FK (J:Jb)(hJ:J.lt=qX)(xs:List aN):∀k,k<=xs.length->cP (λi=>xs.getD i ep) k=J.cV (xs.take k):=by
 intro k;induction k with
 |zero=>intro _;rfl
 |succ k ih=>
  intro hk;have ay:k<xs.length:=ab;simp only[cP,ih ab];rw[List.take_succ_eq_append_getElem ay];have hg:xs.getD k ep=xs[k]:=by simp[ay]
  rw[hg];cases k with
  |zero=>simp[Jb.cV]
  |succ k=>
   cases xs with
   |nil=>simp at ay
   |cons x xs=>
    simp only[List.take_succ_cons,List.cons_append,Jb.cV,List.foldl_append,List.foldl_cons,List.foldl_nil,Jb.pick,hJ,qX];simp
def Hn (J:Jb)(hJ:J.lt=qX)(V:World)(b:Nat)(xs:List aN)(z:Nat×Nat)(hl:xs.length<=1048576)(h:V.heap[b]?=some (.cells (xs.flatMap aN.cells).toArray 177 z))(hx:∀x∈xs,eA V x.a x.n x.g/\x.n<=1048576):
  Calls Tz.prog 160 #[.slice b xs.length xs.length,.func (.func 161) #[] #[]] V λe w'=>e=.returned (J.cV xs).val/\Below V V w':=by
 have hb:b<V:=(ac5.1 h).1;refine(ED b 0 xs.length xs.length (λi=>xs.getD i ep) V hl hb<|Fo h hx).mono ?_;rintro e w' ⟨rfl,h2⟩;rw[FK J hJ xs _ (ac3 _),List.take_length];exact⟨rfl,h2⟩
section
variable [Gl]
def aam {M:Nat->Prop}{w:World}{cap:Nat}(hm:az f n=true)
  (am:aJ w b off n f)(hpb:ce w b)(mb:M b)(V0:M nb)(pc:∀i,i<nn->w.cell? ⟨nb,no+i,none⟩=some (.slice (some ⟨tb i,toff i,none⟩) n<|tc i))
  (mtb:∀i,i<nn->M (tb i))(td:∀i,i<nn->ce w (tb i))(htc:∀i,i<nn->n<=tc i)(XO:∀i,i<nn->aA w (tb i) (toff i) n (λj=>(o i j:Int)))(ho:∀i,i<nn->∀j,j<n->o i j<n)(hd:∀i,i<nn->∀j k,j<k->k<n->o i j≠o i k)
  (eO:ok.aX 189=true/\ok.aX 160=true/\ok.fn 161=true):
  J2 Tz.prog ok M w (some ⟨b,off,none⟩) n cap nb no nn (λi=>.slice (some ⟨tb i,toff i,none⟩) n<|tc i) (λi x=>i<nn/\(x=b\/x=tb i)) (λi x=>fk f n (o i) x) qX:=by
 have n6:=bP hm;have pL:∀{S:Nat->Prop} {ah:World} {x:Nat},ce w x->ah.heap[x]?=w.heap[x]?->∃cs e,ah.heap[x]?=some (.cells cs e (0,0))/\∀v∈cs,aw ok (rR S) v v:=by
  rintro S ah x ⟨cs,e,h1,h2⟩ hk;refine⟨cs,e,hk.trans h1,λv hv=>?_⟩;rcases h2 v hv with⟨x,rfl⟩|⟨k,x,rfl⟩|⟨s,rfl⟩
  .exact .bool _
  .exact .int _ _
  .exact .string _
 refine⟨V0,pc,λi x hx=>?_,λi hi ah k=>⟨λx hx=>?_⟩,λi hi=>.slice _ _ ⟨fR.2 ⟨⟨hi,.inl rfl⟩,rfl⟩,rfl,rfl⟩,λi hi=>.slice _ _ ⟨fR.2 ⟨⟨hi,.inr rfl⟩,rfl⟩,rfl,rfl⟩,λi hi F ah k τ d=>?_,?_,λV b xs z h1 h2 h3=>Hn _ rfl V b xs z h1 h2 h3,eO⟩
 .obtain⟨hi,rfl|rfl⟩:=hx
  .exact mb
  .exact mtb i hi
 .have hk:=k.block x<|.inr ⟨i,hx⟩;obtain⟨_,rfl|rfl⟩:=hx
  .exact pL hpb hk
  .exact pL (td i hi) hk
 .have kb:=k.block b<|.inr ⟨i,hi,.inl rfl⟩;have kt:=k.block (tb i)<|.inr ⟨i,hi,.inr rfl⟩;have cb:∀j,(re (fu F ah) τ d).cell? ⟨b,j,none⟩=w.cell? ⟨b,j,none⟩:=λj=>(rD F ah _).trans (by simp only[World.cell?,kb])
  have ct:∀j,(re (fu F ah) τ d).cell? ⟨tb i,j,none⟩=w.cell? ⟨tb i,j,none⟩:=λj=>(rD F ah _).trans<|by simp only[World.cell?,kt]
  have hz:(re (fu F ah) τ d).heap.size=ah.heap.size:=jl F ah;have TS:∀x,ce w x->x<ah:=λx hx=>by let⟨cs,e,h1,_⟩:=hx;exact ac4 (ac5.1 h1).1 k.size
  have hr:aJ (re (fu F ah) τ d) b off n f:=λj hj=>by
   let⟨c0,c1,c2,c3,c4,c5⟩:=am j hj;exact⟨(cb _).trans c0,(cb _).trans c1,(cb _).trans c2,(cb _).trans c3,(cb _).trans c4,(cb _).trans c5⟩
  refine(Di b off n cap f (tb i) (toff i) (tc i) (o i) _ hm (ho i hi) (hd i hi) (htc i hi) (by rw[hz];exact TS b hpb) hr (by rw[hz];exact TS _<|td i hi) λj hj=>(ct _).trans<|XO i hi j hj).mono ?_;rintro e w' ⟨x,rfl,h1,h2,h3⟩;refine⟨x,rfl,h1,?_,?_,λa ha=>?_,λa ha=>?_⟩
  .unfold fk at h1;cases ha:x.a with
   |none=>
    split at h1
    .exact absurd ha h1.2.2.2.2.2.2
    .exact .inl h1.2.2.2.1
   |some a=>
    obtain⟨B,rfl,_,hO⟩:=h2 a ha;split at h1
    .refine .inr ⟨B,0,rfl,?_⟩;rw[h1.2.2.2.1];exact hO.2
    .rw[h1.2.2.2.2.2]at ha;cases ha
  .unfold fk at h1;split at h1
   .rw[h1.2.2.2.1];omega
   .rw[h1.2.2.2.1];omega
  .obtain⟨B,rfl,hB,⟨cs,g1,g2⟩,g3⟩:=h2 a ha;refine⟨rfl,by rw[<-hz];exact hB,cs,_,g1,λv hv=>?_⟩;obtain⟨j,hj,rfl⟩:=Array.mem_iff_getElem.1 hv;have:=g3 j ab;simp only[World.cell?,g1,Nat.zero_add]at this;rw[ada hj]at this;exact⟨_,ac9 this⟩
  .obtain⟨B,rfl,hB,⟨cs,g1,g2⟩,g3⟩:=h2 a ha;refine⟨rfl,cs,g1,?_⟩;unfold fk at h1;split at h1
   .rw[g2,h1.2.2.2.1]
   .rw[h1.2.2.2.2.2]at ha;cases ha
 .intro i x a' h1 h2;unfold fk at h1⊢;split at h1
  .refine⟨h1.1,h1.2.1,h1.2.2.1,h1.2.2.2.1,h1.2.2.2.2.1,h1.2.2.2.2.2.1,λe=>h1.2.2.2.2.2.2<|h2.2 e⟩
  .exact⟨h1.1,h1.2.1,h1.2.2.1,h1.2.2.2.1,h1.2.2.2.2.1,h2.1 h1.2.2.2.2.2⟩
end
structure X8 (V:World)(b off n nb no nn:Nat)(f:Nat->Mv)(tb toff tc:Nat->Nat)(o:Nat->Nat->Nat):Prop where
 moves:az f n=true
 row:aJ V b off n f
 plain:ce V b
 fF:∀i,i<nn->V.cell? ⟨nb,no+i,none⟩=some (.slice (some ⟨tb i,toff i,none⟩) n<|tc i)
 Pv:∀i,i<nn->ce V (tb i)
 aad:∀i,i<nn->n<=tc i
 turn:∀i,i<nn->aA V (tb i) (toff i) n (λj=>(o i j:Int))
 lt:∀i,i<nn->∀j,j<n->o i j<n
 ne:∀i,i<nn->∀j k,j<k->k<n->o i j≠o i k
 small:nn+4<4611686018427387904
 some_:0<nn
def X8.re (h:X8 V b off n nb no nn f tb toff tc o)(τ:Nat->Question->Nat)(d:Nat):X8 (re V τ d) b off n nb no nn f tb toff tc o:=
 ⟨h.moves,λi hi=>by let⟨c0,c1,c2,c3,c4,c5⟩:=h.row i hi;exact⟨c0,c1,c2,c3,c4,c5⟩,h.plain,h.fF,h.Pv,h.aad,λi hi j hj=>h.turn i hi j hj,h.lt,h.ne,h.small,h.some_⟩
def Mq (V:World)(x:aN)(V':World):Prop:=
 (x.a=none/\x.n=0/\V'=V)\/∃cs,x.a=some ⟨V.heap.size,0,none⟩/\V'=V.alloc (.cells cs 3)/\(∀v∈cs,∃n:Int,v=.int .i64 n)/\eA V' x.a x.n x.g/\x.n<=1048576/\cs.size=x.n
def DrB (f:FuncId)(xs:Array Value)(V:World)(R:Value->World->Prop):Prop:=
 f=139/\∃b off n cap nb no nn nc mv tb toff tc o,xs=#[.slice (some ⟨b,off,none⟩) n cap,.slice (some ⟨nb,no,none⟩) nn nc]/\X8 V b off n nb no nn mv tb toff tc o/\
  R=λv V'=>∃(x:aN) (aL:Option Addr),Ans qX (λi x=>fk mv n (o i) x) nn x/\(x.a=none<->aL=none)/\v=aN.val {x with a:=aL}/\Mq V {x with a:=aL} V'
section
variable [Gl]{okw:Ctx}{ρ:Ren}{W:World}
def bN.cell (hw:bN ok true ρ V W)(hb:ρ b=some b'){v:Value}(hv:V.cell? ⟨b,j,none⟩=some v):∃v',W.cell? ⟨b',j,none⟩=some v'/\aw ok ρ v v':=by
 let⟨o,o',h1,h2,h3⟩:=hw.heap b b' hb;simp only[World.cell?,h1,h2]at hv⊢;cases h3 with
 |cells hc _=>
  let⟨v',e,r⟩:=hc.get hv;exact⟨v',e,r⟩
 |_=>simp at hv
def bN.ol (hw:bN ok true ρ V W)(hb:ρ b=some b'){k:IntKind}{n:Int}(hv:V.cell? ⟨b,j,none⟩=some (.int k n)):W.cell? ⟨b',j,none⟩=some (.int k n):=by
 let⟨v',e,r⟩:=hw.cell hb hv;cases r;exact e
def bN.mZ (hw:bN ok true ρ V W)(hb:ρ b=some b'){n:Bool}(hv:V.cell? ⟨b,j,none⟩=some (.bool n)):W.cell? ⟨b',j,none⟩=some (.bool n):=by
 let⟨v',e,r⟩:=hw.cell hb hv;cases r;exact e
def bN.qC (hw:bN ok true ρ V W)(hb:ρ b=some b'){n:ByteArray}(hv:V.cell? ⟨b,j,none⟩=some (.string n)):W.cell? ⟨b',j,none⟩=some (.string n):=by
 let⟨v',e,r⟩:=hw.cell hb hv;cases r;exact e
def bN.plain (hw:bN ok true ρ V W)(hb:ρ b=some b')(hp:ce V b):ce W b':=by
 let⟨cs,e,h1,h2⟩:=hp;let⟨o,o',g1,g2,g3⟩:=hw.heap b b' hb;rw[h1]at g1;obtain rfl:=ac9 g1;cases g3 with
 |@cells _ c' _ _ z' hc hz=>
  replace hz:=hz.resolve_right (λh=>by have:=congrArg Prod.snd h.2.1;have h0:=h.2.2;simp at this;omega);refine⟨c',e,by rw[g2,hz];rfl,λv hv=>?_⟩;obtain⟨i,hi,rfl⟩:=Array.mem_iff_getElem.1 hv;have nJ:i<cs.size:=by rw[hc.size];exact hi
  have hr:=hc.at_ i cs[i] c'[i] (ada nJ)<|ada hi;generalize c'[i]=u at hr;rcases h2 cs[i] (Array.getElem_mem nJ)with⟨x,e⟩|⟨k,x,e⟩|⟨s,e⟩
  .rw[e]at hr;cases hr;exact .inl ⟨_,rfl⟩
  .rw[e]at hr;cases hr;exact .inr<|.inl ⟨_,_,rfl⟩
  .rw[e]at hr;cases hr;exact .inr<|.inr ⟨_,rfl⟩
def bN.z_ (hw:bN ok true ρ V W)(hb:ρ b=some b')(hr:aJ V b off n f):aJ W b' off n f:=by
 intro j hj;let⟨c0,c1,c2,c3,c4,c5⟩:=hr j hj;exact⟨by first|exact hw.qC hb c0|exact hw.ol hb c0|exact hw.mZ hb c0,by first|exact hw.qC hb c1|exact hw.ol hb c1|exact hw.mZ hb c1,by first|exact hw.qC hb c2|exact hw.ol hb c2|exact hw.mZ hb c2,by first|exact hw.qC hb c3|exact hw.ol hb c3|exact hw.mZ hb c3,by first|exact hw.qC hb c4|exact hw.ol hb c4|exact hw.mZ hb c4,by first|exact hw.qC hb c5|exact hw.ol hb c5|exact hw.mZ hb c5⟩
def yN {a:Addr}{c:Nat}{v':Value}(h:aw ok ρ (.slice (some a) n c) v'):∃a',v'=.slice (some a') n c/\dI ρ a a':=by
 cases h with
 |slice _ _ r=>exact⟨_,rfl,r⟩
def UR:pu ok DrB:=by
 rintro f xs V V' v ρ R ⟨rfl,b,off,n,cap,nb,no,nn,nc,mv,tb,toff,tc,o,rfl,hf,rfl⟩ ⟨abN,aL,_,_,rfl,fM⟩ _ hw;generalize ({abN with a:=aL}:aN)=x at fM⊢;rcases fM with⟨h1,_,rfl⟩|⟨cs,h1,rfl,h3,_,_⟩
 .refine⟨ρ,Ren.le_refl _,?_,hw⟩;rw[aN.val,h1];exact(aw.agg rfl λi x x' h h'=>by
   match i with
   |0=>simp at h h';subst h h';exact .bool _
   |1=>simp at h h';subst h h';exact .int _ _
   |2=>simp at h h';subst h h';exact .int _ _
   |3=>simp at h h';subst h h';exact .dH _ _
   |i+4=>simp at h)
 .have ay:∀b c,ρ b=some c->b≠V.heap.size/\c≠V.heap.size:=λb c hb=>by have:=hw.lt hb;omega
  refine⟨ρ.ext V.heap.size V.heap.size ay hw.gV hw.gV,λb c hb=>?_,?_,?_⟩
  .show(if b=V.heap.size then some V.heap.size else ρ b)=some c;rw[if_neg (ay b c hb).1];exact hb
  .rw[aN.val,h1];exact(aw.agg rfl λi x x' h h'=>by
    match i with
    |0=>simp at h h';subst h h';exact .bool _
    |1=>simp at h h';subst h h';exact .int _ _
    |2=>simp at h h';subst h h';exact .int _ _
    |3=>simp at h h';subst h h';exact .slice _ _ ⟨if_pos rfl,rfl,rfl⟩
    |i+4=>simp at h)
  .refine⟨λb c hb=>?_,rfl,rfl,by simp;exact Nat.le_succ_of_le hw.gV,by simp;exact Nat.le_succ_of_le hw.gV⟩;have hle:ρ.le (ρ.ext V.heap.size V.heap.size ay hw.gV hw.gV):=λb c hb=>by show(if b=V.heap.size then some V.heap.size else ρ b)=some c;rw[if_neg (ay b c hb).1];exact hb
   have dt:(if b=V.heap.size then some V.heap.size else ρ b)=some c:=hb;split at dt
   .rename_i e1;obtain rfl:=ac9 dt;rw[e1];refine⟨_,_,heap_alloc_new _ _,heap_alloc_new _ _,.cells ⟨rfl,λi x x' hx dK=>?_⟩<|.inl rfl⟩;rw[hx]at dK;obtain rfl:=ac9 dK;obtain⟨n,rfl⟩:=h3 x<|Array.mem_of_getElem? hx;exact .int _ _
   .let⟨o,o',g1,g2,g3⟩:=hw.heap b c dt;have:=hw.lt dt;exact⟨o,o',by rw[acV _ _ _ this.1];exact g1,by rw[acV _ _ _ this.2];exact g2,g3.mono hle⟩
def Na {P0:Program}{c:Frame}(hA:P0=Tz.prog)(eL:dL P0 P0 okw)(hP:dL P0 Tryz.prog okw)(iA:∀f,okw.fn f=true->okw.aX f=true)(zp:jA P0 c)
  (eO:okw.aX 189=true/\okw.aX 160=true/\okw.fn 161=true){Inv:(Nat->Prop)->World->Prop}:pt Tryz.prog ok Inv DrB:=by
 subst hA;rintro f xs V ρ xs' W M an gs r0 rest t q sl R-⟨rfl,b,off,n,cap,nb,no,nn,nc,mv,tb,toff,tc,o,rfl,hf,rfl⟩ vU hw ho hl;have hV:∀a,(re V W.tape W.drawn).cell? a=V.cell? a:=λ_=>rfl
 have hf0:=hf;replace hf:=hf.re W.tape W.drawn;let⟨x0,e0,Qa⟩:=vU.get (i:=0) rfl;let⟨x1,e1,r1'⟩:=vU.get (i:=1) rfl;obtain⟨a0,rfl,s0⟩:=yN Qa;obtain⟨a1,rfl,s1⟩:=yN r1';let⟨b',aZ,sp⟩:=a0;let⟨XY,C_,sp'⟩:=a1;have q1:=s0.off;have q2:=s0.spot;have q3:=s1.off;have q4:=s1.spot;have hb:ρ b=some b':=s0.blk;have Ru:ρ nb=some XY:=s1.blk;simp only at q1 q2 q3 q4;subst q1 q2 q3 q4;have hx:xs'=#[.slice (some ⟨b',aZ,none⟩) n cap,.slice (some ⟨XY,C_,none⟩) nn nc]:=by
  have hz:=vU.size;refine Array.ext (by simpa using hz.symm) λi h1 h2=>?_
  have h2:i<2:=h2;match i with
  |0=>rw[ada h1]at e0;exact ac9 e0
  |1=>rw[ada h1]at e1;exact ac9 e1
 subst hx;have pc:∀i,i<nn->∃t',ρ (tb i)=some t'/\W.cell? ⟨XY,C_+i,none⟩=some (.slice (some ⟨t',toff i,none⟩) n<|tc i):=λi hi=>by
  let⟨v',h1,h2⟩:=hw.cell Ru<|hf.fF i hi;obtain⟨a',rfl,r⟩:=yN h2;let⟨t',o',sp⟩:=a';have h3:=r.off;have h4:=r.spot;simp only at h3 h4;subst h3 h4;exact⟨t',r.blk,h1⟩
 let tb':Nat->Nat:=λi=>(ρ<|tb i).getD 0
 have XN:∀i,i<nn->ρ (tb i)=some (tb' i):=λi hi=>by let⟨t',h1,_⟩:=pc i hi;simp[tb',h1]
 have hfd:=aam (ok:=okw) (M:=M) (w:=W) (b:=b') (off:=aZ) (n:=n) (cap:=cap) (nb:=XY) (no:=C_) (nn:=nn) (f:=mv) (tb:=tb') (toff:=toff) (tc:=tc) (o:=o) hf.moves (hw.z_ hb hf.row) (hw.plain hb hf.plain) (ho _ _ hb) (ho _ _ Ru)
  (λi hi=>by let⟨t',h1,h2⟩:=pc i hi;rw[XN i hi]at h1;rw[h2,<-ac9 h1]) (λi hi=>ho _ _<|XN i hi) (λi hi=>hw.plain (XN i hi)<|hf.Pv i hi) hf.aad (λi hi j hj=>hw.ol (XN i hi)<|hf.turn i hi j hj) hf.lt hf.ne eO
 have I6:Tryz.f139.body=some dQ:=by unfold dQ;kernel_rfl
 have hE:Frame.enter Tryz.prog 139 #[.slice (some ⟨b',aZ,none⟩) n cap,.slice (some ⟨XY,C_,none⟩) nn nc] .normal=(base 139).at ⟨#[.slice (some ⟨b',aZ,none⟩) n cap,.slice (some ⟨XY,C_,none⟩) nn nc,ud,ud,ud,ud,ud,ud,ud,ud,ud,ud,ud,ud,ud,ud,ud,ud,ud,ud,ud],[]⟩ [.code dQ]:=
  (enter_at _ Tryz.func139 I6).trans (by simp only[Tryz.ntmps139,List.size_toArray,List.length_cons,List.length_nil,Nat.reduceAdd,Nat.reduceSub,Array.replicate_succ,Array.replicate_zero,List.push_toArray,List.append_toArray,List.nil_append,List.cons_append])
 rw[hE]at hl;let⟨N,jK,w',kx,t',q',sP,M',x,g1,g2,g3,g4,g5⟩:=UN (sl:=sl) eL hP iA zp hf.small hl hfd hw.gW;have hk:∀b d,ρ b=some d->w'.heap[d]?=W.heap[d]?:=λb d hb=>g3.keep.block d<|ho b d hb
 have jw:=g3.keep.size;cases ha:x.a with
 |none=>
  have XF:x.n=0:=by
   rcases g4.row with h|⟨_,_,h,_⟩
   .exact h
   .rw[ha]at h;cases h
  have hxe:({x with a:=none}:aN)=x:=by rw[<-ha]
  refine⟨N,jK,w',kx,t',q',sP,M',x.val,ρ,x.val,V,g1,g2,Ren.le_refl _,?_,⟨λb d hb=>?_,rfl,rfl,hw.gV,ac6 hw.gW jw⟩,λb d hb=>g3.own d<|ho b d hb,⟨x,none,g5,by rw[ha],by rw[hxe],by rw[hxe];exact .inl ⟨ha,XF,rfl⟩⟩,g3.keep,g3.own,λb d hb=>.inl hb,λb _=>rfl⟩
  .rw[aN.val,ha];exact(aw.agg rfl λi x x' h h'=>by
    match i with
    |0=>simp at h h';subst h h';exact .bool _
    |1=>simp at h h';subst h h';exact .int _ _
    |2=>simp at h h';subst h h';exact .int _ _
    |3=>simp at h h';subst h h';exact .dH _ _
    |i+4=>simp at h)
  .let⟨o,o',i1,i2,i3⟩:=hw.heap b d hb;exact⟨o,o',i1,(hk b d hb).trans i2,i3⟩
 |some a=>
  let⟨j1,⟨j2,j3⟩,cs0,e0,j40,j5⟩:=g4.blk a ha;let⟨j6,cs,j4,j7⟩:=g4.full a ha;rw[j4]at j40;simp only[Option.some.injEq,Obj.cells.injEq]at j40;let⟨y1,y2,_⟩:=j40;subst y1 y2;have hgV:Gl.n<=V:=hw.gV;have ay:∀b d,ρ b=some d->b≠V.heap.size/\d≠a.block:=λb d hb=>by
   have h1:b<V:=(hw.lt hb).1;have h2:=(hw.lt hb).2;omega
  have hga:Gl.n<=a.block:=ac6 hw.gW j3;have hle:ρ.le (ρ.ext V.heap.size a.block ay hgV hga):=λb d hb=>by show(if b=V.heap.size then some a.block else ρ b)=some d;rw[if_neg (ay b d hb).1];exact hb
  have am:eA (V.alloc<|.cells cs 3) V.heap.size x.n x.g:=by
   rcases g4.row with h|⟨b1,o1,h,hr⟩
   .exact .inl h
   .rw[ha]at h;obtain rfl:=ac9 h;have j6':o1=0:=j6;subst j6';refine .inr ⟨_,_,rfl,λi hi=>?_⟩;have:=hr i hi;simp only[World.cell?,j4]at this;simp only[World.cell?,heap_alloc_new];exact this
  refine⟨N,jK,w',kx,t',q',sP,M',x.val,ρ.ext V.heap.size a.block ay hgV hga,aN.val {x with a:=some ⟨V.heap.size,0,none⟩},V.alloc<|.cells cs 3,g1,g2,hle,?_,⟨λb d hb=>?_,rfl,rfl,?_,ac6 hw.gW jw⟩,λb d hb=>?_,⟨x,some ⟨V.heap.size,0,none⟩,g5,by rw[ha];simp,rfl,.inr ⟨cs,rfl,rfl,j5,am,g4.small,j7⟩⟩,g3.keep,g3.own,λb d hb=>?_,λb hr=>?_⟩
  .rw[aN.val,aN.val,ha];exact(aw.agg rfl λi x x' h h'=>by
    match i with
    |0=>simp at h h';subst h h';exact .bool _
    |1=>simp at h h';subst h h';exact .int _ _
    |2=>simp at h h';subst h h';exact .int _ _
    |3=>simp at h h';subst h h';exact .slice _ _ ⟨if_pos rfl,j6,j1⟩
    |i+4=>simp at h)
  .have dt:(if b=V.heap.size then some a.block else ρ b)=some d:=hb;split at dt
   .rename_i e1;obtain rfl:=ac9 dt;rw[e1];refine⟨_,_,heap_alloc_new _ _,j4,.cells ⟨rfl,λi x x' hx dK=>?_⟩<|.inl rfl⟩;rw[hx]at dK;obtain rfl:=ac9 dK;obtain⟨n,rfl⟩:=j5 x<|Array.mem_of_getElem? hx;exact .int _ _
   .let⟨o,o',i1,i2,i3⟩:=hw.heap b d dt;have h1:b<V:=(hw.lt dt).1;exact⟨o,o',(acV _ _ _ h1).trans i1,(hk b d dt).trans i2,i3.mono hle⟩
  .show Gl.n<=(V.alloc<|.cells cs 3).heap.size;simp;omega
  .have dt:(if b=V.heap.size then some a.block else ρ b)=some d:=hb;split at dt
   .obtain rfl:=ac9 dt;exact j2
   .exact g3.own d (ho b d dt)
  .have dt:(if b=V.heap.size then some a.block else ρ b)=some d:=hb;split at dt
   .obtain rfl:=ac9 dt;exact .inr j3
   .exact .inl dt
  .let⟨c,e,hr⟩:=hr;exact acV _ _ _ (ac5.1 hr).1
end
section
variable [Gl]{ok:Ctx}
def bY (f:FuncId)(xs:Array Value)(V:World)(R:Value->World->Prop):Prop:=DrB f xs V R\/DrC f xs V R
def QS:pu ok bY:=by
 rintro f xs V V' v ρ R (h|h)
 .exact UR h
 .exact US h
def QQ (h:pt Tryz.prog ok J5 DrB):pt Tryz.prog ok J5 bY:=by
 rintro f xs V ρ xs' W M an gs r0 rest t q sl R hI (hd|hd)
 .exact h hI hd
 .exact Nb hI hd
end
