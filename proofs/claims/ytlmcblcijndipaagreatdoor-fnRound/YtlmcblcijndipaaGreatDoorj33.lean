import Derived.Test.YtlmcblcijndipaaGreatDoorj22
import Derived.Test.YtlmcblcijndipaaGreatDoorj20
import Derived.Test.YtlmcblcijndipaaGreatDoorj12
import Derived.Test.YtlmcblcijndipaaGreatDoorj26
import Derived.Test.YtlmcblcijndipaaGreatDoorj25
set_option linter.unusedSectionVars false
set_option maxHeartbeats 2000000
namespace Go.Proofs.YtlmcblcijndipaaGreatDoor
section
open RowKit
def eR (f:Nat->Mv)(n:Nat)(o:Nat->Nat)(x:aN):Prop:=
 match d9 f o n with
 |some T=>x.ok=true/\x.sum=sumTo f T n/\x.most=cU f T n/\x.n=n/\x.cap=n/\(∀i,i<n->x.g i=T i)/\x.a≠none
 |none=>x.ok=false/\x.sum=0/\x.most=0/\x.n=0/\x.cap=0/\x.a=none
theorem Ig {f:Nat->Mv}{o:Nat->Nat}{n:Nat}{T:Nat->Int}(hm:aG f n=true)(ho:∀i,i<n->o i<n)(hd:∀j k,j<k->k<n->o j≠o k)(h:d9 f o n=some T):ii f T n:=ii.fits hm (tv hm ho hd h).fit
theorem A6 (b off n cap:Nat)(f:Nat->Mv)(b' aW cap':Nat)(o:Nat->Nat)(w:World)(hm:aG f n=true)(ho:∀i,i<n->o i<n)(hd:∀j k,j<k->k<n->o j≠o k)(uP:n<=cap')(bw:b<w)(aq:aM w b off n f)(bc:b'<w)(aK:aB w b' aW n (λi=>(o i:Int))):
  Calls Tz.prog 189 #[.slice (some ⟨b,off,none⟩) n cap,.slice (some ⟨b',aW,none⟩) n cap'] w λe w'=>∃x:aN,e=.returned x.val/\eR f n o x/\(∀a,x.a=some a->∃B,a=⟨B,0,none⟩/\w.heap.size<=B/\aJ w' B n x.g)/\Below w w w':=by
 have h6:=cg hm;have HC:=zW b off n cap f b' aW cap' o (w.alloc (.cells #[false,.int .i64 0,.int .i64 0,()] 177)) hm ho uP cC (aq.below ((aca _ w).alloc (ack _) _) bw) cC (aK.below ((aca _ w).alloc (ack _) _) bc);go_enter Tz.func189,Tryz.ntmps189
 cases hE:d9 f o n with
 |none=>
  rw[hE]at HC;go_wp2_with(go_at_call 231;refine HC.mono ?_;clear HC;rintro e w1 ⟨rfl,bF⟩;have iJ:=(bF.block w.heap.size aH).trans (heap_alloc_new _ _);have s0:w1.cell? ⟨w.heap.size,0,none⟩=some (.bool false):=(by simp[World.cell?,iJ]);have s1:w1.cell? ⟨w.heap.size,1,none⟩=some (.int .i64 0):=(by simp[World.cell?,iJ]);have s2:w1.cell? ⟨w.heap.size,2,none⟩=some (.int .i64 0):=(by simp[World.cell?,iJ]);have s3:w1.cell? ⟨w.heap.size,3,none⟩=some (.slice none 0 0):=(by simp[World.cell?,iJ]);have sf:∀j,w1.frozen? ⟨w.heap.size,j,none⟩=false:=(λj=>by simp[World.frozen?,iJ]);have mS:=((aca w.heap.size w).alloc (ack _) (.cells #[.bool false,.int .i64 0,.int .i64 0,.slice none 0 0] 177)).trans (bF.mono aH))
  rw[sM iJ];have UU:=setRow_heap w1 w.heap.size _ #[false,.int .i64 0,.int .i64 0,()] _ _ iJ;have gi:=below_setRow mS (ack _) #[false,.int .i64 0,.int .i64 0,()];generalize w1.setRow w.heap.size #[.bool false,.int .i64 0,.int .i64 0,.slice none 0 0]=W5 at UU gi⊢;have q0:W5.cell? w.heap.size=some (.bool false):=uK;have q1:W5.cell? ⟨w.heap.size,1,none⟩=some (.int .i64 0):=uK;have q2:W5.cell? ⟨w.heap.size,2,none⟩=some (.int .i64 0):=uK;have q3:W5.cell? ⟨w.heap.size,3,none⟩=some (.slice none 0 0):=uK;refine bodyPost_ret (v:=dQ.val) ?_ rfl ⟨dQ,rfl,by simp[eR,hE,dQ],λa ha=>by simp[dQ]at ha,gi⟩;simp[results,Tryz.f189,go_sem,aN.val,dQ,q0,q1,q2,q3]
 |some T=>
  rw[hE]at HC;have No:ii f T n:=Ig hm ho hd hE;have sT:=(No.sum n (ack _));go_wp2_with(first|(go_at_call 231;refine HC.mono ?_;clear HC;rintro e w1 ⟨⟨B,mQ,rfl,aU⟩,bF⟩;have Ur:=aU.lt;have HL:=Ar b off n cap f B 0 n n T w1 h6 (ack _) (acl bw (by have:=bF.size;simp at this;omega)) (aq.below (((aca w.heap.size w).alloc (ack _) (.cells #[.bool false,.int .i64 0,.int .i64 0,.slice none 0 0] 177)).trans (bF.mono aH)) bw) Ur (λi hi=>by have:=aU.2 i hi;simpa using this) No)|(go_at_call 150;refine HL.mono ?_;clear HL;rintro e w2 ⟨rfl,cH⟩;have qI:=(bF.trans (cH.mono bF.size));have iJ:=(qI.block w.heap.size aH).trans (heap_alloc_new _ _);have s0:w2.cell? ⟨w.heap.size,0,none⟩=some (.bool false):=(by simp[World.cell?,iJ]);have s1:w2.cell? ⟨w.heap.size,1,none⟩=some (.int .i64 0):=(by simp[World.cell?,iJ]);have s2:w2.cell? ⟨w.heap.size,2,none⟩=some (.int .i64 0):=(by simp[World.cell?,iJ]);have s3:w2.cell? ⟨w.heap.size,3,none⟩=some (.slice none 0 0):=(by simp[World.cell?,iJ]);have sf:∀j,w2.frozen? ⟨w.heap.size,j,none⟩=false:=(λj=>by simp[World.frozen?,iJ])))
  rw[sM iJ];have hBs:B≠w.heap.size:=by simp at mQ;omega
  have UU:=setRow_heap w2 w.heap.size _ #[true,.int .i64 (sumTo f T n),.int .i64 (cU f T n),.slice B n n] _ _ iJ;have gi:=below_setRow (((aca w.heap.size w).alloc (ack _) (.cells #[false,.int .i64 0,.int .i64 0,()] 177)).trans (qI.mono aH)) (ack _) #[true,.int .i64 (sumTo f T n),.int .i64 (cU f T n),.slice B n n];have DX:(w2.setRow w.heap.size #[true,.int .i64 (sumTo f T n),.int .i64 (cU f T n),.slice B n n]).heap[B]?=w2.heap[B]?:=setRow_other _ _ _ _ hBs;have GO:=aU.below cH Ur;generalize w2.setRow w.heap.size #[.bool true,.int .i64 (sumTo f T n),.int .i64 (cU f T n),.slice (some ⟨B,0,none⟩) n n]=W5 at UU gi DX⊢;have Xc:aJ W5 B n T:=by
   obtain⟨⟨cs,g1,g2⟩,g3⟩:=GO;exact⟨⟨cs,DX.trans g1,g2⟩,λi hi=>by rw[<-g3 i hi];simp only[World.cell?,DX]⟩
  have q0:W5.cell? w.heap.size=some (.bool true):=uK;have q1:W5.cell? ⟨w.heap.size,1,none⟩=some (.int .i64 (sumTo f T n)):=uK;have q2:W5.cell? ⟨w.heap.size,2,none⟩=some (.int .i64 (cU f T n)):=uK;have q3:W5.cell? ⟨w.heap.size,3,none⟩=some (.slice B n n):=uK;refine bodyPost_ret (v:=aN.val ⟨true,sumTo f T n,cU f T n,some ⟨B,0,none⟩,n,n,T⟩) ?_ rfl ⟨⟨true,sumTo f T n,cU f T n,some ⟨B,0,none⟩,n,n,T⟩,rfl,by simp[eR,hE],λa ha=>⟨B,(acr ha).symm,by simp at mQ;omega,Xc⟩,gi⟩;simp[results,Tryz.f189,go_sem,aN.val,q0,q1,q2,q3]
end
section
open Conc RowKit
def qr (y x:aN):Bool:=decide (m9 y x<0)
theorem yL:∀(xs:List aN) (i:Nat) (y:aN) (o:Nat),xs[i]?=some y->o<4->(xs.flatMap aN.cells)[i*4+o]?=y.cells[o]?
 |[],i,y,o,h,_=>by simp at h
 |x::xs,0,y,o,h,ho=>by
  simp only[List.getElem?_cons_zero,Option.some.injEq]at h;subst h;rw[List.flatMap_cons,Nat.zero_mul,Nat.zero_add,acx (by simp[aN.cells];exact ho)]
 |x::xs,i+1,y,o,h,ho=>by
  simp only[List.getElem?_cons_succ]at h;have hl:x.cells.length=4:=rfl;rw[List.flatMap_cons,acy (by rw[hl];omega),hl,show(i+1)*4+o-4=i*4+o by omega];exact yL xs i y o h ho
theorem Dg {V:World}{b:Nat}{xs:List aN}{T:TypeId}{z:Nat×Nat}(h:V.heap[b]?=some (.cells (xs.flatMap aN.cells).toArray T z))(hx:∀x∈xs,dX V x.a x.n x.g/\x.n<=1048576):Ei V b 0 xs.length (λi=>xs.getD i dQ):=by
 intro i hi;have hg:xs[i]?=some (xs.getD i dQ):=by simp[hi]
 have hm:xs.getD i dQ∈xs:=List.mem_of_getElem? hg;have hc:∀o,o<4->V.cell? ⟨b,0+i*4+o,none⟩=(xs.getD i dQ).cells[o]?:=λo ho=>by
  rw[<-yL xs i _ o hg ho];simp[World.cell?,h]
 show Qb V b (0+i*4) (xs.getD i dQ);generalize xs.getD i dQ=y at hm hc;exact⟨hc 0 ab,hc 1 ab,hc 2 ab,hc 3 ab,(hx y hm).1,(hx y hm).2⟩
theorem DE (J:Jb)(hJ:J.lt=qr)(xs:List aN):∀k,k<=xs.length->cM (λi=>xs.getD i dQ) k=J.cR (xs.take k):=by
 intro k;induction k with
 |zero=>intro _;rfl
 |succ k ih=>
  intro hk;have aI:k<xs.length:=ab;simp only[cM,ih ab];rw[List.take_succ_eq_append_getElem aI];have hg:xs.getD k dQ=xs[k]:=by simp[aI]
  rw[hg];cases k with
  |zero=>simp[Jb.cR]
  |succ k=>
   cases xs with
   |nil=>simp at aI
   |cons x xs=>
    simp only[List.take_succ_cons,List.cons_append,Jb.cR,List.foldl_append,List.foldl_cons,List.foldl_nil,Jb.pick,hJ,qr];simp
theorem Fp (J:Jb)(hJ:J.lt=qr)(V:World)(b:Nat)(xs:List aN)(z:Nat×Nat)(hl:xs.length<=1048576)(h:V.heap[b]?=some (.cells (xs.flatMap aN.cells).toArray 177 z))(hx:∀x∈xs,dX V x.a x.n x.g/\x.n<=1048576):
  Calls Tz.prog 160 #[.slice b xs.length xs.length,.func (.func 161) #[] #[]] V λe w'=>e=.returned (J.cR xs).val/\Below V V w':=by
 have hb:b<V:=(acm.1 h).1;refine(CA b 0 xs.length xs.length (λi=>xs.getD i dQ) V hl hb (Dg h hx)).mono ?_;rintro e w' ⟨rfl,h2⟩;rw[DE J hJ xs _ (ack _),List.take_length];exact⟨rfl,h2⟩
section
variable [Gl]
theorem ZG {ok:Ctx}{M:Nat->Prop}{w:World}{b off n cap nb no nn:Nat}{f:Nat->Mv}{tb toff tc:Nat->Nat}{o:Nat->Nat->Nat}(hm:aG f n=true)
  (aq:aM w b off n f)(hpb:bX w b)(mb:M b)(Tp:M nb)(oa:∀i,i<nn->w.cell? ⟨nb,no+i,none⟩=some (.slice (some ⟨tb i,toff i,none⟩) n (tc i)))
  (mtb:∀i,i<nn->M (tb i))(sg:∀i,i<nn->bX w (tb i))(htc:∀i,i<nn->n<=tc i)(US:∀i,i<nn->aB w (tb i) (toff i) n (λj=>(o i j:Int)))(ho:∀i,i<nn->∀j,j<n->o i j<n)(hd:∀i,i<nn->∀j k,j<k->k<n->o i j≠o i k)
  (fw:ok.bI 189=true/\ok.bI 160=true/\ok.fn 161=true):
  Hs Tz.prog ok M w (some ⟨b,off,none⟩) n cap nb no nn (λi=>.slice (some ⟨tb i,toff i,none⟩) n (tc i)) (λi x=>i<nn/\(x=b\/x=tb i)) (λi x=>eR f n (o i) x) qr:=by
 have n6:=cg hm;have oW:∀{S:Nat->Prop} {ai:World} {x:Nat},bX w x->ai.heap[x]?=w.heap[x]?->∃cs e,ai.heap[x]?=some (.cells cs e (0,0))/\∀v∈cs,ar ok (qW S) v v:=by
  rintro S ai x ⟨cs,e,h1,h2⟩ hk;refine⟨cs,e,hk.trans h1,λv hv=>?_⟩;rcases h2 v hv with⟨x,rfl⟩|⟨k,x,rfl⟩|⟨s,rfl⟩
  .exact .bool _
  .exact .int _ _
  .exact .string _
 refine⟨Tp,oa,λi x hx=>?_,λi hi ai k=>⟨λx hx=>?_⟩,λi hi=>.slice _ _ ⟨fD.2 ⟨⟨hi,.inl rfl⟩,rfl⟩,rfl,rfl⟩,λi hi=>.slice _ _ ⟨fD.2 ⟨⟨hi,.inr rfl⟩,rfl⟩,rfl,rfl⟩,λi hi F ai k τ d=>?_,?_,λV b xs z h1 h2 h3=>Fp _ rfl V b xs z h1 h2 h3,fw⟩
 .obtain⟨hi,rfl|rfl⟩:=hx
  .exact mb
  .exact mtb i hi
 .have hk:=k.block x (.inr ⟨i,hx⟩);obtain⟨_,rfl|rfl⟩:=hx
  .exact oW hpb hk
  .exact oW (sg i hi) hk
 .have kb:=k.block b (.inr ⟨i,hi,.inl rfl⟩);have kt:=k.block (tb i) (.inr ⟨i,hi,.inr rfl⟩);have cb:∀j,(re (fc F ai) τ d).cell? ⟨b,j,none⟩=w.cell? ⟨b,j,none⟩:=λj=>(qG F ai _).trans (by simp only[World.cell?,kb])
  have ct:∀j,(re (fc F ai) τ d).cell? ⟨tb i,j,none⟩=w.cell? ⟨tb i,j,none⟩:=λj=>(qG F ai _).trans (by simp only[World.cell?,kt])
  have hz:(re (fc F ai) τ d).heap.size=ai.heap.size:=iY F ai;have QR:∀x,bX w x->x<ai:=λx hx=>by obtain⟨cs,e,h1,_⟩:=hx;exact acl (acm.1 h1).1 k.size
  have hr:aM (re (fc F ai) τ d) b off n f:=λj hj=>by
   obtain⟨c0,c1,c2,c3,c4,c5⟩:=aq j hj;exact⟨(cb _).trans c0,(cb _).trans c1,(cb _).trans c2,(cb _).trans c3,(cb _).trans c4,(cb _).trans c5⟩
  refine(A6 b off n cap f (tb i) (toff i) (tc i) (o i) _ hm (ho i hi) (hd i hi) (htc i hi) (by rw[hz];exact QR b hpb) hr (by rw[hz];exact QR _ (sg i hi)) (λj hj=>(ct _).trans (US i hi j hj))).mono ?_;rintro e w' ⟨x,rfl,h1,h2,h3⟩;refine⟨x,rfl,h1,?_,?_,λa ha=>?_,λa ha=>?_⟩
  .unfold eR at h1;cases ha:x.a with
   |none=>
    split at h1
    .exact absurd ha h1.2.2.2.2.2.2
    .exact .inl h1.2.2.2.1
   |some a=>
    obtain⟨B,rfl,_,hO⟩:=h2 a ha;split at h1
    .refine .inr ⟨B,0,rfl,?_⟩;rw[h1.2.2.2.1];exact hO.2
    .rw[h1.2.2.2.2.2]at ha;cases ha
  .unfold eR at h1;split at h1
   .rw[h1.2.2.2.1];omega
   .rw[h1.2.2.2.1];omega
  .obtain⟨B,rfl,hB,⟨cs,g1,g2⟩,g3⟩:=h2 a ha;refine⟨rfl,by rw[<-hz];exact hB,cs,_,g1,λv hv=>?_⟩;obtain⟨j,hj,rfl⟩:=Array.mem_iff_getElem.1 hv;have:=g3 j ab;simp only[World.cell?,g1,Nat.zero_add]at this;rw[acs hj]at this;exact⟨_,acr this⟩
  .obtain⟨B,rfl,hB,⟨cs,g1,g2⟩,g3⟩:=h2 a ha;refine⟨rfl,cs,g1,?_⟩;unfold eR at h1;split at h1
   .rw[g2,h1.2.2.2.1]
   .rw[h1.2.2.2.2.2]at ha;cases ha
 .intro i x a' h1 h2;unfold eR at h1⊢;split at h1
  .refine⟨h1.1,h1.2.1,h1.2.2.1,h1.2.2.2.1,h1.2.2.2.2.1,h1.2.2.2.2.2.1,λe=>h1.2.2.2.2.2.2 (h2.2 e)⟩
  .exact⟨h1.1,h1.2.1,h1.2.2.1,h1.2.2.2.1,h1.2.2.2.2.1,h2.1 h1.2.2.2.2.2⟩
end
structure U9 (V:World)(b off n nb no nn:Nat)(f:Nat->Mv)(tb toff tc:Nat->Nat)(o:Nat->Nat->Nat):Prop where
 moves:aG f n=true
 row:aM V b off n f
 plain:bX V b
 gt:∀i,i<nn->V.cell? ⟨nb,no+i,none⟩=some (.slice (some ⟨tb i,toff i,none⟩) n (tc i))
 MY:∀i,i<nn->bX V (tb i)
 Yk:∀i,i<nn->n<=tc i
 turn:∀i,i<nn->aB V (tb i) (toff i) n (λj=>(o i j:Int))
 lt:∀i,i<nn->∀j,j<n->o i j<n
 ne:∀i,i<nn->∀j k,j<k->k<n->o i j≠o i k
 small:nn+4<4611686018427387904
 some_:0<nn
theorem U9.re {V:World}{b off n nb no nn:Nat}{f:Nat->Mv}{tb toff tc:Nat->Nat}{o:Nat->Nat->Nat}(h:U9 V b off n nb no nn f tb toff tc o)(τ:Nat->Question->Nat)(d:Nat):U9 (re V τ d) b off n nb no nn f tb toff tc o:=
 ⟨h.moves,λi hi=>by obtain⟨c0,c1,c2,c3,c4,c5⟩:=h.row i hi;exact⟨c0,c1,c2,c3,c4,c5⟩,h.plain,h.gt,h.MY,h.Yk,λi hi j hj=>h.turn i hi j hj,h.lt,h.ne,h.small,h.some_⟩
def J7 (V:World)(x:aN)(V':World):Prop:=
 (x.a=none/\x.n=0/\V'=V)\/∃cs,x.a=some ⟨V.heap.size,0,none⟩/\V'=V.alloc (.cells cs 3)/\(∀v∈cs,∃n:Int,v=.int .i64 n)/\dX V' x.a x.n x.g/\x.n<=1048576/\cs.size=x.n
def Yu (f:FuncId)(xs:Array Value)(V:World)(R:Value->World->Prop):Prop:=
 f=139/\∃b off n cap nb no nn nc mv tb toff tc o,xs=#[.slice (some ⟨b,off,none⟩) n cap,.slice (some ⟨nb,no,none⟩) nn nc]/\U9 V b off n nb no nn mv tb toff tc o/\
  R=λv V'=>∃(x:aN) (aL:Option Addr),Yt qr (λi x=>eR mv n (o i) x) nn x/\(x.a=none<->aL=none)/\v=aN.val {x with a:=aL}/\J7 V {x with a:=aL} V'
section
variable [Gl]{ok okw:Ctx}{ρ:Ren}{V W:World}
theorem bJ.cell (hw:bJ ok true ρ V W){b b' j:Nat}(hb:ρ b=some b'){v:Value}(hv:V.cell? ⟨b,j,none⟩=some v):∃v',W.cell? ⟨b',j,none⟩=some v'/\ar ok ρ v v':=by
 obtain⟨o,o',h1,h2,h3⟩:=hw.heap b b' hb;simp only[World.cell?,h1,h2]at hv⊢;cases h3 with
 |cells hc _=>
  obtain⟨v',e,r⟩:=hc.get hv;exact⟨v',e,r⟩
 |_=>simp at hv
theorem bJ.nz (hw:bJ ok true ρ V W){b b' j:Nat}(hb:ρ b=some b'){k:IntKind}{n:Int}(hv:V.cell? ⟨b,j,none⟩=some (.int k n)):W.cell? ⟨b',j,none⟩=some (.int k n):=by
 obtain⟨v',e,r⟩:=hw.cell hb hv;cases r;exact e
theorem bJ.mn (hw:bJ ok true ρ V W){b b' j:Nat}(hb:ρ b=some b'){n:Bool}(hv:V.cell? ⟨b,j,none⟩=some (.bool n)):W.cell? ⟨b',j,none⟩=some (.bool n):=by
 obtain⟨v',e,r⟩:=hw.cell hb hv;cases r;exact e
theorem bJ.p8 (hw:bJ ok true ρ V W){b b' j:Nat}(hb:ρ b=some b'){n:ByteArray}(hv:V.cell? ⟨b,j,none⟩=some (.string n)):W.cell? ⟨b',j,none⟩=some (.string n):=by
 obtain⟨v',e,r⟩:=hw.cell hb hv;cases r;exact e
theorem bJ.plain (hw:bJ ok true ρ V W){b b':Nat}(hb:ρ b=some b')(hp:bX V b):bX W b':=by
 obtain⟨cs,e,h1,h2⟩:=hp;obtain⟨o,o',g1,g2,g3⟩:=hw.heap b b' hb;rw[h1]at g1;obtain rfl:=acr g1;cases g3 with
 |@cells _ c' _ _ z' hc hz=>
  replace hz:=hz.resolve_right (λh=>by have:=congrArg Prod.snd h.2.1;have h0:=h.2.2;simp at this;omega);refine⟨c',e,by rw[g2,hz];rfl,λv hv=>?_⟩;obtain⟨i,hi,rfl⟩:=Array.mem_iff_getElem.1 hv;have ox:i<cs.size:=by rw[hc.size];exact hi
  have hr:=hc.at_ i cs[i] c'[i] (acs ox) (acs hi);generalize c'[i]=u at hr;rcases h2 cs[i] (Array.getElem_mem ox)with⟨x,e⟩|⟨k,x,e⟩|⟨s,e⟩
  .rw[e]at hr;cases hr;exact .inl ⟨_,rfl⟩
  .rw[e]at hr;cases hr;exact .inr (.inl ⟨_,_,rfl⟩)
  .rw[e]at hr;cases hr;exact .inr (.inr ⟨_,rfl⟩)
theorem bJ.XN (hw:bJ ok true ρ V W){b b' off n:Nat}{f:Nat->Mv}(hb:ρ b=some b')(hr:aM V b off n f):aM W b' off n f:=by
 intro j hj;obtain⟨c0,c1,c2,c3,c4,c5⟩:=hr j hj;exact⟨by first|exact hw.p8 hb c0|exact hw.nz hb c0|exact hw.mn hb c0,by first|exact hw.p8 hb c1|exact hw.nz hb c1|exact hw.mn hb c1,by first|exact hw.p8 hb c2|exact hw.nz hb c2|exact hw.mn hb c2,by first|exact hw.p8 hb c3|exact hw.nz hb c3|exact hw.mn hb c3,by first|exact hw.p8 hb c4|exact hw.nz hb c4|exact hw.mn hb c4,by first|exact hw.p8 hb c5|exact hw.nz hb c5|exact hw.mn hb c5⟩
theorem xe {a:Addr}{n c:Nat}{v':Value}(h:ar ok ρ (.slice (some a) n c) v'):∃a',v'=.slice (some a') n c/\dC ρ a a':=by
 cases h with
 |slice _ _ r=>exact⟨_,rfl,r⟩
theorem R2:oB ok Yu:=by
 rintro f xs V V' v ρ R ⟨rfl,b,off,n,cap,nb,no,nn,nc,mv,tb,toff,tc,o,rfl,hf,rfl⟩ ⟨aa1,aL,_,_,rfl,ew⟩ _ hw;generalize ({aa1 with a:=aL}:aN)=x at ew⊢;rcases ew with⟨h1,_,rfl⟩|⟨cs,h1,rfl,h3,_,_⟩
 .refine⟨ρ,Ren.le_refl _,?_,hw⟩;rw[aN.val,h1];exact(ar.agg rfl λi x x' h h'=>by
   match i with
   |0=>simp at h h';subst h h';exact .bool _
   |1=>simp at h h';subst h h';exact .int _ _
   |2=>simp at h h';subst h h';exact .int _ _
   |3=>simp at h h';subst h h';exact .dg _ _
   |i+4=>simp at h)
 .have aI:∀b c,ρ b=some c->b≠V.heap.size/\c≠V.heap.size:=λb c hb=>by have:=hw.lt hb;omega
  refine⟨ρ.ext V.heap.size V.heap.size aI hw.gV hw.gV,λb c hb=>?_,?_,?_⟩
  .show(if b=V.heap.size then some V.heap.size else ρ b)=some c;rw[if_neg (aI b c hb).1];exact hb
  .rw[aN.val,h1];exact(ar.agg rfl λi x x' h h'=>by
    match i with
    |0=>simp at h h';subst h h';exact .bool _
    |1=>simp at h h';subst h h';exact .int _ _
    |2=>simp at h h';subst h h';exact .int _ _
    |3=>simp at h h';subst h h';exact .slice _ _ ⟨if_pos rfl,rfl,rfl⟩
    |i+4=>simp at h)
  .refine⟨λb c hb=>?_,rfl,rfl,by simp;exact Nat.le_succ_of_le hw.gV,by simp;exact Nat.le_succ_of_le hw.gV⟩;have hle:ρ.le (ρ.ext V.heap.size V.heap.size aI hw.gV hw.gV):=λb c hb=>by show(if b=V.heap.size then some V.heap.size else ρ b)=some c;rw[if_neg (aI b c hb).1];exact hb
   have cZ:(if b=V.heap.size then some V.heap.size else ρ b)=some c:=hb;split at cZ
   .rename_i e1;obtain rfl:=acr cZ;rw[e1];refine⟨_,_,heap_alloc_new _ _,heap_alloc_new _ _,.cells ⟨rfl,λi x x' hx dB=>?_⟩ (.inl rfl)⟩;rw[hx]at dB;obtain rfl:=acr dB;obtain⟨n,rfl⟩:=h3 x (Array.mem_of_getElem? hx);exact .int _ _
   .obtain⟨o,o',g1,g2,g3⟩:=hw.heap b c cZ;have:=hw.lt cZ;exact⟨o,o',by rw[acb _ _ _ this.1];exact g1,by rw[acb _ _ _ this.2];exact g2,g3.mono hle⟩
theorem KD {P0:Program}{c:Frame}(hA:P0=Tz.prog)(eh:dE P0 P0 okw)(hP:dE P0 Tryz.prog okw)(gY:∀f,okw.fn f=true->okw.bI f=true)(xH:jl P0 c)
  (fw:okw.bI 189=true/\okw.bI 160=true/\okw.fn 161=true){Inv:(Nat->Prop)->World->Prop}:oA Tryz.prog ok Inv Yu:=by
 subst hA;rintro f xs V ρ xs' W M ax gs r0 rest t q sl R-⟨rfl,b,off,n,cap,nb,no,nn,nc,mv,tb,toff,tc,o,rfl,hf,rfl⟩ IC hw ho hl;have hV:∀a,(re V W.tape W.drawn).cell? a=V.cell? a:=λ_=>rfl
 have hf0:=hf;replace hf:=hf.re W.tape W.drawn;obtain⟨x0,e0,NA⟩:=IC.get (i:=0) rfl;obtain⟨x1,e1,r1'⟩:=IC.get (i:=1) rfl;obtain⟨a0,rfl,s0⟩:=xe NA;obtain⟨a1,rfl,s1⟩:=xe r1';obtain⟨b',aW,sp⟩:=a0;obtain⟨U0,XS,sp'⟩:=a1;have q1:=s0.off;have q2:=s0.spot;have q3:=s1.off;have q4:=s1.spot;have hb:ρ b=some b':=s0.blk;have S5:ρ nb=some U0:=s1.blk;simp only at q1 q2 q3 q4;subst q1 q2 q3 q4;have hx:xs'=#[.slice (some ⟨b',aW,none⟩) n cap,.slice (some ⟨U0,XS,none⟩) nn nc]:=by
  have hz:=IC.size;refine Array.ext (by simpa using hz.symm) λi h1 h2=>?_
  have h2:i<2:=h2;match i with
  |0=>rw[acs h1]at e0;exact acr e0
  |1=>rw[acs h1]at e1;exact acr e1
 subst hx;have oa:∀i,i<nn->∃t',ρ (tb i)=some t'/\W.cell? ⟨U0,XS+i,none⟩=some (.slice (some ⟨t',toff i,none⟩) n (tc i)):=λi hi=>by
  obtain⟨v',h1,h2⟩:=hw.cell S5 (hf.gt i hi);obtain⟨a',rfl,r⟩:=xe h2;obtain⟨t',o',sp⟩:=a';have h3:=r.off;have h4:=r.spot;simp only at h3 h4;subst h3 h4;exact⟨t',r.blk,h1⟩
 let tb':Nat->Nat:=λi=>(ρ (tb i)).getD 0
 have Zp:∀i,i<nn->ρ (tb i)=some (tb' i):=λi hi=>by obtain⟨t',h1,_⟩:=oa i hi;simp[tb',h1]
 have hfd:=ZG (ok:=okw) (M:=M) (w:=W) (b:=b') (off:=aW) (n:=n) (cap:=cap) (nb:=U0) (no:=XS) (nn:=nn) (f:=mv) (tb:=tb') (toff:=toff) (tc:=tc) (o:=o) hf.moves (hw.XN hb hf.row) (hw.plain hb hf.plain) (ho _ _ hb) (ho _ _ S5)
  (λi hi=>by obtain⟨t',h1,h2⟩:=oa i hi;rw[Zp i hi]at h1;rw[h2,<-acr h1]) (λi hi=>ho _ _ (Zp i hi)) (λi hi=>hw.plain (Zp i hi) (hf.MY i hi)) hf.Yk (λi hi j hj=>hw.nz (Zp i hi) (hf.turn i hi j hj)) hf.lt hf.ne fw
 have No:Tryz.f139.body=some dK:=by unfold dK;kernel_rfl
 have hE:Frame.enter Tryz.prog 139 #[.slice (some ⟨b',aW,none⟩) n cap,.slice (some ⟨U0,XS,none⟩) nn nc] .normal=(base 139).at ⟨#[.slice (some ⟨b',aW,none⟩) n cap,.slice (some ⟨U0,XS,none⟩) nn nc,undef,undef,undef,undef,undef,undef,undef,undef,undef,undef,undef,undef,undef,undef,undef,undef,undef,undef,undef],[]⟩ [.code dK]:=
  (enter_at _ Tryz.func139 No).trans (by simp only[Tryz.ntmps139,List.size_toArray,List.length_cons,List.length_nil,Nat.reduceAdd,Nat.reduceSub,Array.replicate_succ,Array.replicate_zero,List.push_toArray,List.append_toArray,List.nil_append,List.cons_append])
 rw[hE]at hl;obtain⟨N,jw,w',jU,t',q',rP,M',x,g1,g2,g3,g4,g5⟩:=RZ (sl:=sl) eh hP gY xH hf.small hl hfd hw.gW;have hk:∀b d,ρ b=some d->w'.heap[d]?=W.heap[d]?:=λb d hb=>g3.keep.block d (ho b d hb)
 have iZ:=g3.keep.size;cases ha:x.a with
 |none=>
  have S3:x.n=0:=by
   rcases g4.row with h|⟨_,_,h,_⟩
   .exact h
   .rw[ha]at h;cases h
  have hxe:({x with a:=none}:aN)=x:=by rw[<-ha]
  refine⟨N,jw,w',jU,t',q',rP,M',x.val,ρ,x.val,V,g1,g2,Ren.le_refl _,?_,⟨λb d hb=>?_,rfl,rfl,hw.gV,acn hw.gW iZ⟩,λb d hb=>g3.own d (ho b d hb),⟨x,none,g5,by rw[ha],by rw[hxe],by rw[hxe];exact .inl ⟨ha,S3,rfl⟩⟩,g3.keep,g3.own,λb d hb=>.inl hb,λb _=>rfl⟩
  .rw[aN.val,ha];exact(ar.agg rfl λi x x' h h'=>by
    match i with
    |0=>simp at h h';subst h h';exact .bool _
    |1=>simp at h h';subst h h';exact .int _ _
    |2=>simp at h h';subst h h';exact .int _ _
    |3=>simp at h h';subst h h';exact .dg _ _
    |i+4=>simp at h)
  .obtain⟨o,o',i1,i2,i3⟩:=hw.heap b d hb;exact⟨o,o',i1,(hk b d hb).trans i2,i3⟩
 |some a=>
  obtain⟨j1,⟨j2,j3⟩,g_,e0,j40,j5⟩:=g4.blk a ha;obtain⟨j6,cs,j4,j7⟩:=g4.full a ha;rw[j4]at j40;simp only[Option.some.injEq,Obj.cells.injEq]at j40;obtain⟨y1,y2,_⟩:=j40;subst y1 y2;have hgV:Gl.n<=V:=hw.gV;have aI:∀b d,ρ b=some d->b≠V.heap.size/\d≠a.block:=λb d hb=>by
   have h1:b<V:=(hw.lt hb).1;have h2:=(hw.lt hb).2;omega
  have hga:Gl.n<=a.block:=acn hw.gW j3;have hle:ρ.le (ρ.ext V.heap.size a.block aI hgV hga):=λb d hb=>by show(if b=V.heap.size then some a.block else ρ b)=some d;rw[if_neg (aI b d hb).1];exact hb
  have aq:dX (V.alloc (.cells cs 3)) V.heap.size x.n x.g:=by
   rcases g4.row with h|⟨b1,o1,h,hr⟩
   .exact .inl h
   .rw[ha]at h;obtain rfl:=acr h;have j6':o1=0:=j6;subst j6';refine .inr ⟨_,_,rfl,λi hi=>?_⟩;have:=hr i hi;simp only[World.cell?,j4]at this;simp only[World.cell?,heap_alloc_new];exact this
  refine⟨N,jw,w',jU,t',q',rP,M',x.val,ρ.ext V.heap.size a.block aI hgV hga,aN.val {x with a:=some ⟨V.heap.size,0,none⟩},V.alloc (.cells cs 3),g1,g2,hle,?_,⟨λb d hb=>?_,rfl,rfl,?_,acn hw.gW iZ⟩,λb d hb=>?_,⟨x,some ⟨V.heap.size,0,none⟩,g5,by rw[ha];simp,rfl,.inr ⟨cs,rfl,rfl,j5,aq,g4.small,j7⟩⟩,g3.keep,g3.own,λb d hb=>?_,λb hr=>?_⟩
  .rw[aN.val,aN.val,ha];exact(ar.agg rfl λi x x' h h'=>by
    match i with
    |0=>simp at h h';subst h h';exact .bool _
    |1=>simp at h h';subst h h';exact .int _ _
    |2=>simp at h h';subst h h';exact .int _ _
    |3=>simp at h h';subst h h';exact .slice _ _ ⟨if_pos rfl,j6,j1⟩
    |i+4=>simp at h)
  .have cZ:(if b=V.heap.size then some a.block else ρ b)=some d:=hb;split at cZ
   .rename_i e1;obtain rfl:=acr cZ;rw[e1];refine⟨_,_,heap_alloc_new _ _,j4,.cells ⟨rfl,λi x x' hx dB=>?_⟩ (.inl rfl)⟩;rw[hx]at dB;obtain rfl:=acr dB;obtain⟨n,rfl⟩:=j5 x (Array.mem_of_getElem? hx);exact .int _ _
   .obtain⟨o,o',i1,i2,i3⟩:=hw.heap b d cZ;have h1:b<V:=(hw.lt cZ).1;exact⟨o,o',(acb _ _ _ h1).trans i1,(hk b d cZ).trans i2,i3.mono hle⟩
  .show Gl.n<=(V.alloc (.cells cs 3)).heap.size;simp;omega
  .have cZ:(if b=V.heap.size then some a.block else ρ b)=some d:=hb;split at cZ
   .obtain rfl:=acr cZ;exact j2
   .exact g3.own d (ho b d cZ)
  .have cZ:(if b=V.heap.size then some a.block else ρ b)=some d:=hb;split at cZ
   .obtain rfl:=acr cZ;exact .inr j3
   .exact .inl cZ
  .obtain⟨c,e,hr⟩:=hr;exact acb _ _ _ (acm.1 hr).1
end
end
section
open Conc
section
variable [Gl]{ok:Ctx}
def dt (f:FuncId)(xs:Array Value)(V:World)(R:Value->World->Prop):Prop:=Yu f xs V R\/ZM f xs V R
theorem Og:oB ok dt:=by
 rintro f xs V V' v ρ R (h|h)
 .exact R2 h
 .exact R3 h
theorem Of (h:oA Tryz.prog ok Hv Yu):oA Tryz.prog ok Hv dt:=by
 rintro f xs V ρ xs' W M ax gs r0 rest t q sl R hI (hd|hd)
 .exact h hI hd
 .exact KE hI hd
end
end
section
open RowKit
theorem vJ (g h:Nat->Int)(n:Nat):∀f k,k+f=n->decide (iX g h n n f k<0)=gr (iK g f k) (iK h f k)
 |0,k,_=>by simp[iX,iK,gr]
 |f+1,k,e=>by
  rw[iX,if_neg ab,iK,iK,gr];unfold jP;by_cases h1:g k=h k
  .rw[h1];simp only[Int.lt_irrefl,if_false,if_true];exact vJ g h n f (k+1) ab
  .rw[if_neg h1];by_cases h2:g k<h k
   .rw[if_pos h2];simp[h2]
   .have h3:h k<g k:=by omega
    rw[if_neg h2,if_pos h3];simp[h2]
def aN.key (x:aN):Option (List Int):=if x.ok=true then some (x.sum::x.most::iK x.g x.n 0)else none
def jm (n:Nat)(x:aN):Prop:=if x.ok=true then x.n=n else x.sum=0/\x.most=0/\x.n=0
theorem jm.len {n:Nat}{x:aN}(h:jm n x):∀l,x.key=some l->l.length=n+2:=by
 intro l hl;unfold aN.key at hl;unfold jm at h;split at hl
 .rename_i e;rw[if_pos e]at h;obtain rfl:=acr hl;simp[pz,h]
 .cases hl
theorem Ox (n:Nat):jm n dQ:=by simp[jm,dQ]
theorem Pe (a b c:Int):decide (G5 a b c<0)=if a=0 then(if b=0 then decide (c<0)else decide (b<0))else decide (a<0):=by
 unfold G5;split<;>(try split)<;>rfl
theorem Ic {a b:Int}:jP a b=0<->a=b:=by unfold jP;split<;>(try split)<;>omega
theorem Kz {a b:Int}:jP a b<0<->a<b:=by unfold jP;split<;>(try split)<;>omega
theorem yW {n:Nat}{x y:aN}(hx:jm n x)(hy:jm n y):qr x y=dH x.key y.key:=by
 unfold qr m9 aN.key;unfold jm at hx hy;cases h1:x.ok<;>cases h2:y.ok<;>simp only[h1,h2,if_true,if_false,Bool.false_eq_true,Bool.true_eq_false,dH]at hx hy⊢
 .rw[hx.1,hx.2.1,hx.2.2,hy.1,hy.2.1,hy.2.2];simp[G5,jP,iX]
 .simp
 .simp
 .rw[hx,hy,Pe,vJ _ _ _ n 0 ab,gr,gr];simp only[Ic,Kz]
theorem eR.BX {f:Nat->Mv}{n:Nat}{o:Nat->Nat}{x:aN}(h:eR f n o x):jm n x:=by
 unfold eR at h;unfold jm;split at h
 .rw[if_pos h.1];exact h.2.2.2.1
 .rw[if_neg (by rw[h.1];simp)];exact⟨h.2.1,h.2.2.1,h.2.2.2.1⟩
theorem eR.key {f:Nat->Mv}{n:Nat}{o:Nat->Nat}{x:aN}(h:eR f n o x):x.key=(d9 f o n).map (fQ f n):=by
 unfold eR at h;unfold aN.key;split at h
 .rename_i T e;rw[if_pos h.1,h.2.1,h.2.2.1,h.2.2.2.1,wU n 0 (λi _ hi=>h.2.2.2.2.2.1 i ab),e];rfl
 .rename_i e;rw[if_neg (by rw[h.1];simp),e];rfl
structure Gp (J:Jb)(n:Nat)(seq:List Nat)(x:aN):Prop where
 is:x=dQ\/∃i∈seq,J.Is i x
 all:∀i∈seq,∃y,J.Is i y/\dH y.key x.key=false
section
variable {J:Jb}{f:Nat->Mv}{n:Nat}{o:Nat->Nat->Nat}(aI:J.lt=qr)(JL:J.Is=λi x=>eR f n (o i) x)
include aI JL
theorem Gp.BX {seq:List Nat}{x:aN}(h:Gp J n seq x):jm n x:=by
 rcases h.is with rfl|⟨i,_,hi⟩
 .exact Ox n
 .rw[JL]at hi;exact eR.BX hi
theorem xW {seq:List Nat}{x:aN}(h:vn J seq x):Gp J n seq x:=by
 induction h with
 |nil=>exact⟨.inl rfl,λi hi=>by simp at hi⟩
 |@snoc seq i x y hb hi ih=>
  have gx:=ih.BX aI JL;have gy:jm n y:=by rw[JL]at hi;exact eR.BX hi
  have hk:J.lt y x=dH y.key x.key:=by rw[aI];exact yW gy gx
  unfold Jb.pick;rw[hk];by_cases hp:dH y.key x.key=true
  .rw[if_pos hp];refine⟨.inr ⟨i,aH,hi⟩,λk hk=>?_⟩;rcases acN.1 hk with hk|hk
   .obtain⟨z,hz,JV⟩:=ih.all k hk;have gz:jm n z:=by rw[JL]at hz;exact eR.BX hz
    exact⟨z,hz,IV gx.len gy.len JV hp gz.len⟩
   .simp at hk;subst hk;exact⟨y,hi,eP _⟩
  .rw[if_neg hp];refine⟨?_,λk hk=>?_⟩
   .rcases ih.is with e|⟨k,hk,e⟩
    .exact .inl e
    .exact .inr ⟨k,by simp[hk],e⟩
   .rcases acN.1 hk with hk|hk
    .exact ih.all k hk
    .simp at hk;subst hk;exact⟨y,hi,by simpa using hp⟩
theorem qZ:∀(xs:List aN) (x:aN),jm n x->(∀y∈xs,jm n y)->jm n (xs.foldl J.pick x)/\(xs.foldl J.pick x=x\/xs.foldl J.pick x∈xs)/\dH x.key (xs.foldl J.pick x).key=false/\∀y∈xs,dH y.key (xs.foldl J.pick x).key=false
 |[],x,gx,_=>⟨gx,.inl rfl,eP _,λy hy=>by simp at hy⟩
 |y::xs,x,gx,h=>by
  have gy:=h y aH;have hk:J.lt y x=dH y.key x.key:=by rw[aI];exact yW gy gx
  rw[List.foldl_cons];by_cases hp:dH y.key x.key=true
  .have e:J.pick x y=y:=by unfold Jb.pick;rw[hk,if_pos hp]
   rw[e];obtain⟨a,b,c,d⟩:=qZ xs y gy λz hz=>h z (by simp[hz])
   refine⟨a,b.elim (λe=>.inr (by simp[e])) (λe=>.inr (by simp[e])),?_,λz hz=>?_⟩
   .cases hx:dH x.key (xs.foldl J.pick y).key with
    |false=>rfl
    |true=>rw[pv hp hx]at c;cases c
   .rcases List.mem_cons.1 hz with rfl|hz
    .exact c
    .exact d z hz
  .have e:J.pick x y=x:=by unfold Jb.pick;rw[hk,if_neg hp]
   rw[e];obtain⟨a,b,c,d⟩:=qZ xs x gx λz hz=>h z (by simp[hz])
   refine⟨a,b.elim .inl (λe=>.inr (by simp[e])),c,λz hz=>?_⟩;rcases List.mem_cons.1 hz with rfl|hz
   .exact nH gy.len gx.len a.len (by simpa using hp) c
   .exact d z hz
end
theorem Hy {f:Nat->Mv}{n nn:Nat}{o:Nat->Nat->Nat}{x:aN}(h:Yt qr (λi x=>eR f n (o i) x) nn x):
  (x=dQ\/∃k,k<nn/\eR f n (o k) x)/\∀k,k<nn->dH ((d9 f (o k) n).map (fQ f n)) x.key=false:=by
 obtain⟨J,xs,seq,aI,JL,h4,hB,cP,wc,rfl⟩:=h;have hL:∀i y,xs[i]?=some y->Gp J n (seq i) y:=λi y hy=>xW aI JL (hB i y hy)
 have hg:∀y∈xs,jm n y:=λy hy=>by
  obtain⟨i,hi⟩:=List.getElem?_of_mem hy;exact(hL i y hi).BX aI JL
 match xs,h4,hL,hg with
 |x::r,h4,hL,hg=>
  obtain⟨a,b,c,d⟩:=qZ aI JL r x (hg x aH) λy hy=>hg y (by simp[hy])
  have hle:∀y∈x::r,dH y.key (r.foldl J.pick x).key=false:=λy hy=>by
   rcases List.mem_cons.1 hy with rfl|hy
   .exact c
   .exact d y hy
  have qP:r.foldl J.pick x∈x::r:=b.elim (λe=>by rw[e];simp) (λe=>by simp[e]);refine⟨?_,λk hk=>?_⟩
  .obtain⟨i,hi⟩:=List.getElem?_of_mem qP;have hi4:i<4:=by have:=(acv.1 hi).1;omega
   rcases(hL i _ hi).is with e|⟨k,hk,e⟩
   .exact .inl e
   .rw[JL]at e;exact .inr ⟨k,wc i hi4 k hk,e⟩
  .obtain⟨i,hi,hm⟩:=cP k hk;obtain⟨y,hy⟩:∃y,(x::r)[i]?=some y:=⟨_,acH ab⟩;have hyL:=hL i y hy;obtain⟨z,hz,JV⟩:=hyL.all k hm;rw[JL]at hz;rw[<-eR.key hz];exact nH (eR.BX hz).len (hyL.BX aI JL).len a.len JV (hle y (List.mem_of_getElem? hy))
theorem Kd {f:Nat->Mv}{n:Nat}{L:List (List Nat)}{x:aN}(h:Yt qr (λi x=>eR f n (pl (L.getD i [])) x) L.length x):
  match fe f n L with
  |some T=>x.ok=true/\x.n=n/\x.cap=n/\x.a≠none/\∀i,i<n->x.g i=T i
  |none=>x.ok=false/\x.n=0/\x.cap=0/\x.a=none:=by
 obtain⟨h1,h2⟩:=Hy (o:=λi=>pl (L.getD i [])) h;obtain⟨k1,_,k3⟩:=vy f n L none;change (fe f n L=none\/∃l∈L,fe f n L=d9 f (pl l) n)at k1;change ∀l∈L,dH _ ((fe f n L).map (fQ f n))=false at k3;have hG:∀k,k<L.length->L.getD k []∈L:=λk hk=>by simp[hk]
 have hI:∀l∈L,∃k,k<L.length/\L.getD k []=l:=λl hl=>by
  obtain⟨k,hk⟩:=List.getElem?_of_mem hl;exact⟨k,(acv.1 hk).1,by simp[List.getD,hk]⟩
 have lp:x.ok=false->x.n=0/\x.cap=0/\x.a=none/\x.key=none:=λe=>by
  refine and_assoc.1 (and_assoc.1 ⟨?_,by simp[aN.key,e]⟩)|>λh=>h
  rcases h1 with rfl|⟨k,hk,h1⟩
  .exact⟨⟨rfl,rfl⟩,rfl⟩
  .unfold eR at h1;split at h1
   .rw[h1.1]at e;cases e
   .exact⟨⟨h1.2.2.2.1,h1.2.2.2.2.1⟩,h1.2.2.2.2.2⟩
 cases hb:fe f n L with
 |none=>
  cases hx:x.ok with
  |false=>obtain⟨a,b,c,d⟩:=lp hx;exact⟨rfl,a,b,c⟩
  |true=>
   exfalso;rcases h1 with rfl|⟨k,hk,h1⟩
   .simp[dQ]at hx
   .have:=k3 _ (hG k hk);rw[hb]at this;unfold eR at h1;split at h1
    .rename_i T e;try dsimp only at e
     rw[e]at this;simp[dH]at this
    .rw[h1.1]at hx;cases hx
 |some T=>
  rw[hb]at k1 k3;obtain⟨l,hl,e⟩:=k1.resolve_left aH;obtain⟨k,hk,e2⟩:=hI l hl;have h3:=h2 k hk;try dsimp only at h3
  rw[e2,<-e]at h3;cases hx:x.ok with
  |false=>rw[(lp hx).2.2.2]at h3;simp[dH]at h3
  |true=>
   rcases h1 with rfl|⟨q,hq,h1⟩
   .simp[dQ]at hx
   .have OL:=eR.key h1;have h4:=k3 _ (hG q hq);rw[<-OL]at h4;unfold eR at h1;split at h1
    .rename_i S e3;try dsimp only at e3
     try dsimp only at OL
     rw[e3]at OL;rw[OL]at h3 h4;have:=wy (by rw[pi,pi]) h3 h4;unfold fQ at this;simp only[List.cons.injEq]at this;have hi:=Df n 0 this.2.2;exact⟨rfl,h1.2.2.2.1,h1.2.2.2.2.1,h1.2.2.2.2.2.2,λi ox=>(h1.2.2.2.2.2.1 i ox).trans (hi i ab ab).symm⟩
    .rw[h1.1]at hx;cases hx
end
