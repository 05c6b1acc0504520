import Derived.Test.YtlmcblcijndipaaGreatDoora19
import Derived.Test.YtlmcblcijndipaaGreatDoora20
import Derived.Test.YtlmcblcijndipaaGreatDoora18
import Derived.Test.YtlmcblcijndipaaGreatDoora22
import Derived.Test.YtlmcblcijndipaaGreatDoora21
set_option linter.unusedVariables false
set_option linter.defProp false
set_option maxHeartbeats 2000000
namespace Go.Proofs.YtlmcblcijndipaaGreatDoor
open Conc RowKit
variable {ok:Ctx}{b b' j n nb nn no off:Nat}{f:Nat->Mv}{tb tc toff:Nat->Nat}{o:Nat->Nat->Nat}{V:World}
def fo (f:Nat->Mv)(n:Nat)(o:Nat->Nat)(x:aJ):Prop:=
 match er f o n with
 |some T=>x.ok=true/\x.sum=sumTo f T n/\x.most=dc f T n/\x.n=n/\x.cap=n/\(∀i,i<n->x.g i=T i)/\x.a≠none
 |none=>x.ok=false/\x.sum=0/\x.most=0/\x.n=0/\x.cap=0/\x.a=none
def JQ {o:Nat->Nat}{T:Nat->Int}(hm:aE f n=true)(ho:∀i,i<n->o i<n)(hd:∀j k,j<k->k<n->o j≠o k)(h:er f o n=some T):iC f T n:=iC.fits hm (tO hm ho hd h).fit
def CY (b off n cap:Nat)(f:Nat->Mv)(b' ce cap':Nat)(o:Nat->Nat)(w:World)(hm:aE f n=true)(ho:∀i,i<n->o i<n)(hd:∀j k,j<k->k<n->o j≠o k)(vy:n<=cap')(bH:b<w)(aq:aI w b off n f)(bI:b'<w)(aU:aA w b' ce n (λi=>(o i:Int))):
  Calls Tz.prog 189 #[.slice (some ⟨b,off,none⟩) n cap,.slice (some ⟨b',ce,none⟩) n cap'] w λe w'=>∃x:aJ,e=.returned x.val/\fo f n o x/\(∀a,x.a=some a->∃B,a=⟨B,0,none⟩/\w.heap.size<=B/\aC w' B n x.g)/\Below w w w':=by
 have h6:=bZ hm;have HC:=BJ b off n cap f b' ce cap' o (w.alloc<|.cells #[false,(0:Int),(0:Int),()] 177) hm ho vy cU (aq.below ((acW _ w).alloc (ac5 _) _) bH) cU<|aU.below ((acW _ w).alloc (ac5 _) _) bI;go_enter Tz.func189,Tryz.ntmps189
 cases hE:er f o n with
 |none=>
  rw[hE]at HC;go_wp2_with(go_at_call 231;refine HC.mono ?_;clear HC;rintro e w1 ⟨rfl,bP⟩;have jb:=(bP.block w.heap.size aF).trans<|heap_alloc_new _ _;have s0:w1.cell? ⟨w.heap.size,0,none⟩=some (.bool false):=(by simp[World.cell?,jb]);have s1:w1.cell? ⟨w.heap.size,1,none⟩=some (.int .i64 0):=(by simp[World.cell?,jb]);have s2:w1.cell? ⟨w.heap.size,2,none⟩=some (.int .i64 0):=(by simp[World.cell?,jb]);have s3:w1.cell? ⟨w.heap.size,3,none⟩=some (.slice none 0 0):=(by simp[World.cell?,jb]);have sf:∀j,w1.frozen? ⟨w.heap.size,j,none⟩=false:=(λj=>by simp[World.frozen?,jb]);have nQ:=((acW w.heap.size w).alloc (ac5 _)<|.cells #[.bool false,(0:Int),(0:Int),.slice none 0 0] 177).trans<|bP.mono aF)
  rw[te jb];have WO:=setRow_heap w1 w.heap.size _ #[false,(0:Int),(0:Int),()] _ _ jb;have ix:=below_setRow nQ (ac5 _) #[false,(0:Int),(0:Int),()];generalize w1.setRow w.heap.size #[.bool false,(0:Int),(0:Int),.slice none 0 0]=W5 at WO ix⊢;have q0:W5.cell? w.heap.size=some (.bool false):=vp;have q1:W5.cell? ⟨w.heap.size,1,none⟩=some (.int .i64 0):=vp;have q2:W5.cell? ⟨w.heap.size,2,none⟩=some (.int .i64 0):=vp;have q3:W5.cell? ⟨w.heap.size,3,none⟩=some (.slice none 0 0):=vp;refine bodyPost_ret (v:=d7.val) ?_ rfl ⟨d7,rfl,by simp[fo,hE,d7],λa ha=>by simp[d7]at ha,ix⟩;simp[results,Tryz.f189,go_sem,aJ.val,d7,q0,q1,q2,q3]
 |some T=>
  rw[hE]at HC;have Lh:iC f T n:=JQ hm ho hd hE;have sT:=(Lh.sum n<|ac5 _);go_wp2_with(first|(go_at_call 231;refine HC.mono ?_;clear HC;rintro e w1 ⟨⟨B,mF,rfl,bc⟩,bP⟩;have V9:=bc.lt;have HL:=Cj b off n cap f B 0 n n T w1 h6 (ac5 _) (ac6 bH (by have:=bP.size;simp at this;omega)) (aq.below (((acW w.heap.size w).alloc (ac5 _)<|.cells #[.bool false,(0:Int),(0:Int),.slice none 0 0] 177).trans<|bP.mono aF) bH) V9 (λi hi=>by have:=bc.2 i hi;simpa using this) Lh)|(go_at_call 150;refine HL.mono ?_;clear HL;rintro e w2 ⟨rfl,cP⟩;have rl:=(bP.trans<|cP.mono bP.size);have jb:=(rl.block w.heap.size aF).trans<|heap_alloc_new _ _;have s0:w2.cell? ⟨w.heap.size,0,none⟩=some (.bool false):=(by simp[World.cell?,jb]);have s1:w2.cell? ⟨w.heap.size,1,none⟩=some (.int .i64 0):=(by simp[World.cell?,jb]);have s2:w2.cell? ⟨w.heap.size,2,none⟩=some (.int .i64 0):=(by simp[World.cell?,jb]);have s3:w2.cell? ⟨w.heap.size,3,none⟩=some (.slice none 0 0):=(by simp[World.cell?,jb]);have sf:∀j,w2.frozen? ⟨w.heap.size,j,none⟩=false:=(λj=>by simp[World.frozen?,jb])))
  rw[te jb];have hBs:B≠w.heap.size:=by simp at mF;omega
  have WO:=setRow_heap w2 w.heap.size _ #[true,.int .i64<|sumTo f T n,.int .i64<|dc f T n,.slice B n n] _ _ jb;have ix:=below_setRow (((acW w.heap.size w).alloc (ac5 _)<|.cells #[false,(0:Int),(0:Int),()] 177).trans<|rl.mono aF) (ac5 _) #[true,.int .i64<|sumTo f T n,.int .i64<|dc f T n,.slice B n n];have IL:(w2.setRow w.heap.size #[true,.int .i64<|sumTo f T n,.int .i64<|dc f T n,.slice B n n]).heap[B]?=w2.heap[B]?:=setRow_other _ _ _ _ hBs;have IM:=bc.below cP V9;generalize w2.setRow w.heap.size #[.bool true,.int .i64<|sumTo f T n,.int .i64<|dc f T n,.slice (some ⟨B,0,none⟩) n n]=W5 at WO ix IL⊢;have Y2:aC W5 B n T:=by
   let⟨⟨cs,g1,g2⟩,g3⟩:=IM;exact⟨⟨cs,IL.trans g1,g2⟩,λi hi=>by rw[<-g3 i hi];simp only[World.cell?,IL]⟩
  have q0:W5.cell? w.heap.size=some (.bool true):=vp;have q1:W5.cell? ⟨w.heap.size,1,none⟩=some (.int .i64<|sumTo f T n):=vp;have q2:W5.cell? ⟨w.heap.size,2,none⟩=some (.int .i64<|dc f T n):=vp;have q3:W5.cell? ⟨w.heap.size,3,none⟩=some (.slice B n n):=vp;refine bodyPost_ret (v:=aJ.val ⟨true,sumTo f T n,dc f T n,some ⟨B,0,none⟩,n,n,T⟩) ?_ rfl ⟨⟨true,sumTo f T n,dc f T n,some ⟨B,0,none⟩,n,n,T⟩,rfl,by simp[fo,hE],λa ha=>⟨B,(adb ha).symm,by simp at mF;omega,Y2⟩,ix⟩;simp[results,Tryz.f189,go_sem,aJ.val,q0,q1,q2,q3]
def qP (y x:aJ):Bool:=decide (nL y x<0)
def Ao:∀(xs:List aJ) (i:Nat) (y:aJ) (o:Nat),xs[i]?=some y->o<4->(xs.flatMap aJ.cells)[i*4+o]?=y.cells[o]?
 |[],i,y,o,h,_=>by simp at h
 |x::xs,0,y,o,h,ho=>by
  simp only[List.getElem?_cons_zero,Option.some.injEq]at h;subst h;rw[List.flatMap_cons,Nat.zero_mul,Nat.zero_add,adh (by simp[aJ.cells];exact ho)]
 |x::xs,i+1,y,o,h,ho=>by
  simp only[List.getElem?_cons_succ]at h;have hl:x.cells.length=4:=rfl;rw[List.flatMap_cons,adi (by rw[hl];omega),hl,show(i+1)*4+o-4=i*4+o by omega];exact Ao xs i y o h ho
def EP {xs:List aJ}{T:TypeId}{z:Nat×Nat}(h:V.heap[b]?=some (.cells (xs.flatMap aJ.cells).toArray T z))(hx:∀x∈xs,ep V x.a x.n x.g/\x.n<=1048576):FT V b 0 xs.length (λi=>xs.getD i d7):=by
 intro i hi;have hg:xs[i]?=some (xs.getD i d7):=by simp[hi]
 have hm:xs.getD i d7∈xs:=List.mem_of_getElem? hg;have hc:∀o,o<4->V.cell? ⟨b,0+i*4+o,none⟩=(xs.getD i d7).cells[o]?:=λo ho=>by
  rw[<-Ao xs i _ o hg ho];simp[World.cell?,h]
 show RQ V b (0+i*4) (xs.getD i d7);generalize xs.getD i d7=y at hm hc;exact⟨hc 0 aa,hc 1 aa,hc 2 aa,hc 3 aa,(hx y hm).1,(hx y hm).2⟩
def Ff (J:Jb)(hJ:J.lt=qP)(xs:List aJ):∀k,k<=xs.length->cR (λi=>xs.getD i d7) k=J.cZ (xs.take k):=by
 intro k;induction k with
 |zero=>intro _;rfl
 |succ k ih=>
  intro hk;have aB:k<xs.length:=aa;simp only[cR,ih aa];rw[List.take_succ_eq_append_getElem aB];have hg:xs.getD k d7=xs[k]:=by simp[aB]
  rw[hg];cases k with
  |zero=>simp[Jb.cZ]
  |succ k=>
   cases xs with
   |nil=>simp at aB
   |cons x xs=>
    simp only[List.take_succ_cons,List.cons_append,Jb.cZ,List.foldl_append,List.foldl_cons,List.foldl_nil,Jb.pick,hJ,qP];simp
def GW (J:Jb)(hJ:J.lt=qP)(V:World)(b:Nat)(xs:List aJ)(z:Nat×Nat)(hl:xs.length<=1048576)(h:V.heap[b]?=some (.cells (xs.flatMap aJ.cells).toArray 177 z))(hx:∀x∈xs,ep V x.a x.n x.g/\x.n<=1048576):
  Calls Tz.prog 160 #[.slice b xs.length xs.length,.func (.func 161) #[] #[]] V λe w'=>e=.returned (J.cZ xs).val/\Below V V w':=by
 have hb:b<V:=(ac7.1 h).1;refine(Ef b 0 xs.length xs.length (λi=>xs.getD i d7) V hl hb<|EP h hx).mono ?_;rintro e w' ⟨rfl,h2⟩;rw[Ff J hJ xs _ (ac5 _),List.take_length];exact⟨rfl,h2⟩
section
variable [Gl]
def aab {M:Nat->Prop}{w:World}{cap:Nat}(hm:aE f n=true)
  (aq:aI w b off n f)(hpb:cg w b)(mb:M b)(U4:M nb)(oJ:∀i,i<nn->w.cell? ⟨nb,no+i,none⟩=some (.slice (some ⟨tb i,toff i,none⟩) n<|tc i))
  (mtb:∀i,i<nn->M (tb i))(sN:∀i,i<nn->cg w (tb i))(htc:∀i,i<nn->n<=tc i)(hti:∀i,i<nn->aA w (tb i) (toff i) n (λj=>(o i j:Int)))(ho:∀i,i<nn->∀j,j<n->o i j<n)(hd:∀i,i<nn->∀j k,j<k->k<n->o i j≠o i k)
  (ez:ok.bh 189=true/\ok.bh 160=true/\ok.fn 161=true):
  Ju Tz.prog ok M w (some ⟨b,off,none⟩) n cap nb no nn (λi=>.slice (some ⟨tb i,toff i,none⟩) n<|tc i) (λi x=>i<nn/\(x=b\/x=tb i)) (λi x=>fo f n (o i) x) qP:=by
 have n6:=bZ hm;have pH:∀{S:Nat->Prop} {ah:World} {x:Nat},cg w x->ah.heap[x]?=w.heap[x]?->∃cs e,ah.heap[x]?=some (.cells cs e (0,0))/\∀v∈cs,ar ok (rG S) v v:=by
  rintro S ah x ⟨cs,e,h1,h2⟩ hk;refine⟨cs,e,hk.trans h1,λv hv=>?_⟩;rcases h2 v hv with⟨x,rfl⟩|⟨k,x,rfl⟩|⟨s,rfl⟩
  .exact .bool _
  .exact .int _ _
  .exact .string _
 refine⟨U4,oJ,λi x hx=>?_,λi hi ah k=>⟨λx hx=>?_⟩,λi hi=>.slice _ _ ⟨fP.2 ⟨⟨hi,.inl rfl⟩,rfl⟩,rfl,rfl⟩,λi hi=>.slice _ _ ⟨fP.2 ⟨⟨hi,.inr rfl⟩,rfl⟩,rfl,rfl⟩,λi hi F ah k τ d=>?_,?_,λV b xs z h1 h2 h3=>GW _ rfl V b xs z h1 h2 h3,ez⟩
 .obtain⟨hi,rfl|rfl⟩:=hx
  .exact mb
  .exact mtb i hi
 .have hk:=k.block x<|.inr ⟨i,hx⟩;obtain⟨_,rfl|rfl⟩:=hx
  .exact pH hpb hk
  .exact pH (sN i hi) hk
 .have kb:=k.block b<|.inr ⟨i,hi,.inl rfl⟩;have kt:=k.block (tb i)<|.inr ⟨i,hi,.inr rfl⟩;have cb:∀j,(re (fw F ah) τ d).cell? ⟨b,j,none⟩=w.cell? ⟨b,j,none⟩:=λj=>(rk F ah _).trans (by simp only[World.cell?,kb])
  have ct:∀j,(re (fw F ah) τ d).cell? ⟨tb i,j,none⟩=w.cell? ⟨tb i,j,none⟩:=λj=>(rk F ah _).trans<|by simp only[World.cell?,kt]
  have hz:(re (fw F ah) τ d).heap.size=ah.heap.size:=jq F ah;have SM:∀x,cg w x->x<ah:=λx hx=>by let⟨cs,e,h1,_⟩:=hx;exact ac6 (ac7.1 h1).1 k.size
  have hr:aI (re (fw F ah) τ d) b off n f:=λj hj=>by
   let⟨c0,c1,c2,c3,c4,c5⟩:=aq j hj;exact⟨(cb _).trans c0,(cb _).trans c1,(cb _).trans c2,(cb _).trans c3,(cb _).trans c4,(cb _).trans c5⟩
  refine(CY b off n cap f (tb i) (toff i) (tc i) (o i) _ hm (ho i hi) (hd i hi) (htc i hi) (by rw[hz];exact SM b hpb) hr (by rw[hz];exact SM _<|sN i hi) λj hj=>(ct _).trans<|hti i hi j hj).mono ?_;rintro e w' ⟨x,rfl,h1,h2,h3⟩;refine⟨x,rfl,h1,?_,?_,λa ha=>?_,λa ha=>?_⟩
  .unfold fo at h1;cases ha:x.a with
   |none=>
    split at h1
    .exact absurd ha h1.2.2.2.2.2.2
    .exact .inl h1.2.2.2.1
   |some a=>
    obtain⟨B,rfl,_,hO⟩:=h2 a ha;split at h1
    .refine .inr ⟨B,0,rfl,?_⟩;rw[h1.2.2.2.1];exact hO.2
    .rw[h1.2.2.2.2.2]at ha;cases ha
  .unfold fo at h1;split at h1
   .rw[h1.2.2.2.1];omega
   .rw[h1.2.2.2.1];omega
  .obtain⟨B,rfl,hB,⟨cs,g1,g2⟩,g3⟩:=h2 a ha;refine⟨rfl,by rw[<-hz];exact hB,cs,_,g1,λv hv=>?_⟩;obtain⟨j,hj,rfl⟩:=Array.mem_iff_getElem.1 hv;have:=g3 j aa;simp only[World.cell?,g1,Nat.zero_add]at this;rw[adc hj]at this;exact⟨_,adb this⟩
  .obtain⟨B,rfl,hB,⟨cs,g1,g2⟩,g3⟩:=h2 a ha;refine⟨rfl,cs,g1,?_⟩;unfold fo at h1;split at h1
   .rw[g2,h1.2.2.2.1]
   .rw[h1.2.2.2.2.2]at ha;cases ha
 .intro i x a' h1 h2;unfold fo at h1⊢;split at h1
  .refine⟨h1.1,h1.2.1,h1.2.2.1,h1.2.2.2.1,h1.2.2.2.2.1,h1.2.2.2.2.2.1,λe=>h1.2.2.2.2.2.2<|h2.2 e⟩
  .exact⟨h1.1,h1.2.1,h1.2.2.1,h1.2.2.2.1,h1.2.2.2.2.1,h2.1 h1.2.2.2.2.2⟩
end
structure Xh (V:World)(b off n nb no nn:Nat)(f:Nat->Mv)(tb toff tc:Nat->Nat)(o:Nat->Nat->Nat):Prop where
 moves:aE f n=true
 row:aI V b off n f
 plain:cg V b
 gP:∀i,i<nn->V.cell? ⟨nb,no+i,none⟩=some (.slice (some ⟨tb i,toff i,none⟩) n<|tc i)
 OJ:∀i,i<nn->cg V (tb i)
 h_:∀i,i<nn->n<=tc i
 turn:∀i,i<nn->aA V (tb i) (toff i) n (λj=>(o i j:Int))
 lt:∀i,i<nn->∀j,j<n->o i j<n
 ne:∀i,i<nn->∀j k,j<k->k<n->o i j≠o i k
 small:nn+4<4611686018427387904
 some_:0<nn
def Xh.re (h:Xh V b off n nb no nn f tb toff tc o)(τ:Nat->Question->Nat)(d:Nat):Xh (re V τ d) b off n nb no nn f tb toff tc o:=
 ⟨h.moves,λi hi=>by let⟨c0,c1,c2,c3,c4,c5⟩:=h.row i hi;exact⟨c0,c1,c2,c3,c4,c5⟩,h.plain,h.gP,h.OJ,h.h_,λi hi j hj=>h.turn i hi j hj,h.lt,h.ne,h.small,h.some_⟩
def Ly (V:World)(x:aJ)(V':World):Prop:=
 (x.a=none/\x.n=0/\V'=V)\/∃cs,x.a=some ⟨V.heap.size,0,none⟩/\V'=V.alloc (.cells cs 3)/\(∀v∈cs,∃n:Int,v=.int .i64 n)/\ep V' x.a x.n x.g/\x.n<=1048576/\cs.size=x.n
def s_ (f:FuncId)(xs:Array Value)(V:World)(R:Value->World->Prop):Prop:=
 f=139/\∃b off n cap nb no nn nc mv tb toff tc o,xs=#[.slice (some ⟨b,off,none⟩) n cap,.slice (some ⟨nb,no,none⟩) nn nc]/\Xh V b off n nb no nn mv tb toff tc o/\
  R=λv V'=>∃(x:aJ) (aL:Option Addr),r_ qP (λi x=>fo mv n (o i) x) nn x/\(x.a=none<->aL=none)/\v=aJ.val {x with a:=aL}/\Ly V {x with a:=aL} V'
section
variable [Gl]{okw:Ctx}{ρ:Ren}{W:World}
def bO.cell (hw:bO ok true ρ V W)(hb:ρ b=some b'){v:Value}(hv:V.cell? ⟨b,j,none⟩=some v):∃v',W.cell? ⟨b',j,none⟩=some v'/\ar ok ρ v v':=by
 let⟨o,o',h1,h2,h3⟩:=hw.heap b b' hb;simp only[World.cell?,h1,h2]at hv⊢;cases h3 with
 |cells hc _=>
  let⟨v',e,r⟩:=hc.get hv;exact⟨v',e,r⟩
 |_=>simp at hv
def bO.nW (hw:bO ok true ρ V W)(hb:ρ b=some b'){k:IntKind}{n:Int}(hv:V.cell? ⟨b,j,none⟩=some (.int k n)):W.cell? ⟨b',j,none⟩=some (.int k n):=by
 let⟨v',e,r⟩:=hw.cell hb hv;cases r;exact e
def bO.mV (hw:bO ok true ρ V W)(hb:ρ b=some b'){n:Bool}(hv:V.cell? ⟨b,j,none⟩=some (.bool n)):W.cell? ⟨b',j,none⟩=some (.bool n):=by
 let⟨v',e,r⟩:=hw.cell hb hv;cases r;exact e
def bO.qv (hw:bO ok true ρ V W)(hb:ρ b=some b'){n:ByteArray}(hv:V.cell? ⟨b,j,none⟩=some (.string n)):W.cell? ⟨b',j,none⟩=some (.string n):=by
 let⟨v',e,r⟩:=hw.cell hb hv;cases r;exact e
def bO.plain (hw:bO ok true ρ V W)(hb:ρ b=some b')(hp:cg V b):cg W b':=by
 let⟨cs,e,h1,h2⟩:=hp;let⟨o,o',g1,g2,g3⟩:=hw.heap b b' hb;rw[h1]at g1;obtain rfl:=adb g1;cases g3 with
 |@cells _ c' _ _ z' hc hz=>
  replace hz:=hz.resolve_right (λh=>by have:=congrArg Prod.snd h.2.1;have h0:=h.2.2;simp at this;omega);refine⟨c',e,by rw[g2,hz];rfl,λv hv=>?_⟩;obtain⟨i,hi,rfl⟩:=Array.mem_iff_getElem.1 hv;have oH:i<cs.size:=by rw[hc.size];exact hi
  have hr:=hc.at_ i cs[i] c'[i] (adc oH)<|adc hi;generalize c'[i]=u at hr;rcases h2 cs[i] (Array.getElem_mem oH)with⟨x,e⟩|⟨k,x,e⟩|⟨s,e⟩
  .rw[e]at hr;cases hr;exact .inl ⟨_,rfl⟩
  .rw[e]at hr;cases hr;exact .inr<|.inl ⟨_,_,rfl⟩
  .rw[e]at hr;cases hr;exact .inr<|.inr ⟨_,rfl⟩
def bO.ZG (hw:bO ok true ρ V W)(hb:ρ b=some b')(hr:aI V b off n f):aI W b' off n f:=by
 intro j hj;let⟨c0,c1,c2,c3,c4,c5⟩:=hr j hj;exact⟨by first|exact hw.qv hb c0|exact hw.nW hb c0|exact hw.mV hb c0,by first|exact hw.qv hb c1|exact hw.nW hb c1|exact hw.mV hb c1,by first|exact hw.qv hb c2|exact hw.nW hb c2|exact hw.mV hb c2,by first|exact hw.qv hb c3|exact hw.nW hb c3|exact hw.mV hb c3,by first|exact hw.qv hb c4|exact hw.nW hb c4|exact hw.mV hb c4,by first|exact hw.qv hb c5|exact hw.nW hb c5|exact hw.mV hb c5⟩
def yD {a:Addr}{c:Nat}{v':Value}(h:ar ok ρ (.slice (some a) n c) v'):∃a',v'=.slice (some a') n c/\dI ρ a a':=by
 cases h with
 |slice _ _ r=>exact⟨_,rfl,r⟩
def TS:pm ok s_:=by
 rintro f xs V V' v ρ R ⟨rfl,b,off,n,cap,nb,no,nn,nc,mv,tb,toff,tc,o,rfl,hf,rfl⟩ ⟨abG,aL,_,_,rfl,fu⟩ _ hw;generalize ({abG with a:=aL}:aJ)=x at fu⊢;rcases fu with⟨h1,_,rfl⟩|⟨cs,h1,rfl,h3,_,_⟩
 .refine⟨ρ,Ren.le_refl _,?_,hw⟩;rw[aJ.val,h1];exact(ar.agg rfl λi x x' h h'=>by
   match i with
   |0=>simp at h h';subst h h';exact .bool _
   |1=>simp at h h';subst h h';exact .int _ _
   |2=>simp at h h';subst h h';exact .int _ _
   |3=>simp at h h';subst h h';exact .dH _ _
   |i+4=>simp at h)
 .have aB:∀b c,ρ b=some c->b≠V.heap.size/\c≠V.heap.size:=λb c hb=>by have:=hw.lt hb;omega
  refine⟨ρ.ext V.heap.size V.heap.size aB hw.gV hw.gV,λb c hb=>?_,?_,?_⟩
  .show(if b=V.heap.size then some V.heap.size else ρ b)=some c;rw[if_neg (aB b c hb).1];exact hb
  .rw[aJ.val,h1];exact(ar.agg rfl λi x x' h h'=>by
    match i with
    |0=>simp at h h';subst h h';exact .bool _
    |1=>simp at h h';subst h h';exact .int _ _
    |2=>simp at h h';subst h h';exact .int _ _
    |3=>simp at h h';subst h h';exact .slice _ _ ⟨if_pos rfl,rfl,rfl⟩
    |i+4=>simp at h)
  .refine⟨λb c hb=>?_,rfl,rfl,by simp;exact Nat.le_succ_of_le hw.gV,by simp;exact Nat.le_succ_of_le hw.gV⟩;have hle:ρ.le (ρ.ext V.heap.size V.heap.size aB hw.gV hw.gV):=λb c hb=>by show(if b=V.heap.size then some V.heap.size else ρ b)=some c;rw[if_neg (aB b c hb).1];exact hb
   have dw:(if b=V.heap.size then some V.heap.size else ρ b)=some c:=hb;split at dw
   .rename_i e1;obtain rfl:=adb dw;rw[e1];refine⟨_,_,heap_alloc_new _ _,heap_alloc_new _ _,.cells ⟨rfl,λi x x' hx dG=>?_⟩<|.inl rfl⟩;rw[hx]at dG;obtain rfl:=adb dG;obtain⟨n,rfl⟩:=h3 x<|Array.mem_of_getElem? hx;exact .int _ _
   .let⟨o,o',g1,g2,g3⟩:=hw.heap b c dw;have:=hw.lt dw;exact⟨o,o',by rw[acX _ _ _ this.1];exact g1,by rw[acX _ _ _ this.2];exact g2,g3.mono hle⟩
def L9 {P0:Program}{c:Frame}(hA:P0=Tz.prog)(eG:dM P0 P0 okw)(hP:dM P0 Tryz.prog okw)(iv:∀f,okw.fn f=true->okw.bh f=true)(yY:jE P0 c)
  (ez:okw.bh 189=true/\okw.bh 160=true/\okw.fn 161=true){Inv:(Nat->Prop)->World->Prop}:pj Tryz.prog ok Inv s_:=by
 subst hA;rintro f xs V ρ xs' W M am gs r0 rest t q sl R-⟨rfl,b,off,n,cap,nb,no,nn,nc,mv,tb,toff,tc,o,rfl,hf,rfl⟩ vA hw ho hl;have hV:∀a,(re V W.tape W.drawn).cell? a=V.cell? a:=λ_=>rfl
 have hf0:=hf;replace hf:=hf.re W.tape W.drawn;let⟨x0,e0,Pe⟩:=vA.get (i:=0) rfl;let⟨x1,e1,r1'⟩:=vA.get (i:=1) rfl;obtain⟨a0,rfl,s0⟩:=yD Pe;obtain⟨a1,rfl,s1⟩:=yD r1';let⟨b',ce,sp⟩:=a0;let⟨WW,ZL,sp'⟩:=a1;have q1:=s0.off;have q2:=s0.spot;have q3:=s1.off;have q4:=s1.spot;have hb:ρ b=some b':=s0.blk;have Dc:ρ nb=some WW:=s1.blk;simp only at q1 q2 q3 q4;subst q1 q2 q3 q4;have hx:xs'=#[.slice (some ⟨b',ce,none⟩) n cap,.slice (some ⟨WW,ZL,none⟩) nn nc]:=by
  have hz:=vA.size;refine Array.ext (by simpa using hz.symm) λi h1 h2=>?_
  have h2:i<2:=h2;match i with
  |0=>rw[adc h1]at e0;exact adb e0
  |1=>rw[adc h1]at e1;exact adb e1
 subst hx;have oJ:∀i,i<nn->∃t',ρ (tb i)=some t'/\W.cell? ⟨WW,ZL+i,none⟩=some (.slice (some ⟨t',toff i,none⟩) n<|tc i):=λi hi=>by
  let⟨v',h1,h2⟩:=hw.cell Dc<|hf.gP i hi;obtain⟨a',rfl,r⟩:=yD h2;let⟨t',o',sp⟩:=a';have h3:=r.off;have h4:=r.spot;simp only at h3 h4;subst h3 h4;exact⟨t',r.blk,h1⟩
 let tb':Nat->Nat:=λi=>(ρ<|tb i).getD 0
 have htb:∀i,i<nn->ρ (tb i)=some (tb' i):=λi hi=>by let⟨t',h1,_⟩:=oJ i hi;simp[tb',h1]
 have hfd:=aab (ok:=okw) (M:=M) (w:=W) (b:=b') (off:=ce) (n:=n) (cap:=cap) (nb:=WW) (no:=ZL) (nn:=nn) (f:=mv) (tb:=tb') (toff:=toff) (tc:=tc) (o:=o) hf.moves (hw.ZG hb hf.row) (hw.plain hb hf.plain) (ho _ _ hb) (ho _ _ Dc)
  (λi hi=>by let⟨t',h1,h2⟩:=oJ i hi;rw[htb i hi]at h1;rw[h2,<-adb h1]) (λi hi=>ho _ _<|htb i hi) (λi hi=>hw.plain (htb i hi)<|hf.OJ i hi) hf.h_ (λi hi j hj=>hw.nW (htb i hi)<|hf.turn i hi j hj) hf.lt hf.ne ez
 have Lh:Tryz.f139.body=some dQ:=by unfold dQ;kernel_rfl
 have hE:Frame.enter Tryz.prog 139 #[.slice (some ⟨b',ce,none⟩) n cap,.slice (some ⟨WW,ZL,none⟩) nn nc] .normal=(base 139).at ⟨#[.slice (some ⟨b',ce,none⟩) n cap,.slice (some ⟨WW,ZL,none⟩) nn nc,ud,ud,ud,ud,ud,ud,ud,ud,ud,ud,ud,ud,ud,ud,ud,ud,ud,ud,ud],[]⟩ [.code dQ]:=
  (enter_at _ Tryz.func139 Lh).trans (by simp only[Tryz.ntmps139,List.size_toArray,List.length_cons,List.length_nil,Nat.reduceAdd,Nat.reduceSub,Array.replicate_succ,Array.replicate_zero,List.push_toArray,List.append_toArray,List.nil_append,List.cons_append])
 rw[hE]at hl;let⟨N,jN,w',kz,t',q',sE,M',x,g1,g2,g3,g4,g5⟩:=TP (sl:=sl) eG hP iv yY hf.small hl hfd hw.gW;have hk:∀b d,ρ b=some d->w'.heap[d]?=W.heap[d]?:=λb d hb=>g3.keep.block d<|ho b d hb
 have jQ:=g3.keep.size;cases ha:x.a with
 |none=>
  have YU:x.n=0:=by
   rcases g4.row with h|⟨_,_,h,_⟩
   .exact h
   .rw[ha]at h;cases h
  have hxe:({x with a:=none}:aJ)=x:=by rw[<-ha]
  refine⟨N,jN,w',kz,t',q',sE,M',x.val,ρ,x.val,V,g1,g2,Ren.le_refl _,?_,⟨λb d hb=>?_,rfl,rfl,hw.gV,ac8 hw.gW jQ⟩,λb d hb=>g3.own d<|ho b d hb,⟨x,none,g5,by rw[ha],by rw[hxe],by rw[hxe];exact .inl ⟨ha,YU,rfl⟩⟩,g3.keep,g3.own,λb d hb=>.inl hb,λb _=>rfl⟩
  .rw[aJ.val,ha];exact(ar.agg rfl λi x x' h h'=>by
    match i with
    |0=>simp at h h';subst h h';exact .bool _
    |1=>simp at h h';subst h h';exact .int _ _
    |2=>simp at h h';subst h h';exact .int _ _
    |3=>simp at h h';subst h h';exact .dH _ _
    |i+4=>simp at h)
  .let⟨o,o',i1,i2,i3⟩:=hw.heap b d hb;exact⟨o,o',i1,(hk b d hb).trans i2,i3⟩
 |some a=>
  let⟨j1,⟨j2,j3⟩,cs0,e0,j40,j5⟩:=g4.blk a ha;let⟨j6,cs,j4,j7⟩:=g4.full a ha;rw[j4]at j40;simp only[Option.some.injEq,Obj.cells.injEq]at j40;let⟨y1,y2,_⟩:=j40;subst y1 y2;have hgV:Gl.n<=V:=hw.gV;have aB:∀b d,ρ b=some d->b≠V.heap.size/\d≠a.block:=λb d hb=>by
   have h1:b<V:=(hw.lt hb).1;have h2:=(hw.lt hb).2;omega
  have hga:Gl.n<=a.block:=ac8 hw.gW j3;have hle:ρ.le (ρ.ext V.heap.size a.block aB hgV hga):=λb d hb=>by show(if b=V.heap.size then some a.block else ρ b)=some d;rw[if_neg (aB b d hb).1];exact hb
  have aq:ep (V.alloc<|.cells cs 3) V.heap.size x.n x.g:=by
   rcases g4.row with h|⟨b1,o1,h,hr⟩
   .exact .inl h
   .rw[ha]at h;obtain rfl:=adb h;have j6':o1=0:=j6;subst j6';refine .inr ⟨_,_,rfl,λi hi=>?_⟩;have:=hr i hi;simp only[World.cell?,j4]at this;simp only[World.cell?,heap_alloc_new];exact this
  refine⟨N,jN,w',kz,t',q',sE,M',x.val,ρ.ext V.heap.size a.block aB hgV hga,aJ.val {x with a:=some ⟨V.heap.size,0,none⟩},V.alloc<|.cells cs 3,g1,g2,hle,?_,⟨λb d hb=>?_,rfl,rfl,?_,ac8 hw.gW jQ⟩,λb d hb=>?_,⟨x,some ⟨V.heap.size,0,none⟩,g5,by rw[ha];simp,rfl,.inr ⟨cs,rfl,rfl,j5,aq,g4.small,j7⟩⟩,g3.keep,g3.own,λb d hb=>?_,λb hr=>?_⟩
  .rw[aJ.val,aJ.val,ha];exact(ar.agg rfl λi x x' h h'=>by
    match i with
    |0=>simp at h h';subst h h';exact .bool _
    |1=>simp at h h';subst h h';exact .int _ _
    |2=>simp at h h';subst h h';exact .int _ _
    |3=>simp at h h';subst h h';exact .slice _ _ ⟨if_pos rfl,j6,j1⟩
    |i+4=>simp at h)
  .have dw:(if b=V.heap.size then some a.block else ρ b)=some d:=hb;split at dw
   .rename_i e1;obtain rfl:=adb dw;rw[e1];refine⟨_,_,heap_alloc_new _ _,j4,.cells ⟨rfl,λi x x' hx dG=>?_⟩<|.inl rfl⟩;rw[hx]at dG;obtain rfl:=adb dG;obtain⟨n,rfl⟩:=j5 x<|Array.mem_of_getElem? hx;exact .int _ _
   .let⟨o,o',i1,i2,i3⟩:=hw.heap b d dw;have h1:b<V:=(hw.lt dw).1;exact⟨o,o',(acX _ _ _ h1).trans i1,(hk b d dw).trans i2,i3.mono hle⟩
  .show Gl.n<=(V.alloc<|.cells cs 3).heap.size;simp;omega
  .have dw:(if b=V.heap.size then some a.block else ρ b)=some d:=hb;split at dw
   .obtain rfl:=adb dw;exact j2
   .exact g3.own d (ho b d dw)
  .have dw:(if b=V.heap.size then some a.block else ρ b)=some d:=hb;split at dw
   .obtain rfl:=adb dw;exact .inr j3
   .exact .inl dw
  .let⟨c,e,hr⟩:=hr;exact acX _ _ _ (ac7.1 hr).1
end
section
variable [Gl]{ok:Ctx}
def cX (f:FuncId)(xs:Array Value)(V:World)(R:Value->World->Prop):Prop:=s_ f xs V R\/DrC f xs V R
def PV:pm ok cX:=by
 rintro f xs V V' v ρ R (h|h)
 .exact TS h
 .exact TT h
def PS (h:pj Tryz.prog ok Jy s_):pj Tryz.prog ok Jy cX:=by
 rintro f xs V ρ xs' W M am gs r0 rest t q sl R hI (hd|hd)
 .exact h hI hd
 .exact Mb hI hd
end
