import Derived.Test.YtlmcblcijndipabGreatDoorAd24
import Derived.Test.YtlmcblcijndipabGreatDoorAd25
import Derived.Test.YtlmcblcijndipabGreatDoorAd22
import Derived.Test.YtlmcblcijndipabGreatDoorAd30
import Derived.Test.YtlmcblcijndipabGreatDoorAd21
set_option linter.unusedVariables false
set_option maxHeartbeats 2000000
namespace Go.Proofs.YtlmcblcijndipabGreatDoor
section
open Go.RowKit
def cE (f:Nat->Mv)(n:Nat)(o:Nat->Nat)(x:TryV):Prop:=
 match bK f o n with
 |some T=>x.ok=true/\x.sum=sumTo f T n/\x.most=ba f T n/\x.n=n/\x.cap=n/\(∀i,i<n->x.g i=T i)/\x.a≠none
 |none=>x.ok=false/\x.sum=0/\x.most=0/\x.n=0/\x.cap=0/\x.a=none
theorem xW {f:Nat->Mv}{o:Nat->Nat}{n:Nat}{T:Nat->Int}(hm:aw f n=true)(ho:∀i,i<n->o i<n)(hd:∀j k,j<k->k<n->o j≠o k)(h:bK f o n=some T):eu f T n:=eu.fits hm (qm hm ho hd h).fit
theorem rI (b off n cap:Nat)(f:Nat->Mv)(b' off' cap':Nat)(o:Nat->Nat)(w:World)(hm:aw f n=true)(ho:∀i,i<n->o i<n)(hd:∀j k,j<k->k<n->o j≠o k)(hcap:n<=cap')(hbs:b<w.heap.size)(hrow:ak w b off n f)(hbs':b'<w.heap.size)(hrow':al w b' off' n (λi=>(o i:Int))):
  Calls Tz.prog 227 #[.slice (some ⟨b,off,none⟩) n cap,.slice (some ⟨b',off',none⟩) n cap'] w λe w'=>∃x:TryV,e=.returned x.val/\cE f n o x/\(∀a,x.a=some a->∃B,a=⟨B,0,none⟩/\w.heap.size<=B/\an w' B n x.g)/\Below w.heap.size w w':=by
 have h6:=aN hm;have HC:=rE b off n cap f b' off' cap' o (w.alloc (.cells #[.bool false,.int .i64 0,.int .i64 0,.slice none 0 0] 222)) hm ho hcap (by simp;omega) (hrow.below ((Gb _ w).alloc (Gm _) _) hbs) (by simp;omega) (hrow'.below ((Gb _ w).alloc (Gm _) _) hbs');go_enter Tz.func227,Tryz.ntmps227
 cases hE:bK f o n with
 |none=>
  rw[hE]at HC;go_wp2_with(go_at_call 245;refine HC.mono ?_;clear HC;rintro e w1 ⟨rfl,hb1⟩;have hm0:=(hb1.block w.heap.size (by simp)).trans (heap_alloc_new _ _);have s0:w1.cell? ⟨w.heap.size,0,none⟩=some (.bool false):=(by simp[World.cell?,hm0]);have s1:w1.cell? ⟨w.heap.size,1,none⟩=some (.int .i64 0):=(by simp[World.cell?,hm0]);have s2:w1.cell? ⟨w.heap.size,2,none⟩=some (.int .i64 0):=(by simp[World.cell?,hm0]);have s3:w1.cell? ⟨w.heap.size,3,none⟩=some (.slice none 0 0):=(by simp[World.cell?,hm0]);have sf:∀j,w1.frozen? ⟨w.heap.size,j,none⟩=false:=(λj=>by simp[World.frozen?,hm0]);have hB1:=((Gb w.heap.size w).alloc (Gm _) (.cells #[.bool false,.int .i64 0,.int .i64 0,.slice none 0 0] 222)).trans (hb1.mono (by simp)))
  rw[dO hm0];have hw5:=setRow_heap w1 w.heap.size _ #[.bool false,.int .i64 0,.int .i64 0,.slice none 0 0] _ _ hm0;have hb5:=below_setRow hB1 (Gm _) #[.bool false,.int .i64 0,.int .i64 0,.slice none 0 0];generalize w1.setRow w.heap.size #[.bool false,.int .i64 0,.int .i64 0,.slice none 0 0]=W5 at hw5 hb5⊢;have q0:W5.cell? ⟨w.heap.size,0,none⟩=some (.bool false):=by simp[World.cell?,hw5]
  have q1:W5.cell? ⟨w.heap.size,1,none⟩=some (.int .i64 0):=by simp[World.cell?,hw5]
  have q2:W5.cell? ⟨w.heap.size,2,none⟩=some (.int .i64 0):=by simp[World.cell?,hw5]
  have q3:W5.cell? ⟨w.heap.size,3,none⟩=some (.slice none 0 0):=by simp[World.cell?,hw5]
  refine bodyPost_ret (v:=noTry.val) ?_ rfl ⟨noTry,rfl,by simp[cE,hE,noTry],λa ha=>by simp[noTry]at ha,hb5⟩;simp[results,Tryz.f227,go_sem,TryV.val,noTry,q0,q1,q2,q3]
 |some T=>
  rw[hE]at HC;have hbd:eu f T n:=xW hm ho hd hE;have sT:=(hbd.sum n (Gm _));go_wp2_with(first|(go_at_call 245;refine HC.mono ?_;clear HC;rintro e w1 ⟨⟨B,hB0,rfl,hown⟩,hb1⟩;have hBl:=hown.lt;have HL:=rH b off n cap f B 0 n n T w1 h6 (Gm _) (Gn hbs (by have:=hb1.size;simp at this;omega)) (hrow.below (((Gb w.heap.size w).alloc (Gm _) (.cells #[.bool false,.int .i64 0,.int .i64 0,.slice none 0 0] 222)).trans (hb1.mono (by simp))) hbs) hBl (λi hi=>by have:=hown.2 i hi;simpa using this) hbd)|(go_at_call 126;refine HL.mono ?_;clear HL;rintro e w2 ⟨rfl,hb2⟩;have hB2:=(hb1.trans (hb2.mono hb1.size));have hm0:=(hB2.block w.heap.size (by simp)).trans (heap_alloc_new _ _);have s0:w2.cell? ⟨w.heap.size,0,none⟩=some (.bool false):=(by simp[World.cell?,hm0]);have s1:w2.cell? ⟨w.heap.size,1,none⟩=some (.int .i64 0):=(by simp[World.cell?,hm0]);have s2:w2.cell? ⟨w.heap.size,2,none⟩=some (.int .i64 0):=(by simp[World.cell?,hm0]);have s3:w2.cell? ⟨w.heap.size,3,none⟩=some (.slice none 0 0):=(by simp[World.cell?,hm0]);have sf:∀j,w2.frozen? ⟨w.heap.size,j,none⟩=false:=(λj=>by simp[World.frozen?,hm0])))
  rw[dO hm0];have hBs:B≠w.heap.size:=by simp at hB0;omega
  have hw5:=setRow_heap w2 w.heap.size _ #[.bool true,.int .i64 (sumTo f T n),.int .i64 (ba f T n),.slice (some ⟨B,0,none⟩) n n] _ _ hm0;have hb5:=below_setRow (((Gb w.heap.size w).alloc (Gm _) (.cells #[.bool false,.int .i64 0,.int .i64 0,.slice none 0 0] 222)).trans (hB2.mono (by simp))) (Gm _) #[.bool true,.int .i64 (sumTo f T n),.int .i64 (ba f T n),.slice (some ⟨B,0,none⟩) n n];have ho5:(w2.setRow w.heap.size #[.bool true,.int .i64 (sumTo f T n),.int .i64 (ba f T n),.slice (some ⟨B,0,none⟩) n n]).heap[B]?=w2.heap[B]?:=setRow_other _ _ _ _ hBs;have hown2:=hown.below hb2 hBl;generalize w2.setRow w.heap.size #[.bool true,.int .i64 (sumTo f T n),.int .i64 (ba f T n),.slice (some ⟨B,0,none⟩) n n]=W5 at hw5 hb5 ho5⊢;have hown5:an W5 B n T:=by
   obtain⟨⟨cs,g1,g2⟩,g3⟩:=hown2;exact⟨⟨cs,ho5.trans g1,g2⟩,λi hi=>by rw[<-g3 i hi];simp only[World.cell?,ho5]⟩
  have q0:W5.cell? ⟨w.heap.size,0,none⟩=some (.bool true):=by simp[World.cell?,hw5]
  have q1:W5.cell? ⟨w.heap.size,1,none⟩=some (.int .i64 (sumTo f T n)):=by simp[World.cell?,hw5]
  have q2:W5.cell? ⟨w.heap.size,2,none⟩=some (.int .i64 (ba f T n)):=by simp[World.cell?,hw5]
  have q3:W5.cell? ⟨w.heap.size,3,none⟩=some (.slice (some ⟨B,0,none⟩) n n):=by simp[World.cell?,hw5]
  refine bodyPost_ret (v:=TryV.val ⟨true,sumTo f T n,ba f T n,some ⟨B,0,none⟩,n,n,T⟩) ?_ rfl ⟨⟨true,sumTo f T n,ba f T n,some ⟨B,0,none⟩,n,n,T⟩,rfl,by simp[cE,hE],λa ha=>⟨B,(Gt ha).symm,by simp at hB0;omega,hown5⟩,hb5⟩;simp[results,Tryz.f227,go_sem,TryV.val,q0,q1,q2,q3]
end
section
open Go Go.Conc Go.RowKit
def ltTry (y x:TryV):Bool:=decide (iB y x<0)
theorem qn:∀(xs:List TryV) (i:Nat) (y:TryV) (o:Nat),xs[i]?=some y->o<4->(xs.flatMap TryV.cells)[i*4+o]?=y.cells[o]?
 |[],i,y,o,h,_=>by simp at h
 |x::xs,0,y,o,h,ho=>by
  simp only[List.getElem?_cons_zero,Option.some.injEq]at h;subst h;rw[List.flatMap_cons,Nat.zero_mul,Nat.zero_add,Gy (by simp[TryV.cells];exact ho)]
 |x::xs,i+1,y,o,h,ho=>by
  simp only[List.getElem?_cons_succ]at h;have hl:x.cells.length=4:=rfl;rw[List.flatMap_cons,Gz (by rw[hl];omega),hl,show(i+1)*4+o-4=i*4+o by omega];exact qn xs i y o h ho
theorem tL {V:World}{b:Nat}{xs:List TryV}{T:TypeId}{z:Nat×Nat}(h:V.heap[b]?=some (.cells (xs.flatMap TryV.cells).toArray T z))(hx:∀x∈xs,bH V x.a x.n x.g/\x.n<=1048576):vk V b 0 xs.length (λi=>xs.getD i noTry):=by
 intro i hi;have hg:xs[i]?=some (xs.getD i noTry):=by simp[hi]
 have hm:xs.getD i noTry∈xs:=List.mem_of_getElem? hg;have hc:∀o,o<4->V.cell? ⟨b,0+i*4+o,none⟩=(xs.getD i noTry).cells[o]?:=λo ho=>by
  rw[<-qn xs i _ o hg ho];simp[World.cell?,h]
 show CG V b (0+i*4) (xs.getD i noTry);generalize xs.getD i noTry=y at hm hc;exact⟨hc 0 (by omega),hc 1 (by omega),hc 2 (by omega),hc 3 (by omega),(hx y hm).1,(hx y hm).2⟩
theorem tM (J:Jb)(hJ:J.lt=ltTry)(xs:List TryV):∀k,k<=xs.length->aY (λi=>xs.getD i noTry) k=J.leastL (xs.take k):=by
 intro k;induction k with
 |zero=>intro _;rfl
 |succ k ih=>
  intro hk;have hlt:k<xs.length:=by omega
  simp only[aY,ih (by omega)];rw[List.take_succ_eq_append_getElem hlt];have hg:xs.getD k noTry=xs[k]:=by simp[hlt]
  rw[hg];cases k with
  |zero=>simp[Jb.leastL]
  |succ k=>
   cases xs with
   |nil=>simp at hlt
   |cons x xs=>
    simp only[List.take_succ_cons,List.cons_append,Jb.leastL,List.foldl_append,List.foldl_cons,List.foldl_nil,Jb.pick,hJ,ltTry];simp
theorem vn (J:Jb)(hJ:J.lt=ltTry)(V:World)(b:Nat)(xs:List TryV)(z:Nat×Nat)(hl:xs.length<=1048576)(h:V.heap[b]?=some (.cells (xs.flatMap TryV.cells).toArray 222 z))(hx:∀x∈xs,bH V x.a x.n x.g/\x.n<=1048576):
  Calls Tz.prog 203 #[.slice (some ⟨b,0,none⟩) xs.length xs.length,.func (.func 204) #[] #[]] V λe w'=>e=.returned (J.leastL xs).val/\Below V.heap.size V w':=by
 have hb:b<V.heap.size:=(Gp.1 h).1;refine(tG b 0 xs.length xs.length (λi=>xs.getD i noTry) V hl hb (tL h hx)).mono ?_;rintro e w' ⟨rfl,h2⟩;rw[tM J hJ xs _ (Gm _),List.take_length];exact⟨rfl,h2⟩
section
variable [Gl]
theorem Eu {ok:Ctx}{M:Nat->Prop}{w:World}{b off n cap nb no nn:Nat}{f:Nat->Mv}{tb toff tc:Nat->Nat}{o:Nat->Nat->Nat}(hm:aw f n=true)
  (hrow:ak w b off n f)(hpb:aQ w b)(mb:M b)(mnb:M nb)(hnear:∀i,i<nn->w.cell? ⟨nb,no+i,none⟩=some (.slice (some ⟨tb i,toff i,none⟩) n (tc i)))
  (mtb:∀i,i<nn->M (tb i))(hpt:∀i,i<nn->aQ w (tb i))(htc:∀i,i<nn->n<=tc i)(hti:∀i,i<nn->al w (tb i) (toff i) n (λj=>(o i j:Int)))(ho:∀i,i<nn->∀j,j<n->o i j<n)(hd:∀i,i<nn->∀j k,j<k->k<n->o i j≠o i k)
  (hok:ok.inn 227=true/\ok.inn 203=true/\ok.fn 204=true):
  xO Tz.prog ok M w (some ⟨b,off,none⟩) n cap nb no nn (λi=>.slice (some ⟨tb i,toff i,none⟩) n (tc i)) (λi x=>i<nn/\(x=b\/x=tb i)) (λi x=>cE f n (o i) x) ltTry:=by
 have n6:=aN hm;have hplain:∀{S:Nat->Prop} {Fe:World} {x:Nat},aQ w x->Fe.heap[x]?=w.heap[x]?->∃cs e,Fe.heap[x]?=some (.cells cs e (0,0))/\∀v∈cs,aj ok (ku S) v v:=by
  rintro S Fe x ⟨cs,e,h1,h2⟩ hk;refine⟨cs,e,hk.trans h1,λv hv=>?_⟩;rcases h2 v hv with⟨x,rfl⟩|⟨k,x,rfl⟩|⟨s,rfl⟩
  .exact .bool _
  .exact .int _ _
  .exact .string _
 refine⟨mnb,hnear,λi x hx=>?_,λi hi Fe k=>⟨λx hx=>?_⟩,λi hi=>.slice _ _ ⟨cW.2 ⟨⟨hi,.inl rfl⟩,rfl⟩,rfl,rfl⟩,λi hi=>.slice _ _ ⟨cW.2 ⟨⟨hi,.inr rfl⟩,rfl⟩,rfl,rfl⟩,λi hi F Fe k τ d=>?_,?_,λV b xs z h1 h2 h3=>vn _ rfl V b xs z h1 h2 h3,hok⟩
 .obtain⟨hi,rfl|rfl⟩:=hx
  .exact mb
  .exact mtb i hi
 .have hk:=k.block x (.inr ⟨i,hx⟩);obtain⟨_,rfl|rfl⟩:=hx
  .exact hplain hpb hk
  .exact hplain (hpt i hi) hk
 .have kb:=k.block b (.inr ⟨i,hi,.inl rfl⟩);have kt:=k.block (tb i) (.inr ⟨i,hi,.inr rfl⟩);have cb:∀j,(re (cJ F Fe) τ d).cell? ⟨b,j,none⟩=w.cell? ⟨b,j,none⟩:=λj=>(kv F Fe _).trans (by simp only[World.cell?,kb])
  have ct:∀j,(re (cJ F Fe) τ d).cell? ⟨tb i,j,none⟩=w.cell? ⟨tb i,j,none⟩:=λj=>(kv F Fe _).trans (by simp only[World.cell?,kt])
  have hz:(re (cJ F Fe) τ d).heap.size=Fe.heap.size:=eO F Fe;have lt_of:∀x,aQ w x->x<Fe.heap.size:=λx hx=>by obtain⟨cs,e,h1,_⟩:=hx;exact Gn (Gp.1 h1).1 k.size
  have hr:ak (re (cJ F Fe) τ d) b off n f:=λj hj=>by
   obtain⟨c0,c1,c2,c3,c4,c5⟩:=hrow j hj;exact⟨(cb _).trans c0,(cb _).trans c1,(cb _).trans c2,(cb _).trans c3,(cb _).trans c4,(cb _).trans c5⟩
  refine(rI b off n cap f (tb i) (toff i) (tc i) (o i) _ hm (ho i hi) (hd i hi) (htc i hi) (by rw[hz];exact lt_of b hpb) hr (by rw[hz];exact lt_of _ (hpt i hi)) (λj hj=>(ct _).trans (hti i hi j hj))).mono ?_;rintro e w' ⟨x,rfl,h1,h2,h3⟩;refine⟨x,rfl,h1,?_,?_,λa ha=>?_,λa ha=>?_⟩
  .unfold cE at h1;cases ha:x.a with
   |none=>
    split at h1
    .exact absurd ha h1.2.2.2.2.2.2
    .exact .inl h1.2.2.2.1
   |some a=>
    obtain⟨B,rfl,_,hO⟩:=h2 a ha;split at h1
    .refine .inr ⟨B,0,rfl,?_⟩;rw[h1.2.2.2.1];exact hO.2
    .rw[h1.2.2.2.2.2]at ha;cases ha
  .unfold cE at h1;split at h1
   .rw[h1.2.2.2.1];omega
   .rw[h1.2.2.2.1];omega
  .obtain⟨B,rfl,hB,⟨cs,g1,g2⟩,g3⟩:=h2 a ha;refine⟨rfl,by rw[<-hz];exact hB,cs,_,g1,λv hv=>?_⟩;obtain⟨j,hj,rfl⟩:=Array.mem_iff_getElem.1 hv;have:=g3 j (by omega);simp only[World.cell?,g1,Nat.zero_add]at this;rw[Gu hj]at this;exact⟨_,Gt this⟩
  .obtain⟨B,rfl,hB,⟨cs,g1,g2⟩,g3⟩:=h2 a ha;refine⟨rfl,cs,g1,?_⟩;unfold cE at h1;split at h1
   .rw[g2,h1.2.2.2.1]
   .rw[h1.2.2.2.2.2]at ha;cases ha
 .intro i x a' h1 h2;unfold cE at h1⊢;split at h1
  .refine⟨h1.1,h1.2.1,h1.2.2.1,h1.2.2.2.1,h1.2.2.2.2.1,h1.2.2.2.2.2.1,λe=>h1.2.2.2.2.2.2 (h2.2 e)⟩
  .exact⟨h1.1,h1.2.1,h1.2.2.1,h1.2.2.2.1,h1.2.2.2.2.1,h2.1 h1.2.2.2.2.2⟩
end
structure D5 (V:World)(b off n nb no nn:Nat)(f:Nat->Mv)(tb toff tc:Nat->Nat)(o:Nat->Nat->Nat):Prop where
 moves:aw f n=true
 row:ak V b off n f
 plain:aQ V b
 near:∀i,i<nn->V.cell? ⟨nb,no+i,none⟩=some (.slice (some ⟨tb i,toff i,none⟩) n (tc i))
 tplain:∀i,i<nn->aQ V (tb i)
 tcap:∀i,i<nn->n<=tc i
 turn:∀i,i<nn->al V (tb i) (toff i) n (λj=>(o i j:Int))
 lt:∀i,i<nn->∀j,j<n->o i j<n
 ne:∀i,i<nn->∀j k,j<k->k<n->o i j≠o i k
 small:nn+4<4611686018427387904
 some_:0<nn
theorem D5.re {V:World}{b off n nb no nn:Nat}{f:Nat->Mv}{tb toff tc:Nat->Nat}{o:Nat->Nat->Nat}(h:D5 V b off n nb no nn f tb toff tc o)(τ:Nat->Question->Nat)(d:Nat):D5 (re V τ d) b off n nb no nn f tb toff tc o:=
 ⟨h.moves,λi hi=>by obtain⟨c0,c1,c2,c3,c4,c5⟩:=h.row i hi;exact⟨c0,c1,c2,c3,c4,c5⟩,h.plain,h.near,h.tplain,h.tcap,λi hi j hj=>h.turn i hi j hj,h.lt,h.ne,h.small,h.some_⟩
def zJ (V:World)(x:TryV)(V':World):Prop:=
 (x.a=none/\x.n=0/\V'=V)\/∃cs,x.a=some ⟨V.heap.size,0,none⟩/\V'=V.alloc (.cells cs 3)/\(∀v∈cs,∃n:Int,v=.int .i64 n)/\bH V' x.a x.n x.g/\x.n<=1048576/\cs.size=x.n
def DrB (f:FuncId)(xs:Array Value)(V:World)(R:Value->World->Prop):Prop:=
 f=181/\∃b off n cap nb no nn nc mv tb toff tc o,xs=#[.slice (some ⟨b,off,none⟩) n cap,.slice (some ⟨nb,no,none⟩) nn nc]/\D5 V b off n nb no nn mv tb toff tc o/\
  R=λv V'=>∃(x:TryV) (aL:Option Addr),Ej ltTry (λi x=>cE mv n (o i) x) nn x/\(x.a=none<->aL=none)/\v=TryV.val {x with a:=aL}/\zJ V {x with a:=aL} V'
section
variable [Gl]{ok okw:Ctx}{ρ:Ren}{V W:World}
theorem aH.cell (hw:aH ok true ρ V W){b b' j:Nat}(hb:ρ b=some b'){v:Value}(hv:V.cell? ⟨b,j,none⟩=some v):∃v',W.cell? ⟨b',j,none⟩=some v'/\aj ok ρ v v':=by
 obtain⟨o,o',h1,h2,h3⟩:=hw.heap b b' hb;simp only[World.cell?,h1,h2]at hv⊢;cases h3 with
 |cells hc _=>
  obtain⟨v',e,r⟩:=hc.get hv;exact⟨v',e,r⟩
 |_=>simp at hv
theorem aH.intCell (hw:aH ok true ρ V W){b b' j:Nat}(hb:ρ b=some b'){k:IntKind}{n:Int}(hv:V.cell? ⟨b,j,none⟩=some (.int k n)):W.cell? ⟨b',j,none⟩=some (.int k n):=by
 obtain⟨v',e,r⟩:=hw.cell hb hv;cases r;exact e
theorem aH.boolCell (hw:aH ok true ρ V W){b b' j:Nat}(hb:ρ b=some b'){n:Bool}(hv:V.cell? ⟨b,j,none⟩=some (.bool n)):W.cell? ⟨b',j,none⟩=some (.bool n):=by
 obtain⟨v',e,r⟩:=hw.cell hb hv;cases r;exact e
theorem aH.strCell (hw:aH ok true ρ V W){b b' j:Nat}(hb:ρ b=some b'){n:ByteArray}(hv:V.cell? ⟨b,j,none⟩=some (.string n)):W.cell? ⟨b',j,none⟩=some (.string n):=by
 obtain⟨v',e,r⟩:=hw.cell hb hv;cases r;exact e
theorem aH.plain (hw:aH ok true ρ V W){b b':Nat}(hb:ρ b=some b')(hp:aQ V b):aQ W b':=by
 obtain⟨cs,e,h1,h2⟩:=hp;obtain⟨o,o',g1,g2,g3⟩:=hw.heap b b' hb;rw[h1]at g1;obtain rfl:=Gt g1;cases g3 with
 |@cells _ c' _ _ z' hc hz=>
  replace hz:=hz.resolve_right (λh=>by have:=congrArg Prod.snd h.2.1;have h0:=h.2.2;simp at this;omega);refine⟨c',e,by rw[g2,hz];rfl,λv hv=>?_⟩;obtain⟨i,hi,rfl⟩:=Array.mem_iff_getElem.1 hv;have hi':i<cs.size:=by rw[hc.size];exact hi
  have hr:=hc.at_ i cs[i] c'[i] (Gu hi') (Gu hi);generalize c'[i]=u at hr;rcases h2 cs[i] (Array.getElem_mem hi')with⟨x,e⟩|⟨k,x,e⟩|⟨s,e⟩
  .rw[e]at hr;cases hr;exact .inl ⟨_,rfl⟩
  .rw[e]at hr;cases hr;exact .inr (.inl ⟨_,_,rfl⟩)
  .rw[e]at hr;cases hr;exact .inr (.inr ⟨_,rfl⟩)
theorem aH.mvRow (hw:aH ok true ρ V W){b b' off n:Nat}{f:Nat->Mv}(hb:ρ b=some b')(hr:ak V b off n f):ak W b' off n f:=by
 intro j hj;obtain⟨c0,c1,c2,c3,c4,c5⟩:=hr j hj;exact⟨by first|exact hw.strCell hb c0|exact hw.intCell hb c0|exact hw.boolCell hb c0,by first|exact hw.strCell hb c1|exact hw.intCell hb c1|exact hw.boolCell hb c1,by first|exact hw.strCell hb c2|exact hw.intCell hb c2|exact hw.boolCell hb c2,by first|exact hw.strCell hb c3|exact hw.intCell hb c3|exact hw.boolCell hb c3,by first|exact hw.strCell hb c4|exact hw.intCell hb c4|exact hw.boolCell hb c4,by first|exact hw.strCell hb c5|exact hw.intCell hb c5|exact hw.boolCell hb c5⟩
theorem oA {a:Addr}{n c:Nat}{v':Value}(h:aj ok ρ (.slice (some a) n c) v'):∃a',v'=.slice (some a') n c/\bm ρ a a':=by
 cases h with
 |slice _ _ r=>exact⟨_,rfl,r⟩
theorem Do:jh ok DrB:=by
 rintro f xs V V' v ρ R ⟨rfl,b,off,n,cap,nb,no,nn,nc,mv,tb,toff,tc,o,rfl,hf,rfl⟩ ⟨Ga,aL,_,_,rfl,hfr⟩ _ hw;generalize ({Ga with a:=aL}:TryV)=x at hfr⊢;rcases hfr with⟨h1,_,rfl⟩|⟨cs,h1,rfl,h3,_,_⟩
 .refine⟨ρ,Ren.le_refl _,?_,hw⟩;rw[TryV.val,h1];exact(aj.agg rfl λi x x' h h'=>by
   match i with
   |0=>simp at h h';subst h h';exact .bool _
   |1=>simp at h h';subst h h';exact .int _ _
   |2=>simp at h h';subst h h';exact .int _ _
   |3=>simp at h h';subst h h';exact .slice0 _ _
   |i+4=>simp at h)
 .have hlt:∀b c,ρ b=some c->b≠V.heap.size/\c≠V.heap.size:=λb c hb=>by have:=hw.lt hb;omega
  refine⟨ρ.ext V.heap.size V.heap.size hlt hw.gV hw.gV,λb c hb=>?_,?_,?_⟩
  .show(if b=V.heap.size then some V.heap.size else ρ b)=some c;rw[if_neg (hlt b c hb).1];exact hb
  .rw[TryV.val,h1];exact(aj.agg rfl λi x x' h h'=>by
    match i with
    |0=>simp at h h';subst h h';exact .bool _
    |1=>simp at h h';subst h h';exact .int _ _
    |2=>simp at h h';subst h h';exact .int _ _
    |3=>simp at h h';subst h h';exact .slice _ _ ⟨if_pos rfl,rfl,rfl⟩
    |i+4=>simp at h)
  .refine⟨λb c hb=>?_,rfl,rfl,by simp;exact Nat.le_succ_of_le hw.gV,by simp;exact Nat.le_succ_of_le hw.gV⟩;have hle:ρ.le (ρ.ext V.heap.size V.heap.size hlt hw.gV hw.gV):=λb c hb=>by show(if b=V.heap.size then some V.heap.size else ρ b)=some c;rw[if_neg (hlt b c hb).1];exact hb
   have hb':(if b=V.heap.size then some V.heap.size else ρ b)=some c:=hb;split at hb'
   .rename_i e1;obtain rfl:=Gt hb';rw[e1];refine⟨_,_,heap_alloc_new _ _,heap_alloc_new _ _,.cells ⟨rfl,λi x x' hx hx'=>?_⟩ (.inl rfl)⟩;rw[hx]at hx';obtain rfl:=Gt hx';obtain⟨n,rfl⟩:=h3 x (Array.mem_of_getElem? hx);exact .int _ _
   .obtain⟨o,o',g1,g2,g3⟩:=hw.heap b c hb';have:=hw.lt hb';exact⟨o,o',by rw[Gc _ _ _ this.1];exact g1,by rw[Gc _ _ _ this.2];exact g2,g3.mono hle⟩
theorem zK {P0:Program}{c:Frame}(hA:P0=Tz.prog)(hP0:bq P0 P0 okw)(hP:bq P0 Tryz.prog okw)(hin:∀f,okw.fn f=true->okw.inn f=true)(hFl:ff P0 c)
  (hok:okw.inn 227=true/\okw.inn 203=true/\okw.fn 204=true){Inv:(Nat->Prop)->World->Prop}:jg Tryz.prog ok Inv DrB:=by
 subst hA;rintro f xs V ρ xs' W M Shun gs r0 rest t q sl R-⟨rfl,b,off,n,cap,nb,no,nn,nc,mv,tb,toff,tc,o,rfl,hf,rfl⟩ hxs hw ho hl;have hV:∀a,(re V W.tape W.drawn).cell? a=V.cell? a:=λ_=>rfl
 have hf0:=hf;replace hf:=hf.re W.tape W.drawn;obtain⟨x0,e0,r0'⟩:=hxs.get (i:=0) rfl;obtain⟨x1,e1,r1'⟩:=hxs.get (i:=1) rfl;obtain⟨a0,rfl,s0⟩:=oA r0';obtain⟨a1,rfl,s1⟩:=oA r1';obtain⟨b',off',sp⟩:=a0;obtain⟨nb',no',sp'⟩:=a1;have q1:=s0.off;have q2:=s0.spot;have q3:=s1.off;have q4:=s1.spot;have hb:ρ b=some b':=s0.blk;have hnb:ρ nb=some nb':=s1.blk;simp only at q1 q2 q3 q4;subst q1 q2 q3 q4;have hx:xs'=#[.slice (some ⟨b',off',none⟩) n cap,.slice (some ⟨nb',no',none⟩) nn nc]:=by
  have hz:=hxs.size;refine Array.ext (by simpa using hz.symm) λi h1 h2=>?_
  have h2:i<2:=h2;match i with
  |0=>rw[Gu h1]at e0;exact Gt e0
  |1=>rw[Gu h1]at e1;exact Gt e1
 subst hx;have hnear:∀i,i<nn->∃t',ρ (tb i)=some t'/\W.cell? ⟨nb',no'+i,none⟩=some (.slice (some ⟨t',toff i,none⟩) n (tc i)):=λi hi=>by
  obtain⟨v',h1,h2⟩:=hw.cell hnb (hf.near i hi);obtain⟨a',rfl,r⟩:=oA h2;obtain⟨t',o',sp⟩:=a';have h3:=r.off;have h4:=r.spot;simp only at h3 h4;subst h3 h4;exact⟨t',r.blk,h1⟩
 let tb':Nat->Nat:=λi=>(ρ (tb i)).getD 0
 have htb:∀i,i<nn->ρ (tb i)=some (tb' i):=λi hi=>by obtain⟨t',h1,_⟩:=hnear i hi;simp[tb',h1]
 have hfd:=Eu (ok:=okw) (M:=M) (w:=W) (b:=b') (off:=off') (n:=n) (cap:=cap) (nb:=nb') (no:=no') (nn:=nn) (f:=mv) (tb:=tb') (toff:=toff) (tc:=tc) (o:=o) hf.moves (hw.mvRow hb hf.row) (hw.plain hb hf.plain) (ho _ _ hb) (ho _ _ hnb)
  (λi hi=>by obtain⟨t',h1,h2⟩:=hnear i hi;rw[htb i hi]at h1;rw[h2,<-Gt h1]) (λi hi=>ho _ _ (htb i hi)) (λi hi=>hw.plain (htb i hi) (hf.tplain i hi)) hf.tcap (λi hi j hj=>hw.intCell (htb i hi) (hf.turn i hi j hj)) hf.lt hf.ne hok
 have hbd:Tryz.f181.body=some body24:=by unfold body24;kernel_rfl
 have hE:Frame.enter Tryz.prog 181 #[.slice (some ⟨b',off',none⟩) n cap,.slice (some ⟨nb',no',none⟩) nn nc] .normal=(base 181).at ⟨#[.slice (some ⟨b',off',none⟩) n cap,.slice (some ⟨nb',no',none⟩) nn nc,undef,undef,undef,undef,undef,undef,undef,undef,undef,undef,undef,undef,undef,undef,undef,undef,undef,undef,undef],[]⟩ [.code body24]:=
  (enter_at _ Tryz.func181 hbd).trans (by simp only[Tryz.ntmps181,List.size_toArray,List.length_cons,List.length_nil,Nat.reduceAdd,Nat.reduceSub,Array.replicate_succ,Array.replicate_zero,List.push_toArray,List.append_toArray,List.nil_append,List.cons_append])
 rw[hE]at hl;obtain⟨N,gs',w',sl',t',q',Shun',M',x,g1,g2,g3,g4,g5⟩:=Dl (sl:=sl) hP0 hP hin hFl hf.small hl hfd hw.gW;have hk:∀b d,ρ b=some d->w'.heap[d]?=W.heap[d]?:=λb d hb=>g3.keep.block d (ho b d hb)
 have hsz:=g3.keep.size;cases ha:x.a with
 |none=>
  have hn0:x.n=0:=by
   rcases g4.row with h|⟨_,_,h,_⟩
   .exact h
   .rw[ha]at h;cases h
  have hxe:({x with a:=none}:TryV)=x:=by rw[<-ha]
  refine⟨N,gs',w',sl',t',q',Shun',M',x.val,ρ,x.val,V,g1,g2,Ren.le_refl _,?_,⟨λb d hb=>?_,rfl,rfl,hw.gV,Gq hw.gW hsz⟩,λb d hb=>g3.own d (ho b d hb),⟨x,none,g5,by rw[ha],by rw[hxe],by rw[hxe];exact .inl ⟨ha,hn0,rfl⟩⟩,g3.keep,g3.own,λb d hb=>.inl hb,λb _=>rfl⟩
  .rw[TryV.val,ha];exact(aj.agg rfl λi x x' h h'=>by
    match i with
    |0=>simp at h h';subst h h';exact .bool _
    |1=>simp at h h';subst h h';exact .int _ _
    |2=>simp at h h';subst h h';exact .int _ _
    |3=>simp at h h';subst h h';exact .slice0 _ _
    |i+4=>simp at h)
  .obtain⟨o,o',i1,i2,i3⟩:=hw.heap b d hb;exact⟨o,o',i1,(hk b d hb).trans i2,i3⟩
 |some a=>
  obtain⟨j1,⟨j2,j3⟩,cs0,e0,j40,j5⟩:=g4.blk a ha;obtain⟨j6,cs,j4,j7⟩:=g4.full a ha;rw[j4]at j40;simp only[Option.some.injEq,Obj.cells.injEq]at j40;obtain⟨y1,y2,_⟩:=j40;subst y1 y2;have hgV:Gl.n<=V.heap.size:=hw.gV;have hlt:∀b d,ρ b=some d->b≠V.heap.size/\d≠a.block:=λb d hb=>by
   have h1:b<V.heap.size:=(hw.lt hb).1;have h2:=(hw.lt hb).2;omega
  have hga:Gl.n<=a.block:=Gq hw.gW j3;have hle:ρ.le (ρ.ext V.heap.size a.block hlt hgV hga):=λb d hb=>by show(if b=V.heap.size then some a.block else ρ b)=some d;rw[if_neg (hlt b d hb).1];exact hb
  have hrow:bH (V.alloc (.cells cs 3)) (some ⟨V.heap.size,0,none⟩) x.n x.g:=by
   rcases g4.row with h|⟨b1,o1,h,hr⟩
   .exact .inl h
   .rw[ha]at h;obtain rfl:=Gt h;have j6':o1=0:=j6;subst j6';refine .inr ⟨_,_,rfl,λi hi=>?_⟩;have:=hr i hi;simp only[World.cell?,j4]at this;simp only[World.cell?,heap_alloc_new];exact this
  refine⟨N,gs',w',sl',t',q',Shun',M',x.val,ρ.ext V.heap.size a.block hlt hgV hga,TryV.val {x with a:=some ⟨V.heap.size,0,none⟩},V.alloc (.cells cs 3),g1,g2,hle,?_,⟨λb d hb=>?_,rfl,rfl,?_,Gq hw.gW hsz⟩,λb d hb=>?_,⟨x,some ⟨V.heap.size,0,none⟩,g5,by rw[ha];simp,rfl,.inr ⟨cs,rfl,rfl,j5,hrow,g4.small,j7⟩⟩,g3.keep,g3.own,λb d hb=>?_,λb hr=>?_⟩
  .rw[TryV.val,TryV.val,ha];exact(aj.agg rfl λi x x' h h'=>by
    match i with
    |0=>simp at h h';subst h h';exact .bool _
    |1=>simp at h h';subst h h';exact .int _ _
    |2=>simp at h h';subst h h';exact .int _ _
    |3=>simp at h h';subst h h';exact .slice _ _ ⟨if_pos rfl,j6,j1⟩
    |i+4=>simp at h)
  .have hb':(if b=V.heap.size then some a.block else ρ b)=some d:=hb;split at hb'
   .rename_i e1;obtain rfl:=Gt hb';rw[e1];refine⟨_,_,heap_alloc_new _ _,j4,.cells ⟨rfl,λi x x' hx hx'=>?_⟩ (.inl rfl)⟩;rw[hx]at hx';obtain rfl:=Gt hx';obtain⟨n,rfl⟩:=j5 x (Array.mem_of_getElem? hx);exact .int _ _
   .obtain⟨o,o',i1,i2,i3⟩:=hw.heap b d hb';have h1:b<V.heap.size:=(hw.lt hb').1;exact⟨o,o',(Gc _ _ _ h1).trans i1,(hk b d hb').trans i2,i3.mono hle⟩
  .show Gl.n<=(V.alloc (.cells cs 3)).heap.size;simp;omega
  .have hb':(if b=V.heap.size then some a.block else ρ b)=some d:=hb;split at hb'
   .obtain rfl:=Gt hb';exact j2
   .exact g3.own d (ho b d hb')
  .have hb':(if b=V.heap.size then some a.block else ρ b)=some d:=hb;split at hb'
   .obtain rfl:=Gt hb';exact .inr j3
   .exact .inl hb'
  .obtain⟨c,e,hr⟩:=hr;exact Gc _ _ _ (Gp.1 hr).1
end
end
section
open Go Go.Conc
section
variable [Gl]{ok:Ctx}
def Dr24 (f:FuncId)(xs:Array Value)(V:World)(R:Value->World->Prop):Prop:=DrB f xs V R\/DrC f xs V R
theorem BE:jh ok Dr24:=by
 rintro f xs V V' v ρ R (h|h)
 .exact Do h
 .exact Du h
theorem BF (h:jg Tryz.prog ok xZ DrB):jg Tryz.prog ok xZ Dr24:=by
 rintro f xs V ρ xs' W M Shun gs r0 rest t q sl R hI (hd|hd)
 .exact h hI hd
 .exact zP hI hd
end
end
