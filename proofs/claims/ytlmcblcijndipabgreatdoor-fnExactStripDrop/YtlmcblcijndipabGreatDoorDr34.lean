import Derived.Test.YtlmcblcijndipabGreatDoorDr18
import Derived.Test.YtlmcblcijndipabGreatDoorDr22
import Derived.Test.YtlmcblcijndipabGreatDoorDr30
import Derived.Test.YtlmcblcijndipabGreatDoorDr21b
import Derived.Test.YtlmcblcijndipabGreatDoorDr31
set_option linter.unusedVariables false
set_option linter.unusedSectionVars false
namespace Go.Proofs.YtlmcblcijndipabGreatDoor
section
open Go Go.Conc Go.RowKit
def ltTry (y x:TryV):Bool:=decide (ie y x<0)
theorem pI:∀(xs:List TryV) (i:Nat) (y:TryV) (o:Nat),xs[i]?=some y->o<4->(xs.flatMap TryV.cells)[i*4+o]?=y.cells[o]?
 |[],i,y,o,h,_=>by simp at h
 |x::xs,0,y,o,h,ho=>by
  simp only[List.getElem?_cons_zero,Option.some.injEq]at h;subst h;rw[List.flatMap_cons,Nat.zero_mul,Nat.zero_add,List.getElem?_append_left (by simp[TryV.cells];exact ho)]
 |x::xs,i+1,y,o,h,ho=>by
  simp only[List.getElem?_cons_succ]at h;have hl:x.cells.length=4:=rfl;rw[List.flatMap_cons,List.getElem?_append_right (by rw[hl];omega),hl,show(i+1)*4+o-4=i*4+o by omega];exact pI xs i y o h ho
theorem sC {V:World}{b:Nat}{xs:List TryV}{T:TypeId}{z:Nat×Nat}(h:V.heap[b]?=some (.cells (xs.flatMap TryV.cells).toArray T z))(hx:∀x∈xs,bI V x.a x.n x.g/\x.n<=1048576):ug V b 0 xs.length (λi=>xs.getD i noTry):=by
 intro i hi;have hg:xs[i]?=some (xs.getD i noTry):=by simp[hi]
 have hm:xs.getD i noTry∈xs:=List.mem_of_getElem? hg;have hc:∀o,o<4->V.cell? ⟨b,0+i*4+o,none⟩=(xs.getD i noTry).cells[o]?:=λo ho=>by
  rw[<-pI xs i _ o hg ho];simp[World.cell?,h]
 show AX V b (0+i*4) (xs.getD i noTry);generalize xs.getD i noTry=y at hm hc;exact⟨hc 0 (by omega),hc 1 (by omega),hc 2 (by omega),hc 3 (by omega),(hx y hm).1,(hx y hm).2⟩
theorem sD (J:Jb)(hJ:J.lt=ltTry)(xs:List TryV):∀k,k<=xs.length->aR (λi=>xs.getD i noTry) k=J.leastL (xs.take k):=by
 intro k;induction k with
 |zero=>intro _;rfl
 |succ k ih=>
  intro hk;have hlt:k<xs.length:=by omega
  simp only[aR,ih (by omega)];rw[List.take_succ_eq_append_getElem hlt];have hg:xs.getD k noTry=xs[k]:=by simp[hlt]
  rw[hg];cases k with
  |zero=>simp[Jb.leastL]
  |succ k=>
   cases xs with
   |nil=>simp at hlt
   |cons x xs=>
    simp only[List.take_succ_cons,List.cons_append,Jb.leastL,List.foldl_append,List.foldl_cons,List.foldl_nil,Jb.pick,hJ,ltTry];simp
theorem ui (J:Jb)(hJ:J.lt=ltTry)(V:World)(b:Nat)(xs:List TryV)(z:Nat×Nat)(hl:xs.length<=1048576)(h:V.heap[b]?=some (.cells (xs.flatMap TryV.cells).toArray 222 z))(hx:∀x∈xs,bI V x.a x.n x.g/\x.n<=1048576):
  Calls Tryz0.prog 203 #[.slice (some ⟨b,0,none⟩) xs.length xs.length,.func (.func 204) #[] #[]] V λe w'=>e=.returned (J.leastL xs).val/\Below V.heap.size V w':=by
 have hb:b<V.heap.size:=(Array.getElem?_eq_some_iff.1 h).1;refine(su b 0 xs.length xs.length (λi=>xs.getD i noTry) V hl hb (sC h hx)).mono ?_;rintro e w' ⟨rfl,h2⟩;rw[sD J hJ xs _ (Nat.le_refl _),List.take_length];exact⟨rfl,h2⟩
section
variable [Gl]
theorem CQ {ok:Ctx}{M:Nat->Prop}{w:World}{b off n cap nb no nn:Nat}{f:Nat->Mv}{tb toff tc:Nat->Nat}{o:Nat->Nat->Nat}(hm:aq f n=true)
  (hrow:al w b off n f)(hpb:aH w b)(mb:M b)(mnb:M nb)(hnear:∀i,i<nn->w.cell? ⟨nb,no+i,none⟩=some (.slice (some ⟨tb i,toff i,none⟩) n (tc i)))
  (mtb:∀i,i<nn->M (tb i))(hpt:∀i,i<nn->aH w (tb i))(htc:∀i,i<nn->n<=tc i)(hti:∀i,i<nn->ag w (tb i) (toff i) n (λj=>(o i j:Int)))(ho:∀i,i<nn->∀j,j<n->o i j<n)(hd:∀i,i<nn->∀j k,j<k->k<n->o i j≠o i k)
  (hok:ok.inn 227=true/\ok.inn 203=true/\ok.fn 204=true):
  vY Tryz0.prog ok M w (some ⟨b,off,none⟩) n cap nb no nn (λi=>.slice (some ⟨tb i,toff i,none⟩) n (tc i)) (λi x=>i<nn/\(x=b\/x=tb i)) (λi x=>cm f n (o i) x) ltTry:=by
 have n6:=aF hm;have hplain:∀{S:Nat->Prop} {W₁:World} {x:Nat},aH w x->W₁.heap[x]?=w.heap[x]?->∃cs e,W₁.heap[x]?=some (.cells cs e (0,0))/\∀v∈cs,ah ok (jS S) v v:=by
  rintro S W₁ x ⟨cs,e,h1,h2⟩ hk;refine⟨cs,e,hk.trans h1,λv hv=>?_⟩;rcases h2 v hv with⟨x,rfl⟩|⟨k,x,rfl⟩|⟨s,rfl⟩
  .exact .bool _
  .exact .int _ _
  .exact .string _
 refine⟨mnb,hnear,λi x hx=>?_,λi hi W₁ k=>⟨λx hx=>?_⟩,λi hi=>.slice _ _ ⟨cJ.2 ⟨⟨hi,.inl rfl⟩,rfl⟩,rfl,rfl⟩,λi hi=>.slice _ _ ⟨cJ.2 ⟨⟨hi,.inr rfl⟩,rfl⟩,rfl,rfl⟩,λi hi F W₁ k τ d=>?_,?_,λV b xs z h1 h2 h3=>ui _ rfl V b xs z h1 h2 h3,hok⟩
 .obtain⟨hi,rfl|rfl⟩:=hx
  .exact mb
  .exact mtb i hi
 .have hk:=k.block x (.inr ⟨i,hx⟩);obtain⟨_,rfl|rfl⟩:=hx
  .exact hplain hpb hk
  .exact hplain (hpt i hi) hk
 .have kb:=k.block b (.inr ⟨i,hi,.inl rfl⟩);have kt:=k.block (tb i) (.inr ⟨i,hi,.inr rfl⟩);have cb:∀j,(re (cr F W₁) τ d).cell? ⟨b,j,none⟩=w.cell? ⟨b,j,none⟩:=λj=>(jT F W₁ _).trans (by simp only[World.cell?,kb])
  have ct:∀j,(re (cr F W₁) τ d).cell? ⟨tb i,j,none⟩=w.cell? ⟨tb i,j,none⟩:=λj=>(jT F W₁ _).trans (by simp only[World.cell?,kt])
  have hz:(re (cr F W₁) τ d).heap.size=W₁.heap.size:=ey F W₁;have lt_of:∀x,aH w x->x<W₁.heap.size:=λx hx=>by obtain⟨cs,e,h1,_⟩:=hx;exact Nat.lt_of_lt_of_le (Array.getElem?_eq_some_iff.1 h1).1 k.size
  have hr:al (re (cr F W₁) τ d) b off n f:=λj hj=>by
   obtain⟨c0,c1,c2,c3,c4,c5⟩:=hrow j hj;exact⟨(cb _).trans c0,(cb _).trans c1,(cb _).trans c2,(cb _).trans c3,(cb _).trans c4,(cb _).trans c5⟩
  refine(qN b off n cap f (tb i) (toff i) (tc i) (o i) _ hm (ho i hi) (hd i hi) (htc i hi) (by rw[hz];exact lt_of b hpb) hr (by rw[hz];exact lt_of _ (hpt i hi)) (λj hj=>(ct _).trans (hti i hi j hj))).mono ?_;rintro e w' ⟨x,rfl,h1,h2,h3⟩;refine⟨x,rfl,h1,?_,?_,λa ha=>?_,λa ha=>?_⟩
  .unfold cm at h1;cases ha:x.a with
   |none=>
    split at h1
    .exact absurd ha h1.2.2.2.2.2.2
    .exact .inl h1.2.2.2.1
   |some a=>
    obtain⟨B,rfl,_,hO⟩:=h2 a ha;split at h1
    .refine .inr ⟨B,0,rfl,?_⟩;rw[h1.2.2.2.1];exact hO.2
    .rw[h1.2.2.2.2.2]at ha;cases ha
  .unfold cm at h1;split at h1
   .rw[h1.2.2.2.1];omega
   .rw[h1.2.2.2.1];omega
  .obtain⟨B,rfl,hB,⟨cs,g1,g2⟩,g3⟩:=h2 a ha;refine⟨rfl,by rw[<-hz];exact hB,cs,_,g1,λv hv=>?_⟩;obtain⟨j,hj,rfl⟩:=Array.mem_iff_getElem.1 hv;have:=g3 j (by omega);simp only[World.cell?,g1,Nat.zero_add]at this;rw[Array.getElem?_eq_getElem hj]at this;exact⟨_,Option.some.inj this⟩
  .obtain⟨B,rfl,hB,⟨cs,g1,g2⟩,g3⟩:=h2 a ha;refine⟨rfl,cs,g1,?_⟩;unfold cm at h1;split at h1
   .rw[g2,h1.2.2.2.1]
   .rw[h1.2.2.2.2.2]at ha;cases ha
 .intro i x a' h1 h2;unfold cm at h1⊢;split at h1
  .refine⟨h1.1,h1.2.1,h1.2.2.1,h1.2.2.2.1,h1.2.2.2.2.1,h1.2.2.2.2.2.1,λe=>h1.2.2.2.2.2.2 (h2.2 e)⟩
  .exact⟨h1.1,h1.2.1,h1.2.2.1,h1.2.2.2.1,h1.2.2.2.2.1,h2.1 h1.2.2.2.2.2⟩
end
structure Ct (V:World)(b off n nb no nn:Nat)(f:Nat->Mv)(tb toff tc:Nat->Nat)(o:Nat->Nat->Nat):Prop where
 moves:aq f n=true
 row:al V b off n f
 plain:aH V b
 near:∀i,i<nn->V.cell? ⟨nb,no+i,none⟩=some (.slice (some ⟨tb i,toff i,none⟩) n (tc i))
 tplain:∀i,i<nn->aH V (tb i)
 tcap:∀i,i<nn->n<=tc i
 turn:∀i,i<nn->ag V (tb i) (toff i) n (λj=>(o i j:Int))
 lt:∀i,i<nn->∀j,j<n->o i j<n
 ne:∀i,i<nn->∀j k,j<k->k<n->o i j≠o i k
 small:nn+4<4611686018427387904
 some_:0<nn
theorem Ct.re {V:World}{b off n nb no nn:Nat}{f:Nat->Mv}{tb toff tc:Nat->Nat}{o:Nat->Nat->Nat}(h:Ct V b off n nb no nn f tb toff tc o)(τ:Nat->Question->Nat)(d:Nat):Ct (re V τ d) b off n nb no nn f tb toff tc o:=
 ⟨h.moves,λi hi=>by obtain⟨c0,c1,c2,c3,c4,c5⟩:=h.row i hi;exact⟨c0,c1,c2,c3,c4,c5⟩,h.plain,h.near,h.tplain,h.tcap,λi hi j hj=>h.turn i hi j hj,h.lt,h.ne,h.small,h.some_⟩
def yw (V:World)(x:TryV)(V':World):Prop:=
 (x.a=none/\x.n=0/\V'=V)\/∃cs,x.a=some ⟨V.heap.size,0,none⟩/\V'=V.alloc (.cells cs 3)/\(∀v∈cs,∃n:Int,v=.int .i64 n)/\bI V' x.a x.n x.g/\x.n<=1048576/\cs.size=x.n
def DrB (f:FuncId)(xs:Array Value)(V:World)(R:Value->World->Prop):Prop:=
 f=181/\∃b off n cap nb no nn nc mv tb toff tc o,xs=#[.slice (some ⟨b,off,none⟩) n cap,.slice (some ⟨nb,no,none⟩) nn nc]/\Ct V b off n nb no nn mv tb toff tc o/\
  R=λv V'=>∃(x:TryV) (aL:Option Addr),CE ltTry (λi x=>cm mv n (o i) x) nn x/\(x.a=none<->aL=none)/\v=TryV.val {x with a:=aL}/\yw V {x with a:=aL} V'
section
variable [Gl]{ok okw:Ctx}{ρ:Ren}{V W:World}
theorem aC.cell (hw:aC ok true ρ V W){b b' j:Nat}(hb:ρ b=some b'){v:Value}(hv:V.cell? ⟨b,j,none⟩=some v):∃v',W.cell? ⟨b',j,none⟩=some v'/\ah ok ρ v v':=by
 obtain⟨o,o',h1,h2,h3⟩:=hw.heap b b' hb;simp only[World.cell?,h1,h2]at hv⊢;cases h3 with
 |cells hc _=>
  obtain⟨v',e,r⟩:=hc.get hv;exact⟨v',e,r⟩
 |_=>simp at hv
theorem aC.intCell (hw:aC ok true ρ V W){b b' j:Nat}(hb:ρ b=some b'){k:IntKind}{n:Int}(hv:V.cell? ⟨b,j,none⟩=some (.int k n)):W.cell? ⟨b',j,none⟩=some (.int k n):=by
 obtain⟨v',e,r⟩:=hw.cell hb hv;cases r;exact e
theorem aC.boolCell (hw:aC ok true ρ V W){b b' j:Nat}(hb:ρ b=some b'){n:Bool}(hv:V.cell? ⟨b,j,none⟩=some (.bool n)):W.cell? ⟨b',j,none⟩=some (.bool n):=by
 obtain⟨v',e,r⟩:=hw.cell hb hv;cases r;exact e
theorem aC.strCell (hw:aC ok true ρ V W){b b' j:Nat}(hb:ρ b=some b'){n:ByteArray}(hv:V.cell? ⟨b,j,none⟩=some (.string n)):W.cell? ⟨b',j,none⟩=some (.string n):=by
 obtain⟨v',e,r⟩:=hw.cell hb hv;cases r;exact e
theorem aC.plain (hw:aC ok true ρ V W){b b':Nat}(hb:ρ b=some b')(hp:aH V b):aH W b':=by
 obtain⟨cs,e,h1,h2⟩:=hp;obtain⟨o,o',g1,g2,g3⟩:=hw.heap b b' hb;rw[h1]at g1;obtain rfl:=Option.some.inj g1;cases g3 with
 |@cells _ c' _ _ z' hc hz=>
  replace hz:=hz.resolve_right (λh=>by have:=congrArg Prod.snd h.2.1;have h0:=h.2.2;simp at this;omega);refine⟨c',e,by rw[g2,hz];rfl,λv hv=>?_⟩;obtain⟨i,hi,rfl⟩:=Array.mem_iff_getElem.1 hv;have hi':i<cs.size:=by rw[hc.size];exact hi
  have hr:=hc.at_ i cs[i] c'[i] (Array.getElem?_eq_getElem hi') (Array.getElem?_eq_getElem hi);generalize c'[i]=u at hr;rcases h2 cs[i] (Array.getElem_mem hi')with⟨x,e⟩|⟨k,x,e⟩|⟨s,e⟩
  .rw[e]at hr;cases hr;exact .inl ⟨_,rfl⟩
  .rw[e]at hr;cases hr;exact .inr (.inl ⟨_,_,rfl⟩)
  .rw[e]at hr;cases hr;exact .inr (.inr ⟨_,rfl⟩)
theorem aC.mvRow (hw:aC ok true ρ V W){b b' off n:Nat}{f:Nat->Mv}(hb:ρ b=some b')(hr:al V b off n f):al W b' off n f:=by
 intro j hj;obtain⟨c0,c1,c2,c3,c4,c5⟩:=hr j hj;exact⟨by first|exact hw.strCell hb c0|exact hw.intCell hb c0|exact hw.boolCell hb c0,by first|exact hw.strCell hb c1|exact hw.intCell hb c1|exact hw.boolCell hb c1,by first|exact hw.strCell hb c2|exact hw.intCell hb c2|exact hw.boolCell hb c2,by first|exact hw.strCell hb c3|exact hw.intCell hb c3|exact hw.boolCell hb c3,by first|exact hw.strCell hb c4|exact hw.intCell hb c4|exact hw.boolCell hb c4,by first|exact hw.strCell hb c5|exact hw.intCell hb c5|exact hw.boolCell hb c5⟩
theorem nN {a:Addr}{n c:Nat}{v':Value}(h:ah ok ρ (.slice (some a) n c) v'):∃a',v'=.slice (some a') n c/\bj ρ a a':=by
 cases h with
 |slice _ _ r=>exact⟨_,rfl,r⟩
theorem Bt:iL ok DrB:=by
 rintro f xs V V' v ρ R ⟨rfl,b,off,n,cap,nb,no,nn,nc,mv,tb,toff,tc,o,rfl,hf,rfl⟩ ⟨x₀,aL,_,_,rfl,hfr⟩ _ hw;generalize ({x₀ with a:=aL}:TryV)=x at hfr⊢;rcases hfr with⟨h1,_,rfl⟩|⟨cs,h1,rfl,h3,_,_⟩
 .refine⟨ρ,Ren.le_refl _,?_,hw⟩;rw[TryV.val,h1];exact(ah.agg rfl λi x x' h h'=>by
   match i with
   |0=>simp at h h';subst h h';exact .bool _
   |1=>simp at h h';subst h h';exact .int _ _
   |2=>simp at h h';subst h h';exact .int _ _
   |3=>simp at h h';subst h h';exact .slice0 _ _
   |i+4=>simp at h)
 .have hlt:∀b c,ρ b=some c->b≠V.heap.size/\c≠V.heap.size:=λb c hb=>by have:=hw.lt hb;omega
  refine⟨ρ.ext V.heap.size V.heap.size hlt hw.gV hw.gV,λb c hb=>?_,?_,?_⟩
  .show(if b=V.heap.size then some V.heap.size else ρ b)=some c;rw[if_neg (hlt b c hb).1];exact hb
  .rw[TryV.val,h1];exact(ah.agg rfl λi x x' h h'=>by
    match i with
    |0=>simp at h h';subst h h';exact .bool _
    |1=>simp at h h';subst h h';exact .int _ _
    |2=>simp at h h';subst h h';exact .int _ _
    |3=>simp at h h';subst h h';exact .slice _ _ ⟨if_pos rfl,rfl,rfl⟩
    |i+4=>simp at h)
  .refine⟨λb c hb=>?_,rfl,rfl,by simp;exact Nat.le_succ_of_le hw.gV,by simp;exact Nat.le_succ_of_le hw.gV⟩;have hle:ρ.le (ρ.ext V.heap.size V.heap.size hlt hw.gV hw.gV):=λb c hb=>by show(if b=V.heap.size then some V.heap.size else ρ b)=some c;rw[if_neg (hlt b c hb).1];exact hb
   have hb':(if b=V.heap.size then some V.heap.size else ρ b)=some c:=hb;split at hb'
   .rename_i e1;obtain rfl:=Option.some.inj hb';rw[e1];refine⟨_,_,heap_alloc_new _ _,heap_alloc_new _ _,.cells ⟨rfl,λi x x' hx hx'=>?_⟩ (.inl rfl)⟩;rw[hx]at hx';obtain rfl:=Option.some.inj hx';obtain⟨n,rfl⟩:=h3 x (Array.mem_of_getElem? hx);exact .int _ _
   .obtain⟨o,o',g1,g2,g3⟩:=hw.heap b c hb';have:=hw.lt hb';exact⟨o,o',by rw[Below.heap_alloc _ _ _ this.1];exact g1,by rw[Below.heap_alloc _ _ _ this.2];exact g2,g3.mono hle⟩
theorem yx {P₀:Program}{c:Frame}(hA:P₀=Tryz0.prog)(hP₀:bh P₀ P₀ okw)(hP:bh P₀ Tryz.prog okw)(hin:∀f,okw.fn f=true->okw.inn f=true)(hFl:eI P₀ c)
  (hok:okw.inn 227=true/\okw.inn 203=true/\okw.fn 204=true){Inv:(Nat->Prop)->World->Prop}:iK Tryz.prog ok Inv DrB:=by
 subst hA;rintro f xs V ρ xs' W M Shun gs r0 rest t q sl R-⟨rfl,b,off,n,cap,nb,no,nn,nc,mv,tb,toff,tc,o,rfl,hf,rfl⟩ hxs hw ho hl;have hV:∀a,(re V W.tape W.drawn).cell? a=V.cell? a:=λ_=>rfl
 have hf0:=hf;replace hf:=hf.re W.tape W.drawn;obtain⟨x0,e0,r0'⟩:=hxs.get (i:=0) rfl;obtain⟨x1,e1,r1'⟩:=hxs.get (i:=1) rfl;obtain⟨a0,rfl,s0⟩:=nN r0';obtain⟨a1,rfl,s1⟩:=nN r1';obtain⟨b',off',sp⟩:=a0;obtain⟨nb',no',sp'⟩:=a1;have q1:=s0.off;have q2:=s0.spot;have q3:=s1.off;have q4:=s1.spot;have hb:ρ b=some b':=s0.blk;have hnb:ρ nb=some nb':=s1.blk;simp only at q1 q2 q3 q4;subst q1 q2 q3 q4;have hx:xs'=#[.slice (some ⟨b',off',none⟩) n cap,.slice (some ⟨nb',no',none⟩) nn nc]:=by
  have hz:=hxs.size;refine Array.ext (by simpa using hz.symm) λi h1 h2=>?_
  have h2:i<2:=h2;match i with
  |0=>rw[Array.getElem?_eq_getElem h1]at e0;exact Option.some.inj e0
  |1=>rw[Array.getElem?_eq_getElem h1]at e1;exact Option.some.inj e1
 subst hx;have hnear:∀i,i<nn->∃t',ρ (tb i)=some t'/\W.cell? ⟨nb',no'+i,none⟩=some (.slice (some ⟨t',toff i,none⟩) n (tc i)):=λi hi=>by
  obtain⟨v',h1,h2⟩:=hw.cell hnb (hf.near i hi);obtain⟨a',rfl,r⟩:=nN h2;obtain⟨t',o',sp⟩:=a';have h3:=r.off;have h4:=r.spot;simp only at h3 h4;subst h3 h4;exact⟨t',r.blk,h1⟩
 let tb':Nat->Nat:=λi=>(ρ (tb i)).getD 0
 have htb:∀i,i<nn->ρ (tb i)=some (tb' i):=λi hi=>by obtain⟨t',h1,_⟩:=hnear i hi;simp[tb',h1]
 have hfd:=CQ (ok:=okw) (M:=M) (w:=W) (b:=b') (off:=off') (n:=n) (cap:=cap) (nb:=nb') (no:=no') (nn:=nn) (f:=mv) (tb:=tb') (toff:=toff) (tc:=tc) (o:=o) hf.moves (hw.mvRow hb hf.row) (hw.plain hb hf.plain) (ho _ _ hb) (ho _ _ hnb)
  (λi hi=>by obtain⟨t',h1,h2⟩:=hnear i hi;rw[htb i hi]at h1;rw[h2,<-Option.some.inj h1]) (λi hi=>ho _ _ (htb i hi)) (λi hi=>hw.plain (htb i hi) (hf.tplain i hi)) hf.tcap (λi hi j hj=>hw.intCell (htb i hi) (hf.turn i hi j hj)) hf.lt hf.ne hok
 have hbd:Tryz.f181.body=some body24:=by unfold body24;kernel_rfl
 have hE:Frame.enter Tryz.prog 181 #[.slice (some ⟨b',off',none⟩) n cap,.slice (some ⟨nb',no',none⟩) nn nc] .normal=(base 181).at ⟨#[.slice (some ⟨b',off',none⟩) n cap,.slice (some ⟨nb',no',none⟩) nn nc,undef,undef,undef,undef,undef,undef,undef,undef,undef,undef,undef,undef,undef,undef,undef,undef,undef,undef,undef],[]⟩ [.code body24]:=
  (enter_at _ Tryz.func181 hbd).trans (by simp only[Tryz.ntmps181,List.size_toArray,List.length_cons,List.length_nil,Nat.reduceAdd,Nat.reduceSub,Array.replicate_succ,Array.replicate_zero,List.push_toArray,List.append_toArray,List.nil_append,List.cons_append])
 rw[hE]at hl;obtain⟨N,gs',w',sl',t',q',Shun',M',x,g1,g2,g3,g4,g5⟩:=Bo (sl:=sl) hP₀ hP hin hFl hf.small hl hfd hw.gW;have hk:∀b d,ρ b=some d->w'.heap[d]?=W.heap[d]?:=λb d hb=>g3.keep.block d (ho b d hb)
 have hsz:=g3.keep.size;cases ha:x.a with
 |none=>
  have hn0:x.n=0:=by
   rcases g4.row with h|⟨_,_,h,_⟩
   .exact h
   .rw[ha]at h;cases h
  have hxe:({x with a:=none}:TryV)=x:=by rw[<-ha]
  refine⟨N,gs',w',sl',t',q',Shun',M',x.val,ρ,x.val,V,g1,g2,Ren.le_refl _,?_,⟨λb d hb=>?_,rfl,rfl,hw.gV,Nat.le_trans hw.gW hsz⟩,λb d hb=>g3.own d (ho b d hb),⟨x,none,g5,by rw[ha],by rw[hxe],by rw[hxe];exact .inl ⟨ha,hn0,rfl⟩⟩,g3.keep,g3.own,λb d hb=>.inl hb,λb _=>rfl⟩
  .rw[TryV.val,ha];exact(ah.agg rfl λi x x' h h'=>by
    match i with
    |0=>simp at h h';subst h h';exact .bool _
    |1=>simp at h h';subst h h';exact .int _ _
    |2=>simp at h h';subst h h';exact .int _ _
    |3=>simp at h h';subst h h';exact .slice0 _ _
    |i+4=>simp at h)
  .obtain⟨o,o',i1,i2,i3⟩:=hw.heap b d hb;exact⟨o,o',i1,(hk b d hb).trans i2,i3⟩
 |some a=>
  obtain⟨j1,⟨j2,j3⟩,cs0,e0,j40,j5⟩:=g4.blk a ha;obtain⟨j6,cs,j4,j7⟩:=g4.full a ha;rw[j4]at j40;simp only[Option.some.injEq,Obj.cells.injEq]at j40;obtain⟨y1,y2,_⟩:=j40;subst y1 y2;have hgV:Gl.n<=V.heap.size:=hw.gV;have hlt:∀b d,ρ b=some d->b≠V.heap.size/\d≠a.block:=λb d hb=>by
   have h1:b<V.heap.size:=(hw.lt hb).1;have h2:=(hw.lt hb).2;omega
  have hga:Gl.n<=a.block:=Nat.le_trans hw.gW j3;have hle:ρ.le (ρ.ext V.heap.size a.block hlt hgV hga):=λb d hb=>by show(if b=V.heap.size then some a.block else ρ b)=some d;rw[if_neg (hlt b d hb).1];exact hb
  have hrow:bI (V.alloc (.cells cs 3)) (some ⟨V.heap.size,0,none⟩) x.n x.g:=by
   rcases g4.row with h|⟨b1,o1,h,hr⟩
   .exact .inl h
   .rw[ha]at h;obtain rfl:=Option.some.inj h;have j6':o1=0:=j6;subst j6';refine .inr ⟨_,_,rfl,λi hi=>?_⟩;have:=hr i hi;simp only[World.cell?,j4]at this;simp only[World.cell?,heap_alloc_new];exact this
  refine⟨N,gs',w',sl',t',q',Shun',M',x.val,ρ.ext V.heap.size a.block hlt hgV hga,TryV.val {x with a:=some ⟨V.heap.size,0,none⟩},V.alloc (.cells cs 3),g1,g2,hle,?_,⟨λb d hb=>?_,rfl,rfl,?_,Nat.le_trans hw.gW hsz⟩,λb d hb=>?_,⟨x,some ⟨V.heap.size,0,none⟩,g5,by rw[ha];simp,rfl,.inr ⟨cs,rfl,rfl,j5,hrow,g4.small,j7⟩⟩,g3.keep,g3.own,λb d hb=>?_,λb hr=>?_⟩
  .rw[TryV.val,TryV.val,ha];exact(ah.agg rfl λi x x' h h'=>by
    match i with
    |0=>simp at h h';subst h h';exact .bool _
    |1=>simp at h h';subst h h';exact .int _ _
    |2=>simp at h h';subst h h';exact .int _ _
    |3=>simp at h h';subst h h';exact .slice _ _ ⟨if_pos rfl,j6,j1⟩
    |i+4=>simp at h)
  .have hb':(if b=V.heap.size then some a.block else ρ b)=some d:=hb;split at hb'
   .rename_i e1;obtain rfl:=Option.some.inj hb';rw[e1];refine⟨_,_,heap_alloc_new _ _,j4,.cells ⟨rfl,λi x x' hx hx'=>?_⟩ (.inl rfl)⟩;rw[hx]at hx';obtain rfl:=Option.some.inj hx';obtain⟨n,rfl⟩:=j5 x (Array.mem_of_getElem? hx);exact .int _ _
   .obtain⟨o,o',i1,i2,i3⟩:=hw.heap b d hb';have h1:b<V.heap.size:=(hw.lt hb').1;exact⟨o,o',(Below.heap_alloc _ _ _ h1).trans i1,(hk b d hb').trans i2,i3.mono hle⟩
  .show Gl.n<=(V.alloc (.cells cs 3)).heap.size;simp;omega
  .have hb':(if b=V.heap.size then some a.block else ρ b)=some d:=hb;split at hb'
   .obtain rfl:=Option.some.inj hb';exact j2
   .exact g3.own d (ho b d hb')
  .have hb':(if b=V.heap.size then some a.block else ρ b)=some d:=hb;split at hb'
   .obtain rfl:=Option.some.inj hb';exact .inr j3
   .exact .inl hb'
  .obtain⟨c,e,hr⟩:=hr;exact Below.heap_alloc _ _ _ (Array.getElem?_eq_some_iff.1 hr).1
end
end
section
open Go Go.RowKit
theorem nS (g h:Nat->Int)(n:Nat):∀f k,k+f=n->decide (eA g h n n f k<0)=dm (eh g f k) (eh h f k)
 |0,k,_=>by simp[eA,eh,dm]
 |f+1,k,e=>by
  rw[eA,if_neg (by omega),eh,eh,dm];unfold eN;by_cases h1:g k=h k
  .rw[h1];simp only[Int.lt_irrefl,if_false,if_true];exact nS g h n f (k+1) (by omega)
  .rw[if_neg h1];by_cases h2:g k<h k
   .rw[if_pos h2];simp[h2]
   .have h3:h k<g k:=by omega
    rw[if_neg h2,if_pos h3];simp[h2]
def TryV.key (x:TryV):Option (List Int):=if x.ok=true then some (x.sum::x.most::eh x.g x.n 0)else none
def eR (n:Nat)(x:TryV):Prop:=if x.ok=true then x.n=n else x.sum=0/\x.most=0/\x.n=0
theorem eR.len {n:Nat}{x:TryV}(h:eR n x):∀l,x.key=some l->l.length=n+2:=by
 intro l hl;unfold TryV.key at hl;unfold eR at h;split at hl
 .rename_i e;rw[if_pos e]at h;obtain rfl:=Option.some.inj hl;simp[iX,h]
 .cases hl
theorem Ag (n:Nat):eR n noTry:=by simp[eR,noTry]
theorem Ah (a b c:Int):decide (vd a b c<0)=if a=0 then(if b=0 then decide (c<0)else decide (b<0))else decide (a<0):=by
 unfold vd;split<;>(try split)<;>rfl
theorem wA {a b:Int}:eN a b=0<->a=b:=by unfold eN;split<;>(try split)<;>omega
theorem yE {a b:Int}:eN a b<0<->a<b:=by unfold eN;split<;>(try split)<;>omega
theorem pM {n:Nat}{x y:TryV}(hx:eR n x)(hy:eR n y):ltTry x y=bp x.key y.key:=by
 unfold ltTry ie TryV.key;unfold eR at hx hy;cases h1:x.ok<;>cases h2:y.ok<;>simp only[h1,h2,if_true,if_false,Bool.false_eq_true,Bool.true_eq_false,bp]at hx hy⊢
 .rw[hx.1,hx.2.1,hx.2.2,hy.1,hy.2.1,hy.2.2];simp[vd,eN,eA]
 .simp
 .simp
 .rw[hx,hy,Ah,nS _ _ _ n 0 (by omega),dm,dm];simp only[wA,yE]
theorem cm.good {f:Nat->Mv}{n:Nat}{o:Nat->Nat}{x:TryV}(h:cm f n o x):eR n x:=by
 unfold cm at h;unfold eR;split at h
 .rw[if_pos h.1];exact h.2.2.2.1
 .rw[if_neg (by rw[h.1];simp)];exact⟨h.2.1,h.2.2.1,h.2.2.2.1⟩
theorem cm.key {f:Nat->Mv}{n:Nat}{o:Nat->Nat}{x:TryV}(h:cm f n o x):x.key=(bL f o n).map (de f n):=by
 unfold cm at h;unfold TryV.key;split at h
 .rename_i T e;rw[if_pos h.1,h.2.1,h.2.2.1,h.2.2.2.1,nR n 0 (λi _ hi=>h.2.2.2.2.2.1 i (by omega)),e];rfl
 .rename_i e;rw[if_neg (by rw[h.1];simp),e];rfl
structure vl (J:Jb)(n:Nat)(seq:List Nat)(x:TryV):Prop where
 is:x=noTry\/∃i∈seq,J.Is i x
 all:∀i∈seq,∃y,J.Is i y/\bp y.key x.key=false
section
variable {J:Jb}{f:Nat->Mv}{n:Nat}{o:Nat->Nat->Nat}(hlt:J.lt=ltTry)(hIs:J.Is=λi x=>cm f n (o i) x)
include hlt hIs
theorem vl.good {seq:List Nat}{x:TryV}(h:vl J n seq x):eR n x:=by
 rcases h.is with rfl|⟨i,_,hi⟩
 .exact Ag n
 .rw[hIs]at hi;exact cm.good hi
theorem oR {seq:List Nat}{x:TryV}(h:nh J seq x):vl J n seq x:=by
 induction h with
 |nil=>exact⟨.inl rfl,λi hi=>by simp at hi⟩
 |@snoc seq i x y hb hi ih=>
  have gx:=ih.good hlt hIs;have gy:eR n y:=by rw[hIs]at hi;exact cm.good hi
  have hk:J.lt y x=bp y.key x.key:=by rw[hlt];exact pM gy gx
  unfold Jb.pick;rw[hk];by_cases hp:bp y.key x.key=true
  .rw[if_pos hp];refine⟨.inr ⟨i,by simp,hi⟩,λk hk=>?_⟩;rcases List.mem_append.1 hk with hk|hk
   .obtain⟨z,hz,hz'⟩:=ih.all k hk;have gz:eR n z:=by rw[hIs]at hz;exact cm.good hz
    exact⟨z,hz,wz gx.len gy.len hz' hp gz.len⟩
   .simp at hk;subst hk;exact⟨y,hi,cg _⟩
  .rw[if_neg hp];refine⟨?_,λk hk=>?_⟩
   .rcases ih.is with e|⟨k,hk,e⟩
    .exact .inl e
    .exact .inr ⟨k,by simp[hk],e⟩
   .rcases List.mem_append.1 hk with hk|hk
    .exact ih.all k hk
    .simp at hk;subst hk;exact⟨y,hi,by simpa using hp⟩
theorem j9:∀(xs:List TryV) (x:TryV),eR n x->(∀y∈xs,eR n y)->eR n (xs.foldl J.pick x)/\(xs.foldl J.pick x=x\/xs.foldl J.pick x∈xs)/\bp x.key (xs.foldl J.pick x).key=false/\∀y∈xs,bp y.key (xs.foldl J.pick x).key=false
 |[],x,gx,_=>⟨gx,.inl rfl,cg _,λy hy=>by simp at hy⟩
 |y::xs,x,gx,h=>by
  have gy:=h y (by simp);have hk:J.lt y x=bp y.key x.key:=by rw[hlt];exact pM gy gx
  rw[List.foldl_cons];by_cases hp:bp y.key x.key=true
  .have e:J.pick x y=y:=by unfold Jb.pick;rw[hk,if_pos hp]
   rw[e];obtain⟨a,b,c,d⟩:=j9 xs y gy λz hz=>h z (by simp[hz])
   refine⟨a,b.elim (λe=>.inr (by simp[e])) (λe=>.inr (by simp[e])),?_,λz hz=>?_⟩
   .cases hx:bp x.key (xs.foldl J.pick y).key with
    |false=>rfl
    |true=>rw[iV hp hx]at c;cases c
   .rcases List.mem_cons.1 hz with rfl|hz
    .exact c
    .exact d z hz
  .have e:J.pick x y=x:=by unfold Jb.pick;rw[hk,if_neg hp]
   rw[e];obtain⟨a,b,c,d⟩:=j9 xs x gx λz hz=>h z (by simp[hz])
   refine⟨a,b.elim .inl (λe=>.inr (by simp[e])),c,λz hz=>?_⟩;rcases List.mem_cons.1 hz with rfl|hz
   .exact ij gy.len gx.len a.len (by simpa using hp) c
   .exact d z hz
end
theorem wC {f:Nat->Mv}{n nn:Nat}{o:Nat->Nat->Nat}{x:TryV}(h:CE ltTry (λi x=>cm f n (o i) x) nn x):
  (x=noTry\/∃k,k<nn/\cm f n (o k) x)/\∀k,k<nn->bp ((bL f (o k) n).map (de f n)) x.key=false:=by
 obtain⟨J,xs,seq,hlt,hIs,h4,hB,hall,hlow,rfl⟩:=h;have hL:∀i y,xs[i]?=some y->vl J n (seq i) y:=λi y hy=>oR hlt hIs (hB i y hy)
 have hg:∀y∈xs,eR n y:=λy hy=>by
  obtain⟨i,hi⟩:=List.getElem?_of_mem hy;exact(hL i y hi).good hlt hIs
 match xs,h4,hL,hg with
 |x::r,h4,hL,hg=>
  obtain⟨a,b,c,d⟩:=j9 hlt hIs r x (hg x (by simp)) λy hy=>hg y (by simp[hy])
  have hle:∀y∈x::r,bp y.key (r.foldl J.pick x).key=false:=λy hy=>by
   rcases List.mem_cons.1 hy with rfl|hy
   .exact c
   .exact d y hy
  have hmem:r.foldl J.pick x∈x::r:=b.elim (λe=>by rw[e];simp) (λe=>by simp[e]);refine⟨?_,λk hk=>?_⟩
  .obtain⟨i,hi⟩:=List.getElem?_of_mem hmem;have hi4:i<4:=by have:=(List.getElem?_eq_some_iff.1 hi).1;omega
   rcases(hL i _ hi).is with e|⟨k,hk,e⟩
   .exact .inl e
   .rw[hIs]at e;exact .inr ⟨k,hlow i hi4 k hk,e⟩
  .obtain⟨i,hi,hm⟩:=hall k hk;obtain⟨y,hy⟩:∃y,(x::r)[i]?=some y:=⟨_,List.getElem?_eq_getElem (by omega)⟩;have hyL:=hL i y hy;obtain⟨z,hz,hz'⟩:=hyL.all k hm;rw[hIs]at hz;rw[<-cm.key hz];exact ij (cm.good hz).len (hyL.good hlt hIs).len a.len hz' (hle y (List.mem_of_getElem? hy))
theorem yF {f:Nat->Mv}{n:Nat}{L:List (List Nat)}{x:TryV}(h:CE ltTry (λi x=>cm f n (pl (L.getD i [])) x) L.length x):
  match cQ f n L with
  |some T=>x.ok=true/\x.n=n/\x.cap=n/\x.a≠none/\∀i,i<n->x.g i=T i
  |none=>x.ok=false/\x.n=0/\x.cap=0/\x.a=none:=by
 obtain⟨h1,h2⟩:=wC (o:=λi=>pl (L.getD i [])) h;obtain⟨k1,_,k3⟩:=sL f n L none;change (cQ f n L=none\/∃l∈L,cQ f n L=bL f (pl l) n)at k1;change ∀l∈L,bp _ ((cQ f n L).map (de f n))=false at k3;have hG:∀k,k<L.length->L.getD k []∈L:=λk hk=>by simp[hk]
 have hI:∀l∈L,∃k,k<L.length/\L.getD k []=l:=λl hl=>by
  obtain⟨k,hk⟩:=List.getElem?_of_mem hl;exact⟨k,(List.getElem?_eq_some_iff.1 hk).1,by simp[List.getD,hk]⟩
 have hno:x.ok=false->x.n=0/\x.cap=0/\x.a=none/\x.key=none:=λe=>by
  refine and_assoc.1 (and_assoc.1 ⟨?_,by simp[TryV.key,e]⟩)|>λh=>h
  rcases h1 with rfl|⟨k,hk,h1⟩
  .exact⟨⟨rfl,rfl⟩,rfl⟩
  .unfold cm at h1;split at h1
   .rw[h1.1]at e;cases e
   .exact⟨⟨h1.2.2.2.1,h1.2.2.2.2.1⟩,h1.2.2.2.2.2⟩
 cases hb:cQ f n L with
 |none=>
  cases hx:x.ok with
  |false=>obtain⟨a,b,c,d⟩:=hno hx;exact⟨rfl,a,b,c⟩
  |true=>
   exfalso;rcases h1 with rfl|⟨k,hk,h1⟩
   .simp[noTry]at hx
   .have:=k3 _ (hG k hk);rw[hb]at this;unfold cm at h1;split at h1
    .rename_i T e;try dsimp only at e
     rw[e]at this;simp[bp]at this
    .rw[h1.1]at hx;cases hx
 |some T=>
  rw[hb]at k1 k3;obtain⟨l,hl,e⟩:=k1.resolve_left (by simp);obtain⟨k,hk,e2⟩:=hI l hl;have h3:=h2 k hk;try dsimp only at h3
  rw[e2,<-e]at h3;cases hx:x.ok with
  |false=>rw[(hno hx).2.2.2]at h3;simp[bp]at h3
  |true=>
   rcases h1 with rfl|⟨q,hq,h1⟩
   .simp[noTry]at hx
   .have hkey:=cm.key h1;have h4:=k3 _ (hG q hq);rw[<-hkey]at h4;unfold cm at h1;split at h1
    .rename_i S e3;try dsimp only at e3
     try dsimp only at hkey
     rw[e3]at hkey;rw[hkey]at h3 h4;have:=nQ (by rw[iY,iY]) h3 h4;unfold de at this;simp only[List.cons.injEq]at this;have hi:=sK n 0 this.2.2;exact⟨rfl,h1.2.2.2.1,h1.2.2.2.2.1,h1.2.2.2.2.2.2,λi hi'=>(h1.2.2.2.2.2.1 i hi').trans (hi i (by omega) (by omega)).symm⟩
    .rw[h1.1]at hx;cases hx
end
end Go.Proofs.YtlmcblcijndipabGreatDoor
