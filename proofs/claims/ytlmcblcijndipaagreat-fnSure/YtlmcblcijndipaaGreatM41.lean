import Derived.Test.YtlmcblcijndipaaGreatM10b
import Derived.Test.YtlmcblcijndipaaGreatM40
import Derived.Test.YtlmcblcijndipaaGreatM03
import Derived.Test.YtlmcblcijndipaaGreatM12
set_option linter.unusedVariables false
set_option maxRecDepth 100000
namespace Go.Proofs.YtlmcblcijndipaaGreat
open Go Go.Conc Go.RowKit
structure AH (V:World)(b off n nb no nn:Nat)(f:Nat->Mv)(tb toff tc:Nat->Nat)(o:Nat->Nat->Nat):Prop where
 moves:ap f n=true
 row:aw V b off n f
 plain:aM V b
 near:∀i,i<nn->V.cell? ⟨nb,no+i,none⟩=some (.slice (some ⟨tb i,toff i,none⟩) n (tc i))
 tplain:∀i,i<nn->aM V (tb i)
 tcap:∀i,i<nn->n<=tc i
 turn:∀i,i<nn->ak V (tb i) (toff i) n (λj=>(o i j:Int))
 lt:∀i,i<nn->∀j,j<n->o i j<n
 ne:∀i,i<nn->∀j k,j<k->k<n->o i j≠o i k
 small:nn+4<4611686018427387904
 some_:0<nn
theorem AH.re {V:World}{b off n nb no nn:Nat}{f:Nat->Mv}{tb toff tc:Nat->Nat}{o:Nat->Nat->Nat}(h:AH V b off n nb no nn f tb toff tc o)(τ:Nat->Question->Nat)(d:Nat):AH (re V τ d) b off n nb no nn f tb toff tc o:=
 ⟨h.moves,λi hi=>by obtain⟨c0,c1,c2,c3,c4,c5⟩:=h.row i hi;exact⟨c0,c1,c2,c3,c4,c5⟩,h.plain,h.near,h.tplain,h.tcap,λi hi j hj=>h.turn i hi j hj,h.lt,h.ne,h.small,h.some_⟩
def wR (V:World)(x:TryV)(V':World):Prop:=
 (x.a=none/\x.n=0/\V'=V)\/∃cs,x.a=some ⟨V.heap.size,0,none⟩/\V'=V.alloc (.cells cs 3)/\(∀v∈cs,∃n:Int,v=.int .i64 n)/\bV V' x.a x.n x.g/\x.n<=1048576/\cs.size=x.n
def Dr24 (f:FuncId)(xs:Array Value)(V:World)(R:Value->World->Prop):Prop:=
 f=24/\∃b off n cap nb no nn nc mv tb toff tc o,xs=#[.slice (some ⟨b,off,none⟩) n cap,.slice (some ⟨nb,no,none⟩) nn nc]/\AH V b off n nb no nn mv tb toff tc o/\
  R=λv V'=>∃(x:TryV) (aL:Option Addr),AS ltTry (λi x=>cG mv n (o i) x) nn x/\(x.a=none<->aL=none)/\v=TryV.val {x with a:=aL}/\wR V {x with a:=aL} V'
section
variable [Gl]{ok okw:Ctx}{ρ:Ren}{V W:World}
theorem aI.cell (hw:aI ok true ρ V W){b b' j:Nat}(hb:ρ b=some b'){v:Value}(hv:V.cell? ⟨b,j,none⟩=some v):∃v',W.cell? ⟨b',j,none⟩=some v'/\aj ok ρ v v':=by
 obtain⟨o,o',h1,h2,h3⟩:=hw.heap b b' hb;simp only[World.cell?,h1,h2]at hv⊢;cases h3 with
 |cells hc _=>
  obtain⟨v',e,r⟩:=hc.get hv;exact⟨v',e,r⟩
 |_=>simp at hv
theorem aI.intCell (hw:aI ok true ρ V W){b b' j:Nat}(hb:ρ b=some b'){k:IntKind}{n:Int}(hv:V.cell? ⟨b,j,none⟩=some (.int k n)):W.cell? ⟨b',j,none⟩=some (.int k n):=by
 obtain⟨v',e,r⟩:=hw.cell hb hv;cases r;exact e
theorem aI.boolCell (hw:aI ok true ρ V W){b b' j:Nat}(hb:ρ b=some b'){n:Bool}(hv:V.cell? ⟨b,j,none⟩=some (.bool n)):W.cell? ⟨b',j,none⟩=some (.bool n):=by
 obtain⟨v',e,r⟩:=hw.cell hb hv;cases r;exact e
theorem aI.strCell (hw:aI ok true ρ V W){b b' j:Nat}(hb:ρ b=some b'){n:ByteArray}(hv:V.cell? ⟨b,j,none⟩=some (.string n)):W.cell? ⟨b',j,none⟩=some (.string n):=by
 obtain⟨v',e,r⟩:=hw.cell hb hv;cases r;exact e
theorem aI.plain (hw:aI ok true ρ V W){b b':Nat}(hb:ρ b=some b')(hp:aM V b):aM W b':=by
 obtain⟨cs,e,h1,h2⟩:=hp;obtain⟨o,o',g1,g2,g3⟩:=hw.heap b b' hb;rw[h1]at g1;obtain rfl:=Option.some.inj g1;cases g3 with
 |@cells _ c' _ _ z' hc hz=>
  replace hz:=hz.resolve_right (λh=>by have:=congrArg Prod.snd h.2.1;have h0:=h.2.2;simp at this;omega);refine⟨c',e,by rw[g2,hz];rfl,λv hv=>?_⟩;obtain⟨i,hi,rfl⟩:=Array.mem_iff_getElem.1 hv;have hi':i<cs.size:=by rw[hc.size];exact hi
  have hr:=hc.at_ i cs[i] c'[i] (Array.getElem?_eq_getElem hi') (Array.getElem?_eq_getElem hi);generalize c'[i]=u at hr;rcases h2 cs[i] (Array.getElem_mem hi')with⟨x,e⟩|⟨k,x,e⟩|⟨s,e⟩
  .rw[e]at hr;cases hr;exact .inl ⟨_,rfl⟩
  .rw[e]at hr;cases hr;exact .inr (.inl ⟨_,_,rfl⟩)
  .rw[e]at hr;cases hr;exact .inr (.inr ⟨_,rfl⟩)
theorem aI.mvRow (hw:aI ok true ρ V W){b b' off n:Nat}{f:Nat->Mv}(hb:ρ b=some b')(hr:aw V b off n f):aw W b' off n f:=by
 intro j hj;obtain⟨c0,c1,c2,c3,c4,c5⟩:=hr j hj;exact⟨by first|exact hw.strCell hb c0|exact hw.intCell hb c0|exact hw.boolCell hb c0,by first|exact hw.strCell hb c1|exact hw.intCell hb c1|exact hw.boolCell hb c1,by first|exact hw.strCell hb c2|exact hw.intCell hb c2|exact hw.boolCell hb c2,by first|exact hw.strCell hb c3|exact hw.intCell hb c3|exact hw.boolCell hb c3,by first|exact hw.strCell hb c4|exact hw.intCell hb c4|exact hw.boolCell hb c4,by first|exact hw.strCell hb c5|exact hw.intCell hb c5|exact hw.boolCell hb c5⟩
theorem nJ {a:Addr}{n c:Nat}{v':Value}(h:aj ok ρ (.slice (some a) n c) v'):∃a',v'=.slice (some a') n c/\bj ρ a a':=by
 cases h with
 |slice _ _ r=>exact⟨_,rfl,r⟩
theorem yC:np ok Dr24:=by
 rintro f xs V V' v ρ R ⟨rfl,b,off,n,cap,nb,no,nn,nc,mv,tb,toff,tc,o,rfl,hf,rfl⟩ ⟨x₀,aL,_,_,rfl,hfr⟩ _ hw;generalize ({x₀ with a:=aL}:TryV)=x at hfr⊢;rcases hfr with⟨h1,_,rfl⟩|⟨cs,h1,rfl,h3,_,_⟩
 .refine⟨ρ,Ren.le_refl _,?_,hw⟩;rw[TryV.val,h1];exact(aj.agg rfl λi x x' h h'=>by
   match i with
   |0=>simp at h h';subst h h';exact .bool _
   |1=>simp at h h';subst h h';exact .int _ _
   |2=>simp at h h';subst h h';exact .int _ _
   |3=>simp at h h';subst h h';exact .slice0 _ _
   |i+4=>simp at h)
 .have hlt:∀b c,ρ b=some c->b≠V.heap.size/\c≠V.heap.size:=λb c hb=>by have:=hw.lt hb;omega
  refine⟨ρ.ext V.heap.size V.heap.size hlt hw.gV hw.gV,λb c hb=>?_,?_,?_⟩
  .show(if b=V.heap.size then some V.heap.size else ρ b)=some c;rw[if_neg (hlt b c hb).1];exact hb
  .rw[TryV.val,h1];exact(aj.agg rfl λi x x' h h'=>by
    match i with
    |0=>simp at h h';subst h h';exact .bool _
    |1=>simp at h h';subst h h';exact .int _ _
    |2=>simp at h h';subst h h';exact .int _ _
    |3=>simp at h h';subst h h';exact .slice _ _ ⟨if_pos rfl,rfl,rfl⟩
    |i+4=>simp at h)
  .refine⟨λb c hb=>?_,rfl,rfl,by simp;exact Nat.le_succ_of_le hw.gV,by simp;exact Nat.le_succ_of_le hw.gV⟩;have hle:ρ.le (ρ.ext V.heap.size V.heap.size hlt hw.gV hw.gV):=λb c hb=>by show(if b=V.heap.size then some V.heap.size else ρ b)=some c;rw[if_neg (hlt b c hb).1];exact hb
   have hb':(if b=V.heap.size then some V.heap.size else ρ b)=some c:=hb;split at hb'
   .rename_i e1;obtain rfl:=Option.some.inj hb';rw[e1];refine⟨_,_,heap_alloc_new _ _,heap_alloc_new _ _,.cells ⟨rfl,λi x x' hx hx'=>?_⟩ (.inl rfl)⟩;rw[hx]at hx';obtain rfl:=Option.some.inj hx';obtain⟨n,rfl⟩:=h3 x (Array.mem_of_getElem? hx);exact .int _ _
   .obtain⟨o,o',g1,g2,g3⟩:=hw.heap b c hb';have:=hw.lt hb';exact⟨o,o',by rw[Below.heap_alloc _ _ _ this.1];exact g1,by rw[Below.heap_alloc _ _ _ this.2];exact g2,g3.mono hle⟩
theorem ve {P₀:Program}{c:Frame}(hA:P₀=Tryz0.prog)(hP₀:bh P₀ P₀ okw)(hP:bh P₀ Tryz.prog okw)(hin:∀f,okw.fn f=true->okw.inn f=true)(hFl:eU P₀ c)
  (hok:okw.inn 101=true/\okw.inn 51=true/\okw.fn 52=true):nj Tryz.prog ok Dr24:=by
 subst hA;rintro f xs V ρ xs' W M Shun gs r0 rest t q sl R ⟨rfl,b,off,n,cap,nb,no,nn,nc,mv,tb,toff,tc,o,rfl,hf,rfl⟩ hxs hw ho hl;have hV:∀a,(re V W.tape W.drawn).cell? a=V.cell? a:=λ_=>rfl
 have hf0:=hf;replace hf:=hf.re W.tape W.drawn;obtain⟨x0,e0,r0'⟩:=hxs.get (i:=0) rfl;obtain⟨x1,e1,r1'⟩:=hxs.get (i:=1) rfl;obtain⟨a0,rfl,s0⟩:=nJ r0';obtain⟨a1,rfl,s1⟩:=nJ r1';obtain⟨b',off',sp⟩:=a0;obtain⟨nb',no',sp'⟩:=a1;have q1:=s0.off;have q2:=s0.spot;have q3:=s1.off;have q4:=s1.spot;have hb:ρ b=some b':=s0.blk;have hnb:ρ nb=some nb':=s1.blk;simp only at q1 q2 q3 q4;subst q1 q2 q3 q4;have hx:xs'=#[.slice (some ⟨b',off',none⟩) n cap,.slice (some ⟨nb',no',none⟩) nn nc]:=by
  have hz:=hxs.size;refine Array.ext (by simpa using hz.symm) λi h1 h2=>?_
  have h2:i<2:=h2;match i with
  |0=>rw[Array.getElem?_eq_getElem h1]at e0;exact Option.some.inj e0
  |1=>rw[Array.getElem?_eq_getElem h1]at e1;exact Option.some.inj e1
 subst hx;have hnear:∀i,i<nn->∃t',ρ (tb i)=some t'/\W.cell? ⟨nb',no'+i,none⟩=some (.slice (some ⟨t',toff i,none⟩) n (tc i)):=λi hi=>by
  obtain⟨v',h1,h2⟩:=hw.cell hnb (hf.near i hi);obtain⟨a',rfl,r⟩:=nJ h2;obtain⟨t',o',sp⟩:=a';have h3:=r.off;have h4:=r.spot;simp only at h3 h4;subst h3 h4;exact⟨t',r.blk,h1⟩
 let tb':Nat->Nat:=λi=>(ρ (tb i)).getD 0
 have htb:∀i,i<nn->ρ (tb i)=some (tb' i):=λi hi=>by obtain⟨t',h1,_⟩:=hnear i hi;simp[tb',h1]
 have hfd:=A6 (ok:=okw) (M:=M) (w:=W) (b:=b') (off:=off') (n:=n) (cap:=cap) (nb:=nb') (no:=no') (nn:=nn) (f:=mv) (tb:=tb') (toff:=toff) (tc:=tc) (o:=o) hf.moves (hw.mvRow hb hf.row) (hw.plain hb hf.plain) (ho _ _ hb) (ho _ _ hnb)
  (λi hi=>by obtain⟨t',h1,h2⟩:=hnear i hi;rw[htb i hi]at h1;rw[h2,<-Option.some.inj h1]) (λi hi=>ho _ _ (htb i hi)) (λi hi=>hw.plain (htb i hi) (hf.tplain i hi)) hf.tcap (λi hi j hj=>hw.intCell (htb i hi) (hf.turn i hi j hj)) hf.lt hf.ne hok
 have hbd:Tryz.f24.body=some body24:=by unfold body24;kernel_rfl
 have hE:Frame.enter Tryz.prog 24 #[.slice (some ⟨b',off',none⟩) n cap,.slice (some ⟨nb',no',none⟩) nn nc] .normal=(base 24).at ⟨#[.slice (some ⟨b',off',none⟩) n cap,.slice (some ⟨nb',no',none⟩) nn nc,undef,undef,undef,undef,undef,undef,undef,undef,undef,undef,undef,undef,undef,undef,undef,undef,undef,undef,undef],[]⟩ [.code body24]:=
  (enter_at _ Tryz.func24 hbd).trans (by simp only[Tryz.ntmps24,List.size_toArray,List.length_cons,List.length_nil,Nat.reduceAdd,Nat.reduceSub,Array.replicate_succ,Array.replicate_zero,List.push_toArray,List.append_toArray,List.nil_append,List.cons_append])
 rw[hE]at hl;obtain⟨N,gs',w',sl',t',q',Shun',M',x,g1,g2,g3,g4,g5⟩:=zT (sl:=sl) hP₀ hP hin hFl hf.small hl hfd hw.gW;have hk:∀b d,ρ b=some d->w'.heap[d]?=W.heap[d]?:=λb d hb=>g3.keep.block d (ho b d hb)
 have hsz:=g3.keep.size;cases ha:x.a with
 |none=>
  have hn0:x.n=0:=by
   rcases g4.row with h|⟨_,_,h,_⟩
   .exact h
   .rw[ha]at h;cases h
  have hxe:({x with a:=none}:TryV)=x:=by rw[<-ha]
  refine⟨N,gs',w',sl',t',q',Shun',M',x.val,ρ,x.val,V,g1,g2,Ren.le_refl _,?_,⟨λb d hb=>?_,rfl,rfl,hw.gV,Nat.le_trans hw.gW hsz⟩,λb d hb=>g3.own d (ho b d hb),⟨x,none,g5,by rw[ha],by rw[hxe],by rw[hxe];exact .inl ⟨ha,hn0,rfl⟩⟩,g3.keep,g3.own,λb d hb=>.inl hb,λb _=>rfl⟩
  .rw[TryV.val,ha];exact(aj.agg rfl λi x x' h h'=>by
    match i with
    |0=>simp at h h';subst h h';exact .bool _
    |1=>simp at h h';subst h h';exact .int _ _
    |2=>simp at h h';subst h h';exact .int _ _
    |3=>simp at h h';subst h h';exact .slice0 _ _
    |i+4=>simp at h)
  .obtain⟨o,o',i1,i2,i3⟩:=hw.heap b d hb;exact⟨o,o',i1,(hk b d hb).trans i2,i3⟩
 |some a=>
  obtain⟨j1,⟨j2,j3⟩,cs0,e0,j40,j5⟩:=g4.blk a ha;obtain⟨j6,cs,j4,j7⟩:=g4.full a ha;rw[j4]at j40;simp only[Option.some.injEq,Obj.cells.injEq]at j40;obtain⟨y1,y2,_⟩:=j40;subst y1 y2;have hgV:Gl.n<=V.heap.size:=hw.gV;have hlt:∀b d,ρ b=some d->b≠V.heap.size/\d≠a.block:=λb d hb=>by
   have h1:b<V.heap.size:=(hw.lt hb).1;have h2:=(hw.lt hb).2;omega
  have hga:Gl.n<=a.block:=Nat.le_trans hw.gW j3;have hle:ρ.le (ρ.ext V.heap.size a.block hlt hgV hga):=λb d hb=>by show(if b=V.heap.size then some a.block else ρ b)=some d;rw[if_neg (hlt b d hb).1];exact hb
  have hrow:bV (V.alloc (.cells cs 3)) (some ⟨V.heap.size,0,none⟩) x.n x.g:=by
   rcases g4.row with h|⟨b1,o1,h,hr⟩
   .exact .inl h
   .rw[ha]at h;obtain rfl:=Option.some.inj h;have j6':o1=0:=j6;subst j6';refine .inr ⟨_,_,rfl,λi hi=>?_⟩;have:=hr i hi;simp only[World.cell?,j4]at this;simp only[World.cell?,heap_alloc_new];exact this
  refine⟨N,gs',w',sl',t',q',Shun',M',x.val,ρ.ext V.heap.size a.block hlt hgV hga,TryV.val {x with a:=some ⟨V.heap.size,0,none⟩},V.alloc (.cells cs 3),g1,g2,hle,?_,⟨λb d hb=>?_,rfl,rfl,?_,Nat.le_trans hw.gW hsz⟩,λb d hb=>?_,⟨x,some ⟨V.heap.size,0,none⟩,g5,by rw[ha];simp,rfl,.inr ⟨cs,rfl,rfl,j5,hrow,g4.small,j7⟩⟩,g3.keep,g3.own,λb d hb=>?_,λb hr=>?_⟩
  .rw[TryV.val,TryV.val,ha];exact(aj.agg rfl λi x x' h h'=>by
    match i with
    |0=>simp at h h';subst h h';exact .bool _
    |1=>simp at h h';subst h h';exact .int _ _
    |2=>simp at h h';subst h h';exact .int _ _
    |3=>simp at h h';subst h h';exact .slice _ _ ⟨if_pos rfl,j6,j1⟩
    |i+4=>simp at h)
  .have hb':(if b=V.heap.size then some a.block else ρ b)=some d:=hb;split at hb'
   .rename_i e1;obtain rfl:=Option.some.inj hb';rw[e1];refine⟨_,_,heap_alloc_new _ _,j4,.cells ⟨rfl,λi x x' hx hx'=>?_⟩ (.inl rfl)⟩;rw[hx]at hx';obtain rfl:=Option.some.inj hx';obtain⟨n,rfl⟩:=j5 x (Array.mem_of_getElem? hx);exact .int _ _
   .obtain⟨o,o',i1,i2,i3⟩:=hw.heap b d hb';have h1:b<V.heap.size:=(hw.lt hb').1;exact⟨o,o',(Below.heap_alloc _ _ _ h1).trans i1,(hk b d hb').trans i2,i3.mono hle⟩
  .show Gl.n<=(V.alloc (.cells cs 3)).heap.size;simp;omega
  .have hb':(if b=V.heap.size then some a.block else ρ b)=some d:=hb;split at hb'
   .obtain rfl:=Option.some.inj hb';exact j2
   .exact g3.own d (ho b d hb')
  .have hb':(if b=V.heap.size then some a.block else ρ b)=some d:=hb;split at hb'
   .obtain rfl:=Option.some.inj hb';exact .inr j3
   .exact .inl hb'
  .obtain⟨c,e,hr⟩:=hr;exact Below.heap_alloc _ _ _ (Array.getElem?_eq_some_iff.1 hr).1
end
@[reducible] def tW:Gl:=⟨0⟩
theorem zd (P:Program)(fs:Array Func)(fn:FuncId->Bool)(op:Op):f9 {P with funcs:=fs} fn op=f9 P fn op:=by cases op<;>rfl
theorem vO (P:Program)(fs:Array Func)(fn:FuncId->Bool):∀c,aN {P with funcs:=fs} fn c=aN P fn c:=by
 intro c;induction c with
 |seq a b ha hb=>simp only[aN,ha,hb]
 |cond x a b ha hb=>simp only[aN,ha,hb]
 |block i b hb=>simp only[aN,hb]
 |loop b hb=>simp only[aN,hb]
 |scope b hb=>simp only[aN,hb]
 |rangeFunc f ps a b ha hb=>simp only[aN,ha,hb]
 |region i ops d=>simp only[aN,zd]
 |_=>rfl
theorem uE (fn:FuncId->Bool)(c:Code):aN Tryz0.prog fn c=aN Tryz.prog fn c:=vO Tryz.prog _ fn c
noncomputable def tX (fns:List Nat)(fn:Func):Bool:=!(fn.name== "runtime.NumGoroutine")&&(match fn.body with|some c=>aN Tryz.prog (λf=>fns.contains f) c|none=>false)
noncomputable def pO (fns:List Nat):Bool:=fns.all λk=>k==24||(match Tryz.prog.funcs[k]? with|some fn=>tX fns fn|none=>false)
theorem ju {fns:List Nat}(h:pO fns=true){f:Nat}(hf:fns.contains f=true)(hne:f≠24):∃fn c,Tryz.prog.funcs[f]?=some fn/\fn.body=some c/\(fn.name== "runtime.NumGoroutine")=false/\aN Tryz.prog (λf=>fns.contains f) c=true:=by
 unfold pO at h;rw[List.all_eq_true]at h;have h1:=h f (by simpa using hf);rw[Bool.or_eq_true]at h1;have h2:=h1.resolve_left (by simpa using hne);generalize Tryz.prog.funcs[f]?=x at h2;cases x with
 |none=>cases h2
 |some fn=>
  replace h2:tX fns fn=true:=h2;unfold tX at h2;rw[Bool.and_eq_true]at h2;obtain⟨h3,h4⟩:=h2;cases hb:fn.body with
  |none=>rw[hb]at h4;cases h4
  |some c=>rw[hb]at h4;exact⟨fn,c,rfl,hb,by simpa using h3,h4⟩
theorem xN:Tryz.f24.body.isSome=true/\(Tryz.f24.name== "runtime.NumGoroutine")=false:=⟨by kernel_rfl,by kernel_rfl⟩
theorem ze:Tryz0.fn0.body.isSome=true/\(Tryz0.fn0.name== "runtime.NumGoroutine")=false:=⟨rfl,xN.2⟩
theorem uF {f:Nat}{fn:Func}(hne:f≠24)(h:Tryz.prog.funcs[f]?=some fn):Tryz0.prog.funcs[f]?=some fn:=Tryz0.g_fn Tryz.prog Tryz0.fn0 (j:=24) (λe=>hne e.symm) h
theorem zf:Tryz.prog.info? 1000000000=none:=by kernel_rfl
theorem sx:Tryz0.prog.info? 1000000000=none:=zf
theorem oj:Tryz.prog.globals.size=0:=by kernel_rfl
theorem uG {fns:List Nat}(h:pO fns=true){ok:Ctx}(h1:∀f,ok.fn f=fns.contains f)(h2:∀f,ok.inn f=true->fns.contains f=true/\f≠24)(h3:∀c,ok.code c=aN Tryz.prog ok.fn c):@bh tW Tryz0.prog Tryz0.prog ok/\@bh tW Tryz0.prog Tryz.prog ok:=by
 letI:=tW;have hfn:ok.fn=λf=>fns.contains f:=funext h1
 have kl:∀f,ok.fn f=true->∃fn,Tryz0.prog.funcs[f]?=some fn/\fn.body.isSome=true/\(fn.name== "runtime.NumGoroutine")=false:=λf hf=>by
  by_cases e:f=24
  .subst e;exact⟨_,Tryz0.func24,ze⟩
  .obtain⟨fn,c,a1,a2,a3,_⟩:=ju h ((h1 f).symm.trans hf) e;exact⟨fn,uF e a1,by rw[a2];rfl,a3⟩
 have kr:∀f,ok.fn f=true->∃fn,Tryz.prog.funcs[f]?=some fn/\fn.body.isSome=true/\(fn.name== "runtime.NumGoroutine")=false:=λf hf=>by
  by_cases e:f=24
  .subst e;exact⟨_,Tryz.func24,xN⟩
  .obtain⟨fn,c,a1,a2,a3,_⟩:=ju h ((h1 f).symm.trans hf) e;exact⟨fn,a1,by rw[a2];rfl,a3⟩
 constructor
 .exact{left:=kl,right:=kl,hole:=sx,same:=λf hf=>(by
   obtain⟨hc,hne⟩:=h2 f hf;obtain⟨fn,c,a1,a2,a3,a4⟩:=ju h hc hne;exact⟨fn,c,uF hne a1,uF hne a1,a2,by rw[hfn,uE];exact a4⟩),code:=λc=>(h3 c).trans (uE ok.fn c).symm,tab:=rfl,glob:=oj}
 .exact{left:=kl,right:=kr,hole:=sx,same:=λf hf=>(by
   obtain⟨hc,hne⟩:=h2 f hf;obtain⟨fn,c,a1,a2,a3,a4⟩:=ju h hc hne;exact⟨fn,c,uF hne a1,a1,a2,by rw[hfn];exact a4⟩),code:=h3,tab:=rfl,glob:=oj}
def iv:Frame:={fn:=1000000000,tmps:=#[],todo:=[.call {target:=.nil,args:=#[]} false "fmt's door: none" #[]],defers:=[],mode:=.run,kind:=.normal}
theorem AO:Tryz0.prog.funcs[1000000000]?=none:=by kernel_rfl
theorem Au:(Extern.next "fmt's door: none").isNone=true:=by kernel_rfl
theorem xO:eU Tryz0.prog iv where
 ret:=λv w=>by
  have h:Extern.next "fmt's door: none"=none:=by have:=Au;simpa using this
  exact⟨_,_,_,by simp[iv,Frame.finish,stepG,stepG.exec,G,h];exact⟨rfl,rfl,rfl⟩⟩
 pan:=λch w=>by
  have hc:Frame.catches Tryz0.prog (iv.raise ch)=true:=by
   simp[iv,Frame.raise,Frame.catches,AO]
  exact⟨_,_,_,by simp[stepG,G,iv,Frame.raise,unwind]at hc⊢;simp[hc];exact⟨rfl,rfl,rfl⟩⟩
theorem zg {fns:List Nat}{ok:Ctx}(h1:∀f,ok.fn f=fns.contains f)(h2:∀f,ok.inn f=(fns.contains f&&!(f==24))):@oy Tryz0.prog ok:=by
 intro f xs cs V hf hi;rw[h1]at hf;rw[h2,hf]at hi;have:f=24:=by simpa using hi
 subst this;have hb:Tryz0.fn0.body=some Tryz0.body0:=rfl;exact⟨_,_,_,by simp[Frame.enter,Tryz0.func24,hb,Tryz0.body0,stepG,stepG.exec,G];exact⟨rfl,rfl,rfl⟩⟩
def sz:List Nat:=[101,51,52,84,66,67,107,37,29,127,62,70,71,116]
theorem zh:pO sz=true:=by kernel_rfl
theorem zj:sz.contains 24=false:=by kernel_rfl
theorem Av {ok okw:Ctx}(h1:∀f,okw.fn f=sz.contains f)(h2:∀f,okw.inn f=sz.contains f)(hp:@bh tW Tryz0.prog Tryz0.prog okw/\@bh tW Tryz0.prog Tryz.prog okw):@nj tW Tryz.prog ok (@Dr24):=
 letI:=tW;ve (okw:=okw) (c:=iv) (P₀:=Tryz0.prog) rfl hp.1 hp.2 (λf h=>by rw[h1]at h;rw[h2];exact h) xO ⟨by rw[h2];kernel_rfl,by rw[h2];kernel_rfl,by rw[h1];kernel_rfl⟩
theorem zk {ok:Ctx}:@nj tW Tryz.prog ok (@Dr24):=
 let okw:Ctx:=⟨λf=>sz.contains f,λf=>sz.contains f,λc=>aN Tryz.prog (λf=>sz.contains f) c⟩
 Av (okw:=okw) (λ_=>rfl) (λ_=>rfl) (uG (ok:=okw) zh (λ_=>rfl) (λf h=>⟨h,λe=>by have h:sz.contains f=true:=h;rw[e,zj]at h;cases h⟩) (λ_=>rfl))
def AP:List Nat:=[4,14,15,16,17,18,19,20,39,22,40,41,10,27,42,6,73,74,75,76,77,78,23,30,31,32,26,79,25,24,129,130,131,44,132,133,134,28,45,60,61,62,54,114,11,53,38,80,82,81,148,149,150,55,56,57,58,59,83,84,85,86,116,111,33,35,34,108,72,152,153,154,155,112,113,115,135,65,64,63,110,109,68,67,69,66,125,126,117,118,119,120,121,122,123,124,142,127,128,143,144,145,146,147,151]
theorem zl:pO AP=true:=by kernel_rfl
theorem xP:AP.all (λf=>(Tryz.prog.inits.idxOf? f).isNone)=true:=by kernel_rfl
end Go.Proofs.YtlmcblcijndipaaGreat
