import Derived.Test.YtlmcblcijndipabGreatDoorDr35
import Derived.Test.YtlmcblcijndipabGreatDoorDr25
import Derived.Test.YtlmcblcijndipabGreatDoorDr34
import Derived.Test.YtlmcblcijndipabGreatDoorDr38
import Derived.Test.YtlmcblcijndipabGreatDoorDr39
import Derived.Test.YtlmcblcijndipabGreatDoorDr29
import Derived.Test.YtlmcblcijndipabGreatDoorDr27
import Derived.Test.YtlmcblcijndipabGreatDoorDr32
set_option linter.unusedVariables false
set_option linter.unusedSectionVars false
set_option maxHeartbeats 4000000
set_option maxRecDepth 100000
namespace Go.Proofs.YtlmcblcijndipabGreatDoor
open Go Go.Conc Go.RowKit
theorem aK {w w':World}{b off n:Nat}{f:Nat->Mv}(h:al w b off n f)(e:w'.heap[b]?=w.heap[b]?):al w' b off n f:=λi hi=>by
 obtain⟨c0,c1,c2,c3,c4,c5⟩:=h i hi;have k:∀{j:Nat} {v:Value},w.cell? ⟨b,j,none⟩=some v->w'.cell? ⟨b,j,none⟩=some v:=λ{j v} hv=>by simp only[World.cell?,e]at hv⊢;exact hv
 exact⟨k c0,k c1,k c2,k c3,k c4,k c5⟩
theorem cZ {w w':World}{b n:Nat}{g:Nat->Int}(h:aj w b n g)(e:w'.heap[b]?=w.heap[b]?):aj w' b n g:=by
 obtain⟨⟨cs,h1,h2⟩,h3⟩:=h;exact⟨⟨cs,e.trans h1,h2⟩,λi hi=>by have:=h3 i hi;simp only[World.cell?,e]at this⊢;exact this⟩
theorem n8 {w w':World}{b:Nat}(h:aH w b)(e:w'.heap[b]?=w.heap[b]?):aH w' b:=by
 obtain⟨cs,t,h1,h2⟩:=h;exact⟨cs,t,e.trans h1,h2⟩
theorem fY {a:Array Value}{i:Nat}{v:Value}(h:a[i]?=some v):a.getD i undef=v:=by simp[Array.getD_eq_getD_getElem?,h]
def dp (r:Option (Nat->Int))(n:Nat)(V:World)(v:Value)(V':World):Prop:=
 (match r with
 |some T=>∃B c,V.heap.size<=B/\v=.tuple #[.slice (some ⟨B,0,none⟩) n c,.bool true]/\aj V' B n T
 |none=>∃a c,v=.tuple #[.slice a 0 c,.bool false])/\Bl V.heap.size V V'
theorem yU {b off n cap:Nat}{f:Nat->Mv}{shift:Int}{w:World}(hn:n<=1048576)(hbs:b<w.heap.size)(hrow:al w b off n f){p:List Nat->Bool}(hp:vp f n shift p)(h0:0<=shift):0<((ay n).filter p).length:=by
 obtain⟨e,w',⟨g,_,_,hg,_⟩,_⟩:=mj (jK b off n cap f w hn hbs hrow);obtain⟨l,hl,hgl⟩:=sJ (n:=n) (g:=g) hg.low hg.inj;have hs:bQ (λi=>((pl l i:Nat):Int)) (λi=>((g i:Nat):Int)) n 0:=by
  refine⟨Int.le_refl _,by omega,λi k hi hk he=>?_,.inl rfl⟩;rw[hgl i hi]at he;have:i=k:=by
   rcases Nat.lt_trichotomy i k with h|h|h
   .exact absurd (by omega) (hg.inj i k h hk)
   .exact h
   .exact absurd (by omega) (hg.inj k i h hi)
  omega
 have:=(hp g hg l hl 0 hs).2 h0;exact List.length_pos_of_mem (List.mem_filter.2 ⟨hl,this⟩)
theorem BQ {w:World}{b off n NB nc:Nat}{f:Nat->Mv}{p:List Nat->Bool}{vals:List Value}{lo:Nat}(hm:aq f n=true)(hrow:al w b off n f)(hplain:aH w b)(hpos:0<((ay n).filter p).length)
  (own:w.ownsRow lo 164 1 (.slice (some ⟨NB,0,none⟩) ((ay n).filter p).length nc) ((ay n).filter p).length vals)(rows:dU w n lo vals ((ay n).filter p)):
  ∃tb toff tc,Ct w b off n NB 0 ((ay n).filter p).length f tb toff tc (λi=>pl (((ay n).filter p).getD i [])):=by
 have h6:=aF hm;have hx:∀i,∃q:Nat×Nat,i<((ay n).filter p).length->vals[i]?=some (Value.slice (some ⟨q.1,0,none⟩) n q.2)/\n<=q.2/\dT w q.1/\ag w q.1 0 n (λj=>((pl (((ay n).filter p).getD i []) j:Nat):Int)):=λi=>by
  by_cases hi:i<((ay n).filter p).length
  .obtain⟨tb,tc,h1,h2,h3,h4,h5⟩:=rows i (((ay n).filter p).getD i []) (by simp[hi]);exact⟨(tb,tc),λ_=>⟨h1,h2,h4,h5⟩⟩
  .exact⟨(0,0),λh=>absurd h hi⟩
 have hmem:∀i,i<((ay n).filter p).length->((ay n).filter p).getD i []∈ay n:=λi hi=>by
  have:((ay n).filter p).getD i []∈(ay n).filter p:=by simp only[List.getD_eq_getElem?_getD,List.getElem?_eq_getElem hi,Option.getD_some];exact List.getElem_mem hi
  exact(List.mem_filter.1 this).1
 refine⟨λi=>(hx i).choose.1,λ_=>0,λi=>(hx i).choose.2,⟨hm,hrow,hplain,λi hi=>?_,λi hi=>?_,λi hi=>((hx i).choose_spec hi).2.1,λi hi=>((hx i).choose_spec hi).2.2.2,λi hi=>(dP (hmem i hi)).2.1,λi hi=>(dP (hmem i hi)).2.2,?_,hpos⟩⟩
 .rw[Nat.zero_add,own.cellAt i (by omega)];exact((hx i).choose_spec hi).1
 .obtain⟨cs,g1,g2⟩:=((hx i).choose_spec hi).2.2.1;exact⟨cs,_,g1,λv hv=>.inr (.inl (by obtain⟨x,rfl⟩:=g2 v hv;exact⟨_,_,rfl⟩))⟩
 .have h1:=(eQ n h6).1;have h2:=List.length_filter_le p (ay n);omega
section
variable [Gl]{ok:Ctx}{c:Frame}{Dr:FuncId->Array Value->World->(Value->World->Prop)->Prop}{Q:Value->World->Prop}{P₀:Program}
theorem ar.ret {b:Frame}{a:Act}{k:List Item}{cs:List Frame}{V:World}(E:cE P₀ ok c Dr)(hb:ok.inn b.fn=true)(h:ar P₀ ok c Dr Q ⟨{b.at a (.code .ret::k)with mode:=.returning},cs,V⟩):ar P₀ ok c Dr Q ⟨b.at a (.code .ret::k),cs,V⟩:=
 ar.of_steps E.pair E.shut E.floor (λs1=>∃τ d,s1=St.re ⟨{b.at a (.code .ret::k)with mode:=.returning},cs,V⟩ τ d) (by rintro _ ⟨τ,d,rfl⟩;exact hb) (λτ d=>⟨_,⟨τ,d,rfl⟩,.one step_ret⟩) (by rintro _ ⟨τ,d,rfl⟩;exact λτ' d'=>h τ' d')
theorem ar.last {b:Frame}{a:Act}{k:List Item}{cs:List Frame}{V:World}(E:cE P₀ ok c Dr)(hb:ok.inn b.fn=true)(ss:List Code)(R:Act->World->Prop)
  (h:∀τ d,aB P₀ (λe a w=>(e=.normal/\R a w)\/(e=.ret/\R a w)) ss a (re V τ d))(hR:∀a' w' todo,R a' w'->ar P₀ ok c Dr Q ⟨{b.at a' todo with mode:=.returning},cs,w'⟩):
  ar P₀ ok c Dr Q ⟨b.at a (.code (Proofs.YtlmcblcijndipabGreatDoor.chain ss .ret)::k),cs,V⟩:=
 ar.chain E hb ss .ret R R h (λa' w' h'=>ar.ret E hb (hR a' w' _ h')) hR
theorem ar.opsFrom {b:Frame}{a:Act}{k:List Item}{cs:List Frame}{V:World}(E:cE P₀ ok c Dr)(hb:ok.inn b.fn=true){ops:Array Oper}(j m:Nat)(hm:j+m<=ops.size)(K:Act->World->Prop)
  (h:∀τ d,wpList P₀ ops (λe a w=>e=.normal/\K a w) ((ops.toList.drop j).take m) a (re V τ d))(hK:∀a' w',K a' w'->ar P₀ ok c Dr Q ⟨b.at a' (.inRegion ops (List.range' (j+m) (ops.size-(j+m)))::k),cs,w'⟩):
  ar P₀ ok c Dr Q ⟨b.at a (.inRegion ops (List.range' j (ops.size-j))::k),cs,V⟩:=by
 have hl:((ops.toList.drop j).take m).length=m:=by simp;omega
 have e:List.range' j (ops.size-j)=List.range' j ((ops.toList.drop j).take m).length++List.range' (j+m) (ops.size-(j+m)):=by
  rw[hl,List.range'_append_1];congr 1;omega
 rw[e];refine ar.ops E hb j _ _ K (λi hi=>?_) h hK;rw[hl]at hi;rw[List.getElem?_take,if_pos hi,List.getElem?_drop];simp
theorem aY {ops:Array Oper}:List.range ops.size=List.range' 0 (ops.size-0):=by rw[List.range_eq_range'];rfl
theorem Am (E:cE Tryz0.prog ok c Dr24)(hSB:ok.inn 151=true)(hbt:ok.inn 181=false){r0:Frame}{cs:List Frame}{V:World}(hr0:ok.inn r0.fn=true)
  {b off n cap:Nat}{f:Nat->Mv}{shift:Int}(hn:n<=1048576)(hbs:b<V.heap.size)(hrow:al V b off n f)(hplain:aH V b){p:List Nat->Bool}(hp:vp f n shift p)
  (hcont:∀v V',dp (jL f n shift p) n V v V'->ar Tryz0.prog ok c Dr24 Q ⟨r0.finish v,cs,V'⟩):
  ar Tryz0.prog ok c Dr24 Q ⟨Frame.enter Tryz0.prog 151 #[.slice (some ⟨b,off,none⟩) n cap,.int .i64 shift] .normal,r0::cs,V⟩:=by
 have hE:=enter_at (P:=Tryz0.prog) #[.slice (some ⟨b,off,none⟩) n cap,.int .i64 shift] Tryz0.func151 rfl;simp only[Tryz.ntmps151,List.size_toArray,List.length_cons,List.length_nil,Nat.reduceAdd,Nat.reduceSub,Array.replicate_succ,Array.replicate_zero,List.push_toArray,List.append_toArray,List.nil_append,List.cons_append]at hE;rw[hE];by_cases hg:aq f n=true/\0<=shift/\shift<=6
 .obtain⟨hm,hs0,hs6⟩:=hg;have hs0':¬shift<0:=by omega
  have hs6':¬6<shift:=by omega
  refine ar.chain E hSB [_,_] _ (λa w=>Bl V.heap.size V w/\∃u2 u3 u4 u5 u6 u7 u8 u9 u10 u11 u12 u13 u14 u15 u16 u17 u18 u19 u20 u21 u22 u23 u24 u25 u26,a=⟨#[.slice (some ⟨b,off,none⟩) n cap,.int .i64 shift,u2,u3,u4,u5,u6,u7,u8,u9,u10,u11,u12,u13,u14,u15,u16,u17,u18,u19,u20,u21,u22,u23,u24,u25,u26],[]⟩) (λ_ _=>False) ?_ ?_ (λ_ _ _ h=>h.elim)
  .intro τ d;have H1:=cO b off n cap f (re V τ d) hn hbs (aK hrow rfl);rw[hm]at H1;simp only[aB];clear hE;go_wp2_with(go_at_call 127;refine H1.mono ?_;clear H1;rintro e w1 ⟨rfl,b1⟩)
   left;refine⟨by first|rfl|trivial,Bl.ofR b1,?_⟩;repeat apply Exists.intro
   rfl
  .rintro a w1 ⟨hb1,u2,u3,u4,u5,u6,u7,u8,u9,u10,u11,u12,u13,u14,u15,u16,u17,u18,u19,u20,u21,u22,u23,u24,u25,u26,rfl⟩;refine ar.seq E hSB (ar.region E hSB ?_);rw[aY];have hrow1:=aK hrow (hb1.block b hbs);have hz1:=hb1.size;have hpos:=yU (cap:=cap) hn hbs hrow hp hs0;refine ar.opsFrom E hSB 0 4 (by simp) (λa w=>Bl w1.heap.size w1 w/\(∃NB nc vals,w.ownsRow w1.heap.size 164 1 (.slice (some ⟨NB,0,none⟩) ((ay n).filter p).length nc) ((ay n).filter p).length vals/\dU w n w1.heap.size vals ((ay n).filter p)/\∃u2 u3 u4 u5 u6 u7 u8 u9 u10 u11 u12 u13 u14 u15 u16 u17 u19 u20 u22 u23 u24 u25 u26,a=⟨#[.slice (some ⟨b,off,none⟩) n cap,.int .i64 shift,u2,u3,u4,u5,u6,u7,u8,u9,u10,u11,u12,u13,u14,u15,u16,u17,.slice (some ⟨b,off,none⟩) n cap,u19,u20,.slice (some ⟨NB,0,none⟩) ((ay n).filter p).length nc,u22,u23,u24,u25,u26],[]⟩)) ?_ ?_
   .intro τ d;have H2:=yO b off n cap f shift (re w1 τ d) hm (by show b<w1.heap.size;omega) (aK hrow1 rfl) p hp;clear hE;simp only[List.drop_zero,List.take_succ_cons,List.take_zero];go_wp2_with(go_at_call 182;refine H2.mono ?_;clear H2;rintro e w2 ⟨⟨v,vals,rfl,o2,r2⟩,b2⟩)
    obtain⟨M,hM⟩:∃M,((ay n).filter p).length=M+1:=⟨((ay n).filter p).length-1,by omega⟩;obtain⟨NB,nc,rfl⟩:∃NB nc,v=.slice (some ⟨NB,0,none⟩) ((ay n).filter p).length nc:=by rw[hM]at o2⊢;exact jc o2
    exact⟨Bl.ofR b2,NB,nc,vals,o2,r2,rfl⟩
   .rintro a w2 ⟨hb2,NB,nc,vals,o2,r2,u2,u3,u4,u5,u6,u7,u8,u9,u10,u11,u12,u13,u14,u15,u16,u17,u19,u20,u22,u23,u24,u25,u26,rfl⟩;have hb12:Bl V.heap.size V w2:=hb1.trans hb2 hz1;have hz2:=hb2.size;obtain⟨tb,toff,tc,hfed⟩:=BQ hm (aK hrow (hb12.block b hbs)) (n8 hplain (hb12.block b hbs)) hpos o2 r2;refine ar.doorOp E (i:=4) rfl rfl hbt (λw=>?_) (λτ d=>.inl ⟨rfl,b,off,n,cap,NB,0,_,nc,f,tb,toff,tc,_,rfl,hfed.re τ d,rfl⟩) ?_
    .simp[execOp,resolve,invoke,Act.eval,go_sem]
    .rintro τ d v V3 ⟨x,aL,hA,haL,rfl,hfr⟩;have hbst:=yF hA;have hB3:Bl w2.heap.size w2 V3:=by
      rcases hfr with⟨_,_,rfl⟩|⟨cs,_,rfl,_⟩
      .exact⟨Nat.le_refl _,λ_ _=>rfl⟩
      .exact⟨by simp[re],λk hk=>Below.heap_alloc _ _ _ hk⟩
     have hB03:Bl V.heap.size V V3:=hb12.trans hB3 (by omega);have hz3:=hB3.size;have hpost:∀w',Bl V3.heap.size V3 w'->dp (jL f n shift p) n V (.tuple #[.slice aL x.n x.cap,.bool x.ok]) w':=λw' hw'=>by
      refine⟨?_,hB03.trans hw' (by omega)⟩;unfold jL;rw[if_pos ⟨hm,hs0,hs6⟩];cases hO:cQ f n ((ay n).filter p)with
      |none=>
       rw[hO]at hbst;obtain⟨h1,h2,h3,h4⟩:=hbst;exact⟨aL,x.cap,by rw[h1,h2]⟩
      |some T=>
       rw[hO]at hbst;obtain⟨h1,h2,h3,h4,h5⟩:=hbst;rcases hfr with⟨h,_⟩|⟨cs,ha,rfl,hi,hrow3,_,hsz⟩
       .exact absurd (haL.2 h) h4
       .replace ha:aL=some ⟨w2.heap.size,0,none⟩:=ha;replace hsz:cs.size=x.n:=hsz;have hnew:((re w2 τ d).alloc (.cells cs 3)).heap[w2.heap.size]?=some (.cells cs 3 (0,0)):=heap_alloc_new (re w2 τ d) _;have hrow4:ag ((re w2 τ d).alloc (.cells cs 3)) w2.heap.size 0 n T:=by
         rcases hrow3 with h|⟨b5,o5,h,hr⟩
         .replace h:x.n=0:=h;intro i hi';omega
         .replace h:aL=some ⟨b5,o5,none⟩:=h;rw[ha]at h;simp only[Option.some.injEq,Addr.mk.injEq]at h;obtain⟨rfl,rfl,_⟩:=h;intro i hi';have:=hr i (by show i<x.n;omega);rw[this];exact congrArg (λz=>some (Value.int .i64 z)) (h5 i hi')
        refine⟨w2.heap.size,x.cap,by omega,by rw[h1,h2,ha],?_⟩;have hlt:w2.heap.size<((re w2 τ d).alloc (.cells cs 3)).heap.size:=by simp[re]
        exact cZ ⟨⟨cs,hnew,by omega⟩,hrow4⟩ (hw'.block _ hlt)
     clear hA hbst hfr;refine ar.opsFrom E hSB 5 2 (by simp) (λa w=>Bl V3.heap.size V3 w/\∃B6,w.cell? ⟨B6,0,none⟩=some (.bool x.ok)/\w.cell? ⟨B6,3,none⟩=some (.slice aL x.n x.cap)/\∃u0 u1 u2 u3 u4 u5 u7 u8 u9 u10 u11 u12 u13 u14 u15 u16 u17 u18 u19 u20 u21 u22 u23 u24 u25 u26,a=⟨#[u0,u1,u2,u3,u4,u5,.pointer (some ⟨B6,0,none⟩),u7,u8,u9,u10,u11,u12,u13,u14,u15,u16,u17,u18,u19,u20,u21,u22,u23,u24,u25,u26],[]⟩) ?_ ?_
     .intro τ' d';clear hE hpost;simp only[List.drop_succ_cons,List.drop_zero,List.take_succ_cons,List.take_zero,Act.put,TryV.val];go_wp2;exact⟨by simp[re],λk hk=>Below.heap_alloc _ _ _ hk⟩
     .rintro a w4 ⟨hb4,B6,c0,c3,u0,u1,u2,u3,u4,u5,u7,u8,u9,u10,u11,u12,u13,u14,u15,u16,u17,u18,u19,u20,u21,u22,u23,u24,u25,u26,rfl⟩;refine ar.regionEnd E hSB ?_;refine ar.last E hSB [_] (λa w=>Bl V3.heap.size V3 w/\a.defers=[]/\a.tmps[4]?=some (.slice aL x.n x.cap)/\a.tmps[5]?=some (.bool x.ok)) ?_ ?_
      .intro τ' d';have c0':(re w4 τ' d').cell? ⟨B6,0,none⟩=some (.bool x.ok):=c0;have c3':(re w4 τ' d').cell? ⟨B6,3,none⟩=some (.slice aL x.n x.cap):=c3;clear hE hpost c0 c3;simp only[aB];go_quiet (fail)
       left;refine⟨by first|rfl|trivial,hb4.trans (M:=w4.heap.size) ⟨Nat.le_refl _,λ_ _=>rfl⟩ hb4.size,?_⟩;first|exact⟨rfl,rfl,rfl⟩|simp
      .rintro a w5 todo ⟨h1,h2,h3,h4⟩;refine ar.leave E hr0 (v:=.tuple #[.slice aL x.n x.cap,.bool x.ok]) (λτ d=>⟨rfl,h2,rfl,_,Tryz0.func151,?_⟩) (hcont _ _ (hpost _ h1));have:=results_tmp2 (fn:=Tryz.f151) rfl a.tmps Tryz0.prog (re w5 τ d);rw[fY h3,fY h4]at this;exact this
 .refine ar.chain E hSB [_,_] _ (λ_ _=>False) (λa w=>Bl V.heap.size V w/\a.defers=[]/\a.tmps[4]?=some (.slice none 0 0)/\a.tmps[5]?=some (.bool false)) ?_ (λ_ _ h=>h.elim) ?_
  .intro τ d;have H1:=cO b off n cap f (re V τ d) hn hbs (aK hrow rfl);simp only[aB];cases hm:aq f n with
   |false=>
    rw[hm]at H1;clear hE;go_wp2_with(go_at_call 127;refine H1.mono ?_;clear H1;rintro e w1 ⟨rfl,b1⟩)
    right;refine⟨by first|rfl|trivial,Bl.ofR b1,?_⟩;first|exact⟨rfl,rfl,rfl⟩|simp
   |true=>
    rw[hm]at H1;by_cases h0:shift<0
    .clear hE;go_wp2_with(go_at_call 127;refine H1.mono ?_;clear H1;rintro e w1 ⟨rfl,b1⟩)
     right;refine⟨by first|rfl|trivial,Bl.ofR b1,?_⟩;first|exact⟨rfl,rfl,rfl⟩|simp
    .have h6:6<shift:=by have:¬(0<=shift/\shift<=6):=λh=>hg ⟨hm,h⟩;omega
     have h0':0<=shift:=by omega
     clear hE;go_wp2_with(go_at_call 127;refine H1.mono ?_;clear H1;rintro e w1 ⟨rfl,b1⟩)
     right;refine⟨by first|rfl|trivial,Bl.ofR b1,?_⟩;first|exact⟨rfl,rfl,rfl⟩|simp
  .rintro a w todo ⟨h1,h2,h3,h4⟩;refine ar.leave E hr0 (v:=.tuple #[.slice none 0 0,.bool false]) (λτ d=>⟨rfl,h2,rfl,_,Tryz0.func151,?_⟩) (hcont _ _ ⟨by unfold jL;rw[if_neg hg];exact⟨none,0,rfl⟩,h1⟩);have:=results_tmp2 (fn:=Tryz.f151) rfl a.tmps Tryz0.prog (re w τ d);rw[fY h3,fY h4]at this;exact this
end
def aW (a:Act)(s:(Nat->Value)->Array Value):Prop:=a.defers=[]/\a.tmps=s (λi=>a.tmps.getD i undef)
theorem aW.open {a:Act}{s:(Nat->Value)->Array Value}(h:aW a s):∃u,a=⟨s u,[]⟩:=by
 obtain⟨h1,h2⟩:=h;refine⟨λi=>a.tmps.getD i undef,?_⟩;rw[<-h2,<-h1]
theorem c9 {b:Frame}{a:Act}{ops:Array Oper}{i:Nat}{r:List Nat}{k:List Item}{o:Oper}(ho:ops[i]?=some o)(v:Value):(b.at a (.inRegion ops (i::r)::k)).finish v=b.at (a.put o.dst v) (.inRegion ops r::k):=by
 rw[Frame.finish_at,ho];rfl
section
variable [Gl]{ok:Ctx}{c:Frame}
theorem ar.bestOp {Q:Value->World->Prop}(E:cE Tryz0.prog ok c Dr24)(hSB:ok.inn 151=true)(hbt:ok.inn 181=false){b:Frame}{a:Act}{k:List Item}{cs:List Frame}{V:World}(hb:ok.inn b.fn=true){ops:Array Oper}{i:Nat}{r:List Nat}{o:Oper}(ho:ops[i]?=some o)(hw:Region.wanted o (yielded ops a.tmps)=true)
  {B off n cap:Nat}{f:Nat->Mv}{shift:Int}(hx:∀w,(execOp a.eval o).run Tryz0.prog w=.ok (.enter 151 #[.slice (some ⟨B,off,none⟩) n cap,.int .i64 shift]) w)
  (hn:n<=1048576)(hbs:B<V.heap.size)(hrow:al V B off n f)(hplain:aH V B){p:List Nat->Bool}(hp:vp f n shift p)
  (hcont:∀v V',dp (jL f n shift p) n V v V'->ar Tryz0.prog ok c Dr24 Q ⟨b.at (a.put o.dst v) (.inRegion ops r::k),cs,V'⟩):ar Tryz0.prog ok c Dr24 Q ⟨b.at a (.inRegion ops (i::r)::k),cs,V⟩:=
 ar.enterOp E ho hw hSB hx (Am E hSB hbt (r0:=b.at a (.inRegion ops (i::r)::k)) hb hn hbs hrow hplain hp (λv V' hv=>by rw[c9 ho];exact hcont v V' hv))
end
def Tk (r:Option (Nat->Int))(m lo:Nat)(w:World)(v:Value):Prop:=
 match r with
 |some T=>∃B c,lo<=B/\v=.slice (some ⟨B,0,none⟩) m c/\aj w B m T
 |none=>∃a c,v=.slice a 0 c
theorem Tk.same {r:Option (Nat->Int)}{m lo:Nat}{w w':World}{v:Value}(h:Tk r m lo w v)(e:∀b,lo<=b->b<w.heap.size->w'.heap[b]?=w.heap[b]?):Tk r m lo w' v:=by
 cases r with
 |none=>exact h
 |some T=>obtain⟨B,c,h1,h2,h3⟩:=h;exact⟨B,c,h1,h2,cZ h3 (e B h1 h3.lt)⟩
theorem qZ {r:Option (Nat->Int)}{m:Nat}{V V':World}{v:Value}(h:dp r m V v V'):∃v5,v=.tuple #[v5,.bool r.isSome]/\Tk r m V.heap.size V' v5/\Bl V.heap.size V V':=by
 cases r with
 |none=>obtain⟨⟨a,c,rfl⟩,hb⟩:=h;exact⟨_,rfl,⟨a,c,rfl⟩,hb⟩
 |some T=>obtain⟨⟨B,c,h1,rfl,h2⟩,hb⟩:=h;exact⟨_,rfl,⟨B,c,h1,rfl,h2⟩,hb⟩
theorem vu {w:World}{b n k:Nat}{h:Nat->Mv}(hr:al w b 0 n h)(hk:k<n)(x:Int):al (w.setCell ⟨b,k*6+3,none⟩ (.int .i64 x)) b 0 n (λi=>if i=k then{h k with est:=x}else h i):=λi hi=>by
 obtain⟨c0,c1,c2,c3,c4,c5⟩:=hr i hi;have o:∀j,j≠k*6+3->(w.setCell ⟨b,k*6+3,none⟩ (.int .i64 x)).cell? ⟨b,j,none⟩=w.cell? ⟨b,j,none⟩:=λj hj=>World.cell?_setCell_other _ _ _ _ (by intro e;cases e;exact hj rfl)
 by_cases e:i=k
 .subst e;simp only[if_true];have c3':w.cell? ⟨b,i*6+3,none⟩=some (.int .i64 (h i).est):=by rw[<-c3];congr 2;omega
  have s:(w.setCell ⟨b,i*6+3,none⟩ (.int .i64 x)).cell? ⟨b,i*6+3,none⟩=some (.int .i64 x):=World.cell?_setCell_same' _ _ _ (by rw[c3'];rfl);exact⟨(o _ (by omega)).trans c0,(o _ (by omega)).trans c1,(o _ (by omega)).trans c2,by rw[<-s];congr 2;omega,(o _ (by omega)).trans c4,(o _ (by omega)).trans c5⟩
 .simp only[if_neg e];exact⟨(o _ (by omega)).trans c0,(o _ (by omega)).trans c1,(o _ (by omega)).trans c2,(o _ (by omega)).trans c3,(o _ (by omega)).trans c4,(o _ (by omega)).trans c5⟩
theorem al.fcongr {w:World}{b off n:Nat}{h h':Nat->Mv}(hr:al w b off n h)(e:∀i,i<n->h i=h' i):al w b off n h':=λi hi=>by rw[<-e i hi];exact hr i hi
theorem sZ {w:World}{b:Nat}(h:aH w b)(j:Nat):w.frozen? ⟨b,j,none⟩=false:=by obtain⟨cs,e,h1,_⟩:=h;exact frozen_of_row _ _ j _ _ h1
theorem dp.re {r:Option (Nat->Int)}{n:Nat}{V V':World}{v:Value}(h:dp r n V v V')(τ:Nat->Question->Nat)(d:Nat):dp r n V v (re V' τ d):=by
 obtain⟨h1,h2⟩:=h;refine⟨?_,⟨h2.size,h2.block⟩⟩;cases r with
 |none=>exact h1
 |some T=>obtain⟨B,c,k1,k2,k3⟩:=h1;exact⟨B,c,k1,k2,cZ k3 rfl⟩
def bG (g:Nat->Mv)(frm:Int)(k i:Nat):Mv:=if i<k then eG (g i) frm else g i
theorem kU {g:Nat->Mv}{frm:Int}{k:Nat}(h:¬(g k).prom=-1)(i:Nat):bG g frm k i=bG g frm (k+1) i:=by
 unfold bG;by_cases e:i=k
 .subst e;rw[if_neg (by omega),if_pos (by omega)];unfold eG;rw[if_neg h]
 .by_cases h1:i<k
  .rw[if_pos h1,if_pos (by omega)]
  .rw[if_neg h1,if_neg (by omega)]
theorem oh {g:Nat->Mv}{frm x:Int}{k:Nat}(h:(g k).prom=-1)(hx:max (g k).est frm=x)(i:Nat):(if i=k then{bG g frm k k with est:=x}else bG g frm k i)=bG g frm (k+1) i:=by
 unfold bG;by_cases e:i=k
 .subst e;rw[if_pos rfl,if_neg (by omega),if_pos (by omega)];unfold eG;rw[if_pos h,hx]
 .rw[if_neg e];by_cases h1:i<k
  .rw[if_pos h1,if_pos (by omega)]
  .rw[if_neg h1,if_neg (by omega)]
theorem fK {m:Mv}{frm:Int}(h:m.prom=-1):bR m frm=decide (frm<=m.late):=by unfold bR;simp[h]
theorem oj {m:Mv}{frm:Int}(h:¬m.prom=-1):bR m frm=true:=by unfold bR;simp[h]
section
variable [Gl]{ok:Ctx}{c:Frame}{Q:Value->World->Prop}
theorem Ao (E:cE Tryz0.prog ok c Dr24)(hPl:ok.inn 132=true)(hSB:ok.inn 151=true)(hbt:ok.inn 181=false){r0:Frame}{cs:List Frame}{V:World}(hr0:ok.inn r0.fn=true)
  {b n cap:Nat}{g:Nat->Mv}{now shift:Int}(hn:n<=6)(hg:∀i,i<n->(g i).ok=true)(h0:0<=now)(h1:now<=20000)(hbs:b<V.heap.size)(hrow:al V b 0 n g)
  (hcont:∀v V',dp (er g n now shift) n V v V'->ar Tryz0.prog ok c Dr24 Q ⟨r0.finish v,cs,V'⟩):
  ar Tryz0.prog ok c Dr24 Q ⟨Frame.enter Tryz0.prog 132 #[.slice (some ⟨b,0,none⟩) n cap,.int .i64 now,.int .i64 shift] .normal,r0::cs,V⟩:=by
 have hE:=enter_at (P:=Tryz0.prog) #[.slice (some ⟨b,0,none⟩) n cap,.int .i64 now,.int .i64 shift] Tryz0.func132 rfl;simp only[Tryz.ntmps132,List.size_toArray,List.length_cons,List.length_nil,Nat.reduceAdd,Nat.reduceSub,Array.replicate_succ,Array.replicate_zero,List.push_toArray,List.append_toArray,List.nil_append,List.cons_append]at hE;rw[hE];clear hE;refine ar.chain E hPl [_,_,_] _ (λa' w'=>(∀i,i<n->bR (g i) (now+4)=true)/\Bl V.heap.size V w'/\∃B c8,V.heap.size<=B/\al w' B 0 n (bY g (now+4))/\aH w' B/\aW a' (λu=>#[u 0,u 1,.int .i64 shift,u 3,u 4,u 5,u 6,u 7,.slice (some ⟨B,0,none⟩) n c8,u 9,u 10,u 11,u 12,u 13,u 14,u 15,u 16,u 17,u 18,u 19,u 20,u 21,u 22,u 23,u 24,u 25,u 26,u 27,u 28,u 29,u 30,u 31,u 32,u 33,u 34,u 35,u 36,u 37,u 38,u 39,u 40,u 41,u 42,u 43,u 44,u 45])) (λa' w'=>(¬∀i,i<n->bR (g i) (now+4)=true)/\Bl V.heap.size V w'/\a'.defers=[]/\a'.tmps[6]?=some (.slice none 0 0)/\a'.tmps[7]?=some (.bool false)) ?_ ?_ ?_
 .intro τ d;have H1:=ux b n cap g (re V τ d) (by omega) hbs (aK hrow rfl);have hbl0:∀W,Below (re V τ d).heap.size (re V τ d) W->Bl V.heap.size V W:=λW h=>Bl.ofR h
  have hz0:(re V τ d).heap.size=V.heap.size:=rfl;clear hcont hrow;simp only[aB];go_wp2_with(go_at_call 150;refine H1.mono ?_;clear H1;rintro e w1 ⟨B,c8,rfl,ow,pl1,b1⟩;have row1:=dW ow;have hB0:=(ow.lt B rfl).1;clear ow)
  have hwr:IntKind.i64.wrap (now+4)=now+4:=by rw[IntKind.wrap_i64];omega
  go_loopw [15,9,10] (λx _ _ W=>∃k:Nat,x=.int .i64 k/\k<=n/\Below (re V τ d).heap.size (re V τ d) W/\al W B 0 n (bG g (now+4) k)/\aH W B/\∀i,i<k->bR (g i) (now+4)=true) (λx _ _ _=>n-(intOf x).toNat)
  case atStart=>exact⟨0,rfl,Nat.zero_le _,b1,row1.fcongr λi _=>by unfold bG;rw[if_neg (by omega)],pl1,λi hi=>absurd hi (Nat.not_lt_zero _)⟩
  case round=>
   clear row1 pl1 b1;obtain⟨k,rfl,hk,hBr,hrw,hpl,hall⟩:=hrel;by_cases hlt:k<n
   .have hlt':(k:Int)<n:=by omega
    have hgk:bG g (now+4) k k=g k:=by unfold bG;rw[if_neg (Nat.lt_irrefl _)]
    have hok:=Mv.ok_bd (hg k hlt);obtain⟨c0,c1,c2,c3,c4,c5⟩:=hrw k hlt;rw[hgk]at c0 c1 c2 c3 c4 c5;simp only[Nat.zero_add]at c0 c1 c2 c3 c4 c5;have hlB:=hpl.lt;have bA:=eP wr (g k);have hMi:=iU wr (g k);by_cases hp:(g k).prom=-1
    .obtain⟨x,hx⟩:∃x,max (g k).est (now+4)=x:=⟨_,rfl⟩;have hfr3:=sZ hpl (k*6+3);go_wp2;all_goals first|(exfalso;omega)|skip
     try rw[hx]
     have rS:=(vu hrw hlt x).fcongr (λi _=>oh hp hx i);have pS:aH (wr.setCell ⟨B,k*6+3,none⟩ (.int .i64 x)) B:=hpl.set (.inr (.inl ⟨_,_,rfl⟩));have bS:=hBr.setCell (p:=⟨B,k*6+3,none⟩) (by show(re V τ d).heap.size<=B;omega) (.int .i64 x);have eS:(wr.setCell ⟨B,k*6+3,none⟩ (.int .i64 x)).cell? ⟨B,k*6+3,none⟩=some (.int .i64 x):=World.cell?_setCell_same' _ _ _ (by rw[c3];rfl);have zS:(wr.setCell ⟨B,k*6+3,none⟩ (.int .i64 x)).heap.size=wr.heap.size:=by simp
     revert rS pS bS eS zS;generalize wr.setCell ⟨B,k*6+3,none⟩ (.int .i64 x)=W0;intro rS pS bS eS zS;have bB:Below W0.heap.size W0 (W0.alloc (.cells #[.string (g k).name,.bool (g k).lands,.int .i64 (g k).wake,.int .i64 (g k).est,.int .i64 (g k).late,.int .i64 (-1)] 36)):=(Below.refl _ _).alloc (Nat.le_refl _) _;have e1:=(bB.cell (p:=⟨B,k*6+3,none⟩) pS.lt).trans eS;have l1:(W0.alloc (.cells #[.string (g k).name,.bool (g k).lands,.int .i64 (g k).wake,.int .i64 (g k).est,.int .i64 (g k).late,.int .i64 (-1)] 36)).cell? ⟨wr.heap.size,4,none⟩=some (.int .i64 (g k).late):=by rw[<-zS];simp
     have r1:=rS.below bB pS.lt;have p1:=pS.same (bB.block B pS.lt);have b1:=bS.trans (bB.mono bS.size);revert e1 l1 r1 p1 b1;generalize (W0.alloc (.cells #[.string (g k).name,.bool (g k).lands,.int .i64 (g k).wake,.int .i64 (g k).est,.int .i64 (g k).late,.int .i64 (-1)] 36))=W1;intro e1 l1 r1 p1 b1;clear rS pS bS eS zS bB hrw hpl hBr c0 c1 c2 c3 c4 c5 bA hMi hfr3;by_cases hle:x<=(g k).late
     .have hnl:¬(g k).late<x:=by omega
      have hdl:decide ((g k).late<x)=false:=by simpa using hnl
      have hne:=ax W1;have x0:=λx:af W1=>x.cell e1
      have x1:=λx:af W1=>x.cell l1
      refine ae (by kernel_rfl) (by kernel_rfl) ?_;repeat(go_big_quiet_step (fail))
      refine wpQuiet_nil (ak ?_);intro w2 hb2;clear hne x0 x1;go_wp2;all_goals first|(exfalso;omega)|skip
      go_roundw
      case rel=>exact⟨k+1,by go_num,by omega,b1.trans (hb2.mono b1.size),r1.below hb2 p1.lt,p1.same (hb2.block B p1.lt),λi hi=>by
       by_cases e:i=k
       .subst e;rw[fK hp];simp;omega
       .exact hall i (by omega)⟩
      case measure=>simp[intOf];omega
     .have hnl:(g k).late<x:=by omega
      have hno:¬∀i,i<n->bR (g i) (now+4)=true:=λh=>by
       have:=h k hlt;rw[fK hp]at this;simp at this;omega
      have hdl:decide ((g k).late<x)=true:=by simpa using hnl
      have hne:=ax W1;have x0:=λx:af W1=>x.cell e1
      have x1:=λx:af W1=>x.cell l1
      refine ae (by kernel_rfl) (by kernel_rfl) ?_;repeat(go_big_quiet_step (fail))
      refine wpQuiet_nil (ak ?_);intro w2 hb2;clear hne x0 x1;have hend:=hbl0 _ (b1.trans (hb2.mono b1.size));go_wp2;all_goals first|(exfalso;omega)|skip
      first
       |exact⟨hno,hend⟩
       |(right;exact⟨rfl,hno,hend,rfl,rfl,rfl⟩)
       |trace_state
    .go_wp2;go_roundw
     case rel=>exact⟨k+1,by go_num,by omega,hBr.trans (bA.mono hBr.size),(hrw.below bA hlB).fcongr (λi _=>kU hp i),hpl.same (bA.block B hlB),λi hi=>by
      by_cases e:i=k
      .subst e;exact oj hp
      .exact hall i (by omega)⟩
     case measure=>simp[intOf];omega
   .have hlt':¬(k:Int)<n:=by omega
    have hkn:k=n:=by omega
    subst hkn;go_wp2;exact⟨hall,hbl0 _ hBr,B,by omega,hrw.fcongr (λi hi=>by unfold bG bY;rw[if_pos hi]),hpl,c8,rfl,rfl⟩
 .rintro a' w1 ⟨hall,hb1,B,c8,hB0,row1,pl1,hfr⟩;obtain⟨u,rfl⟩:=hfr.open;clear hfr;have hP:er g n now shift=jL (bY g (now+4)) n shift (jd (bY g (now+4)) n shift):=by unfold er;rw[if_pos hall]
  have hz1:=hb1.size;refine ar.seq E hPl (ar.region E hPl ?_);rw[aY];refine ar.opsFrom E hPl 0 2 (by simp) (λa' w'=>(∃τ d,w'=re w1 τ d)/\aW a' (λu=>#[u 0,u 1,.int .i64 shift,u 3,u 4,u 5,u 6,u 7,.slice (some ⟨B,0,none⟩) n c8,u 9,u 10,u 11,u 12,u 13,u 14,u 15,u 16,u 17,u 18,u 19,u 20,u 21,u 22,u 23,u 24,u 25,u 26,u 27,u 28,u 29,u 30,u 31,u 32,u 33,u 34,u 35,u 36,u 37,u 38,u 39,u 40,.slice (some ⟨B,0,none⟩) n c8,.int .i64 shift,u 43,u 44,u 45])) ?_ ?_
  .intro τ d;clear hcont;simp only[List.drop_zero,List.take_succ_cons,List.take_zero];go_wp2;exact⟨⟨τ,d,rfl⟩,rfl,rfl⟩
  rintro a' w' ⟨⟨τ,d,rfl⟩,hfr⟩;clear u;obtain⟨u,rfl⟩:=hfr.open;clear hfr;refine ar.bestOp E hSB hbt hPl (i:=2) rfl rfl (B:=B) (off:=0) (n:=n) (cap:=c8) (f:=bY g (now+4)) (shift:=shift) (λw=>by simp[execOp,resolve,invoke,Act.eval,go_sem]) (by omega) pl1.lt (aK row1 rfl) (n8 pl1 rfl) (n9 _ n shift) ?_;intro v V2 hpost;have hpost0:dp (er g n now shift) n V v V2:=by
   rw[hP];refine⟨?_,⟨Nat.le_trans hb1.size hpost.2.size,λk hk=>(hpost.2.block k (by show k<w1.heap.size;omega)).trans (hb1.block k hk)⟩⟩;have:=hpost.1;revert this;cases jL (bY g (now+4)) n shift (jd (bY g (now+4)) n shift)with
   |none=>exact id
   |some T=>rintro⟨B',c',h1,h2⟩;exact⟨B',c',Nat.le_trans hz1 h1,h2⟩
  obtain⟨v5,rfl,t5,hb2'⟩:=qZ hpost;obtain⟨br,hbr⟩:∃br,(jL (bY g (now+4)) n shift (jd (bY g (now+4)) n shift)).isSome=br:=⟨_,rfl⟩;rw[hbr]at hpost0⊢;have hco:=hcont;clear hcont hpost hb2' t5;refine ar.opsFrom E hPl 3 4 (by simp) (λa' w'=>(∃τ d,w'=re V2 τ d)/\aW a' (λu=>#[u 0,u 1,u 2,u 3,u 4,u 5,v5,.bool br,u 8,u 9,u 10,u 11,u 12,u 13,u 14,u 15,u 16,u 17,u 18,u 19,u 20,u 21,u 22,u 23,u 24,u 25,u 26,u 27,u 28,u 29,u 30,u 31,u 32,u 33,u 34,u 35,u 36,u 37,u 38,u 39,u 40,u 41,u 42,u 43,u 44,u 45])) ?_ ?_
  .intro τ d;clear hco;simp only[List.drop_succ_cons,List.drop_zero,List.take_succ_cons,List.take_zero,Act.put];go_wp2;exact⟨⟨τ,d,rfl⟩,rfl,rfl⟩
  rintro a' w' ⟨⟨τ2,d2,rfl⟩,hfr⟩;clear u;obtain⟨u,rfl⟩:=hfr.open;clear hfr;refine ar.regionEnd E hPl (ar.ret E hPl ?_);refine ar.leave E hr0 (v:=.tuple #[v5,.bool br]) (λτ d=>⟨rfl,rfl,rfl,_,Tryz0.func132,?_⟩) (hco (.tuple #[v5,.bool br]) _ (hpost0.re τ2 d2));have:=results_tmp2 (fn:=Tryz.f132) rfl ((λu=>#[u 0,u 1,u 2,u 3,u 4,u 5,v5,.bool br,u 8,u 9,u 10,u 11,u 12,u 13,u 14,u 15,u 16,u 17,u 18,u 19,u 20,u 21,u 22,u 23,u 24,u 25,u 26,u 27,u 28,u 29,u 30,u 31,u 32,u 33,u 34,u 35,u 36,u 37,u 38,u 39,u 40,u 41,u 42,u 43,u 44,u 45]) u) Tryz0.prog (re (re V2 τ2 d2) τ d);exact this
 .rintro a w todo ⟨h2,h3,h4,h5,h6⟩;refine ar.leave E hr0 (v:=.tuple #[.slice none 0 0,.bool false]) (λτ d=>⟨rfl,h4,rfl,_,Tryz0.func132,?_⟩) (hcont _ _ ⟨by unfold er;rw[if_neg h2];exact⟨none,0,rfl⟩,h3⟩);have:=results_tmp2 (fn:=Tryz.f132) rfl a.tmps Tryz0.prog (re w τ d);rw[fY h5,fY h6]at this;exact this
end
end Go.Proofs.YtlmcblcijndipabGreatDoor
