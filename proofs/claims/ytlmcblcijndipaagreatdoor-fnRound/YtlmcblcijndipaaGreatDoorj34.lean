import Derived.Test.YtlmcblcijndipaaGreatDoorj33
import Derived.Test.YtlmcblcijndipaaGreatDoorj32
set_option linter.unusedSectionVars false
set_option maxHeartbeats 4000000
set_option maxRecDepth 100000
namespace Go.Proofs.YtlmcblcijndipaaGreatDoor
section
open Conc RowKit
theorem dm {w w':World}{b off n:Nat}{f:Nat->Mv}(h:aM w b off n f)(e:w'.heap[b]?=w.heap[b]?):aM w' b off n f:=λi hi=>by
 obtain⟨c0,c1,c2,c3,c4,c5⟩:=h i hi;have k:∀{j:Nat} {v:Value},w.cell? ⟨b,j,none⟩=some v->w'.cell? ⟨b,j,none⟩=some v:=λ{j v} hv=>by simp only[World.cell?,e]at hv⊢;exact hv
 exact⟨k c0,k c1,k c2,k c3,k c4,k c5⟩
theorem mG {w w':World}{b n:Nat}{g:Nat->Int}(h:aJ w b n g)(e:w'.heap[b]?=w.heap[b]?):aJ w' b n g:=by
 obtain⟨⟨cs,h1,h2⟩,h3⟩:=h;exact⟨⟨cs,e.trans h1,h2⟩,λi hi=>by have:=h3 i hi;simp only[World.cell?,e]at this⊢;exact this⟩
theorem wK {w w':World}{b:Nat}(h:bX w b)(e:w'.heap[b]?=w.heap[b]?):bX w' b:=by
 obtain⟨cs,t,h1,h2⟩:=h;exact⟨cs,t,e.trans h1,h2⟩
theorem lj {a:Array Value}{i:Nat}{v:Value}(h:a[i]?=some v):a.getD i undef=v:=by simp[Array.getD_eq_getD_getElem?,h]
def gm (r:Option (Nat->Int))(n:Nat)(V:World)(v:Value)(V':World):Prop:=
 (match r with
 |some T=>∃B c,V.heap.size<=B/\v=.tuple #[.slice (some ⟨B,0,none⟩) n c,.bool true]/\aJ V' B n T
 |none=>∃a c,v=.tuple #[.slice a 0 c,.bool false])/\Bl V.heap.size V V'
theorem LT {b off n cap:Nat}{f:Nat->Mv}{shift:Int}{w:World}(hn:n<=1048576)(bw:b<w)(aq:aM w b off n f){p:List Nat->Bool}(hp:Gr f n shift p)(h0:0<=shift):0<((aR n).filter p).length:=by
 obtain⟨e,w',⟨g,_,_,hg,_⟩,_⟩:=tZ (qv b off n cap f w hn bw aq);obtain⟨l,hl,DR⟩:=BD (n:=n) (g:=g) hg.low hg.inj;have hs:er (λi=>((pl l i:Nat):Int)) (λi=>((g i:Nat):Int)) n 0:=by
  refine⟨Int.le_refl _,ab,λi k hi hk he=>?_,.inl rfl⟩;rw[DR i hi]at he;have:i=k:=by
   rcases Nat.lt_trichotomy i k with h|h|h
   .exact absurd ab (hg.inj i k h hk)
   .exact h
   .exact absurd ab (hg.inj k i h hi)
  omega
 have:=(hp g hg l hl 0 hs).2 h0;exact List.length_pos_of_mem (List.mem_filter.2 ⟨hl,this⟩)
theorem Sc {w:World}{b off n NB nc:Nat}{f:Nat->Mv}{p:List Nat->Bool}{cj:List Value}{lo:Nat}(hm:aG f n=true)(aq:aM w b off n f)(oW:bX w b)(gh:0<((aR n).filter p).length)
  (own:w.ownsRow lo 183 1 (.slice NB ((aR n).filter p).length nc) ((aR n).filter p).length cj)(rows:g9 w n lo cj ((aR n).filter p)):
  ∃tb toff tc,U9 w b off n NB 0 ((aR n).filter p).length f tb toff tc (λi=>pl (((aR n).filter p).getD i [])):=by
 have h6:=cg hm;have hx:∀i,∃q:Nat×Nat,i<((aR n).filter p).length->cj[i]?=some (Value.slice (some ⟨q.1,0,none⟩) n q.2)/\n<=q.2/\ie w q.1/\aB w q.1 0 n (λj=>((pl (((aR n).filter p).getD i []) j:Nat):Int)):=λi=>by
  by_cases hi:i<((aR n).filter p).length
  .obtain⟨tb,tc,h1,h2,h3,h4,h5⟩:=rows i (((aR n).filter p).getD i []) (by simp[hi]);exact⟨(tb,tc),λ_=>⟨h1,h2,h4,h5⟩⟩
  .exact⟨(0,0),λh=>absurd h hi⟩
 have qP:∀i,i<((aR n).filter p).length->((aR n).filter p).getD i []∈aR n:=λi hi=>by
  have:((aR n).filter p).getD i []∈(aR n).filter p:=by simp only[List.getD_eq_getElem?_getD,List.getElem?_eq_getElem hi,Option.getD_some];exact List.getElem_mem hi
  exact(List.mem_filter.1 this).1
 refine⟨λi=>(hx i).choose.1,λ_=>0,λi=>(hx i).choose.2,⟨hm,aq,oW,λi hi=>?_,λi hi=>?_,λi hi=>((hx i).choose_spec hi).2.1,λi hi=>((hx i).choose_spec hi).2.2.2,λi hi=>(gn (qP i hi)).2.1,λi hi=>(gn (qP i hi)).2.2,?_,gh⟩⟩
 .rw[Nat.zero_add,own.cellAt i ab];exact((hx i).choose_spec hi).1
 .obtain⟨cs,g1,g2⟩:=((hx i).choose_spec hi).2.2.1;exact⟨cs,_,g1,λv hv=>.inr (.inl (by obtain⟨x,rfl⟩:=g2 v hv;exact⟨_,_,rfl⟩))⟩
 .have h1:=(jq n h6).1;have h2:=List.length_filter_le p (aR n);omega
section
variable [Gl]{ok:Ctx}{c:Frame}{Dr:FuncId->Array Value->World->(Value->World->Prop)->Prop}{Q:Value->World->Prop}{P0:Program}
theorem aF.ret {b:Frame}{a:Act}{k:List Item}{cs:List Frame}{V:World}(E:eI P0 ok c Dr)(hb:ok.bI b.fn=true)(h:aF P0 ok c Dr Q ⟨{b.at a (.code .ret::k)with mode:=.returning},cs,V⟩):aF P0 ok c Dr Q ⟨b.at a (.code .ret::k),cs,V⟩:=
 aF.of_steps E.pair E.shut E.floor (λs1=>∃τ d,s1=St.re ⟨{b.at a (.code .ret::k)with mode:=.returning},cs,V⟩ τ d) (by rintro _ ⟨τ,d,rfl⟩;exact hb) (λτ d=>⟨_,⟨τ,d,rfl⟩,.one step_ret⟩) (by rintro _ ⟨τ,d,rfl⟩;exact λτ' d'=>h τ' d')
theorem aF.last {b:Frame}{a:Act}{k:List Item}{cs:List Frame}{V:World}(E:eI P0 ok c Dr)(hb:ok.bI b.fn=true)(ss:List Code)(R:Act->World->Prop)
  (h:∀τ d,aP P0 (λe a w=>(e=.normal/\R a w)\/(e=.ret/\R a w)) ss a (re V τ d))(hR:∀a' w' todo,R a' w'->aF P0 ok c Dr Q ⟨{b.at a' todo with mode:=.returning},cs,w'⟩):
  aF P0 ok c Dr Q ⟨b.at a (.code (Proofs.YtlmcblcijndipaaGreatDoor.chain ss .ret)::k),cs,V⟩:=
 aF.chain E hb ss .ret R R h (λa' w' h'=>aF.ret E hb (hR a' w' _ h')) hR
theorem aF.iC {b:Frame}{a:Act}{k:List Item}{cs:List Frame}{V:World}(E:eI P0 ok c Dr)(hb:ok.bI b.fn=true){ops:Array Oper}(j m:Nat)(hm:j+m<=ops.size)(K:Act->World->Prop)
  (h:∀τ d,wpList P0 ops (λe a w=>e=.normal/\K a w) ((ops.toList.drop j).take m) a (re V τ d))(hK:∀a' w',K a' w'->aF P0 ok c Dr Q ⟨b.at a' (.inRegion ops (List.range' (j+m) (ops.size-(j+m)))::k),cs,w'⟩):
  aF P0 ok c Dr Q ⟨b.at a (.inRegion ops (List.range' j (ops.size-j))::k),cs,V⟩:=by
 have hl:((ops.toList.drop j).take m).length=m:=cC;have e:List.range' j (ops.size-j)=List.range' j ((ops.toList.drop j).take m).length++List.range' (j+m) (ops.size-(j+m)):=by
  rw[hl,List.range'_append_1];congr 1;omega
 rw[e];refine aF.ops E hb j _ _ K (λi hi=>?_) h hK;rw[hl]at hi;rw[List.getElem?_take,if_pos hi,List.getElem?_drop];simp
theorem gK {ops:Array Oper}:List.range ops.size=List.range' 0 (ops.size-0):=by rw[List.range_eq_range'];rfl
theorem PZ (E:eI Tz.prog ok c dt)(qK:ok.bI 111=true)(Ca:ok.bI 139=false){r0:Frame}{cs:List Frame}{V:World}(jR:ok.bI r0.fn=true)
  {b off n cap:Nat}{f:Nat->Mv}{shift:Int}(hn:n<=1048576)(bw:b<V.heap.size)(aq:aM V b off n f)(oW:bX V b){p:List Nat->Bool}(hp:Gr f n shift p)
  (bh:∀v V',gm (mj f n shift p) n V v V'->aF Tz.prog ok c dt Q ⟨r0.finish v,cs,V'⟩):
  aF Tz.prog ok c dt Q ⟨Frame.enter Tz.prog 111 #[.slice (some ⟨b,off,none⟩) n cap,.int .i64 shift] .normal,r0::cs,V⟩:=by
 have hE:=enter_at (P:=Tz.prog) #[.slice (some ⟨b,off,none⟩) n cap,.int .i64 shift] Tz.func111 rfl;simp only[Tryz.ntmps111,List.size_toArray,List.length_cons,List.length_nil,Nat.reduceAdd,Nat.reduceSub,Array.replicate_succ,Array.replicate_zero,List.push_toArray,List.append_toArray,List.nil_append,List.cons_append]at hE;rw[hE];by_cases hg:aG f n=true/\0<=shift/\shift<=6
 .obtain⟨hm,Nt,Cm⟩:=hg;have abJ:¬shift<0:=ab;have abK:¬6<shift:=ab;refine aF.chain E qK [_,_] _ (λa w=>Bl V.heap.size V w/\∃u2 u3 u4 u5 u6 u7 u8 u9 NC Q7 ND NE NF NG u16 NH Ue NI NJ Ym Q8 Q9 Ra Rc Re,a=⟨#[.slice (some ⟨b,off,none⟩) n cap,.int .i64 shift,u2,u3,u4,u5,u6,u7,u8,u9,NC,Q7,ND,NE,NF,NG,u16,NH,Ue,NI,NJ,Ym,Q8,Q9,Ra,Rc,Re],[]⟩) (λ_ _=>False) ?_ ?_ (λ_ _ _ h=>h.elim)
  .intro τ d;have H1:=fG b off n cap f (re V τ d) hn bw (dm aq rfl);rw[hm]at H1;simp only[aP];clear hE;go_wp2_with(go_at_call 75;refine H1.mono ?_;clear H1;rintro e w1 ⟨rfl,b1⟩)
   left;refine⟨A9,Bl.pu b1,?_⟩;repeat apply Exists.intro
   rfl
  .rintro a w1 ⟨bF,u2,u3,u4,u5,u6,u7,u8,u9,NC,Q7,ND,NE,NF,NG,u16,NH,Ue,NI,NJ,Ym,Q8,Q9,Ra,Rc,Re,rfl⟩;refine aF.seq E qK (aF.region E qK ?_);rw[gK];have Lr:=dm aq (bF.block b bw);have fq:=bF.size;have gh:=LT (cap:=cap) hn bw aq hp Nt;refine aF.iC E qK 0 4 aH (λa w=>Bl w1.heap.size w1 w/\(∃NB nc cj,w.ownsRow w1.heap.size 183 1 (.slice (some ⟨NB,0,none⟩) ((aR n).filter p).length nc) ((aR n).filter p).length cj/\g9 w n w1.heap.size cj ((aR n).filter p)/\∃u2 u3 u4 u5 u6 u7 u8 u9 NC Q7 ND NE NF NG u16 NH NI NJ Q8 Q9 Ra Rc Re,a=⟨#[.slice (some ⟨b,off,none⟩) n cap,.int .i64 shift,u2,u3,u4,u5,u6,u7,u8,u9,NC,Q7,ND,NE,NF,NG,u16,NH,.slice (some ⟨b,off,none⟩) n cap,NI,NJ,.slice (some ⟨NB,0,none⟩) ((aR n).filter p).length nc,Q8,Q9,Ra,Rc,Re],[]⟩)) ?_ ?_
   .intro τ d;have H2:=LU b off n cap f shift (re w1 τ d) hm (by show b<w1.heap.size;omega) (dm Lr rfl) p hp;clear hE;simp only[List.drop_zero,List.take_succ_cons,List.take_zero];go_wp2_with(go_at_call 140;refine H2.mono ?_;clear H2;rintro e w2 ⟨⟨v,cj,rfl,o2,r2⟩,b2⟩)
    obtain⟨M,hM⟩:∃M,((aR n).filter p).length=M+1:=⟨((aR n).filter p).length-1,ab⟩;obtain⟨NB,nc,rfl⟩:∃NB nc,v=.slice (some ⟨NB,0,none⟩) ((aR n).filter p).length nc:=by rw[hM]at o2⊢;exact kS o2
    exact⟨Bl.pu b2,NB,nc,cj,o2,r2,rfl⟩
   .rintro a w2 ⟨cH,NB,nc,cj,o2,r2,u2,u3,u4,u5,u6,u7,u8,u9,NC,Q7,ND,NE,NF,NG,u16,NH,NI,NJ,Q8,Q9,Ra,Rc,Re,rfl⟩;have SB:Bl V.heap.size V w2:=bF.trans cH fq;have iF:=cH.size;obtain⟨tb,toff,tc,aaa⟩:=Sc hm (dm aq (SB.block b bw)) (wK oW (SB.block b bw)) gh o2 r2;refine aF.KC E (i:=4) rfl rfl Ca (λw=>?_) (λτ d=>.inl ⟨rfl,b,off,n,cap,NB,0,_,nc,f,tb,toff,tc,_,rfl,aaa.re τ d,rfl⟩) ?_
    .simp[execOp,resolve,invoke,Act.eval,go_sem]
    .rintro τ d v V3 ⟨x,aL,hA,haL,rfl,ew⟩;have K6:=Kd hA;have Uq:Bl w2.heap.size w2 V3:=by
      rcases ew with⟨_,_,rfl⟩|⟨cs,_,rfl,_⟩
      .exact⟨ack _,λ_ _=>rfl⟩
      .exact⟨by simp[re],λk hk=>acb _ _ _ hk⟩
     have x_:Bl V.heap.size V V3:=SB.trans Uq ab;have LA:=Uq.size;have jz:∀w',Bl V3.heap.size V3 w'->gm (mj f n shift p) n V (.tuple #[.slice aL x.n x.cap,.bool x.ok]) w':=λw' hw'=>by
      refine⟨?_,x_.trans hw' ab⟩;unfold mj;rw[if_pos ⟨hm,Nt,Cm⟩];cases hO:fe f n ((aR n).filter p)with
      |none=>
       rw[hO]at K6;obtain⟨h1,h2,h3,h4⟩:=K6;exact⟨aL,x.cap,by rw[h1,h2]⟩
      |some T=>
       rw[hO]at K6;obtain⟨h1,h2,h3,h4,h5⟩:=K6;rcases ew with⟨h,_⟩|⟨cs,ha,rfl,hi,Xl,_,iZ⟩
       .exact absurd (haL.2 h) h4
       .replace ha:aL=some ⟨w2.heap.size,0,none⟩:=ha;replace iZ:cs.size=x.n:=iZ;have se:((re w2 τ d).alloc (.cells cs 3)).heap[w2.heap.size]?=some (.cells cs 3 (0,0)):=heap_alloc_new (re w2 τ d) _;have Cj:aB ((re w2 τ d).alloc (.cells cs 3)) w2.heap.size 0 n T:=by
         rcases Xl with h|⟨b5,o5,h,hr⟩
         .replace h:x.n=0:=h;intro i ox;omega
         .replace h:aL=some ⟨b5,o5,none⟩:=h;rw[ha]at h;simp only[Option.some.injEq,Addr.mk.injEq]at h;obtain⟨rfl,rfl,_⟩:=h;intro i ox;have:=hr i (by show i<x.n;omega);rw[this];exact congrArg (λz=>some (Value.int .i64 z)) (h5 i ox)
        refine⟨w2.heap.size,x.cap,ab,by rw[h1,h2,ha],?_⟩;have aI:w2.heap.size<((re w2 τ d).alloc (.cells cs 3)).heap.size:=by simp[re]
        exact mG ⟨⟨cs,se,ab⟩,Cj⟩ (hw'.block _ aI)
     clear hA K6 ew;refine aF.iC E qK 5 2 aH (λa w=>Bl V3.heap.size V3 w/\∃B6,w.cell? ⟨B6,0,none⟩=some (.bool x.ok)/\w.cell? ⟨B6,3,none⟩=some (.slice aL x.n x.cap)/\∃u0 u1 u2 u3 u4 u5 u7 u8 u9 NC Q7 ND NE NF NG u16 NH Ue NI NJ Ym Q8 Q9 Ra Rc Re,a=⟨#[u0,u1,u2,u3,u4,u5,.pointer (some ⟨B6,0,none⟩),u7,u8,u9,NC,Q7,ND,NE,NF,NG,u16,NH,Ue,NI,NJ,Ym,Q8,Q9,Ra,Rc,Re],[]⟩) ?_ ?_
     .intro τ' d';clear hE jz;simp only[List.drop_succ_cons,List.drop_zero,List.take_succ_cons,List.take_zero,Act.put,aN.val];go_wp2;exact⟨by simp[re],λk hk=>acb _ _ _ hk⟩
     .rintro a w4 ⟨DQ,B6,c0,c3,u0,u1,u2,u3,u4,u5,u7,u8,u9,NC,Q7,ND,NE,NF,NG,u16,NH,Ue,NI,NJ,Ym,Q8,Q9,Ra,Rc,Re,rfl⟩;refine aF.regionEnd E qK ?_;refine aF.last E qK [_] (λa w=>Bl V3.heap.size V3 w/\a.defers=[]/\a.tmps[4]?=some (.slice aL x.n x.cap)/\a.tmps[5]?=some (.bool x.ok)) ?_ ?_
      .intro τ' d';have c0':(re w4 τ' d').cell? ⟨B6,0,none⟩=some (.bool x.ok):=c0;have c3':(re w4 τ' d').cell? ⟨B6,3,none⟩=some (.slice aL x.n x.cap):=c3;clear hE jz c0 c3;simp only[aP];go_quiet (fail)
       left;refine⟨A9,DQ.trans (M:=w4.heap.size) ⟨ack _,λ_ _=>rfl⟩ DQ.size,?_⟩;first|exact⟨rfl,rfl,rfl⟩|simp
      .rintro a w5 todo ⟨h1,h2,h3,h4⟩;refine aF.leave E jR (v:=.tuple #[.slice aL x.n x.cap,.bool x.ok]) (λτ d=>⟨rfl,h2,rfl,_,Tz.func111,?_⟩) (bh _ _ (jz _ h1));have:=results_tmp2 (fn:=Tryz.f111) rfl a.tmps Tz.prog (re w5 τ d);rw[lj h3,lj h4]at this;exact this
 .refine aF.chain E qK [_,_] _ (λ_ _=>False) (λa w=>Bl V.heap.size V w/\a.defers=[]/\a.tmps[4]?=some (.slice none 0 0)/\a.tmps[5]?=some (.bool false)) ?_ (λ_ _ h=>h.elim) ?_
  .intro τ d;have H1:=fG b off n cap f (re V τ d) hn bw (dm aq rfl);simp only[aP];cases hm:aG f n with
   |false=>
    rw[hm]at H1;clear hE;go_wp2_with(go_at_call 75;refine H1.mono ?_;clear H1;rintro e w1 ⟨rfl,b1⟩)
    right;refine⟨A9,Bl.pu b1,?_⟩;first|exact⟨rfl,rfl,rfl⟩|simp
   |true=>
    rw[hm]at H1;by_cases h0:shift<0
    .clear hE;go_wp2_with(go_at_call 75;refine H1.mono ?_;clear H1;rintro e w1 ⟨rfl,b1⟩)
     right;refine⟨A9,Bl.pu b1,?_⟩;first|exact⟨rfl,rfl,rfl⟩|simp
    .have h6:6<shift:=by have:¬(0<=shift/\shift<=6):=λh=>hg ⟨hm,h⟩;omega
     have h0':0<=shift:=ab;clear hE;go_wp2_with(go_at_call 75;refine H1.mono ?_;clear H1;rintro e w1 ⟨rfl,b1⟩)
     right;refine⟨A9,Bl.pu b1,?_⟩;first|exact⟨rfl,rfl,rfl⟩|simp
  .rintro a w todo ⟨h1,h2,h3,h4⟩;refine aF.leave E jR (v:=.tuple #[.slice none 0 0,.bool false]) (λτ d=>⟨rfl,h2,rfl,_,Tz.func111,?_⟩) (bh _ _ ⟨by unfold mj;rw[if_neg hg];exact⟨none,0,rfl⟩,h1⟩);have:=results_tmp2 (fn:=Tryz.f111) rfl a.tmps Tz.prog (re w τ d);rw[lj h3,lj h4]at this;exact this
end
def UZ:List (Nat×Value)->Value->Nat->Value
 |[],d,_=>d
 |(j,v)::l,d,i=>if i=j then v else UZ l d i
def U4 (l:List (Nat×Value))(u:Nat->Value):Nat->Nat->List Value
 |_,0=>[]
 |i,k+1=>UZ l (u i) i::U4 l u (i+1) k
def rW (n:Nat)(l:List (Nat×Value))(u:Nat->Value):Array Value:=(U4 l u 0 n).toArray
@[go_sem] theorem abb (n:Nat) (l:List (Nat×Value)) (u:Nat->Value):rW n l u=(U4 l u 0 n).toArray:=rfl
@[go_sem] theorem abd (l:List (Nat×Value)) (u:Nat->Value) (i k:Nat):U4 l u i (k+1)=UZ l (u i) i::U4 l u (i+1) k:=rfl
@[go_sem] theorem abe (l:List (Nat×Value)) (u:Nat->Value) (i:Nat):U4 l u i 0=[]:=rfl
@[go_sem] theorem aa9 (j:Nat) (v:Value) (l:List (Nat×Value)) (d:Value) (i:Nat):UZ ((j,v)::l) d i=if i=j then v else UZ l d i:=rfl
@[go_sem] theorem aba (d:Value) (i:Nat):UZ [] d i=d:=rfl
def gd (a:Act)(s:(Nat->Value)->Array Value):Prop:=a.defers=[]/\a.tmps=s (λi=>a.tmps.getD i undef)
theorem gd.open {a:Act}{s:(Nat->Value)->Array Value}(h:gd a s):∃u,a=⟨s u,[]⟩:=by
 obtain⟨h1,h2⟩:=h;refine⟨λi=>a.tmps.getD i undef,?_⟩;rw[<-h2,<-h1]
theorem dO {b:Frame}{a:Act}{ops:Array Oper}{i:Nat}{r:List Nat}{k:List Item}{o:Oper}(ho:ops[i]?=some o)(v:Value):(b.at a (.inRegion ops (i::r)::k)).finish v=b.at (a.put o.dst v) (.inRegion ops r::k):=by
 rw[Frame.finish_at,ho];rfl
section
variable [Gl]{ok:Ctx}{c:Frame}
theorem aF.RG {Q:Value->World->Prop}(E:eI Tz.prog ok c dt)(qK:ok.bI 111=true)(Ca:ok.bI 139=false){b:Frame}{a:Act}{k:List Item}{cs:List Frame}{V:World}(hb:ok.bI b.fn=true){ops:Array Oper}{i:Nat}{r:List Nat}{o:Oper}(ho:ops[i]?=some o)(hw:Region.wanted o (yielded ops a.tmps)=true)
  {B off n cap:Nat}{f:Nat->Mv}{shift:Int}(hx:∀w,(execOp a.eval o).run Tz.prog w=.ok (.enter 111 #[.slice (some ⟨B,off,none⟩) n cap,shift]) w)
  (hn:n<=1048576)(bw:B<V)(aq:aM V B off n f)(oW:bX V B){p:List Nat->Bool}(hp:Gr f n shift p)
  (bh:∀v V',gm (mj f n shift p) n V v V'->aF Tz.prog ok c dt Q ⟨b.at (a.put o.dst v) (.inRegion ops r::k),cs,V'⟩):aF Tz.prog ok c dt Q ⟨b.at a (.inRegion ops (i::r)::k),cs,V⟩:=
 aF.fX E ho hw qK hx (PZ E qK Ca (r0:=b.at a (.inRegion ops (i::r)::k)) hb hn bw aq oW hp (λv V' hv=>by rw[dO ho];exact bh v V' hv))
end
end
section
open Conc RowKit
variable {r:Option (Nat->Int)}{m lo:Nat}{w w':World}{v:Value}
def Tk (r:Option (Nat->Int))(m lo:Nat)(w:World)(v:Value):Prop:=
 match r with
 |some T=>∃B c,lo<=B/\v=.slice (some ⟨B,0,none⟩) m c/\aJ w B m T
 |none=>∃a c,v=.slice a 0 c
theorem Tk.same (h:Tk r m lo w v)(e:∀b,lo<=b->b<w.heap.size->w'.heap[b]?=w.heap[b]?):Tk r m lo w' v:=by
 cases r with
 |none=>exact h
 |some T=>obtain⟨B,c,h1,h2,h3⟩:=h;exact⟨B,c,h1,h2,mG h3 (e B h1 h3.lt)⟩
theorem G9 {V V':World}(h:gm r m V v V'):∃v5,v=.tuple #[v5,r.isSome]/\Tk r m V.heap.size V' v5/\Bl V V V':=by
 cases r with
 |none=>obtain⟨⟨a,c,rfl⟩,hb⟩:=h;exact⟨_,rfl,⟨a,c,rfl⟩,hb⟩
 |some T=>obtain⟨⟨B,c,h1,rfl,h2⟩,hb⟩:=h;exact⟨_,rfl,⟨B,c,h1,rfl,h2⟩,hb⟩
end
section
open Conc RowKit
theorem Hg {w:World}{b n k:Nat}{h:Nat->Mv}(hr:aM w b 0 n h)(hk:k<n)(x:Int):aM (w.setCell ⟨b,k*6+3,none⟩ (.int .i64 x)) b 0 n (λi=>if i=k then{h k with ba:=x}else h i):=λi hi=>by
 obtain⟨c0,c1,c2,c3,c4,c5⟩:=hr i hi;have o:∀j,j≠k*6+3->(w.setCell ⟨b,k*6+3,none⟩ (.int .i64 x)).cell? ⟨b,j,none⟩=w.cell? ⟨b,j,none⟩:=λj hj=>World.cell?_setCell_other _ _ _ _ (by intro e;cases e;exact hj rfl)
 by_cases e:i=k
 .subst e;simp only[if_true];have c3':w.cell? ⟨b,i*6+3,none⟩=some (.int .i64 (h i).ba):=by rw[<-c3];congr 2;omega
  have s:(w.setCell ⟨b,i*6+3,none⟩ (.int .i64 x)).cell? ⟨b,i*6+3,none⟩=some (.int .i64 x):=World.cell?_setCell_same' _ _ _ (by rw[c3'];rfl);exact⟨(o _ ab).trans c0,(o _ ab).trans c1,(o _ ab).trans c2,by rw[<-s];congr 2;omega,(o _ ab).trans c4,(o _ ab).trans c5⟩
 .simp only[if_neg e];exact⟨(o _ ab).trans c0,(o _ ab).trans c1,(o _ ab).trans c2,(o _ ab).trans c3,(o _ ab).trans c4,(o _ ab).trans c5⟩
theorem aM.ng {w:World}{b off n:Nat}{h h':Nat->Mv}(hr:aM w b off n h)(e:∀i,i<n->h i=h' i):aM w b off n h':=λi hi=>by rw[<-e i hi];exact hr i hi
theorem C1 {w:World}{b:Nat}(h:bX w b)(j:Nat):w.frozen? ⟨b,j,none⟩=false:=by obtain⟨cs,e,h1,_⟩:=h;exact frozen_of_row _ _ j _ _ h1
theorem gm.re {r:Option (Nat->Int)}{n:Nat}{V V':World}{v:Value}(h:gm r n V v V')(τ:Nat->Question->Nat)(d:Nat):gm r n V v (re V' τ d):=by
 obtain⟨h1,h2⟩:=h;refine⟨?_,⟨h2.size,h2.block⟩⟩;cases r with
 |none=>exact h1
 |some T=>obtain⟨B,c,k1,k2,k3⟩:=h1;exact⟨B,c,k1,k2,mG k3 rfl⟩
def dV (g:Nat->Mv)(gD:Int)(k i:Nat):Mv:=if i<k then eZ (g i) gD else g i
theorem sN {g:Nat->Mv}{gD:Int}{k:Nat}(h:¬(g k).prom=-1)(i:Nat):dV g gD k i=dV g gD (k+1) i:=by
 unfold dV;by_cases e:i=k
 .subst e;rw[if_neg ab,if_pos ab];unfold eZ;rw[if_neg h]
 .by_cases h1:i<k
  .rw[if_pos h1,if_pos ab]
  .rw[if_neg h1,if_neg ab]
theorem wO {g:Nat->Mv}{gD x:Int}{k:Nat}(h:(g k).prom=-1)(hx:max (g k).ba gD=x)(i:Nat):(if i=k then{dV g gD k k with ba:=x}else dV g gD k i)=dV g gD (k+1) i:=by
 unfold dV;by_cases e:i=k
 .subst e;rw[if_pos rfl,if_neg ab,if_pos ab];unfold eZ;rw[if_pos h,hx]
 .rw[if_neg e];by_cases h1:i<k
  .rw[if_pos h1,if_pos ab]
  .rw[if_neg h1,if_neg ab]
theorem kU {m:Mv}{gD:Int}(h:m.prom=-1):dU m gD=decide (gD<=m.late):=by unfold dU;simp[h]
theorem wN {m:Mv}{gD:Int}(h:¬m.prom=-1):dU m gD=true:=by unfold dU;simp[h]
section
variable [Gl]{ok:Ctx}{c:Frame}{Q:Value->World->Prop}
theorem P1 (E:eI Tz.prog ok c dt)(xJ:ok.bI 80=true)(qK:ok.bI 111=true)(Ca:ok.bI 139=false){r0:Frame}{cs:List Frame}{V:World}(jR:ok.bI r0.fn=true)
  {b n cap:Nat}{g:Nat->Mv}{now shift:Int}(hn:n<=6)(hg:∀i,i<n->(g i).ok=true)(h0:0<=now)(h1:now<=20000)(bw:b<V)(aq:aM V b 0 n g)
  (bh:∀v V',gm (iT g n now shift) n V v V'->aF Tz.prog ok c dt Q ⟨r0.finish v,cs,V'⟩):
  aF Tz.prog ok c dt Q ⟨Frame.enter Tz.prog 80 #[.slice (some ⟨b,0,none⟩) n cap,.int .i64 now,.int .i64 shift] .normal,r0::cs,V⟩:=by
 have hE:=enter_at (P:=Tz.prog) #[.slice b n cap,now,shift] Tz.func80 rfl;simp only[Tryz.ntmps80,List.size_toArray,List.length_cons,List.length_nil,Nat.reduceAdd,Nat.reduceSub,Array.replicate_succ,Array.replicate_zero,List.push_toArray,List.append_toArray,List.nil_append,List.cons_append]at hE;rw[hE];clear hE;refine aF.chain E xJ [_,_,_] _ (λa' w'=>(∀i,i<n->dU (g i) (now+4)=true)/\Bl V.heap.size V w'/\∃B c8,V.heap.size<=B/\aM w' B 0 n (eb g (now+4))/\bX w' B/\gd a' (rW 46 [(2,.int .i64 shift),(8,.slice (some ⟨B,0,none⟩) n c8)])) (λa' w'=>(¬∀i,i<n->dU (g i) (now+4)=true)/\Bl V.heap.size V w'/\a'.defers=[]/\a'.tmps[6]?=some (.slice none 0 0)/\a'.tmps[7]?=some (.bool false)) ?_ ?_ ?_
 .intro τ d;have H1:=EB b n cap g (re V τ d) ab bw (dm aq rfl);have EW:∀W,Below (re V τ d).heap.size (re V τ d) W->Bl V V W:=λW h=>Bl.pu h
  have gI:(re V τ d).heap.size=V.heap.size:=rfl;clear bh aq;simp only[aP];go_wp2_with(go_at_call 110;refine H1.mono ?_;clear H1;rintro e w1 ⟨B,c8,rfl,ow,X3,b1⟩;have Db:=dM ow;have mQ:=(ow.lt B rfl).1;clear ow)
  have Ao:IntKind.i64.wrap (now+4)=now+4:=gH;go_loopw [15,9,10] (λx _ _ W=>∃k:Nat,x=.int .i64 k/\k<=n/\Below (re V τ d).heap.size (re V τ d) W/\aM W B 0 n (dV g (now+4) k)/\bX W B/\∀i,i<k->dU (g i) (now+4)=true) (λx _ _ _=>n-(intOf x).toNat)
  case atStart=>exact⟨0,rfl,acp _,b1,Db.ng λi _=>by unfold dV;rw[if_neg ab],X3,λi hi=>absurd hi (aco _)⟩
  case round=>
   clear Db X3 b1;obtain⟨k,rfl,hk,fK,Lt,qT,cP⟩:=hrel;by_cases aI:k<n
   .have dG:(k:Int)<n:=by omega
    have WB:dV g (now+4) k k=g k:=by unfold dV;rw[if_neg (Nat.lt_irrefl _)]
    have fw:=Mv.fR (hg k aI);obtain⟨c0,c1,c2,c3,c4,c5⟩:=Lt k aI;rw[WB]at c0 c1 c2 c3 c4 c5;simp only[Nat.zero_add]at c0 c1 c2 c3 c4 c5;have hlB:=qT.lt;have bA:=fO wr (g k);have hMi:=kC wr (g k);by_cases hp:(g k).prom=-1
    .obtain⟨x,hx⟩:∃x,max (g k).ba (now+4)=x:=⟨_,rfl⟩;have Wv:=C1 qT (k*6+3);go_wp2;all_goals try(exfalso;omega)
     try rw[hx]
     have rS:=(Hg Lt aI x).ng (λi _=>wO hp hx i);have pS:bX (wr.setCell ⟨B,k*6+3,none⟩ x) B:=qT.set (.inr (.inl ⟨_,_,rfl⟩));have bS:=fK.setCell (p:=⟨B,k*6+3,none⟩) (by show(re V τ d).heap.size<=B;omega) x;have eS:(wr.setCell ⟨B,k*6+3,none⟩ x).cell? ⟨B,k*6+3,none⟩=some (.int .i64 x):=World.cell?_setCell_same' _ _ _ (by rw[c3];rfl);have zS:(wr.setCell ⟨B,k*6+3,none⟩ x).heap.size=wr.heap.size:=aH;revert rS pS bS eS zS;generalize wr.setCell ⟨B,k*6+3,none⟩ (.int .i64 x)=W0;intro rS pS bS eS zS;have bB:Below W0 W0 (W0.alloc (.cells #[.string (g k).name,.bool (g k).an,.int .i64 (g k).aD,.int .i64 (g k).ba,.int .i64 (g k).late,.int .i64 (-1)] 31)):=(aca _ _).alloc (ack _) _;have e1:=(bB.cell (p:=⟨B,k*6+3,none⟩) pS.lt).trans eS;have l1:(W0.alloc (.cells #[.string (g k).name,.bool (g k).an,.int .i64 (g k).aD,.int .i64 (g k).ba,.int .i64 (g k).late,.int .i64 (-1)] 31)).cell? ⟨wr.heap.size,4,none⟩=some (.int .i64 (g k).late):=by rw[<-zS];simp
     have r1:=rS.below bB pS.lt;have p1:=pS.same (bB.block B pS.lt);have b1:=bS.trans (bB.mono bS.size);revert e1 l1 r1 p1 b1;generalize (W0.alloc (.cells #[.string (g k).name,.bool (g k).an,.int .i64 (g k).aD,.int .i64 (g k).ba,.int .i64 (g k).late,.int .i64 (-1)] 31))=W1;intro e1 l1 r1 p1 b1;clear rS pS bS eS zS bB Lt qT fK c0 c1 c2 c3 c4 c5 bA hMi Wv;by_cases hle:x<=(g k).late
     .have Li:¬(g k).late<x:=by omega
      have hdl:decide ((g k).late<x)=false:=by simpa using Li
      have hne:=aE W1;have x0:=λx:aj W1=>x.cell e1
      have x1:=λx:aj W1=>x.cell l1
      refine ah ?_;repeat(go_big_quiet_step (fail))
      refine wpQuiet_nil (ak ?_);intro w2 cH;clear hne x0 x1;go_wp2;all_goals try(exfalso;omega)
      go_roundw
      case rel=>exact⟨k+1,by go_num,ab,b1.trans (cH.mono b1.size),r1.below cH p1.lt,p1.same (cH.block B p1.lt),λi hi=>by
       by_cases e:i=k
       .subst e;rw[kU hp];simp;omega
       .exact cP i ab⟩
      case measure=>exact cf
     .have Li:(g k).late<x:=by omega
      have lp:¬∀i,i<n->dU (g i) (now+4)=true:=λh=>by
       have:=h k aI;rw[kU hp]at this;simp at this;omega
      have hdl:decide ((g k).late<x)=true:=by simpa using Li
      have hne:=aE W1;have x0:=λx:aj W1=>x.cell e1
      have x1:=λx:aj W1=>x.cell l1
      refine ah ?_;repeat(go_big_quiet_step (fail))
      refine wpQuiet_nil (ak ?_);intro w2 cH;clear hne x0 x1;have Ce:=EW _ (b1.trans (cH.mono b1.size));go_wp2;all_goals try(exfalso;omega)
      first
       |exact⟨lp,Ce⟩
       |(right;exact⟨rfl,lp,Ce,rfl,rfl,rfl⟩)
       |trace_state
    .go_wp2;go_roundw
     case rel=>exact⟨k+1,by go_num,ab,fK.trans (bA.mono fK.size),(Lt.below bA hlB).ng (λi _=>sN hp i),qT.same (bA.block B hlB),λi hi=>by
      by_cases e:i=k
      .subst e;exact wN hp
      .exact cP i ab⟩
     case measure=>exact cf
   .have dG:¬(k:Int)<n:=by omega
    have qo:k=n:=ab;subst qo;go_wp2;exact⟨cP,EW _ fK,B,ab,Lt.ng (λi hi=>by unfold dV eb;rw[if_pos hi]),qT,c8,rfl,rfl⟩
 .rintro a' w1 ⟨cP,bF,B,c8,mQ,Db,X3,ew⟩;obtain⟨u,rfl⟩:=ew.open;clear ew;have hP:iT g n now shift=mj (eb g (now+4)) n shift (iz (eb g (now+4)) n shift):=by unfold iT;rw[if_pos cP]
  have fq:=bF.size;refine aF.seq E xJ (aF.region E xJ ?_);rw[gK];refine aF.iC E xJ 0 2 aH (λa' w'=>(∃τ d,w'=re w1 τ d)/\gd a' (rW 46 [(2,shift),(8,.slice B n c8),(41,.slice B n c8),(42,shift)])) ?_ ?_
  .intro τ d;clear bh;simp only[List.drop_zero,List.take_succ_cons,List.take_zero];go_wp2;exact⟨⟨τ,d,rfl⟩,rfl,rfl⟩
  rintro a' w' ⟨⟨τ,d,rfl⟩,ew⟩;clear u;obtain⟨u,rfl⟩:=ew.open;clear ew;refine aF.RG E qK Ca xJ (i:=2) rfl rfl (B:=B) (off:=0) (n:=n) (cap:=c8) (f:=eb g (now+4)) (shift:=shift) (λw=>Ia) ab X3.lt (dm Db rfl) (wK X3 rfl) (wD _ n shift) ?_;intro v V2 jz;have Lp:gm (iT g n now shift) n V v V2:=by
   rw[hP];refine⟨?_,⟨acn bF.size jz.2.size,λk hk=>(jz.2.block k (by show k<w1.heap.size;omega)).trans (bF.block k hk)⟩⟩;have:=jz.1;revert this;cases mj (eb g (now+4)) n shift (iz (eb g (now+4)) n shift)with
   |none=>exact id
   |some T=>rintro⟨B',c',h1,h2⟩;exact⟨B',c',acn fq h1,h2⟩
  obtain⟨v5,rfl,t5,R_⟩:=G9 jz;obtain⟨br,uc⟩:∃br,(mj (eb g (now+4)) n shift (iz (eb g (now+4)) n shift)).isSome=br:=⟨_,rfl⟩;rw[uc]at Lp⊢;have hco:=bh;clear bh jz R_ t5;refine aF.iC E xJ 3 4 aH (λa' w'=>(∃τ d,w'=re V2 τ d)/\gd a' (rW 46 [(6,v5),(7,br)])) ?_ ?_
  .intro τ d;clear hco;simp only[List.drop_succ_cons,List.drop_zero,List.take_succ_cons,List.take_zero,Act.put];go_wp2;exact⟨⟨τ,d,rfl⟩,rfl,rfl⟩
  rintro a' w' ⟨⟨Uh,d2,rfl⟩,ew⟩;clear u;obtain⟨u,rfl⟩:=ew.open;clear ew;refine aF.regionEnd E xJ (aF.ret E xJ ?_);refine aF.leave E jR (v:=.tuple #[v5,br]) (λτ d=>⟨rfl,rfl,rfl,_,Tz.func80,?_⟩) (hco (.tuple #[v5,br]) _ (Lp.re Uh d2));have:=results_tmp2 (fn:=Tryz.f80) rfl ((rW 46 [(6,v5),(7,br)]) u) Tz.prog (re (re V2 Uh d2) τ d);exact this
 .rintro a w todo ⟨h2,h3,h4,h5,h6⟩;refine aF.leave E jR (v:=.tuple #[(),false]) (λτ d=>⟨rfl,h4,rfl,_,Tz.func80,?_⟩) (bh _ _ ⟨by unfold iT;rw[if_neg h2];exact⟨none,0,rfl⟩,h3⟩);have:=results_tmp2 (fn:=Tryz.f80) rfl a.tmps Tz.prog (re w τ d);rw[lj h5,lj h6]at this;exact this
end
section
variable [Gl]{P0:Program}{ok:Ctx}{c:Frame}{Dr:FuncId->Array Value->World->(Value->World->Prop)->Prop}{Q:Value->World->Prop}{b r0:Frame}{a:Act}{k:List Item}{cs:List Frame}{V:World}
theorem aF.un {fr:Frame}{τ:Nat->Question->Nat}{d:Nat}(h:aF P0 ok c Dr Q ⟨fr,cs,V⟩):aF P0 ok c Dr Q ⟨fr,cs,re V τ d⟩:=λτ' d'=>h τ' d'
theorem aF.oc (E:eI P0 ok c Dr)(hb:ok.bI b.fn=true){ops:Array Oper}(j m:Nat)
  (h:∀(K:Act->World->Prop) τ d,Hid (∀a' w',aF P0 ok c Dr Q ⟨b.at a' (.inRegion ops (List.range' (j+m) (ops.size-(j+m)))::k),cs,w'⟩->K a' w')->wpList P0 ops (λe a w=>e=.normal/\K a w) ((ops.toList.drop j).take m) a (re V τ d))(hm:j+m<=ops.size:=by simp):
  aF P0 ok c Dr Q ⟨b.at a (.inRegion ops (List.range' j (ops.size-j))::k),cs,V⟩:=
 aF.iC E hb j m hm _ (λτ d=>h _ τ d λ_ _ x=>x) λ_ _ x=>x
theorem aF.rg (E:eI P0 ok c Dr)(hb:ok.bI b.fn=true){id:Nat}{ops:Array Oper}(h:aF P0 ok c Dr Q ⟨b.at a (.inRegion ops (List.range' 0 (ops.size-0))::k),cs,V⟩):aF P0 ok c Dr Q ⟨b.at a (.code (.region id ops false)::k),cs,V⟩:=by
 rw[<-gK]at h;exact aF.region E hb h
theorem aF.ck (E:eI P0 ok c Dr)(hb:ok.bI b.fn=true)(ss:List Code)(T:Code)
  (h:∀(K R:Act->World->Prop) τ d,Hid (∀a' w',aF P0 ok c Dr Q ⟨b.at a' (.code T::k),cs,w'⟩->K a' w')->Hid (∀a' w',(∀todo,aF P0 ok c Dr Q ⟨{b.at a' todo with mode:=.returning},cs,w'⟩)->R a' w')->aP P0 (KI K R) ss a (re V τ d)):
  aF P0 ok c Dr Q ⟨b.at a (.code (Proofs.YtlmcblcijndipaaGreatDoor.chain ss T)::k),cs,V⟩:=
 aF.EA E hb ss T _ _ (λτ d=>h _ _ τ d (λ_ _ x=>x) (λ_ _ x=>x)) (λ_ _ x=>x) λ_ _ todo x=>x todo
theorem aF.en {f:FuncId}{fn:Func}{code:Code}{xs t:Array Value}{n:Nat}(hf:P0.funcs[f]?=some fn)(hc:fn.body=some code)(hn:fn.ntmps=n)(ht:xs++Array.replicate (n-xs.size) undef=t)(h:aF P0 ok c Dr Q ⟨(base f).at ⟨t,[]⟩ [.code code],cs,V⟩):aF P0 ok c Dr Q ⟨Frame.enter P0 f xs .normal,cs,V⟩:=by
 rw[enter_at xs hf hc,hn,ht];exact h
theorem aF.lv (E:eI P0 ok c Dr)(hr:ok.bI r0.fn=true){f:FuncId}{fn:Func}{t:Array Value}{todo:List Item}{v:Value}(hf:P0.funcs[f]?=some fn)(hv:∀τ d,(results fn t).run P0 (re V τ d)=.ok v (re V τ d))(h:aF P0 ok c Dr Q ⟨r0.finish v,cs,V⟩):aF P0 ok c Dr Q ⟨{(base f).at ⟨t,[]⟩ todo with mode:=.returning},r0::cs,V⟩:=
 aF.leave E hr (λτ d=>⟨rfl,rfl,rfl,_,hf,hv τ d⟩) h
theorem aF.calls (E:eI P0 ok c Dr)(hr:ok.bI r0.fn=true){f:FuncId}{xs:Array Value}{R:Value->World->Prop}(hc:∀τ d,Calls P0 f xs (re V τ d) λe w'=>∃v,e=.returned v/\R v w')(h:∀v V',R v V'->aF P0 ok c Dr Q ⟨r0.finish v,cs,V'⟩):aF P0 ok c Dr Q ⟨Frame.enter P0 f xs .normal,r0::cs,V⟩:=by
 refine aF.of_steps E.pair E.shut E.floor (λs1=>∃v V',R v V'/\s1=⟨r0.finish v,cs,V'⟩) ?_ (λτ d=>?_) ?_
 .rintro _ ⟨v,V',_,rfl⟩;show ok.bI (r0.finish v).fn=true;have rJ:(r0.finish v).fn=r0.fn:=by
   cases r0 with|mk fn tmps todo defers mode kind roundOf=>cases todo with
    |nil=>rfl
    |cons x l=>cases x<;>first|rfl|(rename_i ops l2;cases l2<;>rfl)
  rw[rJ];exact hr
 .obtain⟨e,w',fr,⟨v,rfl,hR⟩,hs,_,hl⟩:=hc τ d (r0::(cs++[c]));exact⟨_,⟨v,w',hR,rfl⟩,Steps.trans hs (.one (step_leave_returned hl))⟩
 .rintro _ ⟨v,V',hR,rfl⟩;exact h v V' hR
end
end
