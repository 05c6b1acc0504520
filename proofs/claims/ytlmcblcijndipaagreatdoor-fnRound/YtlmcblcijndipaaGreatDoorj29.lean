import Derived.Test.YtlmcblcijndipaaGreatDoorj25
import Derived.Test.YtlmcblcijndipaaGreatDoorj08c
import Derived.Test.YtlmcblcijndipaaGreatDoorj22
import Derived.Test.YtlmcblcijndipaaGreatDoorj27
import Derived.Sort.LoopGhostIn
import Derived.Deep.AppendLies
set_option linter.unusedVariables false
set_option maxHeartbeats 4000000
set_option maxRecDepth 10000
namespace Go.Proofs.YtlmcblcijndipaaGreatDoor
open Go.RowKit Go.Shelf
attribute [local go_sem] Oper.semAt_some
set_option linter.unusedVariables false
theorem XK (n:Nat)(hn:n<=1048576)(w:World):
  (Instr.makeSlice 183 (.int .i64 (n:Int)) (.int .i64 (n:Int))).run Tz.prog w=.ok (.slice w.heap.size n n) (w.alloc (.cells (madeCells #[.int .i64 0] n) 3)):=by
 have hi:=kN;cases hI:Tz.prog.info? 3 with
 |none=>rw[hI]at hi;simp at hi
 |some i=>
  rw[hI]at hi;simp only[Option.map_some,Option.some.injEq,Prod.mk.injEq]at hi;obtain⟨h6,VG,hz⟩:=hi;have:=run_make (P:=Tz.prog) w 183 3 i _ lu hI hz .i64 .i64 n n ab ab (by rw[VG];omega) ab;rw[h6]at this;simpa[Value.cells]using this
theorem XG (n:Nat)(w:World)(hn:n<=1048576):
  Calls Tz.prog 146 #[.int .i64 (n:Int)] w λe w'=>e=.returned (.slice w.heap.size n n)/\aJ w' w.heap.size n (λi=>(i:Int))/\Below w w w':=by
 have Nr:=XK n hn;go_enter Tz.func146,Tryz.ntmps146
 go_wp2;go_loopw [9] (λi w'=>∃k:Nat,k<=n/\i=.int .i64 k/\aJ w' w.heap.size n (λi=>if i<k then(i:Int)else 0)/\Below w w w') (λi _=>n-(intOf i).toNat)
 case atStart=>exact⟨0,acp _,rfl,(mz w n).congr (λi hi=>aH),(aca _ _).alloc (ack _) _⟩
 case round=>
  obtain⟨k,hk,rfl,aU,hB⟩:=hrel;by_cases aI:k<n
  .have dG:(k:Int)<n:=by omega
   have hd:=aU.cellAt k aI;have Qp:=aU.frozen k;go_wp2;go_roundw
   case rel=>exact⟨k+1,ab,by go_num,(aU.set k aI (k:Int)).congr (λi hi=>by
    by_cases e:i=k
    .subst e;simp
    .simp only[if_neg e];by_cases h:i<k
     .rw[if_pos h,if_pos ab]
     .rw[if_neg h,if_neg ab]),hB.setCell aH _⟩
   case measure=>exact cf
  .go_wp2;go_ret;exact⟨rfl,aU.congr (λi hi=>by rw[if_pos ab]),hB⟩
theorem FC (n:Int)(w:World):
  Calls Tz.prog 163 #[n] w λe w'=>e=.returned (.func (.func 198) #[] #[.pointer w.heap.size])/\w'=w.alloc (.cells #[n] 3):=by
 go_enter Tz.func163,Tryz.ntmps163
 go_wp2;go_ret;exact⟨rfl,rfl⟩
theorem AL (m Bn n l:Nat)(J:Nat->World->Prop)(W:World)(hn:n<=6)(YQ:Bn<W)(hc:W.cell? Bn=some (.int .i64 (n:Int)))
  (h0:∀W',Below W W W'->W.heap.size<W'.heap.size->J 0 W')
  (hs:∀k W1 W2,J k W1->fp W.heap.size W1 W2->Below W W1 W2->J k W2)
  (hY:∀k eO W0 W1 C c,(aR n)[k]?=some eO->J k W0->W.heap.size<W0.heap.size->Below W0.heap.size W0 W1->W0.heap.size<=C->C<W1.heap.size->n<=c->ie W1 C->aB W1 C 0 n (λi=>((pl eO i:Nat):Int))->
   YieldAt Fence.wide (m-1) Tz.prog l #[.slice C n c] W1 λe W'=>e=.returned true/\J (k+1) W'/\W1.heap.size<=W'.heap.size/\W'.heap[W.heap.size]?=W1.heap[W.heap.size]?):
  CallsIn Fence.wide m Tz.prog 198 #[.func (.yield l) #[] #[],.pointer Bn] W λe W'=>(∃v,e=.returned v)/\J (aR n).length W':=by
 obtain⟨hN,hN0⟩:=jq n hn;obtain⟨l0,hl0,aal⟩:=Ek n hn;have Be:=Kv hn;refine callsIn_of_wp Tz.func198 rfl trivial ?_ rfl;simp only[Tryz.ntmps198,List.size_toArray,List.length_cons,List.length_nil,Nat.reduceAdd,Nat.reduceSub,Array.replicate_succ,Array.replicate_zero,List.push_toArray,List.append_toArray,List.nil_append,List.cons_append];gi_wp2_with (refine⟨trivial,λh=>(by simp[Fence.wide]at h),?_⟩;refine(callsIn_wide.2 (XG n W ab)).mono ?_;rintro e w1 ⟨rfl,rl,b1⟩)
 gi_loopg [4] (aR n).length (λr v wr=>(∃k eO,v=true/\r+k=(aR n).length/\(aR n)[k]?=some eO/\J k wr/\W.heap.size<wr.heap.size/\aJ wr W.heap.size n (λi=>((pl eO i:Nat):Int)))\/(v=false/\J (aR n).length wr))
 case atStart=>exact .inl ⟨0,l0,rfl,rfl,hl0,h0 _ b1 rl.lt,rl.lt,rl.congr λi hi=>by rw[aal i hi]⟩
 case round=>
  rcases hrel with⟨k,eO,rfl,hrk,nu,hJ,aI,aU⟩|⟨rfl,hJ⟩
  .gi_wp2_with (first|(refine⟨trivial,λh=>(by simp[Fence.wide]at h),?_⟩;refine(callsIn_wide.2 (Ib _ n n _ wr ab aI aU.2)).mono ?_;rintro e w2 ⟨C,c,rfl,kJ,hC1,YR,Ut,Qi,b2⟩;obtain⟨fn,tmps,assign,body,hy,hR⟩:=hY k eO wr w2 C c nu hJ aI b2 hC1 YR kJ Ut Qi))
   refine⟨λh=>(by simp[Fence.wide]at h),hR.mono ?_⟩;rintro e W3 ⟨rfl,VM,LA,OF⟩;have QB:aJ W3 W.heap.size n (λi=>((pl eO i:Nat):Int)):=by
    have h2:=aU.below b2 aI;obtain⟨⟨cs,g1,g2⟩,g3⟩:=h2;have Ov:=OF.trans g1;refine⟨⟨cs,Ov,g2⟩,λi hi=>?_⟩;rw[cell_of_row _ _ _ _ _ _ Ov,<-cell_of_row w2 _ _ _ _ _ g1];exact g3 i hi
   have S2:W.heap.size<W3:=QB.lt;obtain⟨Y',Y_⟩:=vH Be nu;have hkN:k<(aR n).length:=(acv.1 nu).1;clear aU hJ hy hR b2;gi_wp2_with (refine⟨trivial,λh=>(by simp[Fence.wide]at h),?_⟩;refine(callsIn_wide.2 (LV _ n n (pl eO) W3 ab (ack _) QB)).mono ?_;rintro e w4 ⟨rfl,g4,t4,b4⟩)
   by_cases JQ:k+1<(aR n).length
   .obtain⟨XH,ll⟩:∃x,(aR n)[k+1]?=some x:=⟨_,acH JQ⟩;obtain⟨g,hg,rV⟩:=Y' XH ll;gi_roundg ((aR n).length-(k+1))
    case rel=>exact .inl ⟨k+1,XH,by rw[hg];rfl,ab,ll,hs _ _ _ VM t4 b4,by have:=t4.size;omega,(g4 g hg).congr λi hi=>by rw[rV i hi]⟩
    case measure=>omega
   .have hg:=Y_ ab;have aaj:k+1=(aR n).length:=ab;rw[aaj]at VM;gi_roundg 0
    case rel=>exact .inr ⟨by rw[hg];rfl,hs _ _ _ VM t4 b4⟩
    case measure=>omega
  .gi_wp2
   go_end0
   exact⟨⟨_,rfl⟩,hJ⟩
end Go.Proofs.YtlmcblcijndipaaGreatDoor
namespace Go.Proofs.YtlmcblcijndipaaGreatDoor
open Go.RowKit Go.Shelf
structure mW (B:Nat)(w w':World):Prop where
 os:w'.os=w.os
 tape:w'.tape=w.tape
 output:w'.output=w.output
 size:w.heap.size<=w'
 block:∀k,k<w.heap.size->(k<B\/B+2<k)->w'.heap[k]?=w.heap[k]?
theorem mW.trans {B:Nat}{a b c:World}(h:mW B a b)(k:mW B b c):mW B a c:=
 ⟨k.os.trans h.os,k.tape.trans h.tape,k.output.trans h.output,acn h.size k.size,λi hi hB=>(k.block i (acl hi h.size) hB).trans (h.block i hi hB)⟩
theorem mW.below {B:Nat}{w w':World}(h:Below w w w'):mW B w w':=⟨h.os,h.tape,h.output,h.size,λk hk _=>h.block k hk⟩
theorem mW.but {B:Nat}{w w':World}(t:fp (B+2) w w')(h:Below (B+2) w w'):mW B w w':=⟨h.os,h.tape,h.output,h.size,λk hk hB=>t.block k hk ab⟩
theorem mW.put {B:Nat}(w:World)(o:Obj):mW B w (w.putObj (B+1) o):=⟨rfl,rfl,rfl,by simp[World.putObj],λk hk hB=>World.putObj_heap_other ab⟩
variable {P:Program}
theorem DJ {g:Operand}{ps:Array Tmp}{assign body:Code}{Q:Exit->Act->World->Prop}{a:Act}{w:World}{m Bn n:Nat}(h1:1<=m)(hg:a.eval g=.func (.func 198) #[] #[.pointer Bn])
  (hn:n<=6)(YQ:Bn<w)(hc:w.cell? Bn=some (.int .i64 (n:Int)))(hps:ps.size=1)
  (I:Nat->World->Prop)(hI:∀k W1 W2,I k W1->mW w.heap.size W1 W2->I k W2)(h0:I 0 w)(abX:Value->Act)
  (OG:∀(l:Nat) (x:Value) (W:World) (K:Act->World->Prop),K (abX x) W->
   assign.wpIn (Fence.wide.inRound l) (m-1-1) Tz.prog (Exit.then K (λ_ _ _=>False)) {tmps:=(ps.zip #[x]).foldl (λt (p,v)=>t.setIfInBounds p v) a.tmps,defers:=[]} W)
  (V9:∀(l k:Nat) (eO:List Nat) (W0 W:World) (C c:Nat),(aR n)[k]?=some eO->I k W0->w.heap.size+2<W0->mW w.heap.size W0 W->W0.heap.size<=C->C<W->n<=c->ie W C->aB W C 0 n (λi=>((pl eO i:Nat):Int))->
   body.wpIn (Fence.wide.inRound l) (m-1-1) Tz.prog (λe _ W'=>e=.normal/\I (k+1) W'/\W.heap.size<=W'.heap.size/\∀b,w.heap.size<=b->b<=w+2->W'.heap[b]?=W.heap[b]?) (abX (.slice C n c)) W)
  (Qo:∀(D:Nat) (W:World),w.heap.size<=D->I (aR n).length W->W.heap[D]?=some (.deferred (some []))->Q .normal {a with defers:={target:=.collected D,args:=#[]}::a.defers} W):
  (Code.rangeFunc g ps assign body).wpIn Fence.wide m Tz.prog Q a w:=by
 refine wpIn_rangeFunc ?_;intro fn rJ;show _;obtain⟨rec,Ci⟩:∃rec:LoopState->Option Code->Loop,rec=λst pe=>{state:=st,pending:=pe,fn,tmps:=a.tmps,params:=ps,assign,body,defers:=w.heap.size}:=⟨_,rfl⟩
 obtain⟨W1,VU⟩:∃W1,(w.alloc (.deferred (some []))).alloc (.loop (rec .ready none))=W1:=⟨_,rfl⟩;have hL1:W1.heap[w.heap.size+1]?=some (.loop (rec .ready none)):=by
  rw[<-VU];have:=World.alloc_heap_new (w.alloc (.deferred (some []))) (.loop (rec .ready none));rwa [acg]at this
 have YW:W1.heap[w.heap.size]?=some (.deferred (some [])):=by
  rw[<-VU];exact(acb _ _ _ aH).trans (World.alloc_heap_new w _)
 have bF:Below w w W1:=by
  rw[<-VU];exact((aca _ w).alloc (ack _) _).alloc aH _
 have fq:W1.heap.size=w.heap.size+2:=by rw[<-VU];simp
 refine⟨w.heap.size+1,[{target:=.collected w.heap.size,args:=#[]}],W1,{target:=.fn (.func 198) #[.pointer Bn],args:=#[.func (.yield (w.heap.size+1)) #[] #[]]},W1,198,
  #[.func (.yield (w.heap.size + 1)) #[] #[]] ++ #[.pointer Bn], W1, ?_, ?_, ?_, ?_, fun _ => h1, ?_⟩
 .rw[<-VU,Ci];exact run_enterLoop_outer _ _ _ _ _
 .simp only[resolve,hg];simp[go_sem]
 .intro f' Le;trivial
 .simp[invoke,go_sem]
 .have dJ:=AL (m-1) Bn n (w.heap.size+1) (λk W=>I k W/\W.heap[w.heap.size+1]?=some (.loop (rec .ready none))/\W.heap[w.heap.size]?=some (.deferred (some [])))
   W1 hn ab ((bF.cell (p:=Bn) YQ).trans hc) ?_ ?_ ?_
  .refine dJ.mono ?_;rintro e W2 ⟨⟨v,rfl⟩,hi,hl,hk⟩;exact⟨none,_,by have:=run_endLoop (P:=Tz.prog) hl (by rw[Ci];simp);rw[Ci]at this;exact this,Qo _ _ (ack _) (hI _ _ _ hi (mW.put _ _)) ((World.putObj_heap_other ab).trans hk)⟩
  .intro W' hb aI;exact⟨hI _ _ _ h0 ((mW.below bF).trans (mW.below hb)),(hb.block _ ab).trans hL1,(hb.block _ ab).trans YW⟩
  .rintro k Wa Wb ⟨hi,hl,hk⟩ ht hb;rw[fq]at ht hb;have z1:=(acm.1 hl).1;exact⟨hI _ _ _ hi (mW.but ht hb),(ht.block _ ab ab).trans hl,(ht.block _ ab ab).trans hk⟩
  .rintro k eO W0 W C c nu ⟨hi,hl,hk⟩ aI hb hC Us K7 Ut Qi;rw[fq]at aI;replace hl:=(hb.block _ ab).trans hl;replace hk:=(hb.block _ ab).trans hk;have WQ:w.heap.size+1<W:=ab;have hy:=run_yield (P:=Tz.prog) (args:=#[.slice C n c]) hl (by rw[Ci];simp[hps]);rw[Ci]at hy;refine⟨fn,_,assign,body,hy,roundIn_of_wpIn rJ (OG _ _ W _ ⟨_,run_beginRound hl (by rw[Ci]),?_⟩)⟩;have Qt:(W.putObj (w.heap.size+1) (.loop {rec .ready none with state:=.busy})).heap[w.heap.size+1]?=some (.loop {rec .ready none with state:=.busy}):=World.putObj_heap_same WQ;have jY:(W.putObj (w.heap.size+1) (.loop {rec .ready none with state:=.busy})).heap[w.heap.size]?=some (.deferred (some [])):=(World.putObj_heap_other ab).trans hk;have Uy:(W.putObj (w.heap.size+1) (.loop {rec .ready none with state:=.busy})).heap[w.heap.size+2]?=W.heap[w.heap.size+2]?:=World.putObj_heap_other ab;have abo:w.heap.size+1≠C:=ab;have YR:(W.putObj (w.heap.size+1) (.loop {rec .ready none with state:=.busy})).heap[C]?=W.heap[C]?:=World.putObj_heap_other ab;have JW:(W.putObj (w.heap.size+1) (.loop {rec .ready none with state:=.busy})).heap.size=W.heap.size:=by simp[World.putObj]
   refine wpIn_mono (V9 _ k eO W0 _ C c nu hi ab ((mW.below hb).trans (mW.put _ _)) hC (by rw[JW];exact Us) K7 (by obtain⟨cs,g1,g2⟩:=Ut;exact⟨cs,YR.trans g1,g2⟩) (λi hi=>by have:=Qi i hi;simp only[World.cell?,YR]at this⊢;exact this)) ?_;rintro e a3 W3 ⟨rfl,hi3,LA,WJ⟩;have hl3:=(WJ (w.heap.size+1) ab ab).trans Qt;have hr:=run_endRound (P:=Tz.prog) none hl3;rw[Ci]at hr;have hz4:W.heap.size<=W3:=acn (Nat.le_of_eq JW.symm) LA;have S2:w.heap.size+1<W3:=ab;refine⟨_,_,hr,rfl,⟨hI _ _ _ hi3 (mW.put _ _),?_,?_⟩,?_,?_⟩
   .rw[World.putObj_heap_same S2,Ci];rfl
   .exact(World.putObj_heap_other ab).trans ((WJ _ ab ab).trans jY)
   .simp only[World.putObj,Array.size_setIfInBounds];exact hz4
   .rw[fq];exact(World.putObj_heap_other ab).trans ((WJ _ ab ab).trans Uy)
end Go.Proofs.YtlmcblcijndipaaGreatDoor
namespace Go.Proofs.YtlmcblcijndipaaGreatDoor
section
open RowKit
theorem sA (m:Mv)(w:World):
  Calls Tz.prog 131 #[.agg #[m.name,m.an,m.aD,m.ba,m.late,m.prom]] w λe w'=>e=.returned m.key/\Below w w w':=OY m w
theorem LK (f:Nat->Mv)(x i:Nat)(h:x<i):
  (oo f x i/\(f x).key<(f i).key)\/(oo f x i/\decide ((f x).key<(f i).key)=false/\((f x).key==(f i).key)=true/\(cQ (f x).name (f i).name||bZ (f x).name (f i).name)=true)
  \/(¬oo f x i/\decide ((f x).key<(f i).key)=false/\((f x).key==(f i).key)=false)\/(¬oo f x i/\decide ((f x).key<(f i).key)=false/\((f x).key==(f i).key)=true/\(cQ (f x).name (f i).name||bZ (f x).name (f i).name)=false):=by
 rw[Hz h];by_cases h1:(f x).key<(f i).key
 .exact .inl ⟨.inl h1,h1⟩
 .by_cases h2:(f x).key=(f i).key
  .cases h3:(cQ (f x).name (f i).name||bZ (f x).name (f i).name)with
   |true=>exact .inr (.inl ⟨.inr ⟨h2,rfl⟩,by simpa using h1,by simpa using h2,rfl⟩)
   |false=>exact .inr (.inr (.inr ⟨λhh=>hh.elim h1 (λ⟨_,c⟩=>Bool.noConfusion c),by simpa using h1,by simpa using h2,rfl⟩))
  .exact .inr (.inr (.inl ⟨λhh=>hh.elim h1 (λ⟨c,_⟩=>h2 c),by simpa using h1,by simpa using h2⟩))
theorem qv (b off n cap:Nat)(f:Nat->Mv)(w:World)(hn:n<=1048576)(bw:b<w)(aq:aM w b off n f):
  Calls Tz.prog 101 #[.slice (some ⟨b,off,none⟩) n cap] w λe w'=>(∃(g:Nat->Nat) (B c:Nat),dw f n g/\e=.returned (.slice B n c)/\B<w'.heap.size/\aB w' B 0 n (λi=>((g i:Nat):Int)))/\Below w w w':=by
 go_enter Tz.func101,Tryz.ntmps101
 go_wp2;go_loopw [3,4] (λv x wr=>∃(i:Nat) (g:Nat->Nat) (B c:Nat),i<=n/\x=.int .i64 i/\v=.slice (some ⟨B,0,none⟩) i c/\dw f i g/\wr.ownsRow w.heap.size 3 1 (.slice (some ⟨B,0,none⟩) i c) i (cj g i)/\Below w.heap.size w wr) (λ_ x _=>n-(intOf x).toNat)
 case atStart=>exact⟨0,id,w.heap.size,0,acp _,rfl,rfl,AA f _,mF (ack _) (heap_alloc_new _ _),(aca _ _).alloc (ack _) _⟩
 case round=>
  obtain⟨i,g,B,c,hi,rfl,rfl,hf,aU,hB⟩:=hrel;by_cases aI:i<n
  .have dG:(i:Int)<n:=by omega
   go_wp2;go_loopw [5] (λy wr=>∃k:Nat,k<=i/\y=.int .i64 k/\(∀j,j<k->oo f (g j) i)/\wr.ownsRow w.heap.size 3 1 (.slice B i c) i (cj g i)/\Below w w wr) (λy _=>i-(intOf y).toNat)
   case atStart=>exact⟨0,acp _,rfl,λj hj=>absurd hj (aco _),aU,hB⟩
   case round=>
    clear aU hB;obtain⟨k,hk,rfl,K4,aU,hB⟩:=hrel;obtain⟨EQ,hic⟩:=wJ aU;have hcell:∀j,j<i->wr.cell? ⟨B,j,none⟩=some (.int .i64 ((g j:Nat):Int)):=λj hj=>by rw[aU.cellAt j ab];exact gC hj
    have hne:=aE wr;by_cases Zj:k<i;case' pos=>
     have abC:(k:Int)<i:=ab;have WB:=hf.low k Zj;have hgn:((g k:Nat):Int)<n:=ab;have IA:=aq.below hB bw i aI;have UO:=aq.below hB bw (g k) ab;have x0:=λx:aj wr=>x.cell (hcell k Zj)
     have a0:=λx:aj wr=>x.cell IA.c0
     have a1:=λx:aj wr=>x.cell IA.c1
     have a2:=λx:aj wr=>x.cell IA.c2
     have a3:=λx:aj wr=>x.cell IA.c3
     have a4:=λx:aj wr=>x.cell IA.c4
     have a5:=λx:aj wr=>x.cell IA.c5
     have b0:=λx:aj wr=>x.cell UO.c0
     have b1:=λx:aj wr=>x.cell UO.c1
     have b2:=λx:aj wr=>x.cell UO.c2
     have b3:=λx:aj wr=>x.cell UO.c3
     have b4:=λx:aj wr=>x.cell UO.c4
     have b5:=λx:aj wr=>x.cell UO.c5
     rcases LK f (g k) i WB with⟨cZ,h1⟩|⟨cZ,h1,h2,h3⟩|⟨cZ,h1,h2⟩|⟨cZ,h1,h2,h3⟩;case' inl=>
      have HB:Hid (oo f (g k) i):=cZ;clear cZ;go_wp2;refine ah ?_;repeat(go_big_quiet_step ((go_at_call 131;exact bP (sA _ _))))
      refine wpQuiet_nil (ak ?_);intro w1 bF;go_wp2;go_roundw
      case rel=>exact⟨k+1,ab,by go_num,λj hj=>by
       by_cases e:j=k
       .subst e;exact HB.out
       .exact K4 j ab,tD aU bF,hB.trans (bF.mono hB.size)⟩
      case measure=>exact cf
     case' inr.inl=>
      have HB:Hid (oo f (g k) i):=cZ;have H1:Hid (decide ((f (g k)).key<(f i).key)=false):=h1;have H2:Hid (((f (g k)).key==(f i).key)=true):=h2;unfold cQ bZ at h3;have H3:Hid ((Op.bytesLess (f (g k)).name.toList (f i).name.toList||(f (g k)).name.toList==(f i).name.toList)=true):=h3;clear cZ h1 h2 h3;go_wp2;have h1:=H1.out;have h2:=H2.out;have h3:=H3.out;refine ah ?_;repeat(go_big_quiet_step ((go_at_call 131;exact bP (sA _ _))))
      refine wpQuiet_nil (ak ?_);intro w1 bF;go_wp2;go_roundw
      case rel=>exact⟨k+1,ab,by go_num,λj hj=>by
       by_cases e:j=k
       .subst e;exact HB.out
       .exact K4 j ab,tD aU bF,hB.trans (bF.mono hB.size)⟩
      case measure=>exact cf
     case' inr.inr.inl=>
      have H1:Hid (decide ((f (g k)).key<(f i).key)=false):=h1;have H2:Hid (((f (g k)).key==(f i).key)=false):=h2;have HF:Hid (dw f (i+1) (oz g k i)):=py hf hk K4 (λ_=>cZ);clear cZ h1 h2;go_wp2;have h1:=H1.out;have h2:=H2.out;refine ah ?_;repeat(go_big_quiet_step ((go_at_call 131;exact bP (sA _ _))))
      refine wpQuiet_nil (ak ?_);intro w1 bF;clear x0 a0 a1 a2 a3 a4 a5 b0 b1 b2 b3 b4 b5 hne
     case' inr.inr.inr=>
      have H1:Hid (decide ((f (g k)).key<(f i).key)=false):=h1;have H2:Hid (((f (g k)).key==(f i).key)=true):=h2;unfold cQ bZ at h3;have H3:Hid ((Op.bytesLess (f (g k)).name.toList (f i).name.toList||(f (g k)).name.toList==(f i).name.toList)=false):=h3;have HF:Hid (dw f (i+1) (oz g k i)):=py hf hk K4 (λ_=>cZ);clear cZ h1 h2 h3;go_wp2;have h1:=H1.out;have h2:=H2.out;have h3:=H3.out;refine ah ?_;repeat(go_big_quiet_step ((go_at_call 131;exact bP (sA _ _))))
      refine wpQuiet_nil (ak ?_);intro w1 bF;clear x0 a0 a1 a2 a3 a4 a5 b0 b1 b2 b3 b4 b5 hne
    case' neg=>
     have HF:Hid (dw f (i+1) (oz g k i)):=py hf hk K4 (λh=>absurd h Zj);have Z1:Hid (decide (k<i)=false):=by
      have h:decide (k<i)=false:=by simpa using Zj
      exact h
     go_wp2;have z1:=Z1.out;refine ah ?_;repeat(go_big_quiet_step ((go_at_call 131;exact bP (sA _ _))))
     refine wpQuiet_nil (ak ?_);intro w1 bF;clear hne
    all_goals
     have fC:=tD aU bF;have mS:Below w w w1:=hB.trans (bF.mono hB.size);clear aU hB bF;go_wp2;obtain⟨i0,hI,gI,fq,iF⟩:∃i0,Tz.prog.info? 3=some i0/\i0.zero=some (.int .i64 0)/\i0.size=1/\i0.bytes=8:=by
      have h:=kN;cases hI:Tz.prog.info? 3 with
      |none=>rw[hI]at h;simp at h
      |some i0=>rw[hI]at h;simp only[Option.map_some,Option.some.injEq,Prod.mk.injEq]at h;exact⟨i0,rfl,h.2.2,h.1,h.2.1⟩
     obtain⟨VJ,abs⟩:=wJ fC;have hkc:(k:Int)<=c:=ab;have K8:∀{W':World},Below w1 w1 W'->∀j,j<i->W'.cell? ⟨B,j,none⟩=some (.int .i64 ((g j:Nat):Int)):=λcZ j hj=>(cZ.cell (p:=⟨B,j,none⟩) VJ).trans (by rw[fC.cellAt j ab];exact gC hj)
     have Ey:∀{W':World},Below w1 w1 W'->∀j u,(cj g k)[j]?=some u->W'.cell? ((B:Addr).add j)=some u:=λcZ j u hu=>by
      have hj:j<k:=by rcases acu j k with h|h;exact h;rw[acw (by rw[d8];exact h)]at hu;cases hu
      rw[gC hj]at hu;rw[oG,Nat.zero_add,K8 cZ j ab];exact hu
     have RM:∀{W':World},Below w1 w1 W'->∀j u,(cj (λj=>g (k+j)) (i-k))[j]?=some u->W'.cell? ((⟨B,if c=k then 0 else k,none⟩:Addr).add j)=some u:=λcZ j u hu=>by
      have hj:j<i-k:=by rcases acu j (i-k)with h|h;exact h;rw[acw (by rw[d8];exact h)]at hu;cases hu
      rw[gC hj]at hu;rw[if_neg ab,oG,K8 cZ (k+j) ab];exact hu
     have Pc:∀(g:Nat->Nat) (k:Nat),∀u∈cj g k,u.oneCell'=true:=λg k u hu=>by unfold cj at hu;simp at hu;obtain⟨_,_,rfl⟩:=hu;rfl
     have JJ:(w1.alloc (.cells #[] 3)).heap[w1.heap.size]?=some (.cells #[] 3 (0,0)):=heap_alloc_new _ _;have VH:((w1.alloc (.cells #[] 3)).alloc (.cells #[.int .i64 (i:Int)] 3)).heap[w1.heap.size]?=some (.cells #[] 3 (0,0)):=(acb _ _ _ aH).trans JJ;have Sg:((w1.alloc (.cells #[.int .i64 (i:Int)] 3)).alloc (.cells #[] 3)).heap[w1.heap.size+1]?=some (.cells #[] 3 (0,0)):=by have:=heap_alloc_new (w1.alloc (.cells #[.int .i64 (i:Int)] 3)) (.cells #[] 3);simpa using this
     have YB:Below w1 w1 (w1.alloc (.cells #[] 3)).drew:=((aca _ w1).alloc (ack _) _).drew;have YC:Below w1 w1 ((w1.alloc (.cells #[] 3)).alloc (.cells #[.int .i64 (i:Int)] 3)).drew:=(((aca _ w1).alloc (ack _) _).alloc aH _).drew;have YD:Below w1 w1 ((w1.alloc (.cells #[.int .i64 (i:Int)] 3)).alloc (.cells #[] 3)).drew:=(((aca _ w1).alloc (ack _) _).alloc aH _).drew;have YS:((w1.alloc (.cells #[] 3)).alloc (.cells #[.int .i64 (i:Int)] 3)).heap[w1.heap.size+1]?=some (.cells #[.int .i64 (i:Int)] 3 (0,0)):=by have:=heap_alloc_new (w1.alloc (.cells #[] 3)) (.cells #[.int .i64 (i:Int)] 3);simpa using this
     have KZ:((w1.alloc (.cells #[.int .i64 (i:Int)] 3)).alloc (.cells #[] 3)).heap[w1.heap.size]?=some (.cells #[.int .i64 (i:Int)] 3 (0,0)):=(acb _ _ _ aH).trans (heap_alloc_new _ _);go_region_law (first
      |(refine dy rfl (.tmp 67) (.tmp 70) 27 rfl 3 i0 (.int .i64 0) 1 8 (Tz.az Tryz.underlying27) hI gI fq iF rfl bK w1.heap.size (.slice (some ⟨_,0,none⟩) 0 0) 0 [] bU (mF aH JJ) ⟨B,0,none⟩ k c (cj g k) bU (by rw[d8];omega) (Ey YB) (Pc g k) iI ab YB.size ?_
        intro v2 w2 pw Nk;simp only[Nat.zero_add,List.nil_append]at pw;have B2:Below w1 w1 w2:=YB.grown Nk YB.size (λq hq=>Es);skip
        clear Nk)
      |(refine dy rfl (.tmp 67) (.tmp 70) 27 rfl 3 i0 (.int .i64 0) 1 8 (Tz.az Tryz.underlying27) hI gI fq iF rfl bK w1.heap.size (.slice (some ⟨_,0,none⟩) 0 0) 0 [] bU (mF aH VH) ⟨B,0,none⟩ k c (cj g k) bU (by rw[d8];omega) (Ey YC) (Pc g k) iI ab YC.size ?_
        intro v2 w2 pw Nk;simp only[Nat.zero_add,List.nil_append]at pw;have B2:Below w1 w1 w2:=YC.grown Nk YC.size (λq hq=>Es);have d2:w2.heap[w1.heap.size+1]?=some (.cells #[.int .i64 (i:Int)] 3 (0,0)):=(Nk.block (w1.heap.size+1) aH Et).trans YS;clear Nk)
      |(refine dy rfl (.tmp 67) (.tmp 70) 27 rfl 3 i0 (.int .i64 0) 1 8 (Tz.az Tryz.underlying27) hI gI fq iF rfl bK w1.heap.size (.slice (some ⟨_,0,none⟩) 0 0) 0 [] bU (mF aH Sg) ⟨B,0,none⟩ k c (cj g k) bU (by rw[d8];omega) (Ey YD) (Pc g k) iI ab YD.size ?_
        intro v2 w2 pw Nk;simp only[Nat.zero_add,List.nil_append]at pw;have B2:Below w1 w1 w2:=YD.grown Nk YD.size (λq hq=>Es);have d2:w2.heap[w1.heap.size]?=some (.cells #[.int .i64 (i:Int)] 3 (0,0)):=(Nk.block w1.heap.size cC Et).trans KZ;clear Nk)
      |(refine dy rfl (.tmp 71) (.tmp 73) 27 rfl 3 i0 (.int .i64 0) 1 8 (Tz.az Tryz.underlying27) hI gI fq iF rfl bK w1.heap.size v2 k (cj g k) bU pw ⟨_,0,none⟩ 1 1 [.int .i64 (i:Int)] bU rfl (gj d2) vC iI ab B2.size ?_
        intro v3 w3 px uY;have B3:Below w1 w1 w3:=B2.grown uY B2.size (λq hq=>gP pw q hq);clear uY B2 pw)
      |(refine dy rfl (.tmp 71) (.tmp 73) 27 rfl 3 i0 (.int .i64 0) 1 8 (Tz.az Tryz.underlying27) hI gI fq iF rfl bK w1.heap.size v2 k (cj g k) bU (pw.alloc _) ⟨_,0,none⟩ 1 1 [.int .i64 (i:Int)] bU rfl (gj (heap_alloc_new w2 _)) vC iI ab (B2.alloc B2.size _).size ?_
        intro v3 w3 px uY;have B3:Below w1 w1 w3:=(B2.alloc B2.size _).grown uY (B2.alloc B2.size _).size (λq hq=>gP pw q hq);clear uY B2 pw)
      |(refine dy rfl (.tmp 74) (.tmp 77) 27 rfl 3 i0 (.int .i64 0) 1 8 (Tz.az Tryz.underlying27) hI gI fq iF rfl bK w1.heap.size v3 (k+1) (cj g k++[.int .i64 (i:Int)]) bU px ⟨B,if c=k then 0 else k,none⟩ (i-k) (c-k) (cj (λj=>g (k+j)) (i-k)) (by simp[Act.eval];split<;>rfl) (by rw[d8];omega) (RM B3) (Pc _ _) iI ab B3.size ?_
        intro v4 w4 TK gr4;rw[M9 g i k hk,show k+1+(i-k)=i+1 by omega]at TK;have B4:Below w1 w1 w4:=B3.grown gr4 B3.size (λq hq=>gP px q hq);obtain⟨b4,c4,rfl⟩:=kS TK;clear gr4 B3 px))
     all_goals
      go_wp2;go_roundw
      case rel=>exact⟨i+1,oz g k i,b4,c4,ab,by go_num,rfl,HF.out,kR TK mS.size,mS.trans (B4.mono mS.size)⟩
      case measure=>exact cf
  .go_wp2;go_ret;have gY:i=n:=ab;subst gY;obtain⟨EQ,hic⟩:=wJ aU;exact⟨⟨g,B,c,hf,rfl,EQ,λj hj=>by rw[Nat.zero_add,aU.cellAt j ab];exact gC hj⟩,hB⟩
end
section
open RowKit
variable {W W' w w1 wr:World}{n lo N F:Nat}{cj:List Value}{L:List (List Nat)}{eO:List Nat}{v:Value}
def rM (W:World)(n lo:Nat)(cj:List Value)(L:List (List Nat)):Prop:=
 ∀(i:Nat) (eO:List Nat),L[i]?=some eO->∃tb tc,cj[i]?=some (Value.slice (some ⟨tb,0,none⟩) n tc)/\lo<=tb/\(∃cs,W.heap[tb]?=some (.cells cs 3 (0,0)))/\aB W tb 0 n (λi=>((pl eO i:Nat):Int))
theorem tF {b off:Nat}{g:Nat->Int}(h:aB W b off n g)(e:W'.heap[b]?=W.heap[b]?):aB W' b off n g:=λi hi=>by have:=h i hi;simp only[World.cell?,e]at this⊢;exact this
theorem rM.same (h:rM W n lo cj L)(e:∀b cs,lo<=b->W.heap[b]?=some (.cells cs 3 (0,0))->W'.heap[b]?=W.heap[b]?):rM W' n lo cj L:=λi eO hi=>by
 obtain⟨tb,tc,h1,h3,⟨cs,h4⟩,h5⟩:=h i eO hi;exact⟨tb,tc,h1,h3,⟨cs,(e tb cs h3 h4).trans h4⟩,tF h5 (e tb cs h3 h4)⟩
theorem rM.snoc {C c:Nat}(h:rM W n lo cj L)(hl:cj.length=L.length)(h3:lo<=C)(h4:∃cs,W.heap[C]?=some (.cells cs 3 (0,0)))(h5:aB W C 0 n (λi=>((pl eO i:Nat):Int))):
  rM W n lo (cj++[.slice C n c]) (L++[eO]):=λi l hi=>by
 by_cases aI:i<L.length
 .rw[acx aI]at hi;obtain⟨tb,tc,g1,g2⟩:=h i l hi;exact⟨tb,tc,by rw[acx ab];exact g1,g2⟩
 .rw[acy ab]at hi;have DS:i-L.length=0:=by
   have:=(acv.1 hi).1;simp at this;omega
  rw[DS]at hi;simp at hi;subst hi;exact⟨C,c,by rw[acy ab,hl,DS];rfl,h3,h4,h5⟩
def ws (l:List Nat):List Value:=l.map λ(p:Nat)=>Value.int .i64 (p:Int)
structure tW (w w1 wr:World)(n:Nat)(v:Value)(L:List (List Nat)):Prop where
 ex:∃cj,wr.ownsRow w.heap.size 27 1 v L.length cj/\rM wr n w.heap.size cj L
 own:∀r,v.ownBlock=some r->r=w.heap.size\/w1.heap.size<=r
 but:fp w.heap.size w1 wr
 JH:Below w w wr
theorem tW.later {wr':World}(h:tW w w1 wr n v L)(hb:Below wr wr wr'):tW w w1 wr' n v L:=by
 obtain⟨cj,h1,h2⟩:=h.ex;refine⟨⟨cj,?_,h2.same λb cs _ hc=>hb.block b (acm.1 hc).1⟩,h.own,h.but.trans (fp.of hb),h.JH.trans (hb.mono h.JH.size)⟩;obtain⟨g1,g2|⟨g,cap,cur,rfl,g3,g4,g5⟩⟩:=h1
 .exact⟨g1,.inl g2⟩
 .exact⟨g1,.inr ⟨g,cap,cur,rfl,g3,(hb.block g (acm.1 g4).1).trans g4,g5⟩⟩
theorem II:∃i0,Tz.prog.info? 3=some i0/\i0.zero=some (.int .i64 0)/\i0.size=1/\i0.bytes=8:=by
 have h:=kN;cases hI:Tz.prog.info? 3 with
 |none=>rw[hI]at h;simp at h
 |some i0=>rw[hI]at h;simp only[Option.map_some,Option.some.injEq,Prod.mk.injEq]at h;exact⟨i0,rfl,h.2.2,h.1,h.2.1⟩
theorem Fd:∃i0,Tz.prog.info? 27=some i0/\i0.zero=some (.slice none 0 0)/\i0.size=1/\i0.bytes=24:=by
 have h:(Tz.prog.info? 27).map (λi=>(i.size,i.bytes,i.zero))=some (1,24,some (.slice none 0 0)):=bR;cases hI:Tz.prog.info? 27 with
 |none=>rw[hI]at h;simp at h
 |some i0=>rw[hI]at h;simp only[Option.map_some,Option.some.injEq,Prod.mk.injEq]at h;exact⟨i0,rfl,h.2.2,h.1,h.2.1⟩
theorem Fe:Tz.prog.underlying 141=some (.slice 27):=bR
theorem wq:Tz.prog.underlying 27=some (.slice 3):=bR
def nX (N F:Nat):List (List Nat):=(List.range F).flatMap λx=>(aR N).map λl=>x::l.map (tS x)
theorem vv (N F:Nat):nX N (F+1)=nX N F++(aR N).map λl=>F::l.map (tS F):=by simp[nX,List.range_succ,List.flatMap_append]
theorem yB (h:(aR N).length<=720):∀F,(nX N F).length<=F*720
 |0=>by simp[nX]
 |F+1=>by
  have:=yB h F;rw[vv,List.length_append,List.length_map];omega
theorem MW {I:Nat}{l:List Nat}(h:(aR N)[I]?=some l):((aR N).take (I+1)).map (λl=>F::l.map (tS F))=((aR N).take I).map (λl=>F::l.map (tS F))++[F::l.map (tS F)]:=by
 rw[List.take_add_one,h];simp
theorem aaN {WI w3:World}{G gc og oc:Nat}{o:Obj}{A:List (List Nat)}{X:List (List Nat)}(hO:tW w w1 wr (N+1) v A)(q1:wr.ownsRow w.heap.size 27 1 v A.length cj)(q2:rM wr (N+1) w.heap.size cj A)
  (hB:Below WI WI wr)(hX:X=A++[F::eO.map (tS F)])(aU:wr.ownsRow WI.heap.size 3 1 (.slice G (N+1) gc) (N+1) (ws (F::eO.map (tS F))))(hG:WI.heap.size<=G)(hwI:w.heap.size<=WI)(Nu:w.heap.size<=w1)
  (px:w3.ownsRow w.heap.size 27 1 (.slice og (A.length+1) oc) (A.length+1) (cj++[.slice G (N+1) gc]))(uY:(wr.alloc o).grownBy w3 v.ownBlock)(Xb:v.ownBlock=some og\/og=(wr.alloc o).heap.size):
  tW w w1 w3 (N+1) (.slice og (A.length+1) oc) X:=by
 subst hX;have fq:=hO.but.size;have iF:=hO.JH.size;have hblk:∀b,b<wr.heap.size->some b≠v.ownBlock->w3.heap[b]?=wr.heap[b]?:=λb hb hne=>(uY.block b cC hne).trans (acb _ _ _ hb)
 have hnr:∀b cs,wr.heap[b]?=some (.cells cs 3 (0,0))->some b≠v.ownBlock:=λb cs hc e'=>by
  rcases q1.2 with⟨rfl,_⟩|⟨g,cap,cur,rfl,_,Wz,_⟩
  .simp[Value.ownBlock]at e'
  .obtain rfl:b=g:=by simpa[Value.ownBlock]using e'
   rw[hc]at Wz;simp at Wz
 have hint:∀b cs,w.heap.size<=b->wr.heap[b]?=some (.cells cs 3 (0,0))->w3.heap[b]?=wr.heap[b]?:=λb cs _ hc=>hblk b (acm.1 hc).1 (hnr b cs hc)
 obtain⟨cs,hcs,hcell⟩:∃cs,wr.heap[G]?=some (.cells cs 3 (0,0))/\aB wr G 0 (N+1) (λi=>((pl (F::eO.map (tS F)) i:Nat):Int)):=by
  have hc:=aU;rcases aU.2 with⟨h,_⟩|⟨g,cap,cur,h1,h2,h3,h4⟩
  .cases h
  .obtain⟨rfl,rfl⟩:G=g/\gc=cap:=by simpa using h1
   refine⟨cur,h3,λi hi=>?_⟩;rw[Nat.zero_add,hc.cellAt i ab];have hl:=hc.1;simp only[ws,List.length_map,Nat.mul_one]at hl;simp only[ws,List.getElem?_map,pl,List.getD];rw[acH ab];rfl
 have Ti:cj.length=A.length:=by have:=q1.1;omega
 refine⟨⟨cj++[.slice G (N+1) gc],by rw[List.length_append];exact px,?_⟩,λr hr=>?_,⟨?_,λb hb hne=>?_⟩,⟨uY.os.trans hO.JH.os,uY.tape.trans hO.JH.tape,uY.output.trans hO.JH.output,?_,λb hb=>?_⟩⟩
 .exact(q2.same hint).snoc Ti ab ⟨cs,(hint G cs ab hcs).trans hcs⟩ (tF hcell (hint G cs ab hcs))
 .obtain rfl:og=r:=by simpa[Value.ownBlock]using hr
  rcases Xb with h|h
  .exact hO.own _ h
  .right;rw[h];simp;omega
 .have:=uY.size;simp at this;omega
 .refine(hblk b ab (λe=>?_)).trans (hO.but.block b hb hne);rcases hO.own b e.symm with h|h<;>omega
 .have:=uY.size;simp at this;omega
 .refine(hblk b ab (λe=>?_)).trans (hO.JH.block b hb);rcases hO.own b e.symm with h|h<;>omega
theorem yU:∀(n:Nat) (w:World),n<=6->
  Calls Tz.prog 102 #[.int .i64 (n:Int)] w λe w'=>(∃v cj,e=.returned v/\w'.ownsRow w.heap.size 27 1 v (aR n).length cj/\rM w' n w.heap.size cj (aR n))/\Below w w w'
 |0,w,_=>by
  go_enter Tz.func102,Tryz.ntmps102
  go_wp2;go_ret;have hA:=heap_alloc_new (w.alloc (.cells #[] 3)) (.cells #[.slice w.heap.size 0 0] 27);have hB:((w.alloc (.cells #[] 3)).alloc (.cells #[.slice w.heap.size 0 0] 27)).heap[w.heap.size]?=some (.cells #[] 3 (0,0)):=(acb _ _ _ aH).trans (heap_alloc_new w _);refine⟨⟨_,[.slice w.heap.size 0 0],rfl,⟨rfl,.inr ⟨w.heap.size+1,1,_,rfl,ab,by simpa using hA,bK,bK,rfl,rfl⟩⟩,λi eO hi=>?_⟩,((aca _ w).alloc (ack _) _).alloc aH _⟩;have h0:i=0:=by have:=(acv.1 hi).1;simp[aR]at this;omega
  subst h0;exact⟨w.heap.size,0,rfl,ack _,⟨_,hB⟩,λi hi=>absurd hi (aco _)⟩
 |N+1,w,h6=>by
  have IH:=yU N (w.alloc (.cells #[] 27)) ab;obtain⟨Qj,hN0⟩:=jq N ab;have e0:(((N+1:Nat):Int)-1)=(N:Int):=ab;go_enter Tz.func102,Tryz.ntmps102
  have hle:¬((N:Int)+1<=0):=ab;have abB:(0:Int)<(N:Int)+1:=ab;have e1:((N:Int)+1-1)=(N:Int):=ab;go_wp2_with(go_at_call 102;(try rw[e1]);refine IH.mono ?_;rintro e w1 ⟨⟨vL,cj,rfl,rl,QZ⟩,b1⟩;obtain⟨M,hM⟩:∃M,(aR N).length=M+1:=⟨(aR N).length-1,ab⟩;rw[hM]at rl;obtain⟨LB,Lc,rfl⟩:=kS rl)
  have hLB:w.heap.size+1<=LB:=by have:=gP rl LB rfl;simpa using this
  have Sq:=(wJ rl).1;have In:Below w w (w.alloc (.cells #[] 27)):=(aca _ w).alloc (ack _) _;have fq:w.heap.size+1<=w1:=by have:=b1.size;simpa using this
  have ER:Below w w w1:=In.trans (b1.mono aH);have hE1:w1.heap[w.heap.size]?=some (.cells #[] 27 (0,0)):=(b1.block w.heap.size aH).trans (heap_alloc_new w _);have oS:∀(I:Nat) (eO:List Nat),(aR N)[I]?=some eO->∃tb tc,w1.cell? ⟨LB,I,none⟩=some (.slice (some ⟨tb,0,none⟩) N tc)/\w.heap.size+1<=tb/\tb<w1.heap.size/\aB w1 tb 0 N (λi=>((pl eO i:Nat):Int)):=λI eO hI=>by
   obtain⟨tb,tc,h1,h2,⟨cs,h3⟩,h4⟩:=QZ I eO hI;have aI:=(acv.1 hI).1;exact⟨tb,tc,by rw[rl.cellAt I ab];exact h1,by simpa using h2,(acm.1 h3).1,h4⟩
  rw[<-hM]at rl;clear rl QZ b1 IH In;go_loopw [3,5] (λv x wr=>∃F:Nat,F<=N+1/\x=.int .i64 F/\tW w w1 wr (N+1) v (nX N F)) (λ_ x _=>N+1-(intOf x).toNat)
  case atStart=>exact⟨0,acp _,rfl,⟨[],mF (ack _) hE1,λi eO hi=>by simp[nX]at hi⟩,λr hr=>.inl (by simpa[Value.ownBlock]using hr.symm),fp.refl _ _,ER⟩
  case round=>
   obtain⟨F,hF,rfl,hO⟩:=hrel;by_cases aI:F<N+1
   .have dG:(F:Int)<(N:Int)+1:=by omega
    go_wp2;go_loopw [3,6] (λv x wr=>∃I:Nat,I<=(aR N).length/\x=.int .i64 I/\tW w w1 wr (N+1) v (nX N F++((aR N).take I).map λl=>F::l.map (tS F))) (λ_ x _=>(aR N).length-(intOf x).toNat)
    case atStart=>exact⟨0,acp _,rfl,by simpa using hO⟩
    case round=>
     clear hO;obtain⟨I,hI,rfl,hO⟩:=hrel;by_cases hlI:I<(aR N).length
     .obtain⟨eO,nu⟩:∃x,(aR N)[I]?=some x:=⟨_,acH hlI⟩;have SY:(I:Int)<(M:Int)+1:=ab;obtain⟨tb,tc,kJ,ht1,Th,qj⟩:=oS I eO nu;have hll:=(gn (List.mem_of_getElem? nu)).1;obtain⟨WI,O_⟩:∃WI,wr=WI:=⟨_,rfl⟩;have Y0:tW w w1 WI (N+1) u3 (nX N F++((aR N).take I).map λl=>F::l.map (tS F)):=O_▸hO;have Za:∀W',Below WI WI W'->W'.cell? ⟨LB,I,none⟩=some (.slice tb N tc):=λW' hb=>by
       have h1:=(fp.trans Y0.but (fp.of hb)).block LB Sq ab;simp only[World.cell?,h1]at kJ⊢;exact kJ
      have hrW:∀W',Below WI WI W'->aB W' tb 0 N (λi=>((pl eO i:Nat):Int)):=λW' hb=>tF qj ((fp.trans Y0.but (fp.of hb)).block tb Th ab)
      rw[O_];clear hO O_;go_wp2;go_loopw [7,8] (λv x wr=>∃K:Nat,K<=N/\x=.int .i64 K/\wr.ownsRow WI.heap.size 3 1 v (K+1) (ws (F::(eO.take K).map (tS F)))/\Below WI WI wr) (λ_ x _=>N-(intOf x).toNat)
      case atStart=>exact⟨0,acp _,rfl,⟨rfl,.inr ⟨WI.heap.size,1,_,rfl,ack _,heap_alloc_new _ _,bK,bK,rfl,rfl⟩⟩,(aca _ _).alloc (ack _) _⟩
      case round=>
       obtain⟨K,hK,rfl,aU,hB⟩:=hrel;have hcK:=Za wr hB;by_cases hlK:K<N
       .have aby:(K:Int)<N:=by omega
        have hrK:=hrW wr hB K hlK;simp only[Nat.zero_add]at hrK;obtain⟨i0,YV,gI,OV,iF⟩:=II;have JW:=hB.size;have GK:∀x:Nat,x=tS F (pl eO K)->ws (F::(eO.take K).map (tS F))++[.int .i64 (x:Int)]=ws (F::(eO.take (K+1)).map (tS F)):=λx hx=>by
         have hg:eO[K]?=some (pl eO K):=by simp[pl,List.getD,hll,hlK]
         rw[List.take_add_one,hg,hx];simp[ws]
        have hpb:((pl eO K:Nat):Int)<6:=by have:=(gn (List.mem_of_getElem? nu)).2.1 K hlK;omega
        by_cases td:F<=pl eO K
        .have SS:((F:Int)<=((pl eO K:Nat):Int)):=by omega
         have HL:Hid _:=GK (pl eO K+1) (by unfold tS;rw[if_pos td]);clear GK;go_wp2_with(refine wpList_append_own _ rfl (.tmp 52) (.tmp 54) 27 rfl WI.heap.size 3 i0 (.int .i64 0) 1 8 wq YV gI OV iF rfl bK _ (K+1) _ bU (aU.alloc _) _ 1 1 [.int .i64 ((pl eO K:Int)+1)] bU rfl (gj (heap_alloc_new wr _)) vC iI ab cC ?_;intro v' w3 px uY Qy)
         have Uq:Below WI WI w3:=(hB.alloc JW _).grown uY cC (λq hq=>gP aU q hq);go_roundw
         case rel=>exact⟨K+1,ab,by go_num,by have:=HL.out;push_cast at this;rw[this]at px;exact px,Uq⟩
         case measure=>exact cf
        .have SS:¬((F:Int)<=((pl eO K:Nat):Int)):=by omega
         have HL:Hid _:=GK (pl eO K) (by unfold tS;rw[if_neg td]);clear GK;go_wp2_with(refine wpList_append_own _ rfl (.tmp 52) (.tmp 54) 27 rfl WI.heap.size 3 i0 (.int .i64 0) 1 8 wq YV gI OV iF rfl bK _ (K+1) _ bU (aU.alloc _) _ 1 1 [.int .i64 (pl eO K:Int)] bU rfl (gj (heap_alloc_new wr _)) vC iI ab cC ?_;intro v' w3 px uY Qy)
         have Uq:Below WI WI w3:=(hB.alloc JW _).grown uY cC (λq hq=>gP aU q hq);go_roundw
         case rel=>exact⟨K+1,ab,by go_num,by rw[HL.out]at px;exact px,Uq⟩
         case measure=>exact cf
       .obtain rfl:K=N:=by omega
        rw[List.take_of_length_le ab]at aU;obtain⟨G,gc,rfl⟩:=kS aU;have I':=Y0.later hB;obtain⟨cj,q1,q2⟩:=I'.ex;obtain⟨i0,YV,gI,OV,iF⟩:=Fd;have JW:=hB.size;have hzI:=Y0.JH.size;have hGI:WI.heap.size<=G:=gP aU G rfl;have VN:(nX K F++((aR K).take I).map λl=>F::l.map (tS F)).length<=5040:=by
         have h1:(nX K F).length<=F*720:=yB Qj F;have h2:((aR K).take I).length<=720:=cC;simp only[List.length_append,List.length_map];omega
        generalize hA:(nX K F++((aR K).take I).map λl=>F::l.map (tS F))=A at I' q1 q2 VN;go_wp2_with(refine wpList_append_lies _ rfl (.tmp 56) (.tmp 58) 141 rfl w.heap.size 27 i0 () 1 24 Fe YV gI OV iF rfl bK _ _ _ bU (q1.alloc _) _ 1 1 [.slice G (K+1) gc] bU rfl (gj (heap_alloc_new wr _)) vC bK iI ab cC _ rfl ?_;intro og oc w3 px uY Xb S2)
        go_roundw
        case rel=>exact⟨I+1,ab,by go_num,aaN I' q1 q2 hB (by rw[<-hA,MW nu,List.append_assoc]) aU hGI hzI ab px uY Xb⟩
        case measure=>exact cf
     .obtain rfl:I=(aR N).length:=by omega
      have SY:¬(((aR N).length:Nat):Int)<(M:Int)+1:=ab;go_wp2;go_roundw
      case rel=>exact⟨F+1,ab,by go_num,by rw[vv];simpa using hO⟩
      case measure=>exact cf
   .obtain rfl:F=N+1:=by omega
    have dG:¬((N+1:Nat):Int)<(N:Int)+1:=ab;go_wp2;go_ret;obtain⟨cj,o1,o2⟩:=hO.ex;refine⟨?_,hO.JH⟩;first|exact⟨_,cj,rfl,o1,o2⟩|exact⟨_,rfl,cj,o1,o2⟩
end
section
open RowKit
theorem bz:Tz.prog.underlying 23=some (.slice 31):=bR
theorem EB (b n cap:Nat)(g:Nat->Mv)(w:World)(hn:n<=1048576)(bw:b<w)(aq:aM w b 0 n g):
  Calls Tz.prog 110 #[.slice b n cap] w λe w'=>∃B c,e=.returned (.slice (some ⟨B,0,none⟩) n c)/\w'.ownsRow w.heap.size 31 6 (.slice (some ⟨B,0,none⟩) n c) n (cG g n)/\bX w' B/\Below w w w':=by
 obtain⟨i,hI,gI,fq,iF⟩:=jA;have bA:Below w w (w.alloc (.cells #[] 31)):=(aca _ _).alloc (ack _) _;have S6:=Go.Lib.run_eql_slice_nil (P:=Tz.prog) w 23 31 b n cap 0 0 bz;have aU:(w.alloc (.cells #[] 31)).ownsRow w.heap.size 31 6 (.slice w.heap.size 0 0) 0 []:=World.ownsRow_made w #[] 0 (ack _) iI aH;have qT:tV (w.alloc (.cells #[] 31)) (.slice w.heap.size 0 0):=λB hB=>by
  simp only[Value.ownBlock,Option.some.injEq]at hB;subst hB;exact⟨#[],_,heap_alloc_new _ _,λv hv=>by simp at hv⟩
 obtain⟨v',w',hr,h2,h3,h4⟩:=run_append_own (P:=Tz.prog) (w.alloc (.cells #[] 31)) w.heap.size 23 23 31 i _ 6 56 bz hI gI fq iF rfl ab (.slice (some ⟨w.heap.size,0,none⟩) 0 0) 0 [] aU ⟨b,0,none⟩ n cap (cG g n) (dL g n) (eQ (aq.below bA bw)) (fE g n) iI ab aH;have h5:=qt (P:=Tz.prog) w.heap.size 23 23 31 i _ 6 56 bz hI gI fq iF rfl (.slice w.heap.size 0 0) 0 [] aU qT b n cap (cG g n) (dL g n) (eQ (aq.below bA bw)) (fE g n) (wT g n) ut iI ab hr;simp only[Nat.zero_add,List.nil_append]at h2;obtain⟨B,c,rfl⟩:∃B c,v'=.slice (some ⟨B,0,none⟩) n c:=by
  rcases h2.2 with⟨e,_⟩|⟨g,cap,cur,e,_⟩
  .exact absurd (h4.1 e).1 aH
  .exact⟨g,cap,e⟩
 have hB:Below w w w':=bA.grown h3 bA.size (λq hq=>Es);go_enter Tz.func110,Tryz.ntmps110
 go_wp2_with(refine lg rfl (.tmp 5) (.tmp 6) 23 rfl _ _ bU bU hr ?_)
 go_ret;exact⟨B,c,rfl,h2,h5 B rfl,hB⟩
end
