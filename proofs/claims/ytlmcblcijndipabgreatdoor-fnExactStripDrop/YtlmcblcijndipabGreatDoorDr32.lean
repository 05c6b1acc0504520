import Derived.Test.YtlmcblcijndipabGreatDoorDr31
import Derived.Test.YtlmcblcijndipabGreatDoorDr11c
import Derived.Sort.LoopGhostIn
import Derived.Test.YtlmcblcijndipabGreatDoorDr18
set_option linter.unusedVariables false
set_option maxHeartbeats 1000000
set_option maxRecDepth 10000
namespace Go.Proofs.YtlmcblcijndipabGreatDoor
open Go.RowKit Go.Shelf
attribute [local go_sem] Oper.semAt_some
set_option linter.unusedVariables false
theorem Cu (n:Nat)(hn:n<=1048576)(w:World):
  (Instr.makeSlice 164 (.int .i64 (n:Int)) (.int .i64 (n:Int))).run Tryz0.prog w=.ok (.slice (some ⟨w.heap.size,0,none⟩) n n) (w.alloc (.cells (madeCells #[.int .i64 0] n) 3)):=by
 have hi:=gw;cases hI:Tryz0.prog.info? 3 with
 |none=>rw[hI]at hi;simp at hi
 |some i=>
  rw[hI]at hi;simp only[Option.map_some,Option.some.injEq,Prod.mk.injEq]at hi;obtain⟨h6,h56,hz⟩:=hi;have:=run_make (P:=Tryz0.prog) w 164 3 i _ fW hI hz .i64 .i64 n n (by omega) (by omega) (by rw[h56];omega) (by omega);rw[h6]at this;simpa[Value.cells]using this
theorem Cv (n:Nat)(w:World)(hn:n<=1048576):
  Calls Tryz0.prog 122 #[.int .i64 (n:Int)] w λe w'=>e=.returned (.slice (some ⟨w.heap.size,0,none⟩) n n)/\aj w' w.heap.size n (λi=>(i:Int))/\Below w.heap.size w w':=by
 have hmk:=Cu n hn;go_enter Tryz0.func122,Tryz.ntmps122
 go_wp2;go_loopw [9] (λi w'=>∃k:Nat,k<=n/\i=.int .i64 k/\aj w' w.heap.size n (λi=>if i<k then(i:Int)else 0)/\Below w.heap.size w w') (λi _=>n-(intOf i).toNat)
 case atStart=>exact⟨0,Nat.zero_le _,rfl,(ez w n).congr (λi hi=>by simp),(Below.refl _ _).alloc (Nat.le_refl _) _⟩
 case round=>
  obtain⟨k,hk,rfl,hown,hB⟩:=hrel;by_cases hlt:k<n
  .have hlt':(k:Int)<n:=by omega
   have hd:=hown.cellAt k hlt;have hfz:=hown.frozen k;go_wp2;go_roundw
   case rel=>exact⟨k+1,by omega,by go_num,(hown.set k hlt (k:Int)).congr (λi hi=>by
    by_cases e:i=k
    .subst e;simp
    .simp only[if_neg e];by_cases h:i<k
     .rw[if_pos h,if_pos (by omega)]
     .rw[if_neg h,if_neg (by omega)]),hB.setCell (by simp) _⟩
   case measure=>simp[intOf];omega
  .go_wp2;go_ret;exact⟨rfl,hown.congr (λi hi=>by rw[if_pos (by omega)]),hB⟩
theorem ul (n:Int)(w:World):
  Calls Tryz0.prog 206 #[.int .i64 n] w λe w'=>e=.returned (.func (.func 236) #[] #[.pointer (some ⟨w.heap.size,0,none⟩)])/\w'=w.alloc (.cells #[.int .i64 n] 3):=by
 go_enter Tryz0.func206,Tryz.ntmps206
 go_wp2;go_ret;exact⟨rfl,rfl⟩
theorem qR (m Bn n l:Nat)(J:Nat->World->Prop)(W:World)(hn:n<=6)(hBn:Bn<W.heap.size)(hc:W.cell? ⟨Bn,0,none⟩=some (.int .i64 (n:Int)))
  (h0:∀W',Below W.heap.size W W'->W.heap.size<W'.heap.size->J 0 W')
  (hs:∀k W1 W2,J k W1->fH W.heap.size W1 W2->Below W.heap.size W1 W2->J k W2)
  (hY:∀k lst W0 W1 C c,(ay n)[k]?=some lst->J k W0->W.heap.size<W0.heap.size->Below W0.heap.size W0 W1->W0.heap.size<=C->C<W1.heap.size->n<=c->dT W1 C->ag W1 C 0 n (λi=>((pl lst i:Nat):Int))->
   YieldAt Fence.wide (m-1) Tryz0.prog l #[.slice (some ⟨C,0,none⟩) n c] W1 λe W'=>e=.returned (.bool true)/\J (k+1) W'/\W1.heap.size<=W'.heap.size/\W'.heap[W.heap.size]?=W1.heap[W.heap.size]?):
  CallsIn Fence.wide m Tryz0.prog 236 #[.func (.yield l) #[] #[],.pointer (some ⟨Bn,0,none⟩)] W λe W'=>(∃v,e=.returned v)/\J (ay n).length W':=by
 obtain⟨hN,hN0⟩:=eQ n hn;obtain⟨l0,hl0,hl0'⟩:=uj n hn;have hch:=yD hn;refine callsIn_of_wp Tryz0.func236 rfl trivial ?_ rfl;simp only[Tryz.ntmps236,List.size_toArray,List.length_cons,List.length_nil,Nat.reduceAdd,Nat.reduceSub,Array.replicate_succ,Array.replicate_zero,List.push_toArray,List.append_toArray,List.nil_append,List.cons_append];gi_wp2_with (refine⟨trivial,λh=>(by simp[Fence.wide]at h),?_⟩;refine(callsIn_wide.2 (Cv n W (by omega))).mono ?_;rintro e w1 ⟨rfl,own1,b1⟩)
 gi_loopg [4] (ay n).length (λr v wr=>(∃k lst,v=.bool true/\r+k=(ay n).length/\(ay n)[k]?=some lst/\J k wr/\W.heap.size<wr.heap.size/\aj wr W.heap.size n (λi=>((pl lst i:Nat):Int)))\/(v=.bool false/\J (ay n).length wr))
 case atStart=>exact .inl ⟨0,l0,rfl,rfl,hl0,h0 _ b1 own1.lt,own1.lt,own1.congr λi hi=>by rw[hl0' i hi]⟩
 case round=>
  rcases hrel with⟨k,lst,rfl,hrk,hlst,hJ,hlt,hown⟩|⟨rfl,hJ⟩
  .gi_wp2_with (first|(refine⟨trivial,λh=>(by simp[Fence.wide]at h),?_⟩;refine(callsIn_wide.2 (wD _ n n _ wr (by omega) hlt hown.2)).mono ?_;rintro e w2 ⟨C,c,rfl,hc1,hC1,hC2,hC3,hC4,b2⟩;obtain⟨fn,tmps,assign,body,hy,hR⟩:=hY k lst wr w2 C c hlst hJ hlt b2 hC1 hC2 hc1 hC3 hC4))
   refine⟨λh=>(by simp[Fence.wide]at h),hR.mono ?_⟩;rintro e W3 ⟨rfl,hJ3,hz3,hT3⟩;have hown3:aj W3 W.heap.size n (λi=>((pl lst i:Nat):Int)):=by
    have h2:=hown.below b2 hlt;obtain⟨⟨cs,g1,g2⟩,g3⟩:=h2;have g1':=hT3.trans g1;refine⟨⟨cs,g1',g2⟩,λi hi=>?_⟩;rw[cell_of_row _ _ _ _ _ _ g1',<-cell_of_row w2 _ _ _ _ _ g1];exact g3 i hi
   have hlt3:W.heap.size<W3.heap.size:=hown3.lt;obtain⟨hc1',hc2'⟩:=nP hch hlst;have hkN:k<(ay n).length:=(List.getElem?_eq_some_iff.1 hlst).1;clear hown hJ hy hR b2;gi_wp2_with (refine⟨trivial,λh=>(by simp[Fence.wide]at h),?_⟩;refine(callsIn_wide.2 (yG _ n n (pl lst) W3 (by omega) (Nat.le_refl _) hown3)).mono ?_;rintro e w4 ⟨rfl,g4,t4,b4⟩)
   by_cases hk1:k+1<(ay n).length
   .obtain⟨lst',hl'⟩:∃x,(ay n)[k+1]?=some x:=⟨_,List.getElem?_eq_getElem hk1⟩;obtain⟨g,hg,hg'⟩:=hc1' lst' hl';gi_roundg ((ay n).length-(k+1))
    case rel=>exact .inl ⟨k+1,lst',by rw[hg];rfl,by omega,hl',hs _ _ _ hJ3 t4 b4,by have:=t4.size;omega,(g4 g hg).congr λi hi=>by rw[hg' i hi]⟩
    case measure=>omega
   .have hg:=hc2' (by omega);have hkN':k+1=(ay n).length:=by omega
    rw[hkN']at hJ3;gi_roundg 0
    case rel=>exact .inr ⟨by rw[hg];rfl,hs _ _ _ hJ3 t4 b4⟩
    case measure=>omega
  .gi_wp2
   go_end0
   exact⟨⟨_,rfl⟩,hJ⟩
end Go.Proofs.YtlmcblcijndipabGreatDoor
namespace Go.Proofs.YtlmcblcijndipabGreatDoor
open Go.RowKit Go.Shelf
set_option linter.unusedVariables false
structure ik (B:Nat)(w w':World):Prop where
 os:w'.os=w.os
 tape:w'.tape=w.tape
 output:w'.output=w.output
 size:w.heap.size<=w'.heap.size
 block:∀k,k<w.heap.size->(k<B\/B+2<k)->w'.heap[k]?=w.heap[k]?
theorem ik.trans {B:Nat}{a b c:World}(h:ik B a b)(k:ik B b c):ik B a c:=
 ⟨k.os.trans h.os,k.tape.trans h.tape,k.output.trans h.output,Nat.le_trans h.size k.size,λi hi hB=>(k.block i (Nat.lt_of_lt_of_le hi h.size) hB).trans (h.block i hi hB)⟩
theorem ik.below {B:Nat}{w w':World}(h:Below w.heap.size w w'):ik B w w':=⟨h.os,h.tape,h.output,h.size,λk hk _=>h.block k hk⟩
theorem ik.but {B:Nat}{w w':World}(t:fH (B+2) w w')(h:Below (B+2) w w'):ik B w w':=⟨h.os,h.tape,h.output,h.size,λk hk hB=>t.block k hk (by omega)⟩
theorem ik.put {B:Nat}(w:World)(o:Obj):ik B w (w.putObj (B+1) o):=⟨rfl,rfl,rfl,by simp[World.putObj],λk hk hB=>World.putObj_heap_other (by omega)⟩
variable {P:Program}
theorem sQ {g:Operand}{ps:Array Tmp}{assign body:Code}{Q:Exit->Act->World->Prop}{a:Act}{w:World}{m Bn n:Nat}(h1:1<=m)(hg:a.eval g=.func (.func 236) #[] #[.pointer (some ⟨Bn,0,none⟩)])
  (hn:n<=6)(hBn:Bn<w.heap.size)(hc:w.cell? ⟨Bn,0,none⟩=some (.int .i64 (n:Int)))(hps:ps.size=1)
  (I:Nat->World->Prop)(hI:∀k W1 W2,I k W1->ik w.heap.size W1 W2->I k W2)(h0:I 0 w)(a₁:Value->Act)
  (hassign:∀(l:Nat) (x:Value) (W:World) (K:Act->World->Prop),K (a₁ x) W->
   assign.wpIn (Fence.wide.inRound l) (m-1-1) Tryz0.prog (Exit.then K (λ_ _ _=>False)) {tmps:=(ps.zip #[x]).foldl (λt (p,v)=>t.setIfInBounds p v) a.tmps,defers:=[]} W)
  (hbody:∀(l k:Nat) (lst:List Nat) (W0 W:World) (C c:Nat),(ay n)[k]?=some lst->I k W0->w.heap.size+2<W0.heap.size->ik w.heap.size W0 W->W0.heap.size<=C->C<W.heap.size->n<=c->dT W C->ag W C 0 n (λi=>((pl lst i:Nat):Int))->
   body.wpIn (Fence.wide.inRound l) (m-1-1) Tryz0.prog (λe _ W'=>e=.normal/\I (k+1) W'/\W.heap.size<=W'.heap.size/\∀b,w.heap.size<=b->b<=w.heap.size+2->W'.heap[b]?=W.heap[b]?) (a₁ (.slice (some ⟨C,0,none⟩) n c)) W)
  (hdone:∀(D:Nat) (W:World),w.heap.size<=D->I (ay n).length W->W.heap[D]?=some (.deferred (some []))->Q .normal {a with defers:={target:=.collected D,args:=#[]}::a.defers} W):
  (Code.rangeFunc g ps assign body).wpIn Fence.wide m Tryz0.prog Q a w:=by
 refine wpIn_rangeFunc ?_;intro fn hfn;show _;obtain⟨rec,hrec⟩:∃rec:LoopState->Option Code->Loop,rec=λst pe=>{state:=st,pending:=pe,fn,tmps:=a.tmps,params:=ps,assign,body,defers:=w.heap.size}:=⟨_,rfl⟩
 obtain⟨W1,hW1⟩:∃W1,(w.alloc (.deferred (some []))).alloc (.loop (rec .ready none))=W1:=⟨_,rfl⟩;have hL1:W1.heap[w.heap.size+1]?=some (.loop (rec .ready none)):=by
  rw[<-hW1];have:=World.alloc_heap_new (w.alloc (.deferred (some []))) (.loop (rec .ready none));rwa [World.size_alloc]at this
 have hK1:W1.heap[w.heap.size]?=some (.deferred (some [])):=by
  rw[<-hW1];exact(Below.heap_alloc _ _ _ (by simp)).trans (World.alloc_heap_new w _)
 have hb1:Below w.heap.size w W1:=by
  rw[<-hW1];exact((Below.refl _ w).alloc (Nat.le_refl _) _).alloc (by simp) _
 have hz1:W1.heap.size=w.heap.size+2:=by rw[<-hW1];simp
 refine⟨w.heap.size+1,[{target:=.collected w.heap.size,args:=#[]}],W1,{target:=.fn (.func 236) #[.pointer (some ⟨Bn,0,none⟩)],args:=#[.func (.yield (w.heap.size+1)) #[] #[]]},W1,236,
  #[.func (.yield (w.heap.size + 1)) #[] #[]] ++ #[.pointer (some ⟨Bn, 0, none⟩)], W1, ?_, ?_, ?_, ?_, fun _ => h1, ?_⟩
 .rw[<-hW1,hrec];exact run_enterLoop_outer _ _ _ _ _
 .simp only[resolve,hg];simp[go_sem]
 .intro f' hf';trivial
 .simp[invoke,go_sem]
 .have hst:=qR (m-1) Bn n (w.heap.size+1) (λk W=>I k W/\W.heap[w.heap.size+1]?=some (.loop (rec .ready none))/\W.heap[w.heap.size]?=some (.deferred (some [])))
   W1 hn (by omega) ((hb1.cell (p:=⟨Bn,0,none⟩) hBn).trans hc) ?_ ?_ ?_
  .refine hst.mono ?_;rintro e W2 ⟨⟨v,rfl⟩,hi,hl,hk⟩;exact⟨none,_,by have:=run_endLoop (P:=Tryz0.prog) hl (by rw[hrec];simp);rw[hrec]at this;exact this,hdone _ _ (Nat.le_refl _) (hI _ _ _ hi (ik.put _ _)) ((World.putObj_heap_other (by omega)).trans hk)⟩
  .intro W' hb hlt;exact⟨hI _ _ _ h0 ((ik.below hb1).trans (ik.below hb)),(hb.block _ (by omega)).trans hL1,(hb.block _ (by omega)).trans hK1⟩
  .rintro k Wa Wb ⟨hi,hl,hk⟩ ht hb;rw[hz1]at ht hb;have z1:=(Array.getElem?_eq_some_iff.1 hl).1;exact⟨hI _ _ _ hi (ik.but ht hb),(ht.block _ (by omega) (by omega)).trans hl,(ht.block _ (by omega) (by omega)).trans hk⟩
  .rintro k lst W0 W C c hlst ⟨hi,hl,hk⟩ hlt hb hC hC' hcc hC3 hC4;rw[hz1]at hlt;replace hl:=(hb.block _ (by omega)).trans hl;replace hk:=(hb.block _ (by omega)).trans hk;have hlt1:w.heap.size+1<W.heap.size:=by omega
   have hy:=run_yield (P:=Tryz0.prog) (args:=#[.slice (some ⟨C,0,none⟩) n c]) hl (by rw[hrec];simp[hps]);rw[hrec]at hy;refine⟨fn,_,assign,body,hy,roundIn_of_wpIn hfn (hassign _ _ W _ ⟨_,run_beginRound hl (by rw[hrec]),?_⟩)⟩;have hl2:(W.putObj (w.heap.size+1) (.loop {rec .ready none with state:=.busy})).heap[w.heap.size+1]?=some (.loop {rec .ready none with state:=.busy}):=World.putObj_heap_same hlt1;have hk2:(W.putObj (w.heap.size+1) (.loop {rec .ready none with state:=.busy})).heap[w.heap.size]?=some (.deferred (some [])):=(World.putObj_heap_other (by omega)).trans hk;have hT2:(W.putObj (w.heap.size+1) (.loop {rec .ready none with state:=.busy})).heap[w.heap.size+2]?=W.heap[w.heap.size+2]?:=World.putObj_heap_other (by omega);have hCne:w.heap.size+1≠C:=by omega
   have hC2:(W.putObj (w.heap.size+1) (.loop {rec .ready none with state:=.busy})).heap[C]?=W.heap[C]?:=World.putObj_heap_other (by omega);have hzz:(W.putObj (w.heap.size+1) (.loop {rec .ready none with state:=.busy})).heap.size=W.heap.size:=by simp[World.putObj]
   refine wpIn_mono (hbody _ k lst W0 _ C c hlst hi (by omega) ((ik.below hb).trans (ik.put _ _)) hC (by rw[hzz];exact hC') hcc (by obtain⟨cs,g1,g2⟩:=hC3;exact⟨cs,hC2.trans g1,g2⟩) (λi hi=>by have:=hC4 i hi;simp only[World.cell?,hC2]at this⊢;exact this)) ?_;rintro e a3 W3 ⟨rfl,hi3,hz3,hk3⟩;have hl3:=(hk3 (w.heap.size+1) (by omega) (by omega)).trans hl2;have hr:=run_endRound (P:=Tryz0.prog) none hl3;rw[hrec]at hr;have hz4:W.heap.size<=W3.heap.size:=Nat.le_trans (Nat.le_of_eq hzz.symm) hz3;have hlt3:w.heap.size+1<W3.heap.size:=by omega
   refine⟨_,_,hr,rfl,⟨hI _ _ _ hi3 (ik.put _ _),?_,?_⟩,?_,?_⟩
   .rw[World.putObj_heap_same hlt3,hrec];rfl
   .exact(World.putObj_heap_other (by omega)).trans ((hk3 _ (by omega) (by omega)).trans hk2)
   .simp only[World.putObj,Array.size_setIfInBounds];exact hz4
   .rw[hz1];exact(World.putObj_heap_other (by omega)).trans ((hk3 _ (by omega) (by omega)).trans hT2)
end Go.Proofs.YtlmcblcijndipabGreatDoor
namespace Go.Proofs.YtlmcblcijndipabGreatDoor
open Go.RowKit
theorem ba:Tryz0.prog.underlying 30=some (.slice 36):=by kernel_rfl
theorem ux (b n cap:Nat)(g:Nat->Mv)(w:World)(hn:n<=1048576)(hbs:b<w.heap.size)(hrow:al w b 0 n g):
  Calls Tryz0.prog 150 #[.slice (some ⟨b,0,none⟩) n cap] w λe w'=>∃B c,e=.returned (.slice (some ⟨B,0,none⟩) n c)/\w'.ownsRow w.heap.size 36 6 (.slice (some ⟨B,0,none⟩) n c) n (bu g n)/\aH w' B/\Below w.heap.size w w':=by
 obtain⟨i,hI,hz0,hz1,hz2⟩:=fJ;have bA:Below w.heap.size w (w.alloc (.cells #[] 36)):=(Below.refl _ _).alloc (Nat.le_refl _) _;have hnil:=Go.Lib.run_eql_slice_nil (P:=Tryz0.prog) w 30 36 (some ⟨b,0,none⟩) n cap 0 0 ba;have hown:(w.alloc (.cells #[] 36)).ownsRow w.heap.size 36 6 (.slice (some ⟨w.heap.size,0,none⟩) 0 0) 0 []:=World.ownsRow_made w #[] 0 (Nat.le_refl _) (by unfold maxLen;omega) (by simp);have hpl:ns (w.alloc (.cells #[] 36)) (.slice (some ⟨w.heap.size,0,none⟩) 0 0):=λB hB=>by
  simp only[Value.ownBlock,Option.some.injEq]at hB;subst hB;exact⟨#[],_,heap_alloc_new _ _,λv hv=>by simp at hv⟩
 obtain⟨v',w',hr,h2,h3,h4⟩:=run_append_own (P:=Tryz0.prog) (w.alloc (.cells #[] 36)) w.heap.size 30 30 36 i _ 6 56 ba hI hz0 hz1 hz2 rfl (by omega) (.slice (some ⟨w.heap.size,0,none⟩) 0 0) 0 [] hown ⟨b,0,none⟩ n cap (bu g n) (bg g n) (dv (hrow.below bA hbs)) (dX g n) (by unfold maxLen;omega) (by omega) (by simp);have h5:=jI (P:=Tryz0.prog) w.heap.size 30 30 36 i _ 6 56 ba hI hz0 hz1 hz2 rfl (.slice (some ⟨w.heap.size,0,none⟩) 0 0) 0 [] hown hpl ⟨b,0,none⟩ n cap (bu g n) (bg g n) (dv (hrow.below bA hbs)) (dX g n) (oe g n) mn (by unfold maxLen;omega) (by omega) hr;simp only[Nat.zero_add,List.nil_append]at h2;obtain⟨B,c,rfl⟩:∃B c,v'=.slice (some ⟨B,0,none⟩) n c:=by
  rcases h2.2 with⟨e,_⟩|⟨g,cap,cur,e,_⟩
  .exact absurd (h4.1 e).1 (by simp)
  .exact⟨g,cap,e⟩
 have hB:Below w.heap.size w w':=bA.grown h3 bA.size (λq hq=>by simp[Value.ownBlock]at hq;omega);go_enter Tryz0.func150,Tryz.ntmps150
 go_wp2_with(refine fV rfl (.tmp 5) (.tmp 6) 30 rfl _ _ (by rfl) (by rfl) hr ?_)
 go_ret;exact⟨B,c,rfl,h2,h5 B rfl,hB⟩
end Go.Proofs.YtlmcblcijndipabGreatDoor
