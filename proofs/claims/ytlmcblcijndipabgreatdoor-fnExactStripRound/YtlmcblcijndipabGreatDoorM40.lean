import Derived.Test.YtlmcblcijndipabGreatDoorM33
import Derived.Test.YtlmcblcijndipabGreatDoorM11c
import Derived.Sort.LoopGhostIn
import Derived.Test.YtlmcblcijndipabGreatDoorM29
import Derived.Test.YtlmcblcijndipabGreatDoorM16d
import Derived.Test.YtlmcblcijndipabGreatDoorM34
import Derived.RangeFuncBox
import Derived.Test.YtlmcblcijndipabGreatDoorM19
set_option linter.unusedVariables false
set_option maxHeartbeats 4000000
set_option maxRecDepth 100000
namespace Go.Proofs.YtlmcblcijndipabGreatDoor
open Go.RowKit Go.Shelf
attribute [local go_sem] Oper.semAt_some
set_option linter.unusedVariables false
theorem AK (n:Nat)(hn:n<=1048576)(w:World):
  (Instr.makeSlice 164 (.int .i64 (n:Int)) (.int .i64 (n:Int))).run Tryz0.prog w=.ok (.slice (some ⟨w.heap.size,0,none⟩) n n) (w.alloc (.cells (madeCells #[.int .i64 0] n) 3)):=by
 have hi:=fR;cases hI:Tryz0.prog.info? 3 with
 |none=>rw[hI]at hi;simp at hi
 |some i=>
  rw[hI]at hi;simp only[Option.map_some,Option.some.injEq,Prod.mk.injEq]at hi;obtain⟨h6,h56,hz⟩:=hi;have:=run_make (P:=Tryz0.prog) w 164 3 i _ fx hI hz .i64 .i64 n n (by omega) (by omega) (by rw[h56];omega) (by omega);rw[h6]at this;simpa[Value.cells]using this
theorem AL (n:Nat)(w:World)(hn:n<=1048576):
  Calls Tryz0.prog 122 #[.int .i64 (n:Int)] w λe w'=>e=.returned (.slice (some ⟨w.heap.size,0,none⟩) n n)/\ah w' w.heap.size n (λi=>(i:Int))/\Below w.heap.size w w':=by
 have hmk:=AK n hn;go_enter Tryz0.func122,Tryz.ntmps122
 go_wp2;go_loopw [9] (λi w'=>∃k:Nat,k<=n/\i=.int .i64 k/\ah w' w.heap.size n (λi=>if i<k then(i:Int)else 0)/\Below w.heap.size w w') (λi _=>n-(intOf i).toNat)
 case atStart=>exact⟨0,Nat.zero_le _,rfl,(dV w n).congr (λi hi=>by simp),(Below.refl _ _).alloc (Nat.le_refl _) _⟩
 case round=>
  obtain⟨k,hk,rfl,hown,hB⟩:=hrel;by_cases hlt:k<n
  .have hlt':(k:Int)<n:=by omega
   have hd:=hown.cellAt k hlt;have hfz:=hown.frozen k;go_wp2;go_roundw
   case rel=>exact⟨k+1,by omega,by go_num,(hown.set k hlt (k:Int)).congr (λi hi=>by
    by_cases e:i=k
    .subst e;simp
    .simp only[if_neg e];by_cases h:i<k
     .rw[if_pos h,if_pos (by omega)]
     .rw[if_neg h,if_neg (by omega)]),hB.setCell (by simp) _⟩
   case measure=>simp[intOf];omega
  .go_wp2;go_ret;exact⟨rfl,hown.congr (λi hi=>by rw[if_pos (by omega)]),hB⟩
theorem sX (n:Int)(w:World):
  Calls Tryz0.prog 206 #[.int .i64 n] w λe w'=>e=.returned (.func (.func 236) #[] #[.pointer (some ⟨w.heap.size,0,none⟩)])/\w'=w.alloc (.cells #[.int .i64 n] 3):=by
 go_enter Tryz0.func206,Tryz.ntmps206
 go_wp2;go_ret;exact⟨rfl,rfl⟩
theorem pQ (m Bn n l:Nat)(J:Nat->World->Prop)(W:World)(hn:n<=6)(hBn:Bn<W.heap.size)(hc:W.cell? ⟨Bn,0,none⟩=some (.int .i64 (n:Int)))
  (h0:∀W',Below W.heap.size W W'->W.heap.size<W'.heap.size->J 0 W')
  (hs:∀k W1 W2,J k W1->fe W.heap.size W1 W2->Below W.heap.size W1 W2->J k W2)
  (hY:∀k lst W0 W1 C c,(ax n)[k]?=some lst->J k W0->W.heap.size<W0.heap.size->Below W0.heap.size W0 W1->W0.heap.size<=C->C<W1.heap.size->n<=c->dE W1 C->al W1 C 0 n (λi=>((pl lst i:Nat):Int))->
   YieldAt Fence.wide (m-1) Tryz0.prog l #[.slice (some ⟨C,0,none⟩) n c] W1 λe W'=>e=.returned (.bool true)/\J (k+1) W'/\W1.heap.size<=W'.heap.size/\W'.heap[W.heap.size]?=W1.heap[W.heap.size]?):
  CallsIn Fence.wide m Tryz0.prog 236 #[.func (.yield l) #[] #[],.pointer (some ⟨Bn,0,none⟩)] W λe W'=>(∃v,e=.returned v)/\J (ax n).length W':=by
 obtain⟨hN,hN0⟩:=eu n hn;obtain⟨l0,hl0,hl0'⟩:=sV n hn;have hch:=wZ hn;refine callsIn_of_wp Tryz0.func236 rfl trivial ?_ rfl;simp only[Tryz.ntmps236,List.size_toArray,List.length_cons,List.length_nil,Nat.reduceAdd,Nat.reduceSub,Array.replicate_succ,Array.replicate_zero,List.push_toArray,List.append_toArray,List.nil_append,List.cons_append];gi_wp2_with (refine⟨trivial,λh=>(by simp[Fence.wide]at h),?_⟩;refine(callsIn_wide.2 (AL n W (by omega))).mono ?_;rintro e w1 ⟨rfl,own1,b1⟩)
 gi_loopg [4] (ax n).length (λr v wr=>(∃k lst,v=.bool true/\r+k=(ax n).length/\(ax n)[k]?=some lst/\J k wr/\W.heap.size<wr.heap.size/\ah wr W.heap.size n (λi=>((pl lst i:Nat):Int)))\/(v=.bool false/\J (ax n).length wr))
 case atStart=>exact .inl ⟨0,l0,rfl,rfl,hl0,h0 _ b1 own1.lt,own1.lt,own1.congr λi hi=>by rw[hl0' i hi]⟩
 case round=>
  rcases hrel with⟨k,lst,rfl,hrk,hlst,hJ,hlt,hown⟩|⟨rfl,hJ⟩
  .gi_wp2_with (first|(refine⟨trivial,λh=>(by simp[Fence.wide]at h),?_⟩;refine(callsIn_wide.2 (vf _ n n _ wr (by omega) hlt hown.2)).mono ?_;rintro e w2 ⟨C,c,rfl,hc1,hC1,hC2,hC3,hC4,b2⟩;obtain⟨fn,tmps,assign,body,hy,hR⟩:=hY k lst wr w2 C c hlst hJ hlt b2 hC1 hC2 hc1 hC3 hC4))
   refine⟨λh=>(by simp[Fence.wide]at h),hR.mono ?_⟩;rintro e W3 ⟨rfl,hJ3,hz3,hT3⟩;have hown3:ah W3 W.heap.size n (λi=>((pl lst i:Nat):Int)):=by
    have h2:=hown.below b2 hlt;obtain⟨⟨cs,g1,g2⟩,g3⟩:=h2;have g1':=hT3.trans g1;refine⟨⟨cs,g1',g2⟩,λi hi=>?_⟩;rw[cell_of_row _ _ _ _ _ _ g1',<-cell_of_row w2 _ _ _ _ _ g1];exact g3 i hi
   have hlt3:W.heap.size<W3.heap.size:=hown3.lt;obtain⟨hc1',hc2'⟩:=mO hch hlst;have hkN:k<(ax n).length:=(List.getElem?_eq_some_iff.1 hlst).1;clear hown hJ hy hR b2;gi_wp2_with (refine⟨trivial,λh=>(by simp[Fence.wide]at h),?_⟩;refine(callsIn_wide.2 (xe _ n n (pl lst) W3 (by omega) (Nat.le_refl _) hown3)).mono ?_;rintro e w4 ⟨rfl,g4,t4,b4⟩)
   by_cases hk1:k+1<(ax n).length
   .obtain⟨lst',hl'⟩:∃x,(ax n)[k+1]?=some x:=⟨_,List.getElem?_eq_getElem hk1⟩;obtain⟨g,hg,hg'⟩:=hc1' lst' hl';gi_roundg ((ax n).length-(k+1))
    case rel=>exact .inl ⟨k+1,lst',by rw[hg];rfl,by omega,hl',hs _ _ _ hJ3 t4 b4,by have:=t4.size;omega,(g4 g hg).congr λi hi=>by rw[hg' i hi]⟩
    case measure=>omega
   .have hg:=hc2' (by omega);have hkN':k+1=(ax n).length:=by omega
    rw[hkN']at hJ3;gi_roundg 0
    case rel=>exact .inr ⟨by rw[hg];rfl,hs _ _ _ hJ3 t4 b4⟩
    case measure=>omega
  .gi_wp2
   go_end0
   exact⟨⟨_,rfl⟩,hJ⟩
end Go.Proofs.YtlmcblcijndipabGreatDoor
namespace Go.Proofs.YtlmcblcijndipabGreatDoor
open Go.RowKit Go.Shelf
set_option linter.unusedVariables false
structure gI (B:Nat)(w w':World):Prop where
 os:w'.os=w.os
 tape:w'.tape=w.tape
 output:w'.output=w.output
 size:w.heap.size<=w'.heap.size
 block:∀k,k<w.heap.size->(k<B\/B+2<k)->w'.heap[k]?=w.heap[k]?
theorem gI.trans {B:Nat}{a b c:World}(h:gI B a b)(k:gI B b c):gI B a c:=
 ⟨k.os.trans h.os,k.tape.trans h.tape,k.output.trans h.output,Nat.le_trans h.size k.size,λi hi hB=>(k.block i (Nat.lt_of_lt_of_le hi h.size) hB).trans (h.block i hi hB)⟩
theorem gI.below {B:Nat}{w w':World}(h:Below w.heap.size w w'):gI B w w':=⟨h.os,h.tape,h.output,h.size,λk hk _=>h.block k hk⟩
theorem gI.but {B:Nat}{w w':World}(t:fe (B+2) w w')(h:Below (B+2) w w'):gI B w w':=⟨h.os,h.tape,h.output,h.size,λk hk hB=>t.block k hk (by omega)⟩
theorem gI.put {B:Nat}(w:World)(o:Obj):gI B w (w.putObj (B+1) o):=⟨rfl,rfl,rfl,by simp[World.putObj],λk hk hB=>World.putObj_heap_other (by omega)⟩
variable {P:Program}
theorem rn {g:Operand}{ps:Array Tmp}{assign body:Code}{Q:Exit->Act->World->Prop}{a:Act}{w:World}{m Bn n:Nat}(h1:1<=m)(hg:a.eval g=.func (.func 236) #[] #[.pointer (some ⟨Bn,0,none⟩)])
  (hn:n<=6)(hBn:Bn<w.heap.size)(hc:w.cell? ⟨Bn,0,none⟩=some (.int .i64 (n:Int)))(hps:ps.size=1)
  (I:Nat->World->Prop)(hI:∀k W1 W2,I k W1->gI w.heap.size W1 W2->I k W2)(h0:I 0 w)(a₁:Value->Act)
  (hassign:∀(l:Nat) (x:Value) (W:World) (K:Act->World->Prop),K (a₁ x) W->
   assign.wpIn (Fence.wide.inRound l) (m-1-1) Tryz0.prog (Exit.then K (λ_ _ _=>False)) {tmps:=(ps.zip #[x]).foldl (λt (p,v)=>t.setIfInBounds p v) a.tmps,defers:=[]} W)
  (hbody:∀(l k:Nat) (lst:List Nat) (W0 W:World) (C c:Nat),(ax n)[k]?=some lst->I k W0->w.heap.size+2<W0.heap.size->gI w.heap.size W0 W->W0.heap.size<=C->C<W.heap.size->n<=c->dE W C->al W C 0 n (λi=>((pl lst i:Nat):Int))->
   body.wpIn (Fence.wide.inRound l) (m-1-1) Tryz0.prog (λe _ W'=>e=.normal/\I (k+1) W'/\W.heap.size<=W'.heap.size/\∀b,w.heap.size<=b->b<=w.heap.size+2->W'.heap[b]?=W.heap[b]?) (a₁ (.slice (some ⟨C,0,none⟩) n c)) W)
  (hdone:∀(D:Nat) (W:World),w.heap.size<=D->I (ax n).length W->W.heap[D]?=some (.deferred (some []))->Q .normal {a with defers:={target:=.collected D,args:=#[]}::a.defers} W):
  (Code.rangeFunc g ps assign body).wpIn Fence.wide m Tryz0.prog Q a w:=by
 refine wpIn_rangeFunc ?_;intro fn hfn;show _;obtain⟨rec,hrec⟩:∃rec:LoopState->Option Code->Loop,rec=λst pe=>{state:=st,pending:=pe,fn,tmps:=a.tmps,params:=ps,assign,body,defers:=w.heap.size}:=⟨_,rfl⟩
 obtain⟨W1,hW1⟩:∃W1,(w.alloc (.deferred (some []))).alloc (.loop (rec .ready none))=W1:=⟨_,rfl⟩;have hL1:W1.heap[w.heap.size+1]?=some (.loop (rec .ready none)):=by
  rw[<-hW1];have:=World.alloc_heap_new (w.alloc (.deferred (some []))) (.loop (rec .ready none));rwa [World.size_alloc]at this
 have hK1:W1.heap[w.heap.size]?=some (.deferred (some [])):=by
  rw[<-hW1];exact(Below.heap_alloc _ _ _ (by simp)).trans (World.alloc_heap_new w _)
 have hb1:Below w.heap.size w W1:=by
  rw[<-hW1];exact((Below.refl _ w).alloc (Nat.le_refl _) _).alloc (by simp) _
 have hz1:W1.heap.size=w.heap.size+2:=by rw[<-hW1];simp
 refine⟨w.heap.size+1,[{target:=.collected w.heap.size,args:=#[]}],W1,{target:=.fn (.func 236) #[.pointer (some ⟨Bn,0,none⟩)],args:=#[.func (.yield (w.heap.size+1)) #[] #[]]},W1,236,
  #[.func (.yield (w.heap.size + 1)) #[] #[]] ++ #[.pointer (some ⟨Bn, 0, none⟩)], W1, ?_, ?_, ?_, ?_, fun _ => h1, ?_⟩
 .rw[<-hW1,hrec];exact run_enterLoop_outer _ _ _ _ _
 .simp only[resolve,hg];simp[go_sem]
 .intro f' hf';trivial
 .simp[invoke,go_sem]
 .have hst:=pQ (m-1) Bn n (w.heap.size+1) (λk W=>I k W/\W.heap[w.heap.size+1]?=some (.loop (rec .ready none))/\W.heap[w.heap.size]?=some (.deferred (some [])))
   W1 hn (by omega) ((hb1.cell (p:=⟨Bn,0,none⟩) hBn).trans hc) ?_ ?_ ?_
  .refine hst.mono ?_;rintro e W2 ⟨⟨v,rfl⟩,hi,hl,hk⟩;exact⟨none,_,by have:=run_endLoop (P:=Tryz0.prog) hl (by rw[hrec];simp);rw[hrec]at this;exact this,hdone _ _ (Nat.le_refl _) (hI _ _ _ hi (gI.put _ _)) ((World.putObj_heap_other (by omega)).trans hk)⟩
  .intro W' hb hlt;exact⟨hI _ _ _ h0 ((gI.below hb1).trans (gI.below hb)),(hb.block _ (by omega)).trans hL1,(hb.block _ (by omega)).trans hK1⟩
  .rintro k Wa Wb ⟨hi,hl,hk⟩ ht hb;rw[hz1]at ht hb;have z1:=(Array.getElem?_eq_some_iff.1 hl).1;exact⟨hI _ _ _ hi (gI.but ht hb),(ht.block _ (by omega) (by omega)).trans hl,(ht.block _ (by omega) (by omega)).trans hk⟩
  .rintro k lst W0 W C c hlst ⟨hi,hl,hk⟩ hlt hb hC hC' hcc hC3 hC4;rw[hz1]at hlt;replace hl:=(hb.block _ (by omega)).trans hl;replace hk:=(hb.block _ (by omega)).trans hk;have hlt1:w.heap.size+1<W.heap.size:=by omega
   have hy:=run_yield (P:=Tryz0.prog) (args:=#[.slice (some ⟨C,0,none⟩) n c]) hl (by rw[hrec];simp[hps]);rw[hrec]at hy;refine⟨fn,_,assign,body,hy,roundIn_of_wpIn hfn (hassign _ _ W _ ⟨_,run_beginRound hl (by rw[hrec]),?_⟩)⟩;have hl2:(W.putObj (w.heap.size+1) (.loop {rec .ready none with state:=.busy})).heap[w.heap.size+1]?=some (.loop {rec .ready none with state:=.busy}):=World.putObj_heap_same hlt1;have hk2:(W.putObj (w.heap.size+1) (.loop {rec .ready none with state:=.busy})).heap[w.heap.size]?=some (.deferred (some [])):=(World.putObj_heap_other (by omega)).trans hk;have hT2:(W.putObj (w.heap.size+1) (.loop {rec .ready none with state:=.busy})).heap[w.heap.size+2]?=W.heap[w.heap.size+2]?:=World.putObj_heap_other (by omega);have hCne:w.heap.size+1≠C:=by omega
   have hC2:(W.putObj (w.heap.size+1) (.loop {rec .ready none with state:=.busy})).heap[C]?=W.heap[C]?:=World.putObj_heap_other (by omega);have hzz:(W.putObj (w.heap.size+1) (.loop {rec .ready none with state:=.busy})).heap.size=W.heap.size:=by simp[World.putObj]
   refine wpIn_mono (hbody _ k lst W0 _ C c hlst hi (by omega) ((gI.below hb).trans (gI.put _ _)) hC (by rw[hzz];exact hC') hcc (by obtain⟨cs,g1,g2⟩:=hC3;exact⟨cs,hC2.trans g1,g2⟩) (λi hi=>by have:=hC4 i hi;simp only[World.cell?,hC2]at this⊢;exact this)) ?_;rintro e a3 W3 ⟨rfl,hi3,hz3,hk3⟩;have hl3:=(hk3 (w.heap.size+1) (by omega) (by omega)).trans hl2;have hr:=run_endRound (P:=Tryz0.prog) none hl3;rw[hrec]at hr;have hz4:W.heap.size<=W3.heap.size:=Nat.le_trans (Nat.le_of_eq hzz.symm) hz3;have hlt3:w.heap.size+1<W3.heap.size:=by omega
   refine⟨_,_,hr,rfl,⟨hI _ _ _ hi3 (gI.put _ _),?_,?_⟩,?_,?_⟩
   .rw[World.putObj_heap_same hlt3,hrec];rfl
   .exact(World.putObj_heap_other (by omega)).trans ((hk3 _ (by omega) (by omega)).trans hk2)
   .simp only[World.putObj,Array.size_setIfInBounds];exact hz4
   .rw[hz1];exact(World.putObj_heap_other (by omega)).trans ((hk3 _ (by omega) (by omega)).trans hT2)
end Go.Proofs.YtlmcblcijndipabGreatDoor
namespace Go.Proofs.YtlmcblcijndipabGreatDoor
open Go.RowKit Go.Shelf
attribute [local go_sem] Oper.semAt_some
set_option linter.unusedVariables false
def dG (W:World)(n lo:Nat)(vals:List Value)(L:List (List Nat)):Prop:=
 ∀(i:Nat) (lst:List Nat),L[i]?=some lst->∃tb tc,vals[i]?=some (Value.slice (some ⟨tb,0,none⟩) n tc)/\n<=tc/\lo<=tb/\dE W tb/\al W tb 0 n (λi=>((pl lst i:Nat):Int))
theorem dE.lt {W:World}{b:Nat}(h:dE W b):b<W.heap.size:=by obtain⟨cs,h1,_⟩:=h;exact(Array.getElem?_eq_some_iff.1 h1).1
theorem dE.same {W W':World}{b:Nat}(h:dE W b)(e:W'.heap[b]?=W.heap[b]?):dE W' b:=by obtain⟨cs,h1,h2⟩:=h;exact⟨cs,e.trans h1,h2⟩
theorem dG.same {W W':World}{n lo:Nat}{vals:List Value}{L:List (List Nat)}(h:dG W n lo vals L)(e:∀b,lo<=b->dE W b->W'.heap[b]?=W.heap[b]?):dG W' n lo vals L:=λi lst hi=>by
 obtain⟨tb,tc,h1,h2,h3,h4,h5⟩:=h i lst hi;exact⟨tb,tc,h1,h2,h3,h4.same (e tb h3 h4),h5.same (e tb h3 h4)⟩
theorem dG.low {W:World}{n lo lo':Nat}{vals:List Value}{L:List (List Nat)}(h:dG W n lo vals L)(hl:lo'<=lo):dG W n lo' vals L:=λi lst hi=>by
 obtain⟨tb,tc,h1,h2,h3,h4⟩:=h i lst hi;exact⟨tb,tc,h1,h2,Nat.le_trans hl h3,h4⟩
theorem dG.snoc {W:World}{n lo C c:Nat}{vals:List Value}{L:List (List Nat)}{lst:List Nat}(h:dG W n lo vals L)(hl:vals.length=L.length)(h2:n<=c)(h3:lo<=C)(h4:dE W C)(h5:al W C 0 n (λi=>((pl lst i:Nat):Int))):
  dG W n lo (vals++[.slice (some ⟨C,0,none⟩) n c]) (L++[lst]):=λi l hi=>by
 by_cases hlt:i<L.length
 .rw[List.getElem?_append_left hlt]at hi;obtain⟨tb,tc,g1,g2⟩:=h i l hi;exact⟨tb,tc,by rw[List.getElem?_append_left (by omega)];exact g1,g2⟩
 .rw[List.getElem?_append_right (by omega)]at hi;have hi0:i-L.length=0:=by
   have:=(List.getElem?_eq_some_iff.1 hi).1;simp at this;omega
  rw[hi0]at hi;simp at hi;subst hi;exact⟨C,c,by rw[List.getElem?_append_right (by omega),hl,hi0];rfl,h2,h3,h4,h5⟩
theorem pT {W:World}{b:Nat}(h:dE W b){base size k:Nat}{v:Value}{xs:List Value}(hr:W.ownsRow base 164 size v k xs):some b≠v.ownBlock:=by
 obtain⟨cs,h1,_⟩:=h;rcases hr.2 with⟨rfl,_⟩|⟨g,cap,cur,rfl,_,hgb,_⟩
 .simp[Value.ownBlock]
 .intro e';obtain rfl:b=g:=by simpa[Value.ownBlock]using e'
  rw[h1]at hgb;simp at hgb
structure iO (W:World)(n lo BN:Nat)(L:List (List Nat)):Prop where
 ex:∃v vals,Boxed W BN 224 v/\W.ownsRow lo 164 1 v L.length vals/\dG W n lo vals L
theorem iO.same {W W':World}{n lo BN:Nat}{L:List (List Nat)}(h:iO W n lo BN L)(hN:W'.heap[BN]?=W.heap[BN]?)(e:∀b,lo<=b->b<W.heap.size->W'.heap[b]?=W.heap[b]?):iO W' n lo BN L:=by
 obtain⟨v,vals,h1,h2,h3⟩:=h.ex;refine⟨v,vals,hN.trans h1,?_,h3.same λb hb hi=>e b hb hi.lt⟩;obtain⟨g1,g2|⟨g,cap,cur,rfl,g3,g4,g5⟩⟩:=h2
 .exact⟨g1,.inl g2⟩
 .exact⟨g1,.inr ⟨g,cap,cur,rfl,g3,(e g g3 (Array.getElem?_eq_some_iff.1 g4).1).trans g4,g5⟩⟩
theorem nQ {W w1:World}{n lo BN C c:Nat}{v v':Value}{vals:List Value}{L:List (List Nat)}{lst:List Nat}{tmp:Obj}(hv:Boxed W BN 224 v)(hr:W.ownsRow lo 164 1 v L.length vals)(hin:dG W n lo vals L)
  (h2:n<=c)(h3:lo<=C)(h4:dE W C)(h5:al W C 0 n (λi=>((pl lst i:Nat):Int)))
  (hown:w1.ownsRow lo 164 1 v' (L.length+1) (vals++[.slice (some ⟨C,0,none⟩) n c]))(hg:(W.alloc tmp).grownBy w1 v.ownBlock):
  Boxed w1 BN 224 v/\iO (w1.setCell ⟨BN,0,none⟩ v') n lo BN (L++[lst])/\(∀b,b<W.heap.size->b≠BN->some b≠v.ownBlock->(w1.setCell ⟨BN,0,none⟩ v').heap[b]?=W.heap[b]?)/\W.heap.size<=(w1.setCell ⟨BN,0,none⟩ v').heap.size:=by
 have hte:(224:TypeId)≠164:=by decide
 have hv1:Boxed w1 BN 224 v:=(hv.alloc tmp).kept hg (hv.not_row hte hr);have hsame:∀b,b<W.heap.size->b≠BN->some b≠v.ownBlock->(w1.setCell ⟨BN,0,none⟩ v').heap[b]?=W.heap[b]?:=λb hb hne ho=>by
  rw[Below.heap_setCell _ _ _ b hne,hg.block b (by simp;omega) ho];exact Below.heap_alloc _ _ _ hb
 refine⟨hv1,⟨v',vals++[.slice (some ⟨C,0,none⟩) n c],hv1.set v',?_,?_⟩,hsame,?_⟩
 .rw[List.length_append];exact hown.kept (grownBy_setCell' w1 BN v') (.inr (hv1.not_row hte hown).symm)
 .have hk:∀b,dE W b->(w1.setCell ⟨BN,0,none⟩ v').heap[b]?=W.heap[b]?:=λb hb=>by
   refine hsame b hb.lt (λe=>?_) (pT hb hr);obtain⟨cs,g1,_⟩:=hb;rw[e,show W.heap[BN]?=_ from hv]at g1;simp at g1
  have hl:vals.length=L.length:=by have:=hr.1;omega
  exact(hin.same λb _ hb=>hk b hb).snoc hl h2 h3 (h4.same (hk C h4)) (h5.same (hk C h4))
 .have:=hg.size;simp at this⊢;omega
theorem lh (p:List Nat->Bool){A:List (List Nat)}{k:Nat}{l:List Nat}(h:A[k]?=some l):(A.take (k+1)).filter p=(A.take k).filter p++(if p l then[l]else[]):=by
 rw[List.take_add_one,h,List.filter_append];simp[List.filter_cons]
theorem li {P:Program}{f:FuncId}{args:Array Value}{w:World}{R:Ending->World->Prop}(h:Calls P f args w R):∃e w',R e w':=by
 obtain⟨e,w',fr,hR,_⟩:=h [];exact⟨e,w',hR⟩
theorem vk {W:World}{b cap b' cap' n:Nat}{g h:Nat->Int}{r:Int}(hr:bF g h n r)(hn:n<=1048576)(hbs:b<W.heap.size)(hrow:al W b 0 n g)(hord:dQ g n n)(hbs':b'<W.heap.size)(hrow':al W b' 0 n h)(hord':dQ h n n)(x:ag W):
  Calls Tryz0.prog 207 #[.slice (some ⟨b,0,none⟩) n cap,.slice (some ⟨b',0,none⟩) n cap'] x.at_ λe w'=>e=.returned (.int .i64 r)/\Below x.at_.heap.size x.at_ w':=by
 have hb:=x.below;refine(je b 0 n cap b' 0 cap' g h x.at_ hn (Nat.lt_of_lt_of_le hbs hb.size) (hrow.below hb hbs) hord (Nat.lt_of_lt_of_le hbs' hb.size) (hrow'.below hb hbs') hord').mono ?_;rintro e w' ⟨⟨s,rfl,hs⟩,h2⟩;exact⟨by rw[hs.unique hr],h2⟩
theorem AM {n:Nat}{l:List Nat}(h:l∈ax n):dQ (λi=>((pl l i:Nat):Int)) n n:=
 ⟨λi hi=>by have:=(dB h).2.1 i hi;dsimp only;omega,λi j hij hj=>by have:=(dB h).2.2 i j hij hj;dsimp only;omega⟩
theorem s6:Tryz0.prog.underlying 224=some (.slice 164):=by kernel_rfl
theorem rq:(Tryz0.prog.info? 164).map (λi=>(i.size,i.bytes,i.zero))=some (1,24,some (.slice none 0 0)):=by kernel_rfl
theorem xr (b off n cap:Nat)(f:Nat->Mv)(shift:Int)(w:World)(hm:ap f n=true)(hbs:b<w.heap.size)(hrow:an w b off n f)(p:List Nat->Bool)
  (hp:∀g,aT f n g->∀l∈ax n,∀r,bF (λi=>((pl l i:Nat):Int)) (λi=>((g i:Nat):Int)) n r->(p l=true<->r<=shift)):
  Calls Tryz0.prog 182 #[.slice (some ⟨b,off,none⟩) n cap,.int .i64 shift] w λe w'=>(∃v vals,e=.returned v/\w'.ownsRow w.heap.size 164 1 v ((ax n).filter p).length vals/\dG w' n w.heap.size vals ((ax n).filter p))/\Below w.heap.size w w':=by
 have h6:=aN hm;have hn:n<=1048576:=by omega
 have hB0:∀o1,Below w.heap.size w (w.alloc o1):=λo1=>(Below.refl _ w).alloc (Nat.le_refl _) _
 refine(callsIn_wide (n:=9)).1 ?_;refine callsIn_of_wp_marks Tryz0.func182 rfl trivial ?_ rfl;simp only[Tryz.ntmps182,List.size_toArray,List.length_cons,List.length_nil,Nat.reduceAdd,Nat.reduceSub,Array.replicate_succ,Array.replicate_zero,List.push_toArray,List.append_toArray,List.nil_append,List.cons_append];gi_wp2_with (first|(refine⟨trivial,?_⟩;refine(callsIn_wide.2 (nP _ _ _ _ f _ hn (by simp;omega) (hrow.below (hB0 _) hbs))).mono ?_;rintro e w1 ⟨⟨g,B,cap1,hg,hB1,rfl,own1⟩,b1⟩)|(refine⟨trivial,?_⟩;refine(callsIn_wide.2 (sX _ _)).mono ?_;rintro e w' ⟨rfl,rfl⟩))
 have hz1:w.heap.size+1<=w1.heap.size:=by have:=b1.size;simpa using this
 have hBw1:Below w.heap.size w w1:=(hB0 _).trans (b1.mono (by simp));have hBlt:=own1.lt;obtain⟨WS,hWS⟩:∃WS,((w1.alloc (.cells #[.slice (some ⟨B,0,none⟩) n cap1] 164)).alloc (.cells #[.slice none 0 0] 224)).alloc (.cells #[.int .i64 (n:Int)] 3)=WS:=⟨_,rfl⟩;have hL:Below w1.heap.size w1 WS:=hWS▸(((Below.refl _ w1).alloc (Nat.le_refl _) _).alloc (by simp) _).alloc (by simp;omega) _;have hzS:WS.heap.size=w1.heap.size+3:=by rw[<-hWS];simp
 have c0:w1.cell? ⟨w.heap.size,0,none⟩=some (.int .i64 shift):=(b1.cell (p:=⟨w.heap.size,0,none⟩) (by simp)).trans (by simp);have cS:WS.cell? ⟨w.heap.size,0,none⟩=some (.int .i64 shift):=(hL.cell (p:=⟨w.heap.size,0,none⟩) (by simp;omega)).trans c0;have cF:WS.cell? ⟨w1.heap.size,0,none⟩=some (.slice (some ⟨B,0,none⟩) n cap1):=by rw[<-hWS];simp[go_sem]
 have cN:Boxed WS (w1.heap.size+1) 224 (.slice none 0 0):=by
  have h1:Boxed ((w1.alloc (.cells #[.slice (some ⟨B,0,none⟩) n cap1] 164)).alloc (.cells #[.slice none 0 0] 224)) (w1.heap.size+1) 224 (.slice none 0 0):=by
   have:=Boxed.new (w1.alloc (.cells #[.slice (some ⟨B,0,none⟩) n cap1] 164)) 224 (.slice none 0 0);simpa using this
  rw[<-hWS];exact h1.alloc _
 have cL:WS.cell? ⟨w1.heap.size+1+1,0,none⟩=some (.int .i64 (n:Int)):=by rw[<-hWS];simp[go_sem]
 have ownS:=own1.below hL hBlt;have hBwS:Below w.heap.size w WS:=hBw1.trans (hL.mono hBw1.size);rw[hWS];clear hWS c0 hL own1;refine rn (Bn:=w1.heap.size+1+1) (n:=n) (by omega) rfl h6 (by omega) cL rfl
  (λk W=>Below w.heap.size w W/\fe (w1.heap.size+1) WS W/\iO W n (WS.heap.size+3) (w1.heap.size+1) (((ax n).take k).filter p)) ?hI ?h0 ?a1 ?assign ?body ?done
 case hI=>
  rintro k W1 W2 ⟨i1,i2,i3⟩ hs;refine⟨⟨hs.os.trans i1.os,hs.tape.trans i1.tape,hs.output.trans i1.output,Nat.le_trans i1.size hs.size,λj hj=>(hs.block j (by have:=i1.size;omega) (by omega)).trans (i1.block j hj)⟩,⟨Nat.le_trans i2.size hs.size,λj hj hne=>(hs.block j (by have:=i2.size;omega) (by omega)).trans (i2.block j hj hne)⟩,i3.same (hs.block _ (by have:=i2.size;omega) (by omega)) λb hb hlt=>hs.block b hlt (by omega)⟩
 case h0=>exact⟨hBwS,fe.refl _ _,⟨.slice none 0 0,[],cN,World.ownsRow_nil _ _ _ _,λi lst hi=>by simp at hi⟩⟩
 case assign=>
  intro l x W K hK;gi_wp2
  exact hK
 case body=>
  rintro l k lst W0 W C c hlst ⟨i1,i2,i3⟩ hlt hsv hC hC' hcc hC3 hC4;have hmem:lst∈ax n:=List.mem_of_getElem? hlst;have j1:Below w.heap.size w W:=⟨hsv.os.trans i1.os,hsv.tape.trans i1.tape,hsv.output.trans i1.output,Nat.le_trans i1.size hsv.size,λj hj=>(hsv.block j (by have:=i1.size;omega) (by omega)).trans (i1.block j hj)⟩;have j2:fe (w1.heap.size+1) WS W:=⟨Nat.le_trans i2.size hsv.size,λj hj hne=>(hsv.block j (by have:=i2.size;omega) (by omega)).trans (i2.block j hj hne)⟩;have j3:iO W n (WS.heap.size+3) (w1.heap.size+1) (((ax n).take k).filter p):=i3.same (hsv.block _ (by have:=i2.size;omega) (by omega)) λb hb hlt=>hsv.block b hlt (by omega)
  clear i1 i2 i3;have hzW:=j2.size;have dS:W.cell? ⟨w.heap.size,0,none⟩=some (.int .i64 shift):=by have:=j2.block w.heap.size (by omega) (by omega);simp only[World.cell?,this]at cS⊢;exact cS
  have dF:W.cell? ⟨w1.heap.size,0,none⟩=some (.slice (some ⟨B,0,none⟩) n cap1):=by have:=j2.block w1.heap.size (by omega) (by omega);simp only[World.cell?,this]at cF⊢;exact cF
  have ownW:=ownS.but j2 (by omega);have hordg:=hg.ord;have hordl:=AM hmem;obtain⟨r,hr⟩:∃r,bF (λi=>((pl lst i:Nat):Int)) (λi=>((g i:Nat):Int)) n r:=by
   obtain⟨e,w',⟨r,_,hr⟩,_⟩:=li (je C 0 n c B 0 cap1 _ _ W hn hC' hC4 hordl ownW.lt ownW.2 hordg);exact⟨r,hr⟩
  have hpr:=hp g hg lst hmem r hr;have HS:=λx=>vk (cap:=c) (cap':=cap1) hr hn hC' hC4 hordl ownW.lt ownW.2 hordg x
  have hne:=aq W;have q0:=λx:ag W=>x.cell dS
  have q1:=λx:ag W=>x.cell dF
  have HR:Hid (p lst=true<->r<=shift):=hpr;clear hpr hr hordg hordl;by_cases hle:r<=shift
  .gi_wp2
   refine fX (gG _ _) (by kernel_rfl) (by kernel_rfl) (by kernel_rfl) ?_;repeat(go_big_quiet_step ((go_at_call 207;exact aA (HS _))))
   refine wpQuiet_nil (ak ?_);intro w2 hb2;have hf:Hid (((ax n).take (k+1)).filter p=((ax n).take k).filter p++[lst]):=by
    rw[lh p hlst,if_pos (HR.out.2 hle)];exact rfl
   rw[hzS]at j3;obtain⟨v,vals,m1,m2,m3⟩:=(j3.same (W':=w2) (hb2.block _ (by omega)) λb hb hlt=>hb2.block b hlt).ex;have hC4':=hC4.below hb2 hC';have hC3':=hC3.below hb2 hC';have hvc:=m1.cell;clear j3 hC3 hC4 hne q0 q1 HS dS dF ownW;have hzw2:=hb2.size;obtain⟨i0,hI,hz0,hz1,hz2⟩:∃i0,Tryz0.prog.info? 164=some i0/\i0.zero=some (.slice none 0 0)/\i0.size=1/\i0.bytes=24:=by
    have h:=rq;cases hI:Tryz0.prog.info? 164 with
    |none=>rw[hI]at h;simp at h
    |some i0=>rw[hI]at h;simp only[Option.map_some,Option.some.injEq,Prod.mk.injEq]at h;exact⟨i0,rfl,h.2.2,h.1,h.2.1⟩
   have hlen:(((ax n).take k).filter p).length<=720:=Nat.le_trans (List.length_filter_le _ _) (by have:=(eu n h6).1;simp;omega);gi_wp2_with (
    refine wpListIn_append_own _ rfl (.tmp 19) (.tmp 21) 224 rfl (w1.heap.size+3+3) 164 i0 (.slice none 0 0) 1 24 s6 hI hz0 hz1 hz2 rfl (by decide) v (((ax n).take k).filter p).length vals (by rfl) (m2.alloc _) ⟨_,0,none⟩ 1 1 [.slice (some ⟨C,0,none⟩) n c] (by rfl) rfl (f7 (heap_alloc_new w2 _)) (by simp[Value.oneCell']) (by unfold maxLen;omega) (by omega) (by simp;omega) ?_;intro v' w3 own3 gr3 hnn;obtain⟨G,gc,rfl⟩:=ownsRow_succ own3;obtain⟨o1,o2,o3,o4⟩:=nQ m1 m2 m3 hcc (by omega) hC3' hC4' own3 gr3;have hvc3:=o1.cell;have hvf3:=o1.frozen)
   have hob:∀b,b<w1.heap.size+3+3->some b≠v.ownBlock:=λb hb e=>by have:=dn m2 b e.symm;omega
   have hz0w:=j1.size;have o5:w2.heap.size<=w3.heap.size:=by have:=gr3.size;simp at this;omega
   refine⟨⟨⟨gr3.os.trans (hb2.os.trans j1.os),gr3.tape.trans (hb2.tape.trans j1.tape),gr3.output.trans (hb2.output.trans j1.output),by omega,λb hb=>(o3 b (by omega) (by omega) (hob b (by omega))).trans ((hb2.block b (by omega)).trans (j1.block b hb))⟩,
    ⟨by omega,λb hb hne=>(o3 b (by omega) hne (hob b (by omega))).trans ((hb2.block b (by omega)).trans (j2.block b hb hne))⟩,?_⟩,by omega,λb h1 h2=>(o3 b (by omega) (by omega) (hob b (by omega))).trans (hb2.block b (by omega))⟩
   rw[hf.out];exact o2
  .gi_wp2
   refine fX (gG _ _) (by kernel_rfl) (by kernel_rfl) (by kernel_rfl) ?_;repeat(go_big_quiet_step ((go_at_call 207;exact aA (HS _))))
   refine wpQuiet_nil (ak ?_);intro w2 hb2;have hf:Hid (((ax n).take (k+1)).filter p=((ax n).take k).filter p):=by
    rw[lh p hlst,if_neg (λh=>by have:=HR.out.1 h;omega)];exact List.append_nil _
   gi_wp2
   rw[hzS]at j3;refine⟨⟨j1.trans (hb2.mono j1.size),j2.trans (fe.of hb2),?_⟩,hb2.size,λb h1 h2=>hb2.block b (by omega)⟩;rw[hf.out];exact j3.same (hb2.block _ (by omega)) λb hb hlt=>hb2.block b hlt
 case done=>
  rintro D W hD ⟨i1,i2,i3⟩ hK;rw[List.take_length]at i3;obtain⟨v,vals,j1,j2,j3⟩:=i3.ex;have cv:=j1.cell;gi_wp2
  refine⟨by simp,.inl ⟨_,_,rfl,run_takeDeferred hK,?_⟩⟩;refine⟨v,?_,⟨v,vals,rfl,ey (ownsRow_putObj j2 _ hK rfl) (by omega),?_⟩,i1.trans (belowK_b (w:=w) (Nat.le_refl _) W D _ _ (by omega) hK rfl rfl)⟩
  .simp[results,Tryz.f182,go_sem]
  .refine(j3.same (W':=W.putObj D (.deferred none)) λb hb hi=>World.putObj_heap_other λe=>?_).low (by omega);obtain⟨cs,g1,_⟩:=hi;rw[e,hK]at g1;simp at g1
end Go.Proofs.YtlmcblcijndipabGreatDoor
namespace Go.Proofs.YtlmcblcijndipabGreatDoor
open Go.RowKit
theorem bc:Tryz0.prog.underlying 30=some (.slice 36):=by kernel_rfl
theorem th (b n cap:Nat)(g:Nat->Mv)(w:World)(hn:n<=1048576)(hbs:b<w.heap.size)(hrow:an w b 0 n g):
  Calls Tryz0.prog 150 #[.slice (some ⟨b,0,none⟩) n cap] w λe w'=>∃B c,e=.returned (.slice (some ⟨B,0,none⟩) n c)/\w'.ownsRow w.heap.size 36 6 (.slice (some ⟨B,0,none⟩) n c) n (cD g n)/\aE w' B/\Below w.heap.size w w':=by
 obtain⟨i,hI,hz0,hz1,hz2⟩:=iE;have bA:Below w.heap.size w (w.alloc (.cells #[] 36)):=(Below.refl _ _).alloc (Nat.le_refl _) _;have hnil:=Go.Lib.run_eql_slice_nil (P:=Tryz0.prog) w 30 36 (some ⟨b,0,none⟩) n cap 0 0 bc;have hown:(w.alloc (.cells #[] 36)).ownsRow w.heap.size 36 6 (.slice (some ⟨w.heap.size,0,none⟩) 0 0) 0 []:=World.ownsRow_made w #[] 0 (Nat.le_refl _) (by unfold maxLen;omega) (by simp);have hpl:mn (w.alloc (.cells #[] 36)) (.slice (some ⟨w.heap.size,0,none⟩) 0 0):=λB hB=>by
  simp only[Value.ownBlock,Option.some.injEq]at hB;subst hB;exact⟨#[],_,heap_alloc_new _ _,λv hv=>by simp at hv⟩
 obtain⟨v',w',hr,h2,h3,h4⟩:=run_append_own (P:=Tryz0.prog) (w.alloc (.cells #[] 36)) w.heap.size 30 30 36 i _ 6 56 bc hI hz0 hz1 hz2 rfl (by omega) (.slice (some ⟨w.heap.size,0,none⟩) 0 0) 0 [] hown ⟨b,0,none⟩ n cap (cD g n) (cK g n) (gL (hrow.below bA hbs)) (ga g n) (by unfold maxLen;omega) (by omega) (by simp);have h5:=jd (P:=Tryz0.prog) w.heap.size 30 30 36 i _ 6 56 bc hI hz0 hz1 hz2 rfl (.slice (some ⟨w.heap.size,0,none⟩) 0 0) 0 [] hown hpl ⟨b,0,none⟩ n cap (cD g n) (cK g n) (gL (hrow.below bA hbs)) (ga g n) (nk g n) lp (by unfold maxLen;omega) (by omega) hr;simp only[Nat.zero_add,List.nil_append]at h2;obtain⟨B,c,rfl⟩:∃B c,v'=.slice (some ⟨B,0,none⟩) n c:=by
  rcases h2.2 with⟨e,_⟩|⟨g,cap,cur,e,_⟩
  .exact absurd (h4.1 e).1 (by simp)
  .exact⟨g,cap,e⟩
 have hB:Below w.heap.size w w':=bA.grown h3 bA.size (λq hq=>by simp[Value.ownBlock]at hq;omega);go_enter Tryz0.func150,Tryz.ntmps150
 go_wp2_with(refine fw rfl (.tmp 5) (.tmp 6) 30 rfl _ _ (by rfl) (by rfl) hr ?_)
 go_ret;exact⟨B,c,rfl,h2,h5 B rfl,hB⟩
end Go.Proofs.YtlmcblcijndipabGreatDoor
