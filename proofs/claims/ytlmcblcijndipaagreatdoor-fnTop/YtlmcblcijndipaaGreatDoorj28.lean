import Derived.Test.YtlmcblcijndipaaGreatDoorj08c
import Derived.Test.YtlmcblcijndipaaGreatDoorj27
import Derived.Test.YtlmcblcijndipaaGreatDoorj17d
import Derived.Sort.LoopGhostIn
import Derived.RangeFuncBox
set_option linter.defProp false
set_option maxHeartbeats 4000000
set_option maxRecDepth 100000
namespace Go.Proofs.YtlmcblcijndipaaGreatDoor
open Go.RowKit Go.Shelf RowKit
variable {B n:Nat}{P:Program}{w w':World}
section
attribute [local go_sem] Oper.semAt_some
set_option linter.unusedVariables false
def x_ (n:Nat)(hn:n<=1048576)(w:World):
  (Instr.makeSlice 183 (.int .i64 (n:Int)) (.int .i64 (n:Int))).run Tz.prog w=.ok (.slice w.heap.size n n) (w.alloc<|.cells (madeCells #[(0:Int)] n) 3):=by
 have hi:=li;cases hI:Tz.prog.info? 3 with
 |none=>rw[hI]at hi;simp at hi
 |some i=>
  rw[hI]at hi;simp only[Option.map_some,Option.some.injEq,Prod.mk.injEq]at hi;let⟨h6,YL,hz⟩:=hi;have:=run_make (P:=Tz.prog) w 183 3 i _ mc hI hz .i64 .i64 n n ab ab (by rw[YL];omega) ab;rw[h6]at this;simpa[Value.cells]using this
def r_ (n:Nat)(w:World)(hn:n<=1048576):
  Calls Tz.prog 146 #[.int .i64 (n:Int)] w λe w'=>e=.returned (.slice w.heap.size n n)/\aC w' w.heap.size n (λi=>(i:Int))/\Below w w w':=by
 have P1:=x_ n hn;go_enter Tz.func146,Tryz.ntmps146
 go_wp2;go_loopw [9] (λi w'=>∃k:Nat,k<=n/\i=.int .i64 k/\aC w' w.heap.size n (λi=>if i<k then(i:Int)else 0)/\Below w w w') (λi _=>n-(intOf i).toNat)
 case atStart=>exact⟨0,ac8 _,rfl,(nj w n).congr λi hi=>aG,(acU _ _).alloc (ac3 _) _⟩
 case round=>
  obtain⟨k,hk,rfl,bc,hB⟩:=hrel;by_cases ay:k<n
  .have dq:(k:Int)<n:=by omega
   have hd:=bc.cellAt k ay;have I8:=bc.frozen k;go_wp2;go_roundw
   case rel=>exact⟨k+1,ab,by go_num,(bc.set k ay (k:Int)).congr (λi hi=>by
    by_cases e:i=k
    .subst e;simp
    .simp only[if_neg e];by_cases h:i<k
     .rw[if_pos h,if_pos ab]
     .rw[if_neg h,if_neg ab]),hB.setCell aG _⟩
   case measure=>exact bZ
  .go_wp2;go_ret;exact⟨rfl,bc.congr λi hi=>by rw[if_pos ab],hB⟩
def Hz (n:Int)(w:World):
  Calls Tz.prog 163 #[n] w λe w'=>e=.returned (.func (.func 198) #[] #[.pointer w.heap.size])/\w'=w.alloc (.cells #[n] 3):=by
 go_enter Tz.func163,Tryz.ntmps163
 go_wp2;go_ret;exact⟨rfl,rfl⟩
def CU (m Bn n l:Nat)(J:Nat->World->Prop)(W:World)(hn:n<=6)(PR:Bn<W)(hc:W.cell? Bn=some (.int .i64 (n:Int)))
  (h0:∀W',Below W W W'->W.heap.size<W'.heap.size->J 0 W')
  (hs:∀k W1 W2,J k W1->ja W.heap.size W1 W2->Below W W1 W2->J k W2)
  (hY:∀k fg W0 W1 C c,(aS n)[k]?=some fg->J k W0->W.heap.size<W0.heap.size->Below W0.heap.size W0 W1->W0.heap.size<=C->C<W1.heap.size->n<=c->iE W1 C->aA W1 C 0 n (λi=>((pl fg i:Nat):Int))->
   YieldAt Fence.wide (m-1) Tz.prog l #[.slice C n c] W1 λe W'=>e=.returned true/\J (k+1) W'/\W1.heap.size<=W'.heap.size/\W'.heap[W.heap.size]?=W1.heap[W.heap.size]?):
  CallsIn Fence.wide m Tz.prog 198 #[.func (.yield l) #[] #[],.pointer Bn] W λe W'=>(∃v,e=.returned v)/\J (aS n).length W':=by
 let⟨hN,hN0⟩:=jE n hn;let⟨l0,hl0,aa8⟩:=Gp n hn;have DA:=MV hn;refine callsIn_of_wp Tz.func198 rfl trivial ?_ rfl;simp only[Tryz.ntmps198,List.size_toArray,List.length_cons,List.length_nil,Nat.reduceAdd,Nat.reduceSub,Array.replicate_succ,Array.replicate_zero,List.push_toArray,List.append_toArray,List.nil_append,List.cons_append];gi_wp2_with (refine⟨trivial,λh=>(by simp[Fence.wide]at h),?_⟩;refine(callsIn_wide.2<|r_ n W ab).mono ?_;rintro e w1 ⟨rfl,sv,b1⟩)
 gi_loopg [4] (aS n).length (λr v wr=>(∃k fg,v=true/\r+k=(aS n).length/\(aS n)[k]?=some fg/\J k wr/\W.heap.size<wr.heap.size/\aC wr W.heap.size n (λi=>((pl fg i:Nat):Int)))\/(v=false/\J (aS n).length wr))
 case atStart=>exact .inl ⟨0,l0,rfl,rfl,hl0,h0 _ b1 sv.lt,sv.lt,sv.congr λi hi=>by rw[aa8 i hi]⟩
 case round=>
  rcases hrel with⟨k,fg,rfl,hrk,oe,hJ,ay,bc⟩|⟨rfl,hJ⟩
  .gi_wp2_with (first|(refine⟨trivial,λh=>(by simp[Fence.wide]at h),?_⟩;refine(callsIn_wide.2<|Kh _ n n _ wr ab ay bc.2).mono ?_;rintro e w2 ⟨C,c,rfl,kY,hC1,hC2,Xq,S1,b2⟩;let⟨fn,tmps,assign,body,hy,hR⟩:=hY k fg wr w2 C c oe hJ ay b2 hC1 hC2 kY Xq S1))
   refine⟨λh=>(by simp[Fence.wide]at h),hR.mono ?_⟩;rintro e W3 ⟨rfl,YQ,Oa,Rl⟩;have Tv:aC W3 W.heap.size n (λi=>((pl fg i:Nat):Int)):=by
    have h2:=bc.below b2 ay;let⟨⟨cs,g1,g2⟩,g3⟩:=h2;have Q5:=Rl.trans g1;refine⟨⟨cs,Q5,g2⟩,λi hi=>?_⟩;rw[cell_of_row _ _ _ _ _ _ Q5,<-cell_of_row w2 _ _ _ _ _ g1];exact g3 i hi
   have VL:W.heap.size<W3:=Tv.lt;let⟨aaU,aaV⟩:=wX DA oe;have hkN:k<(aS n).length:=(adc.1 oe).1;clear bc hJ hy hR b2;gi_wp2_with (refine⟨trivial,λh=>(by simp[Fence.wide]at h),?_⟩;refine(callsIn_wide.2<|Oy _ n n (pl fg) W3 ab (ac3 _) Tv).mono ?_;rintro e w4 ⟨rfl,g4,t4,b4⟩)
   by_cases PX:k+1<(aS n).length
   .obtain⟨u_,lZ⟩:∃x,(aS n)[k+1]?=some x:=⟨_,adp PX⟩;let⟨g,hg,qM⟩:=aaU u_ lZ;gi_roundg ((aS n).length-(k+1))
    case rel=>exact .inl ⟨k+1,u_,by rw[hg];rfl,ab,lZ,hs _ _ _ YQ t4 b4,by have:=t4.size;omega,(g4 g hg).congr λi hi=>by rw[qM i hi]⟩
    case measure=>omega
   .have hg:=aaV ab;have aa6:k+1=(aS n).length:=ab;rw[aa6]at YQ;gi_roundg 0
    case rel=>exact .inr ⟨by rw[hg];rfl,hs _ _ _ YQ t4 b4⟩
    case measure=>omega
  .gi_wp2
   go_end0
   exact⟨⟨_,rfl⟩,hJ⟩
end
structure nQ (B:Nat)(w w':World):Prop where
 os:w'.os=w.os
 tape:w'.tape=w.tape
 output:w'.output=w.output
 size:w.heap.size<=w'
 block:∀k,k<w.heap.size->(k<B\/B+2<k)->w'.heap[k]?=w.heap[k]?
def nQ.trans {a b c:World}(h:nQ B a b)(k:nQ B b c):nQ B a c:=
 ⟨k.os.trans h.os,k.tape.trans h.tape,k.output.trans h.output,ac6 h.size k.size,λi hi hB=>(k.block i (ac4 hi h.size) hB).trans<|h.block i hi hB⟩
def nQ.below (h:Below w w w'):nQ B w w':=⟨h.os,h.tape,h.output,h.size,λk hk _=>h.block k hk⟩
def nQ.but (t:ja (B+2) w w')(h:Below (B+2) w w'):nQ B w w':=⟨h.os,h.tape,h.output,h.size,λk hk hB=>t.block k hk ab⟩
def nQ.put (w:World)(o:Obj):nQ B w (w.putObj (B+1) o):=⟨rfl,rfl,rfl,by simp[World.putObj],λk hk hB=>World.putObj_heap_other ab⟩
def FQ {g:Operand}{ps:Array Tmp}{assign body:Code}{Q:Exit->Act->World->Prop}{a:Act}{m Bn:Nat}(h1:1<=m)(hg:a.eval g=.func (.func 198) #[] #[.pointer Bn])
  (hn:n<=6)(PR:Bn<w)(hc:w.cell? Bn=some (.int .i64 (n:Int)))(hps:ps.size=1)
  (I:Nat->World->Prop)(hI:∀k W1 W2,I k W1->nQ w.heap.size W1 W2->I k W2)(h0:I 0 w)(acH:Value->Act)
  (Rn:∀(l:Nat) (x:Value) (W:World) (K:Act->World->Prop),K (acH x) W->
   assign.wpIn (Fence.wide.inRound l) (m-1-1) Tz.prog (Exit.then K λ_ _ _=>False) {tmps:=(ps.zip #[x]).foldl (λt (p,v)=>t.setIfInBounds p v) a.tmps,defers:=[]} W)
  (Y4:∀(l k:Nat) (fg:List Nat) (W0 W:World) (C c:Nat),(aS n)[k]?=some fg->I k W0->w.heap.size+2<W0->nQ w.heap.size W0 W->W0.heap.size<=C->C<W->n<=c->iE W C->aA W C 0 n (λi=>((pl fg i:Nat):Int))->
   body.wpIn (Fence.wide.inRound l) (m-1-1) Tz.prog (λe _ W'=>e=.normal/\I (k+1) W'/\W.heap.size<=W'.heap.size/\∀b,w.heap.size<=b->b<=w+2->W'.heap[b]?=W.heap[b]?) (acH<|.slice C n c) W)
  (Zf:∀(D:Nat) (W:World),w.heap.size<=D->I (aS n).length W->W.heap[D]?=some (.deferred<|some [])->Q .normal {a with defers:={target:=.collected D,args:=#[]}::a.defers} W):
  (Code.rangeFunc g ps assign body).wpIn Fence.wide m Tz.prog Q a w:=by
 refine wpIn_rangeFunc ?_;intro fn sJ;show _;obtain⟨rec,Ej⟩:∃rec:LoopState->Option Code->Loop,rec=λst pe=>{state:=st,pending:=pe,fn,tmps:=a.tmps,params:=ps,assign,body,defers:=w.heap.size}:=⟨_,rfl⟩
 obtain⟨W1,xy⟩:∃W1,(w.alloc<|.deferred<|some []).alloc (.loop<|rec .ready none)=W1:=⟨_,rfl⟩;have hL1:W1.heap[w.heap.size+1]?=some (.loop<|rec .ready none):=by
  rw[<-xy];have:=World.alloc_heap_new (w.alloc<|.deferred<|some [])<|.loop<|rec .ready none;rwa [acZ]at this
 have S2:W1.heap[w.heap.size]?=some (.deferred<|some []):=by
  rw[<-xy];exact(acV _ _ _ aG).trans<|World.alloc_heap_new w _
 have bI:Below w w W1:=by
  rw[<-xy];exact((acU _ w).alloc (ac3 _) _).alloc aG _
 have eG:W1.heap.size=w.heap.size+2:=by rw[<-xy];simp
 refine⟨w.heap.size+1,[{target:=.collected w.heap.size,args:=#[]}],W1,{target:=.fn (.func 198) #[.pointer Bn],args:=#[.func (.yield<|w.heap.size+1) #[] #[]]},W1,198,
  #[.func (.yield<|w.heap.size + 1) #[] #[]] ++ #[.pointer Bn], W1, ?_, ?_, ?_, ?_, fun _ => h1, ?_⟩
 .rw[<-xy,Ej];exact run_enterLoop_outer _ _ _ _ _
 .simp only[resolve,hg];simp[go_sem]
 .intro f' NH;trivial
 .simp[invoke,go_sem]
 .have de:=CU (m-1) Bn n (w.heap.size+1) (λk W=>I k W/\W.heap[w.heap.size+1]?=some (.loop<|rec .ready none)/\W.heap[w.heap.size]?=some (.deferred<|some []))
   W1 hn ab ((bI.cell (p:=Bn) PR).trans hc) ?_ ?_ ?_
  .refine de.mono ?_;rintro e W2 ⟨⟨v,rfl⟩,hi,hl,hk⟩;exact⟨none,_,by have:=run_endLoop (P:=Tz.prog) hl (by rw[Ej];simp);rw[Ej]at this;exact this,Zf _ _ (ac3 _) (hI _ _ _ hi<|nQ.put _ _)<|(World.putObj_heap_other ab).trans hk⟩
  .intro W' hb ay;exact⟨hI _ _ _ h0<|(nQ.below bI).trans<|nQ.below hb,(hb.block _ ab).trans hL1,(hb.block _ ab).trans S2⟩
  .rintro k Wa Wb ⟨hi,hl,hk⟩ ht hb;rw[eG]at ht hb;have z1:=(ac5.1 hl).1;exact⟨hI _ _ _ hi<|nQ.but ht hb,(ht.block _ ab ab).trans hl,(ht.block _ ab ab).trans hk⟩
  .rintro k fg W0 W C c oe ⟨hi,hl,hk⟩ ay hb hC Xp NC Xq S1;rw[eG]at ay;replace hl:=(hb.block _ ab).trans hl;replace hk:=(hb.block _ ab).trans hk;have ZA:w.heap.size+1<W:=ab;have hy:=run_yield (P:=Tz.prog) (args:=#[.slice C n c]) hl (by rw[Ej];simp[hps]);rw[Ej]at hy;refine⟨fn,_,assign,body,hy,roundIn_of_wpIn sJ<|Rn _ _ W _ ⟨_,run_beginRound hl<|by rw[Ej],?_⟩⟩;have PY:(W.putObj (w.heap.size+1)<|.loop {rec .ready none with state:=.busy}).heap[w.heap.size+1]?=some (.loop {rec .ready none with state:=.busy}):=World.putObj_heap_same ZA;have od:(W.putObj (w.heap.size+1)<|.loop {rec .ready none with state:=.busy}).heap[w.heap.size]?=some (.deferred<|some []):=(World.putObj_heap_other ab).trans hk;have hT2:(W.putObj (w.heap.size+1)<|.loop {rec .ready none with state:=.busy}).heap[w.heap.size+2]?=W.heap[w.heap.size+2]?:=World.putObj_heap_other ab;have ab6:w.heap.size+1≠C:=ab;have hC2:(W.putObj (w.heap.size+1)<|.loop {rec .ready none with state:=.busy}).heap[C]?=W.heap[C]?:=World.putObj_heap_other ab;have Mb:(W.putObj (w.heap.size+1)<|.loop {rec .ready none with state:=.busy}).heap.size=W.heap.size:=by simp[World.putObj]
   refine wpIn_mono (Y4 _ k fg W0 _ C c oe hi ab ((nQ.below hb).trans<|nQ.put _ _) hC (by rw[Mb];exact Xp) NC (by let⟨cs,g1,g2⟩:=Xq;exact⟨cs,hC2.trans g1,g2⟩) (λi hi=>by have:=S1 i hi;simp only[World.cell?,hC2]at this⊢;exact this)) ?_;rintro e a3 W3 ⟨rfl,hi3,Oa,Zt⟩;have hl3:=(Zt (w.heap.size+1) ab ab).trans PY;have hr:=run_endRound (P:=Tz.prog) none hl3;rw[Ej]at hr;have hz4:W.heap.size<=W3:=ac6 (Nat.le_of_eq Mb.symm) Oa;have VL:w.heap.size+1<W3:=ab;refine⟨_,_,hr,rfl,⟨hI _ _ _ hi3<|nQ.put _ _,?_,?_⟩,?_,?_⟩
   .rw[World.putObj_heap_same VL,Ej];rfl
   .exact(World.putObj_heap_other ab).trans ((Zt _ ab ab).trans od)
   .simp only[World.putObj,Array.size_setIfInBounds];exact hz4
   .rw[eG];exact(World.putObj_heap_other ab).trans<|(Zt _ ab ab).trans hT2
section
variable {W W':World}{b lo C c k BN:Nat}{cf:List Value}{L:List (List Nat)}{fg l:List Nat}{v:Value}
attribute [local go_sem] Oper.semAt_some
def iD (W:World)(n lo:Nat)(cf:List Value)(L:List (List Nat)):Prop:=
 ∀(i:Nat) (fg:List Nat),L[i]?=some fg->∃tb tc,cf[i]?=some (Value.slice (some ⟨tb,0,none⟩) n tc)/\n<=tc/\lo<=tb/\iE W tb/\aA W tb 0 n (λi=>((pl fg i:Nat):Int))
def iE.lt (h:iE W b):b<W:=by let⟨cs,h1,_⟩:=h;exact(ac5.1 h1).1
def iE.same (h:iE W b)(e:W'.heap[b]?=W.heap[b]?):iE W' b:=by let⟨cs,h1,h2⟩:=h;exact⟨cs,e.trans h1,h2⟩
def iD.same (h:iD W n lo cf L)(e:∀b,lo<=b->iE W b->W'.heap[b]?=W.heap[b]?):iD W' n lo cf L:=λi fg hi=>by
 let⟨tb,tc,h1,h2,h3,h4,h5⟩:=h i fg hi;exact⟨tb,tc,h1,h2,h3,h4.same<|e tb h3 h4,h5.same<|e tb h3 h4⟩
def iD.low {K1:Nat}(h:iD W n lo cf L)(hl:K1<=lo):iD W n K1 cf L:=λi fg hi=>by
 let⟨tb,tc,h1,h2,h3,h4⟩:=h i fg hi;exact⟨tb,tc,h1,h2,ac6 hl h3,h4⟩
def iD.snoc (h:iD W n lo cf L)(hl:cf.length=L.length)(h2:n<=c)(h3:lo<=C)(h4:iE W C)(h5:aA W C 0 n (λi=>((pl fg i:Nat):Int))):
  iD W n lo (cf++[.slice C n c]) (L++[fg]):=λi l hi=>by
 by_cases ay:i<L.length
 .rw[adf ay]at hi;let⟨tb,tc,g1,g2⟩:=h i l hi;exact⟨tb,tc,by rw[adf ab];exact g1,g2⟩
 .rw[adg ab]at hi;have F1:i-L.length=0:=by
   have:=(adc.1 hi).1;simp at this;omega
  rw[F1]at hi;simp at hi;subst hi;exact⟨C,c,by rw[adg ab,hl,F1];rfl,h2,h3,h4,h5⟩
def CB (h:iE W b){base size:Nat}{xs:List Value}(hr:W.ownsRow base 183 size v k xs):some b≠v.ownBlock:=by
 let⟨cs,h1,_⟩:=h;rcases hr.2 with⟨rfl,_⟩|⟨g,cap,cur,rfl,_,Zn,_⟩
 .simp[Value.ownBlock]
 .intro e';obtain rfl:b=g:=by simpa[Value.ownBlock]using e'
  rw[h1]at Zn;simp at Zn
structure qk (W:World)(n lo BN:Nat)(L:List (List Nat)):Prop where
 ex:∃v cf,Boxed W BN 179 v/\W.ownsRow lo 183 1 v L.length cf/\iD W n lo cf L
def qk.same (h:qk W n lo BN L)(hN:W'.heap[BN]?=W.heap[BN]?)(e:∀b,lo<=b->b<W->W'.heap[b]?=W.heap[b]?):qk W' n lo BN L:=by
 let⟨v,cf,h1,h2,h3⟩:=h.ex;refine⟨v,cf,hN.trans h1,?_,h3.same λb hb hi=>e b hb hi.lt⟩;obtain⟨g1,g2|⟨g,cap,cur,rfl,g3,g4,g5⟩⟩:=h2
 .exact⟨g1,.inl g2⟩
 .exact⟨g1,.inr ⟨g,cap,cur,rfl,g3,(e g g3 (ac5.1 g4).1).trans g4,g5⟩⟩
def zF {w1:World}{v':Value}{tmp:Obj}(hv:Boxed W BN 179 v)(hr:W.ownsRow lo 183 1 v L.length cf)(iA:iD W n lo cf L)
  (h2:n<=c)(h3:lo<=C)(h4:iE W C)(h5:aA W C 0 n (λi=>((pl fg i:Nat):Int)))
  (bc:w1.ownsRow lo 183 1 v' (L.length+1) (cf++[.slice C n c]))(hg:(W.alloc tmp).grownBy w1 v.ownBlock):
  Boxed w1 BN 179 v/\qk (w1.setCell BN v') n lo BN (L++[fg])/\(∀b,b<W.heap.size->b≠BN->some b≠v.ownBlock->(w1.setCell BN v').heap[b]?=W.heap[b]?)/\W.heap.size<=(w1.setCell BN v').heap.size:=by
 have hte:(179:TypeId)≠183:=bd;have P5:Boxed w1 BN 179 v:=(hv.alloc tmp).kept hg<|hv.not_row hte hr;have lg:∀b,b<W.heap.size->b≠BN->some b≠v.ownBlock->(w1.setCell BN v').heap[b]?=W.heap[b]?:=λb hb hne ho=>by
  rw[acW _ _ _ b hne,hg.block b cH ho];exact acV _ _ _ hb
 refine⟨P5,⟨v',cf++[.slice C n c],P5.set v',?_,?_⟩,lg,?_⟩
 .rw[List.length_append];exact bc.kept (grownBy_setCell' w1 BN v')<|.inr (P5.not_row hte bc).symm
 .have hk:∀b,iE W b->(w1.setCell BN v').heap[b]?=W.heap[b]?:=λb hb=>by
   refine lg b hb.lt (λe=>?_)<|CB hb hr;let⟨cs,g1,_⟩:=hb;rw[e,show W.heap[BN]?=_ from hv]at g1;simp at g1
  have hl:cf.length=L.length:=by have:=hr.1;omega
  exact(iA.same λb _ hb=>hk b hb).snoc hl h2 h3 (h4.same<|hk C h4)<|h5.same<|hk C h4
 .have:=hg.size;simp at this⊢;omega
def uN (p:List Nat->Bool){A:List (List Nat)}(h:A[k]?=some l):(A.take<|k+1).filter p=(A.take k).filter p++(if p l then[l]else[]):=by
 rw[List.take_add_one,h,List.filter_append];simp[List.filter_cons]
def uM {f:FuncId}{args:Array Value}{R:Ending->World->Prop}(h:Calls P f args w R):∃e w',R e w':=by
 let⟨e,w',fr,hR,_⟩:=h [];exact⟨e,w',hR⟩
def Lq {cap b' cap':Nat}{g h:Nat->Int}{r:Int}(hr:eH g h n r)(hn:n<=1048576)(bz:b<W)(am:aA W b 0 n g)(rP:jc g n n)(bu:b'<W)(aP:aA W b' 0 n h)(xL:jc h n n)(x:ai W):
  Calls Tz.prog 164 #[.slice b n cap,.slice b' n cap'] x.at_ λe w'=>e=.returned r/\Below x.at_ x.at_ w':=by
 have hb:=x.below;refine(qZ b 0 n cap b' 0 cap' g h x.at_ hn (ac4 bz hb.size) (am.below hb bz) rP (ac4 bu hb.size) (aP.below hb bu) xL).mono ?_;rintro e w' ⟨⟨s,rfl,hs⟩,h2⟩;exact⟨by rw[hs.unique hr],h2⟩
def I_ (h:l∈aS n):jc (λi=>((pl l i:Nat):Int)) n n:=
 ⟨λi hi=>by have:=(gj h).2.1 i hi;dsimp only;omega,λi j kq hj=>by have:=(gj h).2.2 i j kq hj;dsimp only;omega⟩
def Hd:Tz.prog.underlying 179=some (.slice 183):=bj
def Er:(Tz.prog.info? 183).map (λi=>(i.size,i.bytes,i.zero))=some (1,24,some<|.slice none 0 0):=bj
def Ow (b off n cap:Nat)(f:Nat->Mv)(shift:Int)(w:World)(hm:az f n=true)(bz:b<w)(am:aJ w b off n f)(p:List Nat->Bool)
  (hp:∀g,dr f n g->∀l∈aS n,∀r,eH (λi=>((pl l i:Nat):Int)) (λi=>((g i:Nat):Int)) n r->(p l=true<->r<=shift)):
  Calls Tz.prog 140 #[.slice (some ⟨b,off,none⟩) n cap,shift] w λe w'=>(∃v cf,e=.returned v/\w'.ownsRow w.heap.size 183 1 v ((aS n).filter p).length cf/\iD w' n w.heap.size cf ((aS n).filter p))/\Below w w w':=by
 have h6:=bP hm;have hn:n<=1048576:=ab;have lY:∀o1,Below w w (w.alloc o1):=λo1=>(acU _ w).alloc (ac3 _) _
 refine(callsIn_wide (n:=9)).1 ?_;refine callsIn_of_wp_marks Tz.func140 rfl trivial ?_ rfl;simp only[Tryz.ntmps140,List.size_toArray,List.length_cons,List.length_nil,Nat.reduceAdd,Nat.reduceSub,Array.replicate_succ,Array.replicate_zero,List.push_toArray,List.append_toArray,List.nil_append,List.cons_append];gi_wp2_with (first|(refine⟨trivial,?_⟩;refine(callsIn_wide.2<|zv _ _ _ _ f _ hn cH<|am.below (lY _) bz).mono ?_;rintro e w1 ⟨⟨g,B,Gx,hg,oa,rfl,sv⟩,b1⟩)|(refine⟨trivial,?_⟩;refine(callsIn_wide.2<|Hz _ _).mono ?_;rintro e w' ⟨rfl,rfl⟩))
 have eG:w.heap.size+1<=w1:=by have:=b1.size;simpa using this
 have GS:Below w w w1:=(lY _).trans<|b1.mono aG;have GQ:=sv.lt;obtain⟨WS,Vi⟩:∃WS,((w1.alloc<|.cells #[.slice (some ⟨B,0,none⟩) n Gx] 183).alloc<|.cells #[.slice none 0 0] 179).alloc (.cells #[.int .i64 (n:Int)] 3)=WS:=⟨_,rfl⟩;have hL:Below w1 w1 WS:=Vi▸(((acU _ w1).alloc (ac3 _) _).alloc aG _).alloc cH _;have hzS:WS.heap.size=w1.heap.size+3:=by rw[<-Vi];simp
 have c0:w1.cell? w.heap.size=some (.int .i64 shift):=(b1.cell (p:=w.heap.size) aG).trans aG;have cS:WS.cell? w.heap.size=some (.int .i64 shift):=(hL.cell (p:=w.heap.size) cH).trans c0;have cF:WS.cell? w1.heap.size=some (.slice B n Gx):=by rw[<-Vi];simp[go_sem]
 have cN:Boxed WS (w1.heap.size+1) 179 ():=by
  have h1:Boxed ((w1.alloc<|.cells #[.slice B n Gx] 183).alloc<|.cells #[()] 179) (w1.heap.size+1) 179 ():=by
   have:=Boxed.new (w1.alloc<|.cells #[.slice B n Gx] 183) 179 ();simpa using this
  rw[<-Vi];exact h1.alloc _
 have cL:WS.cell? ⟨w1.heap.size+1+1,0,none⟩=some (.int .i64 (n:Int)):=by rw[<-Vi];simp[go_sem]
 have abz:=sv.below hL GQ;have aaJ:Below w w WS:=GS.trans<|hL.mono GS.size;rw[Vi];clear Vi c0 hL sv;refine FQ (Bn:=w1.heap.size+1+1) (n:=n) ab rfl h6 ab cL rfl
  (λk W=>Below w w W/\ja (w1.heap.size+1) WS W/\qk W n (WS.heap.size+3) (w1.heap.size+1) (((aS n).take k).filter p)) ?hI ?h0 ?a1 ?assign ?body ?done
 case hI=>
  rintro k W1 W2 ⟨i1,i2,i3⟩ hs;refine⟨⟨hs.os.trans i1.os,hs.tape.trans i1.tape,hs.output.trans i1.output,ac6 i1.size hs.size,λj hj=>(hs.block j (by have:=i1.size;omega) ab).trans<|i1.block j hj⟩,⟨ac6 i2.size hs.size,λj hj hne=>(hs.block j (by have:=i2.size;omega) ab).trans<|i2.block j hj hne⟩,i3.same (hs.block _ (by have:=i2.size;omega) ab) λb hb ay=>hs.block b ay ab⟩
 case h0=>exact⟨aaJ,ja.refl _ _,⟨.slice none 0 0,[],cN,World.ownsRow_nil _ _ _ _,λi fg hi=>by simp at hi⟩⟩
 case assign=>
  intro l x W K hK;gi_wp2
  exact hK
 case body=>
  rintro l k fg W0 W C c oe ⟨i1,i2,i3⟩ ay N0 hC Xp NC Xq S1;have pJ:fg∈aS n:=List.mem_of_getElem? oe;have j1:Below w w W:=⟨N0.os.trans i1.os,N0.tape.trans i1.tape,N0.output.trans i1.output,ac6 i1.size N0.size,λj hj=>(N0.block j (by have:=i1.size;omega) ab).trans<|i1.block j hj⟩;have j2:ja (w1.heap.size+1) WS W:=⟨ac6 i2.size N0.size,λj hj hne=>(N0.block j (by have:=i2.size;omega) ab).trans<|i2.block j hj hne⟩;have j3:qk W n (WS.heap.size+3) (w1.heap.size+1) (((aS n).take k).filter p):=i3.same (N0.block _ (by have:=i2.size;omega) ab) λb hb ay=>N0.block b ay ab
  clear i1 i2 i3;have VW:=j2.size;have dS:W.cell? w.heap.size=some (.int .i64 shift):=by have:=j2.block w.heap.size ab ab;simp only[World.cell?,this]at cS⊢;exact cS
  have dF:W.cell? w1.heap.size=some (.slice B n Gx):=by have:=j2.block w1.heap.size ab ab;simp only[World.cell?,this]at cF⊢;exact cF
  have OK:=abz.but j2 ab;have NR:=hg.ord;have Ei:=I_ pJ;obtain⟨r,hr⟩:∃r,eH (λi=>((pl fg i:Nat):Int)) (λi=>((g i:Nat):Int)) n r:=by
   let⟨e,w',⟨r,_,hr⟩,_⟩:=uM<|qZ C 0 n c B 0 Gx _ _ W hn Xp S1 Ei OK.lt OK.2 NR;exact⟨r,hr⟩
  have s9:=hp g hg fg pJ r hr;have HS:=λx=>Lq (cap:=c) (cap':=Gx) hr hn Xp S1 Ei OK.lt OK.2 NR x
  have hne:=aF W;have q0:=λx:ai W=>x.cell dS
  have q1:=λx:ai W=>x.cell dF
  have HR:Hid (p fg=true<->r<=shift):=s9;clear s9 hr NR Ei;by_cases hle:r<=shift
  .gi_wp2
   refine nt (oy _ _) bj bj bj ?_;repeat(go_big_quiet_step ((go_at_call 164;exact bw<|HS _)))
   refine wpQuiet_nil<|bL ?_;intro w2 cj;have hf:Hid (((aS n).take<|k+1).filter p=((aS n).take k).filter p++[fg]):=by
    rw[uN p oe,if_pos (HR.out.2 hle)];exact rfl
   rw[hzS]at j3;let⟨v,cf,m1,m2,m3⟩:=(j3.same (W':=w2) (cj.block _ ab) λb hb ay=>cj.block b ay).ex;have aaL:=S1.below cj Xp;have aaK:=Xq.below cj Xp;have hvc:=m1.cell;clear j3 Xq S1 hne q0 q1 HS dS dF OK;have acB:=cj.size;obtain⟨i0,hI,gE,eG,ga⟩:∃i0,Tz.prog.info? 183=some i0/\i0.zero=some (.slice none 0 0)/\i0.size=1/\i0.bytes=24:=by
    have h:=Er;cases hI:Tz.prog.info? 183 with
    |none=>rw[hI]at h;simp at h
    |some i0=>rw[hI]at h;simp only[Option.map_some,Option.some.injEq,Prod.mk.injEq]at h;exact⟨i0,rfl,h.2.2,h.1,h.2.1⟩
   have hlen:(((aS n).take k).filter p).length<=720:=ac6 (List.length_filter_le _ _) (by have:=(jE n h6).1;simp;omega);gi_wp2_with (
    refine wpListIn_append_own _ rfl (.tmp 19) (.tmp 21) 179 rfl (w1.heap.size+3+3) 183 i0 () 1 24 Hd hI gE eG ga rfl bd v (((aS n).take k).filter p).length cf bD (m2.alloc _) _ 1 1 [.slice C n c] bD rfl (fN<|heap_alloc_new w2 _) t9 ie ab cH ?_;intro v' w3 pZ we Tt;obtain⟨G,gc,rfl⟩:=ownsRow_succ pZ;let⟨o1,o2,o3,o4⟩:=zF m1 m2 m3 NC ab aaK aaL pZ we;have acx:=o1.cell;have acy:=o1.frozen)
   have hob:∀b,b<w1.heap.size+3+3->some b≠v.ownBlock:=λb hb e=>by have:=iq m2 b e.symm;omega
   have acA:=j1.size;have o5:w2.heap.size<=w3:=by have:=we.size;simp at this;omega
   refine⟨⟨⟨we.os.trans<|cj.os.trans j1.os,we.tape.trans<|cj.tape.trans j1.tape,we.output.trans<|cj.output.trans j1.output,ab,λb hb=>(o3 b ab ab<|hob b ab).trans<|(cj.block b ab).trans<|j1.block b hb⟩,
    ⟨ab,λb hb hne=>(o3 b ab hne<|hob b ab).trans<|(cj.block b ab).trans<|j2.block b hb hne⟩,?_⟩,ab,λb h1 h2=>(o3 b ab ab<|hob b ab).trans<|cj.block b ab⟩
   rw[hf.out];exact o2
  .gi_wp2
   refine nt (oy _ _) bj bj bj ?_;repeat(go_big_quiet_step ((go_at_call 164;exact bw<|HS _)))
   refine wpQuiet_nil<|bL ?_;intro w2 cj;have hf:Hid (((aS n).take<|k+1).filter p=((aS n).take k).filter p):=by
    rw[uN p oe,if_neg (λh=>by have:=HR.out.1 h;omega)];exact List.append_nil _
   gi_wp2
   rw[hzS]at j3;refine⟨⟨j1.trans<|cj.mono j1.size,j2.trans<|ja.of cj,?_⟩,cj.size,λb h1 h2=>cj.block b ab⟩;rw[hf.out];exact j3.same (cj.block _ ab) λb hb ay=>cj.block b ay
 case done=>
  rintro D W hD ⟨i1,i2,i3⟩ hK;rw[List.take_length]at i3;let⟨v,cf,j1,j2,j3⟩:=i3.ex;have cv:=j1.cell;gi_wp2
  refine⟨aG,.inl ⟨_,_,rfl,run_takeDeferred hK,?_⟩⟩;refine⟨v,?_,⟨v,cf,rfl,iQ (ownsRow_putObj j2 _ hK rfl) ab,?_⟩,i1.trans<|belowK_b (w:=w) (ac3 _) W D _ _ ab hK rfl rfl⟩
  .simp[results,Tryz.f140,go_sem]
  .refine(j3.same (W':=W.putObj D<|.deferred none) λb hb hi=>World.putObj_heap_other λe=>?_).low ab;let⟨cs,g1,_⟩:=hi;rw[e,hK]at g1;simp at g1
end
section
def aR:Tz.prog.underlying 23=some (.slice 31):=bj
def wY (b n cap:Nat)(g:Nat->Mv)(w:World)(hn:n<=1048576)(bz:b<w)(am:aJ w b 0 n g):
  Calls Tz.prog 110 #[.slice b n cap] w λe w'=>∃B c,e=.returned (.slice (some ⟨B,0,none⟩) n c)/\w'.ownsRow w.heap.size 31 6 (.slice (some ⟨B,0,none⟩) n c) n (aU g n)/\ce w' B/\Below w w w':=by
 let⟨i,hI,gE,eG,ga⟩:=eP;have bA:Below w w (w.alloc<|.cells #[] 31):=(acU _ _).alloc (ac3 _) _;have Rx:=Go.Lib.run_eql_slice_nil (P:=Tz.prog) w 23 31 b n cap 0 0 aR;have bc:(w.alloc<|.cells #[] 31).ownsRow w.heap.size 31 6 (.slice w.heap.size 0 0) 0 []:=World.ownsRow_made w #[] 0 (ac3 _) ie aG;have oh:uG (w.alloc<|.cells #[] 31) (.slice w.heap.size 0 0):=λB hB=>by
  simp only[Value.ownBlock,Option.some.injEq]at hB;subst hB;exact⟨#[],_,heap_alloc_new _ _,λv hv=>by simp at hv⟩
 let⟨v',w',hr,h2,h3,h4⟩:=run_append_own (P:=Tz.prog) (w.alloc<|.cells #[] 31) w.heap.size 23 23 31 i _ 6 56 aR hI gE eG ga rfl ab (.slice (some ⟨w.heap.size,0,none⟩) 0 0) 0 [] bc ⟨b,0,none⟩ n cap (aU g n) (bq g n) (dZ<|am.below bA bz) (eR g n) ie ab aG;have h5:=qY (P:=Tz.prog) w.heap.size 23 23 31 i _ 6 56 aR hI gE eG ga rfl (.slice w.heap.size 0 0) 0 [] bc oh b n cap (aU g n) (bq g n) (dZ<|am.below bA bz) (eR g n) (yC g n) vn ie ab hr;simp only[Nat.zero_add,List.nil_append]at h2;obtain⟨B,c,rfl⟩:∃B c,v'=.slice (some ⟨B,0,none⟩) n c:=by
  rcases h2.2 with⟨e,_⟩|⟨g,cap,cur,e,_⟩
  .exact absurd (h4.1 e).1 aG
  .exact⟨g,cap,e⟩
 have hB:Below w w w':=bA.grown h3 bA.size λq hq=>Gu;go_enter Tz.func110,Tryz.ntmps110
 go_wp2_with(refine wpList_append_run rfl (.tmp 5) (.tmp 6) 23 rfl _ _ bD bD hr ?_)
 go_ret;exact⟨B,c,rfl,h2,h5 B rfl,hB⟩
