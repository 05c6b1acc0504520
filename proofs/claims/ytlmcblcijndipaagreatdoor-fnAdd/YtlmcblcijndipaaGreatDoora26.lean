import Derived.Test.YtlmcblcijndipaaGreatDoora08c
import Derived.Test.YtlmcblcijndipaaGreatDoora25
import Derived.Test.YtlmcblcijndipaaGreatDoora16d
import Derived.Sort.LoopGhostIn
import Derived.RangeFuncBox
set_option linter.defProp false
set_option maxHeartbeats 4000000
set_option maxRecDepth 100000
namespace Go.Proofs.YtlmcblcijndipaaGreatDoor
open Go.RowKit Go.Shelf RowKit
variable {B n:Nat}{P:Program}{w w':World}
section
attribute [local go_sem] Oper.semAt_some
set_option linter.unusedVariables false
def ZE (n:Nat)(hn:n<=1048576)(w:World):
  (Instr.makeSlice 183 (.int .i64 (n:Int)) (.int .i64 (n:Int))).run Tz.prog w=.ok (.slice w.heap.size n n) (w.alloc<|.cells (madeCells #[(0:Int)] n) 3):=by
 have hi:=nf;cases hI:Tz.prog.info? 3 with
 |none=>rw[hI]at hi;simp at hi
 |some i=>
  rw[hI]at hi;simp only[Option.map_some,Option.some.injEq,Prod.mk.injEq]at hi;let⟨h6,XS,hz⟩:=hi;have:=run_make (P:=Tz.prog) w 183 3 i _ lV hI hz .i64 .i64 n n aa aa (by rw[XS];omega) aa;rw[h6]at this;simpa[Value.cells]using this
def ZB (n:Nat)(w:World)(hn:n<=1048576):
  Calls Tz.prog 146 #[.int .i64 (n:Int)] w λe w'=>e=.returned (.slice w.heap.size n n)/\aC w' w.heap.size n (λi=>(i:Int))/\Below w w w':=by
 have O6:=ZE n hn;go_enter Tz.func146,Tryz.ntmps146
 go_wp2;go_loopw [9] (λi w'=>∃k:Nat,k<=n/\i=.int .i64 k/\aC w' w.heap.size n (λi=>if i<k then(i:Int)else 0)/\Below w w w') (λi _=>n-(intOf i).toNat)
 case atStart=>exact⟨0,ada _,rfl,(ng w n).congr λi hi=>aF,(acW _ _).alloc (ac5 _) _⟩
 case round=>
  obtain⟨k,hk,rfl,bc,hB⟩:=hrel;by_cases aB:k<n
  .have dr:(k:Int)<n:=by omega
   have hd:=bc.cellAt k aB;have IC:=bc.frozen k;go_wp2;go_roundw
   case rel=>exact⟨k+1,aa,by go_num,(bc.set k aB (k:Int)).congr (λi hi=>by
    by_cases e:i=k
    .subst e;simp
    .simp only[if_neg e];by_cases h:i<k
     .rw[if_pos h,if_pos aa]
     .rw[if_neg h,if_neg aa]),hB.setCell aF _⟩
   case measure=>exact cI
  .go_wp2;go_ret;exact⟨rfl,bc.congr λi hi=>by rw[if_pos aa],hB⟩
def G9 (n:Int)(w:World):
  Calls Tz.prog 163 #[n] w λe w'=>e=.returned (.func (.func 198) #[] #[.pointer w.heap.size])/\w'=w.alloc (.cells #[n] 3):=by
 go_enter Tz.func163,Tryz.ntmps163
 go_wp2;go_ret;exact⟨rfl,rfl⟩
def CD (m Bn n l:Nat)(J:Nat->World->Prop)(W:World)(hn:n<=6)(O1:Bn<W)(hc:W.cell? Bn=some (.int .i64 (n:Int)))
  (h0:∀W',Below W W W'->W.heap.size<W'.heap.size->J 0 W')
  (hs:∀k W1 W2,J k W1->fH W.heap.size W1 W2->Below W W1 W2->J k W2)
  (hY:∀k fg W0 W1 C c,(aQ n)[k]?=some fg->J k W0->W.heap.size<W0.heap.size->Below W0.heap.size W0 W1->W0.heap.size<=C->C<W1.heap.size->n<=c->iA W1 C->aA W1 C 0 n (λi=>((pl fg i:Nat):Int))->
   YieldAt Fence.wide (m-1) Tz.prog l #[.slice C n c] W1 λe W'=>e=.returned true/\J (k+1) W'/\W1.heap.size<=W'.heap.size/\W'.heap[W.heap.size]?=W1.heap[W.heap.size]?):
  CallsIn Fence.wide m Tz.prog 198 #[.func (.yield l) #[] #[],.pointer Bn] W λe W'=>(∃v,e=.returned v)/\J (aQ n).length W':=by
 let⟨hN,hN0⟩:=jI n hn;let⟨l0,hl0,aa1⟩:=FV n hn;have Db:=LY hn;refine callsIn_of_wp Tz.func198 rfl trivial ?_ rfl;simp only[Tryz.ntmps198,List.size_toArray,List.length_cons,List.length_nil,Nat.reduceAdd,Nat.reduceSub,Array.replicate_succ,Array.replicate_zero,List.push_toArray,List.append_toArray,List.nil_append,List.cons_append];gi_wp2_with (refine⟨trivial,λh=>(by simp[Fence.wide]at h),?_⟩;refine(callsIn_wide.2<|ZB n W aa).mono ?_;rintro e w1 ⟨rfl,rR,b1⟩)
 gi_loopg [4] (aQ n).length (λr v wr=>(∃k fg,v=true/\r+k=(aQ n).length/\(aQ n)[k]?=some fg/\J k wr/\W.heap.size<wr.heap.size/\aC wr W.heap.size n (λi=>((pl fg i:Nat):Int)))\/(v=false/\J (aQ n).length wr))
 case atStart=>exact .inl ⟨0,l0,rfl,rfl,hl0,h0 _ b1 rR.lt,rR.lt,rR.congr λi hi=>by rw[aa1 i hi]⟩
 case round=>
  rcases hrel with⟨k,fg,rfl,hrk,nU,hJ,aB,bc⟩|⟨rfl,hJ⟩
  .gi_wp2_with (first|(refine⟨trivial,λh=>(by simp[Fence.wide]at h),?_⟩;refine(callsIn_wide.2<|JI _ n n _ wr aa aB bc.2).mono ?_;rintro e w2 ⟨C,c,rfl,kq,hC1,L_,Wd,R8,b2⟩;let⟨fn,tmps,assign,body,hy,hR⟩:=hY k fg wr w2 C c nU hJ aB b2 hC1 L_ kq Wd R8))
   refine⟨λh=>(by simp[Fence.wide]at h),hR.mono ?_⟩;rintro e W3 ⟨rfl,XY,Nj,Qi⟩;have Sv:aC W3 W.heap.size n (λi=>((pl fg i:Nat):Int)):=by
    have h2:=bc.below b2 aB;let⟨⟨cs,g1,g2⟩,g3⟩:=h2;have P8:=Qi.trans g1;refine⟨⟨cs,P8,g2⟩,λi hi=>?_⟩;rw[cell_of_row _ _ _ _ _ _ P8,<-cell_of_row w2 _ _ _ _ _ g1];exact g3 i hi
   have UM:W.heap.size<W3:=Sv.lt;let⟨aaN,aaO⟩:=wG Db nU;have hkN:k<(aQ n).length:=(adf.1 nU).1;clear bc hJ hy hR b2;gi_wp2_with (refine⟨trivial,λh=>(by simp[Fence.wide]at h),?_⟩;refine(callsIn_wide.2<|NF _ n n (pl fg) W3 aa (ac5 _) Sv).mono ?_;rintro e w4 ⟨rfl,g4,t4,b4⟩)
   by_cases Fx:k+1<(aQ n).length
   .obtain⟨ZC,mI⟩:∃x,(aQ n)[k+1]?=some x:=⟨_,adr Fx⟩;let⟨g,hg,qE⟩:=aaN ZC mI;gi_roundg ((aQ n).length-(k+1))
    case rel=>exact .inl ⟨k+1,ZC,by rw[hg];rfl,aa,mI,hs _ _ _ XY t4 b4,by have:=t4.size;omega,(g4 g hg).congr λi hi=>by rw[qE i hi]⟩
    case measure=>omega
   .have hg:=aaO aa;have aaZ:k+1=(aQ n).length:=aa;rw[aaZ]at XY;gi_roundg 0
    case rel=>exact .inr ⟨by rw[hg];rfl,hs _ _ _ XY t4 b4⟩
    case measure=>omega
  .gi_wp2
   go_end0
   exact⟨⟨_,rfl⟩,hJ⟩
end
structure nF (B:Nat)(w w':World):Prop where
 os:w'.os=w.os
 tape:w'.tape=w.tape
 output:w'.output=w.output
 size:w.heap.size<=w'
 block:∀k,k<w.heap.size->(k<B\/B+2<k)->w'.heap[k]?=w.heap[k]?
def nF.trans {a b c:World}(h:nF B a b)(k:nF B b c):nF B a c:=
 ⟨k.os.trans h.os,k.tape.trans h.tape,k.output.trans h.output,ac8 h.size k.size,λi hi hB=>(k.block i (ac6 hi h.size) hB).trans<|h.block i hi hB⟩
def nF.below (h:Below w w w'):nF B w w':=⟨h.os,h.tape,h.output,h.size,λk hk _=>h.block k hk⟩
def nF.but (t:fH (B+2) w w')(h:Below (B+2) w w'):nF B w w':=⟨h.os,h.tape,h.output,h.size,λk hk hB=>t.block k hk aa⟩
def nF.put (w:World)(o:Obj):nF B w (w.putObj (B+1) o):=⟨rfl,rfl,rfl,by simp[World.putObj],λk hk hB=>World.putObj_heap_other aa⟩
def Fl {g:Operand}{ps:Array Tmp}{assign body:Code}{Q:Exit->Act->World->Prop}{a:Act}{m Bn:Nat}(h1:1<=m)(hg:a.eval g=.func (.func 198) #[] #[.pointer Bn])
  (hn:n<=6)(O1:Bn<w)(hc:w.cell? Bn=some (.int .i64 (n:Int)))(hps:ps.size=1)
  (I:Nat->World->Prop)(hI:∀k W1 W2,I k W1->nF w.heap.size W1 W2->I k W2)(h0:I 0 w)(acJ:Value->Act)
  (Qk:∀(l:Nat) (x:Value) (W:World) (K:Act->World->Prop),K (acJ x) W->
   assign.wpIn (Fence.wide.inRound l) (m-1-1) Tz.prog (Exit.then K λ_ _ _=>False) {tmps:=(ps.zip #[x]).foldl (λt (p,v)=>t.setIfInBounds p v) a.tmps,defers:=[]} W)
  (Yg:∀(l k:Nat) (fg:List Nat) (W0 W:World) (C c:Nat),(aQ n)[k]?=some fg->I k W0->w.heap.size+2<W0->nF w.heap.size W0 W->W0.heap.size<=C->C<W->n<=c->iA W C->aA W C 0 n (λi=>((pl fg i:Nat):Int))->
   body.wpIn (Fence.wide.inRound l) (m-1-1) Tz.prog (λe _ W'=>e=.normal/\I (k+1) W'/\W.heap.size<=W'.heap.size/\∀b,w.heap.size<=b->b<=w+2->W'.heap[b]?=W.heap[b]?) (acJ<|.slice C n c) W)
  (Yu:∀(D:Nat) (W:World),w.heap.size<=D->I (aQ n).length W->W.heap[D]?=some (.deferred<|some [])->Q .normal {a with defers:={target:=.collected D,args:=#[]}::a.defers} W):
  (Code.rangeFunc g ps assign body).wpIn Fence.wide m Tz.prog Q a w:=by
 refine wpIn_rangeFunc ?_;intro fn sz;show _;obtain⟨rec,DT⟩:∃rec:LoopState->Option Code->Loop,rec=λst pe=>{state:=st,pending:=pe,fn,tmps:=a.tmps,params:=ps,assign,body,defers:=w.heap.size}:=⟨_,rfl⟩
 obtain⟨W1,wX⟩:∃W1,(w.alloc<|.deferred<|some []).alloc (.loop<|rec .ready none)=W1:=⟨_,rfl⟩;have hL1:W1.heap[w.heap.size+1]?=some (.loop<|rec .ready none):=by
  rw[<-wX];have:=World.alloc_heap_new (w.alloc<|.deferred<|some [])<|.loop<|rec .ready none;rwa [ac1]at this
 have Sa:W1.heap[w.heap.size]?=some (.deferred<|some []):=by
  rw[<-wX];exact(acX _ _ _ aF).trans<|World.alloc_heap_new w _
 have bP:Below w w W1:=by
  rw[<-wX];exact((acW _ w).alloc (ac5 _) _).alloc aF _
 have eO:W1.heap.size=w.heap.size+2:=by rw[<-wX];simp
 refine⟨w.heap.size+1,[{target:=.collected w.heap.size,args:=#[]}],W1,{target:=.fn (.func 198) #[.pointer Bn],args:=#[.func (.yield<|w.heap.size+1) #[] #[]]},W1,198,
  #[.func (.yield<|w.heap.size + 1) #[] #[]] ++ #[.pointer Bn], W1, ?_, ?_, ?_, ?_, fun _ => h1, ?_⟩
 .rw[<-wX,DT];exact run_enterLoop_outer _ _ _ _ _
 .simp only[resolve,hg];simp[go_sem]
 .intro f' J7;trivial
 .simp[invoke,go_sem]
 .have dz:=CD (m-1) Bn n (w.heap.size+1) (λk W=>I k W/\W.heap[w.heap.size+1]?=some (.loop<|rec .ready none)/\W.heap[w.heap.size]?=some (.deferred<|some []))
   W1 hn aa ((bP.cell (p:=Bn) O1).trans hc) ?_ ?_ ?_
  .refine dz.mono ?_;rintro e W2 ⟨⟨v,rfl⟩,hi,hl,hk⟩;exact⟨none,_,by have:=run_endLoop (P:=Tz.prog) hl (by rw[DT];simp);rw[DT]at this;exact this,Yu _ _ (ac5 _) (hI _ _ _ hi<|nF.put _ _)<|(World.putObj_heap_other aa).trans hk⟩
  .intro W' hb aB;exact⟨hI _ _ _ h0<|(nF.below bP).trans<|nF.below hb,(hb.block _ aa).trans hL1,(hb.block _ aa).trans Sa⟩
  .rintro k Wa Wb ⟨hi,hl,hk⟩ ht hb;rw[eO]at ht hb;have z1:=(ac7.1 hl).1;exact⟨hI _ _ _ hi<|nF.but ht hb,(ht.block _ aa aa).trans hl,(ht.block _ aa aa).trans hk⟩
  .rintro k fg W0 W C c nU ⟨hi,hl,hk⟩ aB hb hC Wc MJ Wd R8;rw[eO]at aB;replace hl:=(hb.block _ aa).trans hl;replace hk:=(hb.block _ aa).trans hk;have YQ:w.heap.size+1<W:=aa;have hy:=run_yield (P:=Tz.prog) (args:=#[.slice C n c]) hl (by rw[DT];simp[hps]);rw[DT]at hy;refine⟨fn,_,assign,body,hy,roundIn_of_wpIn sz<|Qk _ _ W _ ⟨_,run_beginRound hl<|by rw[DT],?_⟩⟩;have O5:(W.putObj (w.heap.size+1)<|.loop {rec .ready none with state:=.busy}).heap[w.heap.size+1]?=some (.loop {rec .ready none with state:=.busy}):=World.putObj_heap_same YQ;have mY:(W.putObj (w.heap.size+1)<|.loop {rec .ready none with state:=.busy}).heap[w.heap.size]?=some (.deferred<|some []):=(World.putObj_heap_other aa).trans hk;have hT2:(W.putObj (w.heap.size+1)<|.loop {rec .ready none with state:=.busy}).heap[w.heap.size+2]?=W.heap[w.heap.size+2]?:=World.putObj_heap_other aa;have ab6:w.heap.size+1≠C:=aa;have L_:(W.putObj (w.heap.size+1)<|.loop {rec .ready none with state:=.busy}).heap[C]?=W.heap[C]?:=World.putObj_heap_other aa;have Kh:(W.putObj (w.heap.size+1)<|.loop {rec .ready none with state:=.busy}).heap.size=W.heap.size:=by simp[World.putObj]
   refine wpIn_mono (Yg _ k fg W0 _ C c nU hi aa ((nF.below hb).trans<|nF.put _ _) hC (by rw[Kh];exact Wc) MJ (by let⟨cs,g1,g2⟩:=Wd;exact⟨cs,L_.trans g1,g2⟩) (λi hi=>by have:=R8 i hi;simp only[World.cell?,L_]at this⊢;exact this)) ?_;rintro e a3 W3 ⟨rfl,hi3,Nj,YI⟩;have hl3:=(YI (w.heap.size+1) aa aa).trans O5;have hr:=run_endRound (P:=Tz.prog) none hl3;rw[DT]at hr;have hz4:W.heap.size<=W3:=ac8 (Nat.le_of_eq Kh.symm) Nj;have UM:w.heap.size+1<W3:=aa;refine⟨_,_,hr,rfl,⟨hI _ _ _ hi3<|nF.put _ _,?_,?_⟩,?_,?_⟩
   .rw[World.putObj_heap_same UM,DT];rfl
   .exact(World.putObj_heap_other aa).trans ((YI _ aa aa).trans mY)
   .simp only[World.putObj,Array.size_setIfInBounds];exact hz4
   .rw[eO];exact(World.putObj_heap_other aa).trans<|(YI _ aa aa).trans hT2
section
variable {W W':World}{b lo C c k BN:Nat}{cm:List Value}{L:List (List Nat)}{fg l:List Nat}{v:Value}
attribute [local go_sem] Oper.semAt_some
def iy (W:World)(n lo:Nat)(cm:List Value)(L:List (List Nat)):Prop:=
 ∀(i:Nat) (fg:List Nat),L[i]?=some fg->∃tb tc,cm[i]?=some (Value.slice (some ⟨tb,0,none⟩) n tc)/\n<=tc/\lo<=tb/\iA W tb/\aA W tb 0 n (λi=>((pl fg i:Nat):Int))
def iA.lt (h:iA W b):b<W:=by let⟨cs,h1,_⟩:=h;exact(ac7.1 h1).1
def iA.same (h:iA W b)(e:W'.heap[b]?=W.heap[b]?):iA W' b:=by let⟨cs,h1,h2⟩:=h;exact⟨cs,e.trans h1,h2⟩
def iy.same (h:iy W n lo cm L)(e:∀b,lo<=b->iA W b->W'.heap[b]?=W.heap[b]?):iy W' n lo cm L:=λi fg hi=>by
 let⟨tb,tc,h1,h2,h3,h4,h5⟩:=h i fg hi;exact⟨tb,tc,h1,h2,h3,h4.same<|e tb h3 h4,h5.same<|e tb h3 h4⟩
def iy.low {Cw:Nat}(h:iy W n lo cm L)(hl:Cw<=lo):iy W n Cw cm L:=λi fg hi=>by
 let⟨tb,tc,h1,h2,h3,h4⟩:=h i fg hi;exact⟨tb,tc,h1,h2,ac8 hl h3,h4⟩
def iy.snoc (h:iy W n lo cm L)(hl:cm.length=L.length)(h2:n<=c)(h3:lo<=C)(h4:iA W C)(h5:aA W C 0 n (λi=>((pl fg i:Nat):Int))):
  iy W n lo (cm++[.slice C n c]) (L++[fg]):=λi l hi=>by
 by_cases aB:i<L.length
 .rw[adh aB]at hi;let⟨tb,tc,g1,g2⟩:=h i l hi;exact⟨tb,tc,by rw[adh aa];exact g1,g2⟩
 .rw[adi aa]at hi;have Lj:i-L.length=0:=by
   have:=(adf.1 hi).1;simp at this;omega
  rw[Lj]at hi;simp at hi;subst hi;exact⟨C,c,by rw[adi aa,hl,Lj];rfl,h2,h3,h4,h5⟩
def Cq (h:iA W b){base size:Nat}{xs:List Value}(hr:W.ownsRow base 183 size v k xs):some b≠v.ownBlock:=by
 let⟨cs,h1,_⟩:=h;rcases hr.2 with⟨rfl,_⟩|⟨g,cap,cur,rfl,_,YC,_⟩
 .simp[Value.ownBlock]
 .intro e';obtain rfl:b=g:=by simpa[Value.ownBlock]using e'
  rw[h1]at YC;simp at YC
structure qe (W:World)(n lo BN:Nat)(L:List (List Nat)):Prop where
 ex:∃v cm,Boxed W BN 179 v/\W.ownsRow lo 183 1 v L.length cm/\iy W n lo cm L
def qe.same (h:qe W n lo BN L)(hN:W'.heap[BN]?=W.heap[BN]?)(e:∀b,lo<=b->b<W->W'.heap[b]?=W.heap[b]?):qe W' n lo BN L:=by
 let⟨v,cm,h1,h2,h3⟩:=h.ex;refine⟨v,cm,hN.trans h1,?_,h3.same λb hb hi=>e b hb hi.lt⟩;obtain⟨g1,g2|⟨g,cap,cur,rfl,g3,g4,g5⟩⟩:=h2
 .exact⟨g1,.inl g2⟩
 .exact⟨g1,.inr ⟨g,cap,cur,rfl,g3,(e g g3 (ac7.1 g4).1).trans g4,g5⟩⟩
def zu {w1:World}{v':Value}{tmp:Obj}(hv:Boxed W BN 179 v)(hr:W.ownsRow lo 183 1 v L.length cm)(iv:iy W n lo cm L)
  (h2:n<=c)(h3:lo<=C)(h4:iA W C)(h5:aA W C 0 n (λi=>((pl fg i:Nat):Int)))
  (bc:w1.ownsRow lo 183 1 v' (L.length+1) (cm++[.slice C n c]))(hg:(W.alloc tmp).grownBy w1 v.ownBlock):
  Boxed w1 BN 179 v/\qe (w1.setCell BN v') n lo BN (L++[fg])/\(∀b,b<W.heap.size->b≠BN->some b≠v.ownBlock->(w1.setCell BN v').heap[b]?=W.heap[b]?)/\W.heap.size<=(w1.setCell BN v').heap.size:=by
 have hte:(179:TypeId)≠183:=bF;have Kd:Boxed w1 BN 179 v:=(hv.alloc tmp).kept hg<|hv.not_row hte hr;have IN:∀b,b<W.heap.size->b≠BN->some b≠v.ownBlock->(w1.setCell BN v').heap[b]?=W.heap[b]?:=λb hb hne ho=>by
  rw[acY _ _ _ b hne,hg.block b cU ho];exact acX _ _ _ hb
 refine⟨Kd,⟨v',cm++[.slice C n c],Kd.set v',?_,?_⟩,IN,?_⟩
 .rw[List.length_append];exact bc.kept (grownBy_setCell' w1 BN v')<|.inr (Kd.not_row hte bc).symm
 .have hk:∀b,iA W b->(w1.setCell BN v').heap[b]?=W.heap[b]?:=λb hb=>by
   refine IN b hb.lt (λe=>?_)<|Cq hb hr;let⟨cs,g1,_⟩:=hb;rw[e,show W.heap[BN]?=_ from hv]at g1;simp at g1
  have hl:cm.length=L.length:=by have:=hr.1;omega
  exact(iv.same λb _ hb=>hk b hb).snoc hl h2 h3 (h4.same<|hk C h4)<|h5.same<|hk C h4
 .have:=hg.size;simp at this⊢;omega
def uA (p:List Nat->Bool){A:List (List Nat)}(h:A[k]?=some l):(A.take<|k+1).filter p=(A.take k).filter p++(if p l then[l]else[]):=by
 rw[List.take_add_one,h,List.filter_append];simp[List.filter_cons]
def uy {f:FuncId}{args:Array Value}{R:Ending->World->Prop}(h:Calls P f args w R):∃e w',R e w':=by
 let⟨e,w',fr,hR,_⟩:=h [];exact⟨e,w',hR⟩
def KJ {cap b' cap':Nat}{g h:Nat->Int}{r:Int}(hr:ew g h n r)(hn:n<=1048576)(bH:b<W)(aq:aA W b 0 n g)(rD:je g n n)(bI:b'<W)(aU:aA W b' 0 n h)(xq:je h n n)(x:ai W):
  Calls Tz.prog 164 #[.slice b n cap,.slice b' n cap'] x.at_ λe w'=>e=.returned r/\Below x.at_ x.at_ w':=by
 have hb:=x.below;refine(qS b 0 n cap b' 0 cap' g h x.at_ hn (ac6 bH hb.size) (aq.below hb bH) rD (ac6 bI hb.size) (aU.below hb bI) xq).mono ?_;rintro e w' ⟨⟨s,rfl,hs⟩,h2⟩;exact⟨by rw[hs.unique hr],h2⟩
def ZT (h:l∈aQ n):je (λi=>((pl l i:Nat):Int)) n n:=
 ⟨λi hi=>by have:=(gI h).2.1 i hi;dsimp only;omega,λi j lH hj=>by have:=(gI h).2.2 i j lH hj;dsimp only;omega⟩
def GN:Tz.prog.underlying 179=some (.slice 183):=bD
def D5:(Tz.prog.info? 183).map (λi=>(i.size,i.bytes,i.zero))=some (1,24,some<|.slice none 0 0):=bD
def NE (b off n cap:Nat)(f:Nat->Mv)(shift:Int)(w:World)(hm:aE f n=true)(bH:b<w)(aq:aI w b off n f)(p:List Nat->Bool)
  (hp:∀g,dt f n g->∀l∈aQ n,∀r,ew (λi=>((pl l i:Nat):Int)) (λi=>((g i:Nat):Int)) n r->(p l=true<->r<=shift)):
  Calls Tz.prog 140 #[.slice (some ⟨b,off,none⟩) n cap,shift] w λe w'=>(∃v cm,e=.returned v/\w'.ownsRow w.heap.size 183 1 v ((aQ n).filter p).length cm/\iy w' n w.heap.size cm ((aQ n).filter p))/\Below w w w':=by
 have h6:=bZ hm;have hn:n<=1048576:=aa;have mF:∀o1,Below w w (w.alloc o1):=λo1=>(acW _ w).alloc (ac5 _) _
 refine(callsIn_wide (n:=9)).1 ?_;refine callsIn_of_wp_marks Tz.func140 rfl trivial ?_ rfl;simp only[Tryz.ntmps140,List.size_toArray,List.length_cons,List.length_nil,Nat.reduceAdd,Nat.reduceSub,Array.replicate_succ,Array.replicate_zero,List.push_toArray,List.append_toArray,List.nil_append,List.cons_append];gi_wp2_with (first|(refine⟨trivial,?_⟩;refine(callsIn_wide.2<|zk _ _ _ _ f _ hn cU<|aq.below (mF _) bH).mono ?_;rintro e w1 ⟨⟨g,B,F6,hg,nQ,rfl,rR⟩,b1⟩)|(refine⟨trivial,?_⟩;refine(callsIn_wide.2<|G9 _ _).mono ?_;rintro e w' ⟨rfl,rfl⟩))
 have eO:w.heap.size+1<=w1:=by have:=b1.size;simpa using this
 have Gn:Below w w w1:=(mF _).trans<|b1.mono aF;have Gm:=rR.lt;obtain⟨WS,Uj⟩:∃WS,((w1.alloc<|.cells #[.slice (some ⟨B,0,none⟩) n F6] 183).alloc<|.cells #[.slice none 0 0] 179).alloc (.cells #[.int .i64 (n:Int)] 3)=WS:=⟨_,rfl⟩;have hL:Below w1 w1 WS:=Uj▸(((acW _ w1).alloc (ac5 _) _).alloc aF _).alloc cU _;have hzS:WS.heap.size=w1.heap.size+3:=by rw[<-Uj];simp
 have c0:w1.cell? w.heap.size=some (.int .i64 shift):=(b1.cell (p:=w.heap.size) aF).trans aF;have cS:WS.cell? w.heap.size=some (.int .i64 shift):=(hL.cell (p:=w.heap.size) cU).trans c0;have cF:WS.cell? w1.heap.size=some (.slice B n F6):=by rw[<-Uj];simp[go_sem]
 have cN:Boxed WS (w1.heap.size+1) 179 ():=by
  have h1:Boxed ((w1.alloc<|.cells #[.slice B n F6] 183).alloc<|.cells #[()] 179) (w1.heap.size+1) 179 ():=by
   have:=Boxed.new (w1.alloc<|.cells #[.slice B n F6] 183) 179 ();simpa using this
  rw[<-Uj];exact h1.alloc _
 have cL:WS.cell? ⟨w1.heap.size+1+1,0,none⟩=some (.int .i64 (n:Int)):=by rw[<-Uj];simp[go_sem]
 have abs:=rR.below hL Gm;have aay:Below w w WS:=Gn.trans<|hL.mono Gn.size;rw[Uj];clear Uj c0 hL rR;refine Fl (Bn:=w1.heap.size+1+1) (n:=n) aa rfl h6 aa cL rfl
  (λk W=>Below w w W/\fH (w1.heap.size+1) WS W/\qe W n (WS.heap.size+3) (w1.heap.size+1) (((aQ n).take k).filter p)) ?hI ?h0 ?a1 ?assign ?body ?done
 case hI=>
  rintro k W1 W2 ⟨i1,i2,i3⟩ hs;refine⟨⟨hs.os.trans i1.os,hs.tape.trans i1.tape,hs.output.trans i1.output,ac8 i1.size hs.size,λj hj=>(hs.block j (by have:=i1.size;omega) aa).trans<|i1.block j hj⟩,⟨ac8 i2.size hs.size,λj hj hne=>(hs.block j (by have:=i2.size;omega) aa).trans<|i2.block j hj hne⟩,i3.same (hs.block _ (by have:=i2.size;omega) aa) λb hb aB=>hs.block b aB aa⟩
 case h0=>exact⟨aay,fH.refl _ _,⟨.slice none 0 0,[],cN,World.ownsRow_nil _ _ _ _,λi fg hi=>by simp at hi⟩⟩
 case assign=>
  intro l x W K hK;gi_wp2
  exact hK
 case body=>
  rintro l k fg W0 W C c nU ⟨i1,i2,i3⟩ aB Nd hC Wc MJ Wd R8;have pG:fg∈aQ n:=List.mem_of_getElem? nU;have j1:Below w w W:=⟨Nd.os.trans i1.os,Nd.tape.trans i1.tape,Nd.output.trans i1.output,ac8 i1.size Nd.size,λj hj=>(Nd.block j (by have:=i1.size;omega) aa).trans<|i1.block j hj⟩;have j2:fH (w1.heap.size+1) WS W:=⟨ac8 i2.size Nd.size,λj hj hne=>(Nd.block j (by have:=i2.size;omega) aa).trans<|i2.block j hj hne⟩;have j3:qe W n (WS.heap.size+3) (w1.heap.size+1) (((aQ n).take k).filter p):=i3.same (Nd.block _ (by have:=i2.size;omega) aa) λb hb aB=>Nd.block b aB aa
  clear i1 i2 i3;have U1:=j2.size;have dS:W.cell? w.heap.size=some (.int .i64 shift):=by have:=j2.block w.heap.size aa aa;simp only[World.cell?,this]at cS⊢;exact cS
  have dF:W.cell? w1.heap.size=some (.slice B n F6):=by have:=j2.block w1.heap.size aa aa;simp only[World.cell?,this]at cF⊢;exact cF
  have NQ:=abs.but j2 aa;have MY:=hg.ord;have DR:=ZT pG;obtain⟨r,hr⟩:∃r,ew (λi=>((pl fg i:Nat):Int)) (λi=>((g i:Nat):Int)) n r:=by
   let⟨e,w',⟨r,_,hr⟩,_⟩:=uy<|qS C 0 n c B 0 F6 _ _ W hn Wc R8 DR NQ.lt NQ.2 MY;exact⟨r,hr⟩
  have qM:=hp g hg fg pG r hr;have HS:=λx=>KJ (cap:=c) (cap':=F6) hr hn Wc R8 DR NQ.lt NQ.2 MY x
  have hne:=aG W;have q0:=λx:ai W=>x.cell dS
  have q1:=λx:ai W=>x.cell dF
  have HR:Hid (p fg=true<->r<=shift):=qM;clear qM hr MY DR;by_cases hle:r<=shift
  .gi_wp2
   refine np (nZ _ _) bD bD bD ?_;repeat(go_big_quiet_step ((go_at_call 164;exact bT<|HS _)))
   refine wpQuiet_nil<|cf ?_;intro w2 cP;have hf:Hid (((aQ n).take<|k+1).filter p=((aQ n).take k).filter p++[fg]):=by
    rw[uA p nU,if_pos (HR.out.2 hle)];exact rfl
   rw[hzS]at j3;let⟨v,cm,m1,m2,m3⟩:=(j3.same (W':=w2) (cP.block _ aa) λb hb aB=>cP.block b aB).ex;have aaA:=R8.below cP Wc;have aaz:=Wd.below cP Wc;have hvc:=m1.cell;clear j3 Wd R8 hne q0 q1 HS dS dF NQ;have acC:=cP.size;obtain⟨i0,hI,gj,eO,gM⟩:∃i0,Tz.prog.info? 183=some i0/\i0.zero=some (.slice none 0 0)/\i0.size=1/\i0.bytes=24:=by
    have h:=D5;cases hI:Tz.prog.info? 183 with
    |none=>rw[hI]at h;simp at h
    |some i0=>rw[hI]at h;simp only[Option.map_some,Option.some.injEq,Prod.mk.injEq]at h;exact⟨i0,rfl,h.2.2,h.1,h.2.1⟩
   have hlen:(((aQ n).take k).filter p).length<=720:=ac8 (List.length_filter_le _ _) (by have:=(jI n h6).1;simp;omega);gi_wp2_with (
    refine wpListIn_append_own _ rfl (.tmp 19) (.tmp 21) 179 rfl (w1.heap.size+3+3) 183 i0 () 1 24 GN hI gj eO gM rfl bF v (((aQ n).take k).filter p).length cm cj (m2.alloc _) _ 1 1 [.slice C n c] cj rfl (jD<|heap_alloc_new w2 _) Bw jl aa cU ?_;intro v' w3 pV vH WB;obtain⟨G,gc,rfl⟩:=ownsRow_succ pV;let⟨o1,o2,o3,o4⟩:=zu m1 m2 m3 MJ aa aaz aaA pV vH;have acy:=o1.cell;have acz:=o1.frozen)
   have hob:∀b,b<w1.heap.size+3+3->some b≠v.ownBlock:=λb hb e=>by have:=im m2 b e.symm;omega
   have acB:=j1.size;have o5:w2.heap.size<=w3:=by have:=vH.size;simp at this;omega
   refine⟨⟨⟨vH.os.trans<|cP.os.trans j1.os,vH.tape.trans<|cP.tape.trans j1.tape,vH.output.trans<|cP.output.trans j1.output,aa,λb hb=>(o3 b aa aa<|hob b aa).trans<|(cP.block b aa).trans<|j1.block b hb⟩,
    ⟨aa,λb hb hne=>(o3 b aa hne<|hob b aa).trans<|(cP.block b aa).trans<|j2.block b hb hne⟩,?_⟩,aa,λb h1 h2=>(o3 b aa aa<|hob b aa).trans<|cP.block b aa⟩
   rw[hf.out];exact o2
  .gi_wp2
   refine np (nZ _ _) bD bD bD ?_;repeat(go_big_quiet_step ((go_at_call 164;exact bT<|HS _)))
   refine wpQuiet_nil<|cf ?_;intro w2 cP;have hf:Hid (((aQ n).take<|k+1).filter p=((aQ n).take k).filter p):=by
    rw[uA p nU,if_neg (λh=>by have:=HR.out.1 h;omega)];exact List.append_nil _
   gi_wp2
   rw[hzS]at j3;refine⟨⟨j1.trans<|cP.mono j1.size,j2.trans<|fH.of cP,?_⟩,cP.size,λb h1 h2=>cP.block b aa⟩;rw[hf.out];exact j3.same (cP.block _ aa) λb hb aB=>cP.block b aB
 case done=>
  rintro D W hD ⟨i1,i2,i3⟩ hK;rw[List.take_length]at i3;let⟨v,cm,j1,j2,j3⟩:=i3.ex;have cv:=j1.cell;gi_wp2
  refine⟨aF,.inl ⟨_,_,rfl,run_takeDeferred hK,?_⟩⟩;refine⟨v,?_,⟨v,cm,rfl,sZ (ownsRow_putObj j2 _ hK rfl) aa,?_⟩,i1.trans<|belowK_b (w:=w) (ac5 _) W D _ _ aa hK rfl rfl⟩
  .simp[results,Tryz.f140,go_sem]
  .refine(j3.same (W':=W.putObj D<|.deferred none) λb hb hi=>World.putObj_heap_other λe=>?_).low aa;let⟨cs,g1,_⟩:=hi;rw[e,hK]at g1;simp at g1
end
section
def aP:Tz.prog.underlying 23=some (.slice 31):=bD
def wH (b n cap:Nat)(g:Nat->Mv)(w:World)(hn:n<=1048576)(bH:b<w)(aq:aI w b 0 n g):
  Calls Tz.prog 110 #[.slice b n cap] w λe w'=>∃B c,e=.returned (.slice (some ⟨B,0,none⟩) n c)/\w'.ownsRow w.heap.size 31 6 (.slice (some ⟨B,0,none⟩) n c) n (aV g n)/\cg w' B/\Below w w w':=by
 let⟨i,hI,gj,eO,gM⟩:=eJ;have bA:Below w w (w.alloc<|.cells #[] 31):=(acW _ _).alloc (ac5 _) _;have Qs:=Go.Lib.run_eql_slice_nil (P:=Tz.prog) w 23 31 b n cap 0 0 aP;have bc:(w.alloc<|.cells #[] 31).ownsRow w.heap.size 31 6 (.slice w.heap.size 0 0) 0 []:=World.ownsRow_made w #[] 0 (ac5 _) jl aF;have oW:uv (w.alloc<|.cells #[] 31) (.slice w.heap.size 0 0):=λB hB=>by
  simp only[Value.ownBlock,Option.some.injEq]at hB;subst hB;exact⟨#[],_,heap_alloc_new _ _,λv hv=>by simp at hv⟩
 let⟨v',w',hr,h2,h3,h4⟩:=run_append_own (P:=Tz.prog) (w.alloc<|.cells #[] 31) w.heap.size 23 23 31 i _ 6 56 aP hI gj eO gM rfl aa (.slice (some ⟨w.heap.size,0,none⟩) 0 0) 0 [] bc ⟨b,0,none⟩ n cap (aV g n) (bp g n) (dW<|aq.below bA bH) (eM g n) jl aa aF;have h5:=qR (P:=Tz.prog) w.heap.size 23 23 31 i _ 6 56 aP hI gj eO gM rfl (.slice w.heap.size 0 0) 0 [] bc oW b n cap (aV g n) (bp g n) (dW<|aq.below bA bH) (eM g n) (yk g n) uU jl aa hr;simp only[Nat.zero_add,List.nil_append]at h2;obtain⟨B,c,rfl⟩:∃B c,v'=.slice (some ⟨B,0,none⟩) n c:=by
  rcases h2.2 with⟨e,_⟩|⟨g,cap,cur,e,_⟩
  .exact absurd (h4.1 e).1 aF
  .exact⟨g,cap,e⟩
 have hB:Below w w w':=bA.grown h3 bA.size λq hq=>F2;go_enter Tz.func110,Tryz.ntmps110
 go_wp2_with(refine wpList_append_run rfl (.tmp 5) (.tmp 6) 23 rfl _ _ cj cj hr ?_)
 go_ret;exact⟨B,c,rfl,h2,h5 B rfl,hB⟩
