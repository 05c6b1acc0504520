import Derived.Test.YtjoalkgmgmmedaaGreatDoorj07
import Derived.Test.YtjoalkgmgmmedaaGreatDoorj14d
import Derived.Test.YtjoalkgmgmmedaaGreatDoorj28
import Derived.Test.YtjoalkgmgmmedaaGreatDoorj09
import Derived.Sort.LoopGhostIn
import Derived.Lib.QuietBelow
import Derived.Shelf.SlSortFunc.HeapSort
set_option linter.defProp false
set_option linter.unusedVariables false
set_option maxHeartbeats 4000000
set_option maxRecDepth 100000
open Array renaming ofFn->aE,getElem?_modify->a5,replicate_succ->a9,replicate_zero->be
open Go renaming World->ad,callsIn_wide->av,Calls->ay,Value->a8,cell_of_row->bt,Ending->bM,Boxed->bO,wpQuiet_nil->bS,TypeId->bV
open Go.Ending renaming returned->ai
open Go.Fence renaming wide->au
open Go.RowKit renaming Below->ao
open Go.Sort renaming SortedIn->aI,putCells->aL,PermIn->aN,heap_grow_old->a2,mapBlock->bk,putRow->bn,SWO->bI,Holds->bW,pdq_sorts->b0,onCells->b3
open Go.Value renaming slice->ac,pointer->ax,int->a0,cells->bE,tuple->bR
open Go.World renaming putObj_heap_other->aa,putObj_heap_same->a4,alloc_heap_new->a6,cell?->a7
open List renaming append_toArray->bm,size_toArray->bo,push_toArray->bp,length_cons->br,cons_append->bs,length_nil->bv,nil_append->bB
open Nat renaming zero_add->bi,reduceAdd->bF,reduceSub->bH
namespace Go.Proofs.YtjoalkgmgmmedaaGreatDoor
open Go.RowKit Go.Shelf RowKit Shelf
variable {xs:List a8}{B b c cap' k n:Nat}{P:Program}{v:a8}{W w w':ad}
section
attribute [local go_sem] Oper.semAt_some
set_option linter.unusedVariables false
def abs (n:Nat)(j:n<=1048576)(w:ad):
  (Instr.makeSlice 102 (n:Int) (n:Int)).run Tz.prog w=.ok (ac w n n) (w.alloc<|.cells (madeCells #[(0:Int)] n) 3):=by
 have a:=lY;cases d:Tz.prog.info? 3 with
 |none=>grind
 |some i=>
  rw[d]at a;simp at a;let⟨m,e,g⟩:=a;have:=run_make w 102 3 i _ mO d g .i64 .i64 n n ab ab gC ab;grind [bE]
def abp (n:Nat)(w:ad)(m:n<=1048576):
  ay Tz.prog 74 #[a0 .i64 n] w λe w'=>e=ai (ac w n n)/\aC w' w n (λi=>i)/\ao w w w':=by
 have o:=abs n m;go_enter Tz.func74,Tryz.ntmps74
 go_wp2;go_loopw [9] (λi w'=>∃k:Nat,k<=n/\i=a0 .i64 k/\aC w' w.heap.size n (λi=>if i<k then(i:Int)else 0)/\ao w w w') (λi _=>n-(intOf i).toNat)
 .exact⟨0,afP _,rfl,(nS w n).congr λi d=>aP,(afB _ _).alloc ab _⟩
 obtain⟨k,q,rfl,a,g⟩:=hrel;by_cases j:k<n
 .have r:(k:Int)<n:=by omega
  have u:=a.cellAt k j;have x:=a.frozen k;go_wp2;go_roundw
  case rel=>exact⟨k+1,ab,cO,(a.set k j (k:Int)).congr (λi d=>by
   by_cases e:i=k
   .omega
   .simp[if_neg e];by_cases h:i<k
    .omega
    rw[if_neg h,if_neg ab]),g.setCell aP _⟩
  exact cD
 go_wp2;go_ret;exact⟨rfl,a.congr λi d=>ab,g⟩
def JC (n:Int)(w:ad):
  ay Tz.prog 185 #[n] w λe w'=>e=ai (.func (.func 210) #[] #[ax w])/\w'=w.alloc (.cells #[n] 3):=by
 go_enter Tz.func185,Tryz.ntmps185
 go_wp2;go_ret;simp
def Ey (m Bn n l:Nat)(J:Nat->ad->Prop)(W:ad)(N:n<=6)(Sj:Bn<W)(hc:W.cell? Bn=some (a0 .i64 n))
  (h0:∀W',ao W W W'->W<W'.heap.size->J 0 W')
  (hs:∀k q O,J k q->ox W q O->ao W q O->J k O)
  (hY:∀k s u q C c,(ba n)[k]?=some s->J k u->W<u.heap.size->ao u u q->u.heap.size<=C->C<q->n<=c->jb q C->aD q C 0 n (λi=>((pl s i:Nat):Int))->
   YieldAt au (m-1) Tz.prog l #[ac C n c] q λe W'=>e=ai true/\J (k+1) W'/\q<=W'.heap.size/\W'.heap[W.heap.size]?=q.heap[W.heap.size]?):
  CallsIn au m Tz.prog 210 #[.func (.yield l) #[] #[],ax Bn] W λe W'=>(∃v,e=ai v)/\J (ba n).length W':=by
 let⟨hN,bl⟩:=ku n N;let⟨l0,R,bq⟩:=Im n N;have vw:=OU N;refine callsIn_of_wp Tz.func210 rfl trivial ?_ rfl;simp[Tryz.ntmps210,bo,br,bv,bF,bH,a9,be,bp,bm,bB,bs];gi_wp2_with (refine⟨trivial,λh=>(by simp[au]at h),?_⟩;refine(av.2<|abp n W ab).mono ?_;rintro e w1 ⟨rfl,U,b1⟩)
 gi_loopg [4] (ba n).length (λr v wr=>(∃k s,v=true/\r+k=(ba n).length/\(ba n)[k]?=some s/\J k wr/\W.heap.size<wr.heap.size/\aC wr W.heap.size n (λi=>((pl s i:Nat):Int)))\/(v=false/\J (ba n).length wr))
 .exact .inl ⟨0,l0,rfl,rfl,R,h0 _ b1 U.lt,U.lt,U.congr λi A=>cO⟩
 rcases hrel with⟨k,s,rfl,bx,Y,Z,aF,bj⟩|⟨rfl,Z⟩
 .gi_wp2_with (first|(refine⟨trivial,λh=>(by simp[au]at h),?_⟩;refine(av.2<|L2 _ n n _ wr ab aF bj.2).mono ?_;rintro e w2 ⟨C,c,rfl,ng,aB,aV,X',Wp,b2⟩;let⟨fn,tmps,D,bb,hy,hR⟩:=hY k s wr w2 C c Y Z aF b2 aB aV ng X' Wp))
  refine⟨λh=>(by simp[au]at h),hR.mono ?_⟩;rintro e W3 ⟨rfl,y,FP,T6⟩;have WU:aC W3 W.heap.size n (λi=>((pl s i:Nat):Int)):=by
   have h2:=bj.below b2 aF;let⟨⟨cs,g1,g2⟩,g3⟩:=h2;have Wj:=T6.trans g1;refine⟨⟨cs,Wj,g2⟩,λi A=>?_⟩;rw[bt _ _ _ _ _ _ Wj,<-bt w2 _ _ _ _ _ g1];exact g3 i A
  have Zx:W.heap.size<W3:=WU.lt;let⟨aZ,a1⟩:=yQ vw Y;have bz:k<(ba n).length:=(afT.1 Y).1;clear bj Z hy hR b2;gi_wp2_with (refine⟨trivial,λh=>(by simp[au]at h),?_⟩;refine(av.2<|QA _ n n (pl s) W3 ab ab WU).mono ?_;rintro e w4 ⟨rfl,g4,t4,b4⟩)
  by_cases A3:k+1<(ba n).length
  .obtain⟨z,mF⟩:∃x,(ba n)[k+1]?=some x:=⟨_,af5 A3⟩;let⟨g,hg,qp⟩:=aZ z mF;gi_roundg ((ba n).length-(k+1))
   .exact .inl ⟨k+1,z,by rw[hg];rfl,ab,mF,hs _ _ _ y t4 b4,by have:=t4.size;omega,(g4 g hg).congr λi A=>by rw[qp i A]⟩
   omega
  have hg:=a1 ab;have a3:k+1=(ba n).length:=ab;rw[a3]at y;gi_roundg 0
  .grind
  omega
 gi_wp2
 go_end0
 grind
end
structure oz B (w w':ad):Prop where
 os:w'.os=w.os
 tape:w'.tape=w.tape
 output:w'.output=w.output
 size:w.heap.size<=w'
 block:∀k,k<w.heap.size->(k<B\/B+2<k)->w'.heap[k]?=w.heap[k]?
def oz.trans {a b c}(h:oz B a b)(k:oz B b c):oz B a c:=
 ⟨k.os.trans h.os,k.tape.trans h.tape,k.output.trans h.output,afN h.size k.size,λi e p=>(k.block i (afL e h.size) p).trans<|h.block i e p⟩
def oz.below (h:ao w w w'):oz B w w':=⟨h.os,h.tape,h.output,h.size,λk a _=>h.block k a⟩
def oz.but (t:ox (B+2) w w')(h:ao (B+2) w w'):oz B w w':=⟨h.os,h.tape,h.output,h.size,λk a d=>t.block k a ab⟩
def oz.put (w o):oz B w (w.putObj (B+1) o):=⟨rfl,rfl,rfl,cO,λk hk d=>aa ab⟩
def Hv {g:Operand}{ps:Array Tmp}{assign body:Code}{Q:Exit->Act->ad->Prop}{a:Act}{m Bn:Nat}(h1:1<=m)(hg:a.eval g=.func (.func 210) #[] #[.pointer Bn])
  (hn:n<=6)(Sj:Bn<w)(hc:w.cell? Bn=some (.int .i64 n))(hps:ps.size=1)
  (I:Nat->ad->Prop)(hI:∀k W1 W2,I k W1->oz w W1 W2->I k W2)(h0:I 0 w)(afp:a8->Act)
  (T8:∀l x (W:ad) (K:Act->ad->Prop),K (afp x) W->
   assign.wpIn (Fence.wide.inRound l) (m-1-1) Tz.prog (Exit.then K λ_ _ _=>False) {tmps:=(ps.zip #[x]).foldl (λt (p,v)=>t.setIfInBounds p v) a.tmps,defers:=[]} W)
  (aaF:∀l k (s:List Nat) (W0 W:ad) (C c:Nat),(ba n)[k]?=some s->I k W0->w.heap.size+2<W0->oz w W0 W->W0<=C->C<W->n<=c->jb W C->aD W C 0 n (λi=>((pl s i:Nat):Int))->
   body.wpIn (Fence.wide.inRound l) (m-1-1) Tz.prog (λe _ W'=>e=.normal/\I (k+1) W'/\W<=W'.heap.size/\∀b,w.heap.size<=b->b<=w+2->W'.heap[b]?=W.heap[b]?) (afp<|.slice C n c) W)
  (aaM:∀D (W:ad),w.heap.size<=D->I (ba n).length W->W.heap[D]?=some (.deferred<|some [])->Q .normal {a with defers:={target:=.collected D,args:=#[]}::a.defers} W):
  (Code.rangeFunc g ps assign body).wpIn au m Tz.prog Q a w:=by
 apply wpIn_rangeFunc;intro fn rQ;obtain⟨rec,I3⟩:∃rec:LoopState->Option Code->Loop,rec=λst pe=>{state:=st,pending:=pe,fn,tmps:=a.tmps,params:=ps,assign,body,defers:=w.heap.size}:=⟨_,rfl⟩
 obtain⟨W1,wA⟩:∃W1,(w.alloc<|.deferred<|some []).alloc (.loop<|rec .ready none)=W1:=⟨_,rfl⟩;have hL1:W1.heap[w.heap.size+1]?=some (.loop<|rec .ready none):=by
  rw[<-wA];have:=a6 (w.alloc<|.deferred<|some [])<|.loop<|rec .ready none;simp_all
 have Mo:W1.heap[w.heap.size]?=some (.deferred<|some []):=by
  rw[<-wA];exact(afC _ _ _ aP).trans<|a6 w _
 have bL:ao w w W1:=by
  rw[<-wA];exact((afB _ w).alloc ab _).alloc aP _
 have eO:W1.heap.size=w.heap.size+2:=by rw[<-wA];simp
 refine⟨w.heap.size+1,[{target:=.collected w.heap.size,args:=#[]}],W1,{target:=.fn (.func 210) #[.pointer Bn],args:=#[.func (.yield<|w.heap.size+1) #[] #[]]},W1,210,
  #[.func (.yield<|w.heap.size + 1) #[] #[]] ++ #[.pointer Bn], W1, ?_, ?_, ?_, ?_, fun _ => h1, ?_⟩
 .rw[<-wA,I3];exact run_enterLoop_outer _ _ _ _ _
 .simp[resolve,hg];simp[go_sem]
 .intro f' Oe;trivial
 .simp[invoke,go_sem]
 have dZ:=Ey (m-1) Bn n (w.heap.size+1) (λk W=>I k W/\W.heap[w.heap.size+1]?=some (.loop<|rec .ready none)/\W.heap[w.heap.size]?=some (.deferred<|some []))
  W1 hn ab ((bL.cell Sj).trans hc) ?_ ?_ ?_
 .apply dZ.mono;rintro e W2 ⟨⟨v,rfl⟩,hi,hl,hk⟩;exact⟨none,_,by have:=run_endLoop (P:=Tz.prog) hl cO;rw[I3]at this;exact this,aaM _ _ ab (hI _ _ _ hi<|oz.put _ _)<|(aa ab).trans hk⟩
 .intro W' hb aF;exact⟨hI _ _ _ h0<|(oz.below bL).trans<|oz.below hb,(hb.block _ ab).trans hL1,(hb.block _ ab).trans Mo⟩
 .rintro k Wa Wb ⟨hi,hl,hk⟩ ht hb;rw[eO]at ht hb;have z1:=(afM.1 hl).1;exact⟨hI _ _ _ hi<|oz.but ht hb,(ht.block _ ab ab).trans hl,(ht.block _ ab ab).trans hk⟩
 rintro k s W0 W C c oP ⟨hi,hl,hk⟩ aF hb hC W_ Cv X' Wp;rw[eO]at aF;replace hl:=(hb.block _ ab).trans hl;replace hk:=(hb.block _ ab).trans hk;have adz:w.heap.size+1<W:=ab;have hy:=run_yield (P:=Tz.prog) (args:=#[.slice C n c]) hl (by rw[I3];simp[hps]);rw[I3]at hy;refine⟨fn,_,assign,body,hy,roundIn_of_wpIn rQ<|T8 _ _ W _ ⟨_,run_beginRound hl<|by rw[I3],?_⟩⟩;have hl2:(W.putObj (w.heap.size+1)<|.loop {rec .ready none with state:=.busy}).heap[w.heap.size+1]?=some (.loop {rec .ready none with state:=.busy}):=a4 adz;have mE:(W.putObj (w.heap.size+1)<|.loop {rec .ready none with state:=.busy}).heap[w.heap.size]?=some (.deferred<|some []):=(aa ab).trans hk;have hT2:(W.putObj (w.heap.size+1)<|.loop {rec .ready none with state:=.busy}).heap[w.heap.size+2]?=W.heap[w.heap.size+2]?:=aa ab;have aeJ:w.heap.size+1≠C:=ab;have hC2:(W.putObj (w.heap.size+1)<|.loop {rec .ready none with state:=.busy}).heap[C]?=W.heap[C]?:=aa ab;have Ol:(W.putObj (w.heap.size+1)<|.loop {rec .ready none with state:=.busy}).heap.size=W.heap.size:=by simp[World.putObj]
 apply wpIn_mono<|aaF _ k s W0 _ C c oP hi ab ((oz.below hb).trans<|oz.put _ _) hC (by rw[Ol];exact W_) Cv (by let⟨cs,g1,g2⟩:=X';exact⟨cs,hC2.trans g1,g2⟩) (λi hi=>by have:=Wp i hi;simp[a7,hC2]at this⊢;exact this);rintro e a3 W3 ⟨rfl,hi3,FP,Zr⟩;have hr:=run_endRound (P:=Tz.prog) none<|(Zr (w.heap.size+1) ab ab).trans hl2;rw[I3]at hr;have hz4:=afN (Nat.le_of_eq Ol.symm) FP;have Zx:w.heap.size+1<W3:=ab;refine⟨_,_,hr,rfl,⟨hI _ _ _ hi3<|oz.put _ _,?_,(aa ab).trans<|(Zr _ ab ab).trans mE⟩,?_,?_⟩
 .rw[a4 Zx,I3];rfl
 .simp;exact hz4
 rw[eO];exact(aa ab).trans<|(Zr _ ab ab).trans hT2
def uz (f x y):ltOf (λa b:Fin (k+1)=>Tg f a b) x y<->pZ f x y:=by
 unfold ltOf;rw[decide_eq_true_eq];exact Th f x y
def uA (f x y):ltOf (λa b:Fin (k+1)=>Tg f a b) x y=false<->¬pZ f x y:=by
 rw[<-uz,Bool.not_eq_true]
def swo (f k):bI (ltOf λa b:Fin (k+1)=>Tg f a b) where
 irrefl x:=(uA f x x).mpr<|pZ.irrefl f x
 trans x y z h1 r:=(uz f x z).mpr<|((uz f x y).mp h1).trans<|(uz f y z).mp r
 ntrans x y z h1 r:=(uA f x z).mpr (λh=>by
  have A:=(uA f x y).mp h1;have u:=(uA f y z).mp r;rcases pZ.tri f x y with b|b|b
  .exact A b
  .rw[b]at h;exact u h
  .exact u (b.trans h))
def grown_of (h:ao W W w')(i:W.drawn<=w'.drawn):∃q a,w'=Sort.grow (W.drewN q) a:=by
 let⟨p,g⟩:=regrown_of_below h;refine⟨p.d-W.drawn,p.os,?_⟩;have e:w'.drawn=p.d:=by rw[g];rfl
 grind [redrawn,World.drewN]
abbrev rO k (x:Fin (k+1)):Value:=a0 .i64 x
def Tj k (f:Nat->Mv)(bl b off cap r:Nat)(w:ad)(hk:k+1<=1048576)(N:bl≠r)(hb:b≠r)(bN:b<w)
  (O:w.cell? bl=some (ac (some ⟨b,off,none⟩) (k+1) cap))(R:aK w b off (k+1) f):
  CmpLays1 Tz.prog 221 #[ax bl] (rO k) (λa b=>Tg f a b) r 0 (k+1) w:=by
 intro m D J _ x y;have hc:∀(u o:Nat) (v:a8),u≠r->w.cell? ⟨u,o,none⟩=some v->(sortWorld _ w r 0 m J D).cell? ⟨u,o,none⟩=some v:=λu o v A h=>
  (cell?_sortWorld_other (rO k) w r 0 m J D ⟨u,o,none⟩ A (block_lt_of_cell h)).trans h
 have U:aK _ b off _ f:=λi Y=>by
  let⟨Z,c1,c2,c3,c4,c5⟩:=R i Y;exact⟨hc _ _ _ hb Z,hc _ _ _ hb c1,hc _ _ _ hb c2,hc _ _ _ hb c3,hc _ _ _ hb c4,hc _ _ _ hb c5⟩
 exact(Ip x y bl b off _ cap f _ x.2 y.2 hk (hc _ _ _ N O) U).mono λe w' ⟨he,h1,h2⟩=>⟨he,grown_of h1 h2⟩
def G5 {m:Fin (k+1)->Fin (k+1)->Int}{F:FuncId}{bl g:Nat}(J:k+1<=1048576)(y:bI (ltOf m))(E:∀args w,(callFunc F args).run Tz.prog w=.ok (.enter F args) w)(K:CmpLays1 Tz.prog F #[ax bl] (rO k) m g 0 (k+1) w)(r:aC w g (k+1) (λi=>i)):
  ay Tz.prog 75 #[ac g (k+1:Nat) cap',.func (.func F) #[] #[ax bl]] w λe w'=>
   e=ai (bR #[])/\∃(d':Array (Fin<|k+1)) (n:Nat) (os:Array Obj),aN 0 (k+1) (aE λi:Fin (k+1)=>i) d'/\aI (ltOf m) 0 (k+1) d'/\w'=sortWorld (rO k) w g 0 n d' os:=by
 obtain⟨d,u⟩:∃d:Array _,d=aE (λi:Fin (k+1)=>i):=⟨_,rfl⟩;have o:d.size=k+1:=by rw[u];simp
 have z:bW (rO k) w g 0 d:=λj G=>by
  have q:j<k+1:=ab;refine⟨?_,r.frozen _⟩;have e:d[j]! =⟨j,q⟩:=by rw[getElem!_pos d j G];simp[u]
  rw[e,bi];exact r.cellAt j q
 have x:CmpLays1 Tz.prog F #[ax bl] (rO k) m g 0 d.size w:=by rw[o];omega
 have A:=Any.pdqsortCmpFunc_all Tz.UY (rO k) m F #[ax bl] y g 0 cap' d w E x ⟨λ_=>rfl,z,r.lt⟩ (d.size+1) 0 d.size _ d w ab rfl (SW.start z) ab ab ab (afZ (Lib.bitLen_le d.size 62 ab ab) ab)<|Or.inl rfl;have hs:=b0 (ltOf m) y d 0 d.size (Lib.bitLen d.size) true true ab ab<|Or.inl rfl;have D:ay Tz.prog 101 #[a0 .u64 (d.size:Int)] w λe w'=>e=ai (a0 .i64 (Lib.bitLen d.size:Nat))/\w'=w:=by
  have h:=Any.bits_Len (SlLaysF0.n15.bits {Tz.UY with}) (d.size:Int) w ab ab;rwa [Int.toNat_natCast]at h
 rw[o]at A D hs;have wr:IntKind.u64.wrap ((k+1:Nat):Int)=((k+1:Nat):Int):=by simp[IntKind.wrap,IntKind.bits];omega
 rw[<-u];go_enter Tz.func75,Tryz.ntmps75
 go_wp2_with(first|(go_at_call 101;refine D.mono ?_;rintro e w' ⟨rfl,rfl⟩)|(go_at_call 100;refine A.mono ?_;rintro e w' ⟨rfl,n,os,rfl⟩))
 go_end0
 grind
def Ra k (f:Nat->Mv)(bl b off cap r cap':Nat)(w:ad)(hk:k+1<=1048576)(u:bl≠r)(hb:b≠r)(x:b<w)
  (y:w.cell? bl=some (ac (some ⟨b,off,none⟩) (k+1) cap))(A:aK w b off (k+1) f)(D:aC w r (k+1) (λi=>i)):
  ay Tz.prog 75 #[ac r (k+1:Nat) cap',.func (.func 221) #[] #[ax bl]] w λe w'=>
   e=ai (bR #[])/\∃(d':Array (Fin<|k+1)) (n:Nat) (os:Array Obj),aN 0 (k+1) (aE λi:Fin (k+1)=>i) d'/\aI (ltOf λa b:Fin (k+1)=>Tg f a b) 0 (k+1) d'/\w'=sortWorld (rO k) w r 0 n d' os:=
 G5 hk (swo f k) (enters_of Tz.func221 aO rfl) (Tj k f bl b off cap r w hk u hb x y A) D
def RC (w:ad)(a n d os)(j:Nat)(g:j<w)(e:j≠a):(sortWorld (rO k) w a 0 n d os).heap[j]?=w.heap[j]?:=by
 unfold sortWorld;rw[a2 _ _ cO];unfold bn bk;simp[a5];omega
def B_ (w a n d os cs T)(h:w.heap[a]?=some (.cells cs T (0,0))):
  (sortWorld (rO k) w a 0 n d os).heap[a]?=some (.cells (aL (rO k) 0 d cs) T (0,0)):=by
 have e:=(afM.1 h).1;unfold sortWorld;rw[a2 _ _ cO];unfold bn bk;simp[a5,h,b3]
def VC (w a n d os):w<=(sortWorld (rO k) w a 0 n d os).heap.size:=by
 simp_all [sortWorld]
def LF (w a n d os g)(o:d.size=k+1)(h:aC w a (k+1) g):
  aC (sortWorld (rO k) w a 0 n d os) a (k+1) (λi=>((d[i]!:Nat):Int)):=by
 let⟨⟨j,m,p⟩,_⟩:=h;have e:=B_ w a n d os j _ m;refine⟨⟨_,e,by grind [aL]⟩,λi q=>?_⟩;rw[bt _ _ _ _ _ _ e,bi];simp only[aL];grind
def Hm (w:ad)(a n:Nat)(d:Array (Fin<|k+1))(os:Array Obj) e (g:e<=a)(i:e<=w):ao e w (sortWorld (rO k) w a 0 n d os):=
 ⟨rfl,rfl,rfl,VC w a n d os,λj m=>RC w a n d os j ab ab⟩
def Co {g}(d')(u:aN 0 (k+1) (aE λi:Fin (k+1)=>i) d')(y:aI (ltOf g) 0 (k+1) d'):
  d'.size=k+1/\(∀x,x∈d'.toList)/\∀i j,i<j->j<k+1->d'[i]!≠d'[j]!/\ltOf g d'[j]! d'[i]! =false:=by
 let⟨z,_,a⟩:=u;have o:d'.size=k+1:=by rw[z];simp
 have q:∀(d:Array (Fin<|k+1)) (m:Nat),m=d.size->d.extract 0 m=d:=λd m e=>by subst e;simp
 rw[q d' _ o.symm,q _ (k+1) aP]at a;have A:d'.toList.Nodup:=by
  apply a.nodup_iff.mpr;rw[List.Nodup,List.pairwise_iff_getElem];grind
 refine⟨o,λx=>a.mem_iff.2 gC,λi j r D=>⟨?_,y i j ab r D⟩⟩;rw[getElem!_pos d' i ab,getElem!_pos d' j ab];intro e;have:=(List.pairwise_iff_getElem.mp A) i j dj dj r;grind
def Pe (f d')(r:aN 0 (k+1) (aE λi:Fin (k+1)=>i) d')(hs:aI (ltOf λa b:Fin (k+1)=>Tg f a b) 0 (k+1) d'):
  d'.size=k+1/\dI f (k+1) (λi=>(d'[i]!:Nat)):=by
 obtain⟨u,-,x⟩:=Co d' r hs;refine⟨u,λi _=>(d'[i]!).2,λi j y A=>?_⟩;let⟨D,J⟩:=x i j y A;rcases pZ.tri f _ _ with b|b|b
 .omega
 .omega
 exact absurd b<|(uA f _ _).mp J
def Je:Tz.prog.underlying 102=some (.slice 3):=aO
def Jt (n:Nat)(j:n<=1048576)(w:ad):
  (Instr.makeSlice 102 (n:Int) (n:Int)).run Tz.prog w=.ok (ac w n n) (w.alloc<|.cells (madeCells #[(0:Int)] n) 3):=by
 have a:=lY;cases d:Tz.prog.info? 3 with
 |none=>grind
 |some i=>
  rw[d]at a;simp at a;let⟨m,e,g⟩:=a;have:=run_make w 102 3 i _ Je d g .i64 .i64 n n ab ab gC ab;grind [bE]
def Dm (n:Nat)(w:ad)(m:n<=1048576):
  ay Tz.prog 74 #[a0 .i64 n] w λe w'=>e=ai (ac w n n)/\aC w' w n (λi=>i)/\ao w w w':=by
 have o:=Jt n m;go_enter Tz.func74,Tryz.ntmps74
 go_wp2;go_loopw [9] (λi w'=>∃k:Nat,k<=n/\i=a0 .i64 k/\aC w' w.heap.size n (λi=>if i<k then(i:Int)else 0)/\ao w w w') (λi _=>n-(intOf i).toNat)
 .exact⟨0,afP _,rfl,(nS w n).congr λi d=>aP,(afB _ _).alloc ab _⟩
 obtain⟨k,q,rfl,a,g⟩:=hrel;by_cases j:k<n
 .have r:=a.cellAt k j;have u:=a.frozen k;go_wp2;go_roundw
  case rel=>exact⟨k+1,ab,cO,(a.set k j (k:Int)).congr (λi d=>by
   by_cases e:i=k
   .omega
   .simp[if_neg e];by_cases h:i<k
    .omega
    .rw[if_neg h,if_neg ab]),g.setCell aP _⟩
  exact cD
 go_wp2;go_ret;exact⟨rfl,a.congr λi d=>ab,g⟩
def Fk v (g:v.oneCell')(a:Option Addr)(n cap:Nat)(d:v=ac a n cap)(w:ad):
  ay Tz.prog 209 #[v] w λe w'=>e=ai (.func (.func 221) #[] #[ax w])/\w'=w.alloc (.cells #[v] 26):=by
 subst d;go_enter Tz.func209,Tryz.ntmps209
 go_wp2;go_ret;simp
def BR (f:Nat->Mv)(n:Nat)(w:ad)(e:bM)(w':ad):Prop:=
 ∃(g:Nat->Nat) (B r:Nat),dI f n g/\w<=B/\e=ai (ac B n r)/\aC w' B n (λi=>((g i:Nat):Int))
def yx (f:Nat->Mv)(n:Nat)(w:ad)(e:bM)(w':ad):Prop:=
 ∃(g:Nat->Nat) (B:Nat),dI f n g/\w<=B/\e=ai (ac B n n)/\aC w' B n (λi=>((g i:Nat):Int))
def yx.says {f e}(h:yx f n w e w'):BR f n w e w':=by let⟨g,B,r,u,x,y⟩:=h;exact⟨g,B,n,r,u,x,y⟩
def C8 (a:Option Addr) cap d (w:ad):
  ay Tz.prog 75 #[ac a 0 cap,d] w λe w'=>e=ai (bR #[])/\w'=w:=by
 have g:=AnyF.pdqsortCmpFunc_none {Tz.UY with} a cap (Lib.bitLen 0:Nat) d w;have i:ay Tz.prog 101 #[a0 .u64 0] w λe w'=>e=ai _/\w'=w:=
  Any.bits_Len (SlLaysF0.n15.bits {Tz.UY with}) 0 w ab ab
 go_enter Tz.func75,Tryz.ntmps75
 go_wp2_with(first|(go_at_call 101;refine i.mono ?_;rintro e w' ⟨rfl,rfl⟩)|(go_at_call 100;refine g.mono ?_;rintro e w' ⟨rfl,rfl⟩))
 go_end0
 grind
def A8 (b off n cap:Nat)(f:Nat->Mv)(w:ad)(N:n<=1048576)(O:b<w)(Z:aK w b off n f):
  ay Tz.prog 184 #[ac (some ⟨b,off,none⟩) n cap] w λe w'=>yx f n w e w'/\ao w w w':=by
 have y:=Dm n w N;have A:=λW=>Fk (ac _ n cap) rfl (some ⟨b,off,none⟩) n cap rfl W
 cases n with
 |zero=>
  go_enter Tz.func184,Tryz.ntmps184
  go_wp2_with(first|(go_at_call 74;refine y.mono ?_;clear y;rintro e r ⟨rfl,u,x⟩)|(go_at_call 209;refine(A _).mono ?_;clear A;rintro e w2 ⟨rfl,rfl⟩)|(go_at_call 75;refine(C8 _ _ _ _).mono ?_;rintro e w3 ⟨rfl,rfl⟩))
  go_ret;exact⟨⟨λi=>i,w.heap.size,⟨λi J=>absurd J ab,λi j _ hj=>absurd hj ab⟩,afK _,rfl,(u.below ((afB _ r).alloc ab _) u.lt).congr λi J=>absurd J ab⟩,x.alloc x.size _⟩
 |succ k=>
  go_enter Tz.func184,Tryz.ntmps184
  go_wp2_with(first|(go_at_call 74;refine y.mono ?_;clear y;rintro e r ⟨rfl,u,x⟩)|(go_at_call 209;refine(A _).mono ?_;clear A;rintro e w2 ⟨rfl,rfl⟩;have R:ao r.heap.size r (r.alloc<|.cells #[ac (some ⟨b,off,none⟩) (k+1) cap] 26):=(afB _ _).alloc ab _;have U:=u.below R u.lt;have D:=x.trans<|R.mono x.size;have Y:=Ra k f r.heap.size b off cap w.heap.size (k+1) _ N (by have:=u.lt;omega) ab (afL O D.size) aP (Z.below D O) U)|(go_at_call 75;refine Y.mono ?_;clear Y;rintro e w3 ⟨rfl,d',q,os,hp,hs,rfl⟩))
  go_ret;let⟨iP,D0⟩:=Pe f d' hp hs;exact⟨⟨_,w.heap.size,D0,afK _,rfl,LF _ _ _ _ _ _ iP U⟩,D.trans<|Hm _ _ _ _ _ _ ab D.size⟩
def A9 (b off n cap:Nat)(f:Nat->Mv)(w:ad)(r:n<=1048576)(u:b<w)(x:aK w b off n f):
  ay Tz.prog 184 #[ac (some ⟨b,off,none⟩) n cap] w λe w'=>BR f n w e w'/\ao w w w':=
 (A8 b off n cap f w r u x).mono λe w' h=>⟨h.1.says,h.2⟩
section
variable {W':ad}{lo C f:Nat}{cG:List a8}{L:List (List Nat)}{s l:List Nat}
attribute [local go_sem] Oper.semAt_some
def RowsIn (W:ad)(n lo:Nat)(cG:List a8)(L:List (List Nat)):Prop:=
 ∀(i:Nat) (s:List Nat),L[i]?=some s->∃a d,cG[i]?=some (ac (some ⟨a,0,none⟩) n d)/\n<=d/\lo<=a/\jb W a/\aD W a 0 n (λi=>((pl s i:Nat):Int))
def jb.lt (h:jb W b):b<W:=by let⟨d,a,_⟩:=h;exact(afM.1 a).1
def jb.same (h:jb W b)(e:W'.heap[b]?=W.heap[b]?):jb W' b:=by let⟨a,d,g⟩:=h;exact⟨a,e.trans d,g⟩
def RowsIn.same (h:RowsIn W n lo cG L)(e:∀b,lo<=b->jb W b->W'.heap[b]?=W.heap[b]?):RowsIn W' n lo cG L:=λi s j=>by
 let⟨a,m,o,p,d,g,q⟩:=h i s j;exact⟨a,m,o,p,d,g.same<|e a d g,q.same<|e a d g⟩
def RowsIn.low {a}(h:RowsIn W n lo cG L)(d:a<=lo):RowsIn W n a cG L:=λi s e=>by
 let⟨g,j,m,o,p,q⟩:=h i s e;exact⟨g,j,m,o,afN d p,q⟩
def RowsIn.snoc (h:RowsIn W n lo cG L)(O:cG.length=L.length)(q:n<=c)(r:lo<=C)(u:jb W C)(x:aD W C 0 n (λi=>((pl s i:Nat):Int))):
  RowsIn W n lo (cG++[ac C n c]) (L++[s]):=λi l e=>by
 by_cases y:i<L.length
 .rw[afV y]at e;let⟨z,A,D,J⟩:=h i l e;exact⟨z,A,by rw[afV ab];exact D,J⟩
 .rw[afW ab]at e;have N:i-L.length=0:=by
   have:=(afT.1 e).1;simp at this;omega
  rw[N]at e;simp at e;subst e;exact⟨C,c,gC,q,r,u,x⟩
def Em (h:jb W b){base a}(d:W.ownsRow base 102 a v k xs):some b≠v.ownBlock:=by
 let⟨m,o,_⟩:=h;rcases d.2 with⟨rfl,_⟩|⟨g,e,i,rfl,_,j,_⟩;all_goals grind [Value.ownBlock]
structure tQ (W n lo f L):Prop where
 ex:∃v cG,bO W f 210 v/\W.ownsRow lo 102 1 v L.length cG/\RowsIn W n lo cG L
def tQ.same (h:tQ W n lo f L)(D:W'.heap[f]?=W.heap[f]?)(e:∀b,lo<=b->b<W->W'.heap[b]?=W.heap[b]?):tQ W' n lo f L:=by
 let⟨v,cG,J,N,O⟩:=h.ex;refine⟨v,cG,D.trans J,?_,O.same λb hb R=>e b hb R.lt⟩;obtain⟨x,U|⟨g,r,u,rfl,y,A,Y⟩⟩:=N
 .exact⟨x,.inl U⟩
 exact⟨x,.inr ⟨g,r,u,rfl,y,(e g y (afM.1 A).1).trans A,Y⟩⟩
def Bj {r:ad}{u:a8}{x:Obj}(A:bO W f 210 v)(D:W.ownsRow lo 102 1 v L.length cG)(Z:RowsIn W n lo cG L)
  (h2:n<=c)(h3:lo<=C)(J:jb W C)(h5:aD W C 0 n (λi=>((pl s i:Nat):Int)))
  (U:r.ownsRow lo 102 1 u (L.length+1) (cG++[ac C n c]))(N:(W.alloc x).grownBy r v.ownBlock):
  bO r f 210 v/\tQ (r.setCell f u) n lo f (L++[s])/\(∀b,b<W.heap.size->b≠f->some b≠v.ownBlock->(r.setCell f u).heap[b]?=W.heap[b]?)/\W<=(r.setCell f u).heap.size:=by
 have y:(210:bV)≠102:=bh;have O:=(A.alloc x).kept N<|A.not_row y D;have Y:∀b,b<W.heap.size->b≠f->some b≠v.ownBlock->(r.setCell f u).heap[b]?=W.heap[b]?:=λb hb R ho=>by
  rw[afD _ _ _ b R,N.block b dj ho];grind [Go.RowKit.Below.heap_alloc]
 refine⟨O,⟨u,cG++[ac C n c],O.set u,?_,?_⟩,Y,?_⟩
 .rw[List.length_append];exact U.kept (grownBy_setCell' r f u)<|.inr (O.not_row y U).symm
 .have hk:∀b,jb W b->(r.setCell f u).heap[b]?=W.heap[b]?:=λb hb=>by
   refine Y b hb.lt (λe=>?_)<|Em hb D;let⟨cs,g1,_⟩:=hb;rw[e,show W.heap[f]?=_ from A]at g1;grind
  have hl:cG.length=L.length:=by have:=D.1;omega
  exact(Z.same λb _ hb=>hk b hb).snoc hl h2 h3 (J.same<|hk C J)<|h5.same<|hk C J
 have:=N.size;simp at this⊢;omega
def wv (p){A:List (List Nat)}(h:A[k]?=some l):(A.take<|k+1).filter p=(A.take k).filter p++(if p l then[l]else[]):=by
 rw[List.take_add_one,h,List.filter_append];grind
def wu {f args R}(h:ay P f args w R):∃e w',R e w':=by
 let⟨e,w',r,u,_⟩:=h [];grind
def Nr {cap a:Nat}{g h:Nat->Int}{r:Int}(m:fk g h n r)(o:n<=1048576)(i:b<W)(p:aD W b 0 n g)(q:jy g n n)(j:a<W)(u:aD W a 0 n h)(y:jy h n n)(x:an W):
  ay Tz.prog 186 #[ac b n cap,ac a n cap'] x.at_ λe w'=>e=ai r/\ao x.at_ x.at_ w':=by
 have d:=x.below;refine(so b 0 n cap a 0 cap' g h x.at_ o (afL i d.size) (p.below d i) q (afL j d.size) (u.below d j) y).mono ?_;rintro e w' ⟨⟨s,rfl,z⟩,A⟩;exact⟨by rw[z.unique m],A⟩
def abF (h:l∈ba n):jy (λi=>((pl l i:Nat):Int)) n n:=
 ⟨λi a=>by have:=(io h).2.1 i a;dsimp only;omega,λi j d e=>by have:=(io h).2.2 i j d e;dsimp only;omega⟩
def Jd:Tz.prog.underlying 210=some (.slice 102):=aO
def FV:(Tz.prog.info? 102).map (λi=>(i.size,i.bytes,i.zero))=some (1,24,some<|ac none 0 0):=aO
def Qy (b off n cap:Nat)(f:Nat->Mv) shift (w:ad)(hm:aG f n)(bN:b<w)(aB:aK w b off n f)(p:List Nat->Bool)
  (hp:∀g,dI f n g->∀l∈ba n,∀r,fk (λi=>((pl l i:Nat):Int)) (λi=>((g i:Nat):Int)) n r->(p l<->r<=shift)):
  ay Tz.prog 167 #[ac (some ⟨b,off,none⟩) n cap,shift] w λe w'=>(∃v cG,e=ai v/\w'.ownsRow w 102 1 v ((ba n).filter p).length cG/\RowsIn w' n w cG ((ba n).filter p))/\ao w w w':=by
 have h6:=bX hm;have hn:n<=1048576:=ab;have oN:∀o1,ao w w (w.alloc o1):=λo1=>(afB _ w).alloc (afK _) _
 refine(av (n:=9)).1 ?_;refine callsIn_of_wp_marks Tz.func167 rfl trivial ?_ rfl;simp only[Tryz.ntmps167,bo,br,bv,bF,bH,a9,be,bp,bm,bB,bs];gi_wp2_with (first|(refine⟨trivial,?_⟩;refine(av.2<|A9 _ _ _ _ f _ hn dj<|aB.below (oN _) bN).mono ?_;rintro e u ⟨⟨g,B,U,hg,jU,rfl,tu⟩,b1⟩)|(refine⟨trivial,?_⟩;refine(av.2<|JC _ _).mono ?_;rintro e w' ⟨rfl,rfl⟩))
 have eO:w.heap.size+1<=u:=by have:=b1.size;simpa using this
 have IV:ao w w u:=(oN _).trans<|b1.mono aP;have IU:=tu.lt;obtain⟨WS,Y⟩:∃WS,((u.alloc<|.cells #[ac (some ⟨B,0,none⟩) n U] 102).alloc<|.cells #[ac none 0 0] 210).alloc (.cells #[a0 .i64 (n:Int)] 3)=WS:=⟨_,rfl⟩;have hL:ao u u WS:=Y▸(((afB _ u).alloc (afK _) _).alloc aP _).alloc dj _;have aZ:WS.heap.size=u.heap.size+3:=by rw[<-Y];simp
 have c0:u.cell? w.heap.size=some (a0 .i64 shift):=(b1.cell (p:=w.heap.size) aP).trans aP;have cS:WS.cell? w.heap.size=some (a0 .i64 shift):=(hL.cell (p:=w.heap.size) dj).trans c0;have cF:WS.cell? u.heap.size=some (ac B n U):=by rw[<-Y];simp[go_sem]
 have cN:bO WS (u.heap.size+1) 210 ():=by
  have h1:bO ((u.alloc<|.cells #[ac B n U] 102).alloc<|.cells #[()] 210) (u.heap.size+1) 210 ():=by
   have:=Boxed.new (u.alloc<|.cells #[ac B n U] 102) 210 ();simpa using this
  rw[<-Y];exact h1.alloc _
 have cL:WS.cell? ⟨u.heap.size+1+1,0,none⟩=some (a0 .i64 (n:Int)):=by rw[<-Y];simp[go_sem]
 have a3:=tu.below hL IU;have bb:ao w w WS:=IV.trans<|hL.mono IV.size;rw[Y];clear Y c0 hL tu;refine Hv (Bn:=u.heap.size+1+1) (n:=n) ab rfl h6 ab cL rfl
  (λk W=>ao w w W/\ox (u.heap.size+1) WS W/\tQ W n (WS.heap.size+3) (u.heap.size+1) (((ba n).take k).filter p)) ?hI ?h0 ?a1 ?assign ?body ?done
 case hI=>
  rintro k W1 W2 ⟨i1,i2,Z⟩ hs;refine⟨⟨hs.os.trans i1.os,hs.tape.trans i1.tape,hs.output.trans i1.output,afN i1.size hs.size,λj hj=>(hs.block j (by have:=i1.size;omega) ab).trans<|i1.block j hj⟩,⟨afN i2.size hs.size,λj hj y=>(hs.block j (by have:=i2.size;omega) ab).trans<|i2.block j hj y⟩,Z.same (hs.block _ (by have:=i2.size;omega) ab) λb hb N=>hs.block b N ab⟩
 case h0=>exact⟨bb,ox.refl _ _,⟨ac none 0 0,[],cN,World.ownsRow_nil _ _ _ _,λi s hi=>by simp at hi⟩⟩
 case assign=>
  intro l x W K hK;gi_wp2
  exact hK
 case body=>
  rintro l k s W0 W C c oP ⟨i1,i2,Z⟩ N A hC W_ Cv X' Wp;have sS:s∈ba n:=List.mem_of_getElem? oP;have J:ao w w W:=⟨A.os.trans i1.os,A.tape.trans i1.tape,A.output.trans i1.output,afN i1.size A.size,λj hj=>(A.block j (by have:=i1.size;omega) ab).trans<|i1.block j hj⟩;have O:ox (u.heap.size+1) WS W:=⟨afN i2.size A.size,λj hj y=>(A.block j (by have:=i2.size;omega) ab).trans<|i2.block j hj y⟩;have j3:=Z.same (A.block _ (by have:=i2.size;omega) ab) λb hb N=>A.block b N ab
  clear i1 i2 Z;have ZI:=O.size;have dS:W.cell? w.heap.size=some (a0 .i64 shift):=by have:=O.block w.heap.size ab ab;simp only[a7,this]at cS⊢;exact cS
  have dF:W.cell? u.heap.size=some (ac B n U):=by have:=O.block u.heap.size ab ab;simp only[a7,this]at cF⊢;exact cF
  have QK:=a3.but O ab;have PQ:=hg.ord;have FH:=abF sS;obtain⟨r,hr⟩:∃r,fk (λi=>((pl s i:Nat):Int)) (λi=>((g i:Nat):Int)) n r:=by
   let⟨e,w',⟨r,_,hr⟩,_⟩:=wu<|so C 0 n c B 0 U _ _ W hn W_ Wp FH QK.lt QK.2 PQ;exact⟨r,hr⟩
  have pQ:=hp g hg s sS r hr;have HS:=λx=>Nr (cap:=c) (cap':=U) hr hn W_ Wp FH QK.lt QK.2 PQ x
  have y:=aM W;have q0:=λx:an W=>x.cell dS
  have q1:=λx:an W=>x.cell dF
  have HR:Hid (p s=true<->r<=shift):=pQ;clear pQ hr PQ FH;by_cases bj:r<=shift
  .gi_wp2
   refine nY (pc _ _) aO aO aO ?_;repeat(go_big_quiet_step ((go_at_call 186;exact cj<|HS _)))
   refine bS<|cJ ?_;intro w2 dg;have hf:Hid (((ba n).take<|k+1).filter p=((ba n).take k).filter p++[s]):=by
    rw[wv p oP,if_pos (HR.out.2 bj)];exact rfl
   rw[aZ]at j3;let⟨v,cG,m1,m2,m3⟩:=(j3.same (W':=w2) (dg.block _ ab) λb hb N=>dg.block b N).ex;have bl:=Wp.below dg W_;have bq:=X'.below dg W_;have bz:=m1.cell;clear j3 X' Wp y q0 q1 HS dS dF QK;have bA:=dg.size;obtain⟨R,hI,gK,eO,fZ⟩:∃R,Tz.prog.info? 102=some R/\R.zero=some (ac none 0 0)/\R.size=1/\R.bytes=24:=by
    have h:=FV;cases hI:Tz.prog.info? 102 with
    |none=>rw[hI]at h;simp at h
    |some R=>rw[hI]at h;simp only[Option.map_some,Option.some.injEq,Prod.mk.injEq]at h;exact⟨R,rfl,h.2.2,h.1,h.2.1⟩
   have bx:(((ba n).take k).filter p).length<=720:=afN (List.length_filter_le _ _) (by have:=(ku n h6).1;simp;omega);gi_wp2_with (
    refine wpListIn_append_own _ rfl (.tmp 19) (.tmp 21) 210 rfl (u.heap.size+3+3) 102 R () 1 24 Jd hI gK eO fZ rfl bh v (((ba n).take k).filter p).length cG bQ (m2.alloc _) _ 1 1 [ac C n c] bQ rfl (fx<|heap_alloc_new w2 _) sJ iN ab dj ?_;intro v' w3 rU xP bL;obtain⟨G,gc,rfl⟩:=ownsRow_succ rU;let⟨o1,o2,o3,o4⟩:=Bj m1 m2 m3 Cv ab bq bl rU xP;have b2:=o1.cell;have b4:=o1.frozen)
   have aV:∀b,b<u.heap.size+3+3->some b≠v.ownBlock:=λb hb e=>by have:=dh m2 b e.symm;omega
   have b5:=J.size;have o5:w2.heap.size<=w3:=by have:=xP.size;simp at this;omega
   refine⟨⟨⟨xP.os.trans<|dg.os.trans J.os,xP.tape.trans<|dg.tape.trans J.tape,xP.output.trans<|dg.output.trans J.output,ab,λb hb=>(o3 b ab ab<|aV b ab).trans<|(dg.block b ab).trans<|J.block b hb⟩,
    ⟨ab,λb hb y=>(o3 b ab y<|aV b ab).trans<|(dg.block b ab).trans<|O.block b hb y⟩,?_⟩,ab,λb h1 h2=>(o3 b ab ab<|aV b ab).trans<|dg.block b ab⟩
   rw[hf.out];exact o2
  .gi_wp2
   refine nY (pc _ _) aO aO aO ?_;repeat(go_big_quiet_step ((go_at_call 186;exact cj<|HS _)))
   refine bS<|cJ ?_;intro w2 dg;have hf:Hid (((ba n).take<|k+1).filter p=((ba n).take k).filter p):=by
    rw[wv p oP,if_neg (λh=>by have:=HR.out.1 h;omega)];exact List.append_nil _
   gi_wp2
   rw[aZ]at j3;refine⟨⟨J.trans<|dg.mono J.size,O.trans<|ox.of dg,?_⟩,dg.size,λb h1 h2=>dg.block b ab⟩;rw[hf.out];exact j3.same (dg.block _ ab) λb hb N=>dg.block b N
 rintro D W hD ⟨i1,i2,Z⟩ hK;rw[List.take_length]at Z;let⟨v,cG,J,O,j3⟩:=Z.ex;have cv:=J.cell;gi_wp2
 refine⟨aP,.inl ⟨_,_,rfl,run_takeDeferred hK,?_⟩⟩;refine⟨v,?_,⟨v,cG,rfl,mg (ownsRow_putObj O _ hK rfl) ab,?_⟩,i1.trans<|belowK_b (w:=w) (afK _) W D _ _ ab hK rfl rfl⟩
 .simp[results,Tryz.f167,go_sem]
 .refine(j3.same (W':=W.putObj D<|.deferred none) λb hb hi=>aa λe=>?_).low ab;let⟨cs,g1,_⟩:=hi;rw[e,hK]at g1;simp at g1
end
section
variable {base:Nat}{T:bV}{t:Nat->Int}
theorem Ut:IntKind.i64.min=-9223372036854775808:=bh
theorem Us:IntKind.i64.max=9223372036854775807:=bh
def wN {T}(h:aD w b 0 n T):∀j u,(eG T n)[j]?=some u->w.cell? ((b:Addr).add j)=some u:=λj u a=>by
 have d:j<n:=by rcases afS j n with h|h;exact h;rw[afU (by rw[eZ];exact h)]at a;cases a
 rw[dW d]at a;rw[show(b:Addr).add j=⟨b,0+j,none⟩ by unfold Addr.add;split<;>simp_all,h j d];exact a
def GF (h:w.ownsRow base T 1 (ac B n c) n (eG t n)):aD w B 0 n t:=λi e=>by
 rw[bi,h.cellAt i ab];exact dW e
def UV (h:w.ownsRow base T 1 v n xs)(r:0<n):∃B c,v=ac (some ⟨B,0,none⟩) n c:=by
 obtain⟨u,e|⟨g,p,q,e,x,y⟩⟩:=h
 .omega
 grind
def AM {x}(h:-9223372036854775808<=x/\x<=9223372036854775807):(Lit.int .i64 x).wf:=by
 show(decide (IntKind.i64.min<=x)&&decide (x<=IntKind.i64.max))=true;grind [Ut,Us]
