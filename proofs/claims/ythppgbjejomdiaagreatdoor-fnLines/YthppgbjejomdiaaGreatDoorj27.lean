import Derived.Test.YthppgbjejomdiaaGreatDoorj07
import Derived.Test.YthppgbjejomdiaaGreatDoorj18d
import Derived.Test.YthppgbjejomdiaaGreatDoorj26
import Derived.Sort.LoopGhostIn
import Derived.Lib.QuietBelow
import Derived.Shelf.SlSortFunc.HeapSort
set_option linter.all false
set_option maxHeartbeats 4000000
set_option maxRecDepth 100000
open Array renaming ofFn->aL,getElem?_modify->bm,replicate_succ->bo,replicate_zero->bp
open Go renaming World->aa,Calls->ao,Value->ax,callsIn_wide->aI,Boxed->aP,Ending->a4,cell_of_row->a8,TypeId->be,wpQuiet_nil->bV
open Go.Ending renaming returned->aj
open Go.Fence renaming wide->aE
open Go.RowKit renaming Below->ad
open Go.Sort renaming SortedIn->a0,PermIn->a2,putCells->a5,heap_grow_old->bi,mapBlock->br,putRow->bt,SWO->bS,Holds->bW,pdq_sorts->bX,onCells->b0
open Go.Value renaming slice->ac,int->au,pointer->av,tuple->a9,cells->bM
open Go.World renaming putObj_heap_other->ay,cell?->a6,putObj_heap_same->bk,alloc_heap_new->bn
open List renaming append_toArray->bs,size_toArray->bv,push_toArray->bB,length_cons->bE,cons_append->bF,length_nil->bH,nil_append->bJ
open Nat renaming zero_add->a7,reduceAdd->bO,reduceSub->bR
namespace Go.Proofs.YthppgbjejomdiaaGreatDoor
open RowKit Shelf
variable {xs:List ax}{B b c cap' k n:Nat}{P:Program}{v:ax}{W w w':aa}
section
attribute [local go_sem] Oper.semAt_some
def ach (n:Nat)(j:n<=1048576)(w:aa): (Instr.makeSlice 106 (n:Int) (n:Int)).run Tz.prog w=.ok (ac w n n) (w.alloc<|.cells (madeCells #[(0:Int)] n) 3):=by have a:=mh;rcases d:Tz.prog.info? 3 with _|i;grind;rw[d]at a;simp at a;let⟨m,e,g⟩:=a;have:=run_make w 106 3 i _ m9 d g .i64 .i64 n n ab ab f7 ab;grind [bM]
def acd (n:Nat)(w:aa)(m:n<=1048576):
  ao Tz.prog 74 #[au .i64 n] w λe w'=>e=aj (ac w n n)/\aC w' w n (λi=>i)/\ad w w w':=by
 have o:=ach n m;go_enter Tz.func74,Tryz.ntmps74
 go_wp2;go_loopw [9] (λi w'=>∃k:Nat,k<=n/\i=au .i64 k/\aC w' w n (λi=>if i<k then(i:Int)else 0)/\ad w w w') (λi _=>n-(intOf i).toNat)
 .exact⟨0,agB _,rfl,(n8 w n).congr λi d=>aN,(agn _ _).alloc ab _⟩
 obtain⟨k,q,rfl,a,g⟩:=hrel;by_cases j:k<n
 .have r:(k:Int)<n:=by omega
  have u:=a.cellAt k j;have x:=a.frozen k;go_wp2;go_roundw
  case rel=>exact⟨k+1,ab,cQ,(a.set k j (k:Int)).congr (λi d=>by
   by_cases e:i=k
   .omega
   .simp[if_neg e];by_cases h:i<k
    .omega
    rw[if_neg h,if_neg ab]),g.setCell aN _⟩
  exact cD
 go_wp2;go_ret;exact⟨rfl,a.congr λi d=>ab,g⟩
def Ka (n:Int)(w:aa): ao Tz.prog 192 #[n] w λe w'=>e=aj (.func (.func 217) #[] #[av w])/\w'=w.alloc (.cells #[n] 3):=by go_enter Tz.func192,Tryz.ntmps192;go_wp2;go_ret;simp
def EY (m Bn n l:Nat)(J:Nat->aa->Prop)(W:aa)(N:n<=6)(S0:Bn<W)(hc:W.cell? Bn=some (au .i64 n))
  (h0:∀W',ad W W W'->W<(W':Nat)->J 0 W')
  (hs:∀k q O,J k q->lp W q O->ad W q O->J k O)
  (hY:∀k s u q C c,(ba n)[k]?=some s->J k u->W<(u:Nat)->ad u u q->(u:Nat)<=C->C<q->n<=c->jg q C->aD q C 0 n (λi=>((pl s i:Nat):Int))->
   YieldAt aE (m-1) Tz.prog l #[ac C n c] q λe W'=>e=aj true/\J (k+1) W'/\q<=(W':Nat)/\W'.heap[(W:Nat)]?=q.heap[(W:Nat)]?):
  CallsIn aE m Tz.prog 217 #[.func (.yield l) #[] #[],av Bn] W λe W'=>(∃v,e=aj v)/\J (ba n).length W':=by
 let⟨hN,bq⟩:=kD n N;let⟨l0,R,bx⟩:=IW n N;have vR:=Pz N;refine callsIn_of_wp Tz.func217 rfl trivial ?_ rfl;simp[Tryz.ntmps217,bv,bE,bH,bO,bR,bo,bp,bB,bs,bJ,bF];gi_wp2_with (refine⟨trivial,λh=>(by simp[aE]at h),?_⟩;refine(aI.2<|acd n W ab).mono ?_;rintro e w1 ⟨rfl,U,b1⟩)
 gi_loopg [4] (ba n).length (λr v wr=>(∃k s,v=true/\r+k=(ba n).length/\(ba n)[k]?=some s/\J k wr/\(W:Nat)<wr/\aC wr W n (λi=>((pl s i:Nat):Int)))\/(v=false/\J (ba n).length wr))
 .exact .inl ⟨0,l0,rfl,rfl,R,h0 _ b1 U.lt,U.lt,U.congr λi A=>cQ⟩
 rcases hrel with⟨k,s,rfl,bz,Y,Z,aG,bj⟩|⟨rfl,Z⟩
 .gi_wp2_with (first|(refine⟨trivial,λh=>(by simp[aE]at h),?_⟩;refine(aI.2<|MJ _ n n _ wr ab aG bj.2).mono ?_;rintro e w2 ⟨C,c,rfl,nA,az,aV,aZ,Xq,b2⟩;let⟨fn,tmps,D,bl,hy,hR⟩:=hY k s wr w2 C c Y Z aG b2 az aV nA aZ Xq))
  refine⟨λh=>(by simp[aE]at h),hR.mono ?_⟩;rintro e W3 ⟨rfl,y,ED,UK⟩;have XU:aC W3 W n (λi=>((pl s i:Nat):Int)):=by
   have h2:=bj.below b2 aG;let⟨⟨cs,g1,g2⟩,g3⟩:=h2;have Xm:=UK.trans g1;refine⟨⟨cs,Xm,g2⟩,λi A=>?_⟩;rw[a8 _ _ _ _ _ _ Xm,<-a8 w2 _ _ _ _ _ g1];exact g3 i A
  have t_:(W:Nat)<W3:=XU.lt;let⟨a1,a3⟩:=ze vR Y;have bA:k<(ba n).length:=(agF.1 Y).1;clear bj Z hy hR b2;gi_wp2_with (refine⟨trivial,λh=>(by simp[aE]at h),?_⟩;refine(aI.2<|Re _ n n (pl s) W3 ab ab XU).mono ?_;rintro e w4 ⟨rfl,g4,t4,b4⟩)
  by_cases BH:k+1<(ba n).length
  .obtain⟨z,mL⟩:∃x,(ba n)[k+1]?=some x:=⟨_,agR BH⟩;let⟨g,hg,qw⟩:=a1 z mL;gi_roundg ((ba n).length-(k+1))
   .exact .inl ⟨k+1,z,by rw[hg];rfl,ab,mL,hs _ _ _ y t4 b4,by have:=t4.size;omega,(g4 g hg).congr λi A=>by rw[qw i A]⟩
   omega
  have hg:=a3 ab;have bb:k+1=(ba n).length:=ab;rw[bb]at y;gi_roundg 0
  .grind
  omega
 gi_wp2
 go_end0
 grind
end
structure oG B (w w':aa):Prop where
 os:w'.os=w.os
 tape:w'.tape=w.tape
 output:w'.output=w.output
 size:(w:Nat)<=w'
 block:∀k,k<(w:Nat)->(k<B\/B+2<k)->w'.heap[k]?=w.heap[k]?
def oG.trans {a b c:aa}(h:oG B a b)(k:oG B b c):oG B a c:=
 ⟨k.os.trans h.os,k.tape.trans h.tape,k.output.trans h.output,agz h.size k.size,λi e p=>(k.block i (agx e h.size) p).trans<|h.block i e p⟩
def oG.below (h:ad w w w'):oG B w w':=⟨h.os,h.tape,h.output,h.size,λk a _=>h.block k a⟩
def oG.but (t:lp (B+2) w w')(h:ad (B+2) w w'):oG B w w':=⟨h.os,h.tape,h.output,h.size,λk a d=>t.block k a ab⟩
def oG.put (w:aa)(o:Obj):oG B w (w.putObj (B+1) o):=⟨rfl,rfl,rfl,cQ,λk hk d=>ay ab⟩
def Ir {g:Operand}{ps:Array Tmp}{assign body:Code}{Q:Exit->Act->aa->Prop}{a:Act}{m Bn:Nat}(h1:1<=m)(hg:a.eval g=.func (.func 217) #[] #[.pointer Bn]) (hn:n<=6)(S0:Bn<w)(hc:w.cell? Bn=some (.int .i64 n))(hps:ps.size=1) (I:Nat->aa->Prop)(hI:∀k W1 W2,I k W1->oG w W1 W2->I k W2)(h0:I 0 w)(aga:ax->Act) (UM:∀l x (W:aa) (K:Act->aa->Prop),K (aga x) W->assign.wpIn (Fence.wide.inRound l) (m-1-1) Tz.prog (Exit.then K λ_ _ _=>False) {tmps:=(ps.zip #[x]).foldl (λt (p,v)=>t.setIfInBounds p v) a.tmps,defers:=[]} W) (abp:∀l k (s:List Nat) (W0 W:aa) (C c:Nat),(ba n)[k]?=some s->I k W0->(w:Nat)+2<W0->oG w W0 W->W0<=C->C<W->n<=c->jg W C->aD W C 0 n (λi=>((pl s i:Nat):Int))->body.wpIn (Fence.wide.inRound l) (m-1-1) Tz.prog (λe _ W'=>e=.normal/\I (k+1) W'/\W<=(W':Nat)/\∀b,(w:Nat)<=b->b<=w+2->W'.heap[b]?=W.heap[b]?) (aga<|.slice C n c) W) (abw:∀D (W:aa),(w:Nat)<=D->I (ba n).length W->W.heap[D]?=some (.deferred<|some [])->Q .normal {a with defers:={target:=.collected D,args:=#[]}::a.defers} W): (Code.rangeFunc g ps assign body).wpIn aE m Tz.prog Q a w:=by
 apply wpIn_rangeFunc;intro fn se;obtain⟨rec,JC⟩:∃rec:LoopState->Option Code->Loop,rec=λst pe=>{state:=st,pending:=pe,fn,tmps:=a.tmps,params:=ps,assign,body,defers:=(w:Nat)}:=⟨_,rfl⟩;obtain⟨W1,wX⟩:∃W1,(w.alloc<|.deferred<|some []).alloc (.loop<|rec .ready none)=W1:=⟨_,rfl⟩;have hL1:W1.heap[(w:Nat)+1]?=some (.loop<|rec .ready none):=by rw[<-wX];have:=bn (w.alloc<|.deferred<|some [])<|.loop<|rec .ready none;simp_all
 have Na:W1.heap[(w:Nat)]?=some (.deferred<|some []):=by rw[<-wX];exact(ago _ _ _ aN).trans<|bn w _
 have bK:ad w w W1:=by rw[<-wX];exact((agn _ w).alloc ab _).alloc aN _
 have eI:(W1:Nat)=(w:Nat)+2:=by rw[<-wX];simp
 refine⟨(w:Nat)+1,[{target:=.collected w,args:=#[]}],W1,{target:=.fn (.func 217) #[.pointer Bn],args:=#[.func (.yield<|(w:Nat)+1) #[] #[]]},W1,217,#[.func (.yield<|(w:Nat) + 1) #[] #[]] ++ #[.pointer Bn], W1, ?_, ?_, ?_, ?_, fun _ => h1, ?_⟩;rw[<-wX,JC];exact run_enterLoop_outer _ _ _ _ _
 .simp[resolve,hg];simp[go_sem]
 intro f' OS;trivial
 .simp[invoke,go_sem]
 have dZ:=EY (m-1) Bn n ((w:Nat)+1) (λk W=>I k W/\W.heap[(w:Nat)+1]?=some (.loop<|rec .ready none)/\W.heap[(w:Nat)]?=some (.deferred<|some []))
  W1 hn ab ((bK.cell S0).trans hc) ?_ ?_ ?_
 apply dZ.mono;rintro e W2 ⟨⟨v,rfl⟩,hi,hl,hk⟩;exact⟨none,_,by have:=run_endLoop (P:=Tz.prog) hl cQ;rw[JC]at this;exact this,abw _ _ ab (hI _ _ _ hi<|oG.put _ _)<|(ay ab).trans hk⟩;intro W' hb aG;exact⟨hI _ _ _ h0<|(oG.below bK).trans<|oG.below hb,(hb.block _ ab).trans hL1,(hb.block _ ab).trans Na⟩;rintro k Wa Wb ⟨hi,hl,hk⟩ ht hb;rw[eI]at ht hb;have z1:=(agy.1 hl).1;exact⟨hI _ _ _ hi<|oG.but ht hb,(ht.block _ ab ab).trans hl,(ht.block _ ab ab).trans hk⟩;rintro k s W0 W C c pb ⟨hi,hl,hk⟩ aG hb hC hC' CR hC3 Xq;rw[eI]at aG;replace hl:=(hb.block _ ab).trans hl;replace hk:=(hb.block _ ab).trans hk;have abF:(w:Nat)+1<W:=ab;have hy:=run_yield (P:=Tz.prog) (args:=#[.slice C n c]) hl (by rw[JC];simp[hps]);rw[JC]at hy;refine⟨fn,_,assign,body,hy,roundIn_of_wpIn se<|UM _ _ W _ ⟨_,run_beginRound hl<|by rw[JC],?_⟩⟩;have XJ:(W.putObj ((w:Nat)+1)<|.loop {rec .ready none with state:=.busy}).heap[(w:Nat)+1]?=some (.loop {rec .ready none with state:=.busy}):=bk abF;have mZ:(W.putObj ((w:Nat)+1)<|.loop {rec .ready none with state:=.busy}).heap[(w:Nat)]?=some (.deferred<|some []):=(ay ab).trans hk;have hT2:(W.putObj ((w:Nat)+1)<|.loop {rec .ready none with state:=.busy}).heap[(w:Nat)+2]?=W.heap[(w:Nat)+2]?:=ay ab;have afr:(w:Nat)+1≠C:=ab;have hC2:(W.putObj ((w:Nat)+1)<|.loop {rec .ready none with state:=.busy}).heap[C]?=W.heap[C]?:=ay ab;have OY:(W.putObj ((w:Nat)+1)<|.loop {rec .ready none with state:=.busy}).heap.size=(W:Nat):=by simp[World.putObj]
 apply wpIn_mono<|abp _ k s W0 _ C c pb hi ab ((oG.below hb).trans<|oG.put _ _) hC (by rw[OY];exact hC') CR (by let⟨cs,g1,g2⟩:=hC3;exact⟨cs,hC2.trans g1,g2⟩) (λi hi=>by have:=Xq i hi;simp[a6,hC2]at this⊢;exact this);rintro e a3 W3 ⟨rfl,hi3,ED,n_⟩;have hr:=run_endRound (P:=Tz.prog) none<|(n_ ((w:Nat)+1) ab ab).trans XJ;rw[JC]at hr;have hz4:=agz (Nat.le_of_eq OY.symm) ED;have t_:(w:Nat)+1<W3:=ab;refine⟨_,_,hr,rfl,⟨hI _ _ _ hi3<|oG.put _ _,?_,(ay ab).trans<|(n_ _ ab ab).trans mZ⟩,?_,?_⟩;rw[bk t_,JC];rfl;simp;exact hz4;rw[eI];exact(ay ab).trans<|(n_ _ ab ab).trans hT2
def uO (f x y):ltOf (λa b:Fin (k+1)=>TX f a b) x y<->qc f x y:=by unfold ltOf;rw[decide_eq_true_eq];exact TY f x y
def uP (f x y):ltOf (λa b:Fin (k+1)=>TX f a b) x y=false<->¬qc f x y:=by rw[<-uO,Bool.not_eq_true]
def swo (f k):bS (ltOf λa b:Fin (k+1)=>TX f a b) where
 irrefl x:=(uP f x x).mpr<|qc.irrefl f x
 trans x y z h1 r:=(uO f x z).mpr<|((uO f x y).mp h1).trans<|(uO f y z).mp r
 ntrans x y z h1 r:=(uP f x z).mpr (λh=>by
  have A:=(uP f x y).mp h1;have u:=(uP f y z).mp r;rcases qc.tri f x y with b|b|b
  .exact A b
  .rw[b]at h;exact u h
  .exact u (b.trans h))
def grown_of (h:ad W W w')(i:W.drawn<=w'.drawn):∃q a,w'=Sort.grow (W.drewN q) a:=by
 let⟨p,g⟩:=regrown_of_below h;refine⟨p.d-W.drawn,p.os,?_⟩;have e:w'.drawn=p.d:=by rw[g];rfl
 grind [redrawn,World.drewN]
abbrev rZ k (x:Fin (k+1)):Value:=au .i64 x
def T1 k (f:Nat->Mv)(bl b off cap r:Nat)(w:aa)(hk:k+1<=1048576)(N:bl≠r)(hb:b≠r)(bN:b<w) (O:w.cell? bl=some (ac (some ⟨b,off,none⟩) (k+1) cap))(R:aM w b off (k+1) f): CmpLays1 Tz.prog 228 #[av bl] (rZ k) (λa b=>TX f a b) r 0 (k+1) w:=by intro m D J _ x y;have hc:∀(u o:Nat) (v:ax),u≠r->w.cell? ⟨u,o,none⟩=some v->(sortWorld _ w r 0 m J D).cell? ⟨u,o,none⟩=some v:=λu o v A h=>(cell?_sortWorld_other (rZ k) w r 0 m J D ⟨u,o,none⟩ A<|block_lt_of_cell h).trans h;(have U:aM _ b off _ f:=λi Y=>by let⟨Z,c1,c2,c3,c4,c5⟩:=R i Y;exact⟨hc _ _ _ hb Z,hc _ _ _ hb c1,hc _ _ _ hb c2,hc _ _ _ hb c3,hc _ _ _ hb c4,hc _ _ _ hb c5⟩);exact(IY x y bl b off _ cap f _ x.2 y.2 hk (hc _ _ _ N O) U).mono λe w' ⟨he,h1,h2⟩=>⟨he,grown_of h1 h2⟩
def Hy {m:Fin (k+1)->Fin (k+1)->Int}{F:FuncId}{bl g:Nat}(J:k+1<=1048576)(y:bS (ltOf m))(E:∀args w,(callFunc F args).run Tz.prog w=.ok (.enter F args) w)(K:CmpLays1 Tz.prog F #[av bl] (rZ k) m g 0 (k+1) w)(r:aC w g (k+1) (λi=>i)):
  ao Tz.prog 75 #[ac g (k+1:Nat) cap',.func (.func F) #[] #[av bl]] w λe w'=>
   e=aj (a9 #[])/\∃(d':Array (Fin<|k+1)) (n:Nat) (os:Array Obj),a2 0 (k+1) (aL λi:Fin (k+1)=>i) d'/\a0 (ltOf m) 0 (k+1) d'/\w'=sortWorld (rZ k) w g 0 n d' os:=by
 obtain⟨d,u⟩:∃d:Array _,d=aL (λi:Fin (k+1)=>i):=⟨_,rfl⟩;have o:d.size=k+1:=by rw[u];simp
 have z:bW (rZ k) w g 0 d:=λj G=>by
  have q:j<k+1:=ab;refine⟨?_,r.frozen _⟩;have e:d[j]! =⟨j,q⟩:=by rw[getElem!_pos d j G];simp[u]
  rw[e,a7];exact r.cellAt j q
 have x:CmpLays1 Tz.prog F #[av bl] (rZ k) m g 0 d.size w:=by rw[o];omega
 have A:=Any.pdqsortCmpFunc_all Tz.VD (rZ k) m F #[av bl] y g 0 cap' d w E x ⟨λ_=>rfl,z,r.lt⟩ (d.size+1) 0 d.size _ d w ab rfl (SW.start z) ab ab ab (agL (Lib.bitLen_le d.size 62 ab ab) ab)<|Or.inl rfl;have hs:=bX (ltOf m) y d 0 d.size (Lib.bitLen d.size) true true ab ab<|Or.inl rfl;have D:ao Tz.prog 100 #[au .u64 (d.size:Int)] w λe w'=>e=aj (au .i64 (Lib.bitLen d.size:Nat))/\w'=w:=by
  have h:=Any.bits_Len (SlLaysF0.n15.bits {Tz.VD with}) (d.size:Int) w ab ab;rwa [Int.toNat_natCast]at h
 rw[o]at A D hs;have wr:IntKind.u64.wrap ((k+1:Nat):Int)=((k+1:Nat):Int):=by simp[IntKind.wrap,IntKind.bits];omega
 rw[<-u];go_enter Tz.func75,Tryz.ntmps75
 go_wp2_with(first|(go_at_call 100;refine D.mono ?_;rintro e w' ⟨rfl,rfl⟩)|(go_at_call 99;refine A.mono ?_;rintro e w' ⟨rfl,n,os,rfl⟩))
 go_end0
 grind
def RU k (f:Nat->Mv)(bl b off cap r cap':Nat)(w:aa)(hk:k+1<=1048576)(u:bl≠r)(hb:b≠r)(x:b<w)
  (y:w.cell? bl=some (ac (some ⟨b,off,none⟩) (k+1) cap))(A:aM w b off (k+1) f)(D:aC w r (k+1) (λi=>i)):
  ao Tz.prog 75 #[ac r (k+1:Nat) cap',.func (.func 228) #[] #[av bl]] w λe w'=>
   e=aj (a9 #[])/\∃(d':Array (Fin<|k+1)) (n:Nat) (os:Array Obj),a2 0 (k+1) (aL λi:Fin (k+1)=>i) d'/\a0 (ltOf λa b:Fin (k+1)=>TX f a b) 0 (k+1) d'/\w'=sortWorld (rZ k) w r 0 n d' os:=
 Hy hk (swo f k) (enters_of Tz.func228 aO rfl) (T1 k f bl b off cap r w hk u hb x y A) D
def Sk (w:aa)(a n:Nat)(d:Array (Fin<|k+1))(os:Array Obj)(j:Nat)(g:j<w)(e:j≠a):(sortWorld (rZ k) w a 0 n d os).heap[j]?=w.heap[j]?:=by unfold sortWorld;rw[bi _ _ cQ];unfold bt br;simp[bm];omega
def aaw (w:aa)(a n:Nat)(d:Array (Fin<|k+1))(os:Array Obj)(cs:Array ax)(T:be)(h:w.heap[a]?=some (.cells cs T (0,0))): (sortWorld (rZ k) w a 0 n d os).heap[a]?=some (.cells (a5 (rZ k) 0 d cs) T (0,0)):=by have e:=(agy.1 h).1;unfold sortWorld;rw[bi _ _ cQ];unfold bt br;simp[bm,h,b0]
def Ww (w:aa)(a n:Nat)(d:Array (Fin<|k+1))(os:Array Obj):w<=(sortWorld (rZ k) w a 0 n d os).heap.size:=by simp_all [sortWorld]
def Mn (w:aa)(a n:Nat)(d:Array (Fin<|k+1))(os:Array Obj)(g:Nat->Int)(o:d.size=k+1)(h:aC w a (k+1) g): aC (sortWorld (rZ k) w a 0 n d os) a (k+1) (λi=>((d[i]!:Nat):Int)):=by let⟨⟨j,m,p⟩,_⟩:=h;have e:=aaw w a n d os j _ m;refine⟨⟨_,e,by grind [a5]⟩,λi q=>?_⟩;rw[a8 _ _ _ _ _ _ e,a7];simp only[a5];grind
def Ii (w:aa)(a n:Nat)(d:Array (Fin<|k+1))(os:Array Obj) e (g:e<=a)(i:e<=w):ad e w (sortWorld (rZ k) w a 0 n d os):=
 ⟨rfl,rfl,rfl,Ww w a n d os,λj m=>Sk w a n d os j ab ab⟩
def CK {g}(d')(u:a2 0 (k+1) (aL λi:Fin (k+1)=>i) d')(y:a0 (ltOf g) 0 (k+1) d'): d'.size=k+1/\(∀x,x∈d'.toList)/\∀i j,i<j->j<k+1->d'[i]!≠d'[j]!/\ltOf g (d'[j]!) (d'[i]!)=false:=by
 let⟨z,_,a⟩:=u;have o:d'.size=k+1:=by rw[z];simp
 have q:∀(d:Array (Fin<|k+1)) (m:Nat),m=d.size->d.extract 0 m=d:=λd m e=>by subst e;simp
 rw[q d' _ o.symm,q _ (k+1) aN]at a;have A:d'.toList.Nodup:=by apply a.nodup_iff.mpr;rw[List.Nodup,List.pairwise_iff_getElem];grind
 refine⟨o,λx=>a.mem_iff.2 f7,λi j r D=>⟨?_,y i j ab r D⟩⟩;rw[getElem!_pos d' i ab,getElem!_pos d' j ab];intro e;have:=(List.pairwise_iff_getElem.mp A) i j cY cY r;grind
def PU (f d')(r:a2 0 (k+1) (aL λi:Fin (k+1)=>i) d')(hs:a0 (ltOf λa b:Fin (k+1)=>TX f a b) 0 (k+1) d'): d'.size=k+1/\dK f (k+1) (λi=>(d'[i]!:Nat)):=by obtain⟨u,-,x⟩:=CK d' r hs;refine⟨u,λi _=>(d'[i]!).2,λi j y A=>?_⟩;let⟨D,J⟩:=x i j y A;rcases qc.tri f _ _ with b|b|b;omega;omega;exact absurd b<|(uP f _ _).mp J
def JL:Tz.prog.underlying 106=some (.slice 3):=aO
def J0 (n:Nat)(j:n<=1048576)(w:aa): (Instr.makeSlice 106 (n:Int) (n:Int)).run Tz.prog w=.ok (ac w n n) (w.alloc<|.cells (madeCells #[(0:Int)] n) 3):=by have a:=mh;rcases d:Tz.prog.info? 3 with _|i;grind;rw[d]at a;simp at a;let⟨m,e,g⟩:=a;have:=run_make w 106 3 i _ JL d g .i64 .i64 n n ab ab f7 ab;grind [bM]
def DL (n:Nat)(w:aa)(m:n<=1048576): ao Tz.prog 74 #[au .i64 n] w λe w'=>e=aj (ac w n n)/\aC w' w n (λi=>i)/\ad w w w':=by have o:=J0 n m;go_enter Tz.func74,Tryz.ntmps74;go_wp2;(go_loopw [9] (λi w'=>∃k:Nat,k<=n/\i=au .i64 k/\aC w' w n (λi=>if i<k then(i:Int)else 0)/\ad w w w') (λi _=>n-(intOf i).toNat));exact⟨0,agB _,rfl,(n8 w n).congr λi d=>aN,(agn _ _).alloc ab _⟩;obtain⟨k,q,rfl,a,g⟩:=hrel;by_cases j:k<n;(.have r:=a.cellAt k j;have u:=a.frozen k;go_wp2;(go_roundw);(case rel=>exact⟨k+1,ab,cQ,(a.set k j (k:Int)).congr (λi d=>by by_cases e:i=k;omega;simp[if_neg e];by_cases h:i<k;omega;rw[if_neg h,if_neg ab]),g.setCell aN _⟩);exact cD);go_wp2;go_ret;exact⟨rfl,a.congr λi d=>ab,g⟩
def FL v (g:v.oneCell')(a:Option Addr)(n cap:Nat)(d:v=ac a n cap)(w:aa): ao Tz.prog 216 #[v] w λe w'=>e=aj (.func (.func 228) #[] #[av w])/\w'=w.alloc (.cells #[v] 39):=by subst d;go_enter Tz.func216,Tryz.ntmps216;go_wp2;go_ret;simp
def Cr (f:Nat->Mv)(n:Nat)(w:aa)(e:a4)(w':aa):Prop:=
 ∃(g:Nat->Nat) (B r:Nat),dK f n g/\w<=B/\e=aj (ac B n r)/\aC w' B n (λi=>((g i:Nat):Int))
def yM (f:Nat->Mv)(n:Nat)(w:aa)(e:a4)(w':aa):Prop:=
 ∃(g:Nat->Nat) (B:Nat),dK f n g/\w<=B/\e=aj (ac B n n)/\aC w' B n (λi=>((g i:Nat):Int))
def yM.says {f e}(h:yM f n w e w'):Cr f n w e w':=by let⟨g,B,r,u,x,y⟩:=h;exact⟨g,B,n,r,u,x,y⟩
def DA (a:Option Addr) cap d (w:aa): ao Tz.prog 75 #[ac a 0 cap,d] w λe w'=>e=aj (a9 #[])/\w'=w:=by
 have g:=AnyF.pdqsortCmpFunc_none {Tz.VD with} a cap (Lib.bitLen 0:Nat) d w;have i:ao Tz.prog 100 #[au .u64 0] w λe w'=>e=aj _/\w'=w:=
  Any.bits_Len (SlLaysF0.n15.bits {Tz.VD with}) 0 w ab ab
 go_enter Tz.func75,Tryz.ntmps75;go_wp2_with(first|(go_at_call 100;refine i.mono ?_;rintro e w' ⟨rfl,rfl⟩)|(go_at_call 99;refine g.mono ?_;rintro e w' ⟨rfl,rfl⟩))
 go_end0
 grind
def BQ (b off n cap:Nat)(f:Nat->Mv)(w:aa)(N:n<=1048576)(O:b<w)(Z:aM w b off n f): ao Tz.prog 191 #[ac (some ⟨b,off,none⟩) n cap] w λe w'=>yM f n w e w'/\ad w w w':=by have y:=DL n w N;have A:=λW=>FL (ac _ n cap) rfl (some ⟨b,off,none⟩) n cap rfl W;cases n with|zero=>go_enter Tz.func191,Tryz.ntmps191;(go_wp2_with(first|(go_at_call 74;refine y.mono ?_;clear y;rintro e r ⟨rfl,u,x⟩)|(go_at_call 216;refine(A _).mono ?_;clear A;rintro e w2 ⟨rfl,rfl⟩)|(go_at_call 75;refine(DA _ _ _ _).mono ?_;rintro e w3 ⟨rfl,rfl⟩)));go_ret;exact⟨⟨λi=>i,w,⟨λi J=>absurd J ab,λi j _ hj=>absurd hj ab⟩,agw _,rfl,(u.below ((agn _ r).alloc ab _) u.lt).congr λi J=>absurd J ab⟩,x.alloc x.size _⟩|succ k=>go_enter Tz.func191,Tryz.ntmps191;(go_wp2_with(first|(go_at_call 74;refine y.mono ?_;clear y;rintro e r ⟨rfl,u,x⟩)|(go_at_call 216;refine(A _).mono ?_;clear A;rintro e w2 ⟨rfl,rfl⟩;have R:ad r r (r.alloc<|.cells #[ac (some ⟨b,off,none⟩) (k+1) cap] 39):=(agn _ _).alloc ab _;have U:=u.below R u.lt;have D:=x.trans<|R.mono x.size;have Y:=RU k f r b off cap w (k+1) _ N (by have:=u.lt;omega) ab (agx O D.size) aN (Z.below D O) U)|(go_at_call 75;refine Y.mono ?_;clear Y;rintro e w3 ⟨rfl,d',q,os,hp,hs,rfl⟩)));go_ret;let⟨iV,Es⟩:=PU f d' hp hs;exact⟨⟨_,w,Es,agw _,rfl,Mn _ _ _ _ _ _ iV U⟩,D.trans<|Ii _ _ _ _ _ _ ab D.size⟩
def BR (b off n cap:Nat)(f:Nat->Mv)(w:aa)(r:n<=1048576)(u:b<w)(x:aM w b off n f):
  ao Tz.prog 191 #[ac (some ⟨b,off,none⟩) n cap] w λe w'=>Cr f n w e w'/\ad w w w':=
 (BQ b off n cap f w r u x).mono λe w' h=>⟨h.1.says,h.2⟩
section
variable {W':aa}{lo C f:Nat}{cH:List ax}{L:List (List Nat)}{s l:List Nat}
attribute [local go_sem] Oper.semAt_some
def RowsIn (W:aa)(n lo:Nat)(cH:List ax)(L:List (List Nat)):Prop:=
 ∀(i:Nat) (s:List Nat),L[i]?=some s->∃a d,cH[i]?=some (ac (some ⟨a,0,none⟩) n d)/\n<=d/\lo<=a/\jg W a/\aD W a 0 n (λi=>((pl s i:Nat):Int))
def jg.lt (h:jg W b):b<W:=by let⟨d,a,_⟩:=h;exact(agy.1 a).1
def jg.same (h:jg W b)(e:W'.heap[b]?=W.heap[b]?):jg W' b:=by let⟨a,d,g⟩:=h;exact⟨a,e.trans d,g⟩
def RowsIn.same (h:RowsIn W n lo cH L)(e:∀b,lo<=b->jg W b->W'.heap[b]?=W.heap[b]?):RowsIn W' n lo cH L:=λi s j=>by
 let⟨a,m,o,p,d,g,q⟩:=h i s j;exact⟨a,m,o,p,d,g.same<|e a d g,q.same<|e a d g⟩
def RowsIn.low {a}(h:RowsIn W n lo cH L)(d:a<=lo):RowsIn W n a cH L:=λi s e=>by
 let⟨g,j,m,o,p,q⟩:=h i s e;exact⟨g,j,m,o,agz d p,q⟩
def RowsIn.snoc (h:RowsIn W n lo cH L)(O:cH.length=L.length)(q:n<=c)(r:lo<=C)(u:jg W C)(x:aD W C 0 n (λi=>((pl s i:Nat):Int))):
  RowsIn W n lo (cH++[ac C n c]) (L++[s]):=λi l e=>by
 by_cases y:i<L.length
 .rw[agH y]at e;let⟨z,A,D,J⟩:=h i l e;exact⟨z,A,by rw[agH ab];exact D,J⟩
 .rw[agI ab]at e;have N:i-L.length=0:=by
   have:=(agF.1 e).1;simp at this;omega
  rw[N]at e;simp at e;subst e;exact⟨C,c,f7,q,r,u,x⟩
def EM (h:jg W b){base a}(d:W.ownsRow base 106 a v k xs):some b≠v.ownBlock:=by let⟨m,o,_⟩:=h;rcases d.2 with⟨rfl,_⟩|⟨g,e,i,rfl,_,j,_⟩;all_goals grind [Value.ownBlock]
structure ub (W:aa)(n lo f:Nat)(L:List (List Nat)):Prop where
 ex:∃v cH,aP W f 219 v/\W.ownsRow lo 106 1 v L.length cH/\RowsIn W n lo cH L
def ub.same (h:ub W n lo f L)(D:W'.heap[f]?=W.heap[f]?)(e:∀b,lo<=b->b<W->W'.heap[b]?=W.heap[b]?):ub W' n lo f L:=by let⟨v,cH,J,N,O⟩:=h.ex;refine⟨v,cH,D.trans J,?_,O.same λb hb R=>e b hb R.lt⟩;obtain⟨x,U|⟨g,r,u,rfl,y,A,Y⟩⟩:=N;exact⟨x,.inl U⟩;exact⟨x,.inr ⟨g,r,u,rfl,y,(e g y (agy.1 A).1).trans A,Y⟩⟩
def Ca {r:aa}{u:ax}{x:Obj}(A:aP W f 219 v)(D:W.ownsRow lo 106 1 v L.length cH)(Z:RowsIn W n lo cH L) (h2:n<=c)(h3:lo<=C)(J:jg W C)(h5:aD W C 0 n (λi=>((pl s i:Nat):Int))) (U:r.ownsRow lo 106 1 u (L.length+1) (cH++[ac C n c]))(N:(W.alloc x).grownBy r v.ownBlock): aP r f 219 v/\ub (r.setCell f u) n lo f (L++[s])/\(∀b,b<(W:Nat)->b≠f->some b≠v.ownBlock->(r.setCell f u).heap[b]?=W.heap[b]?)/\W<=(r.setCell f u).heap.size:=by
 have y:(219:be)≠106:=bc;have O:=(A.alloc x).kept N<|A.not_row y D;have Y:∀b,b<(W:Nat)->b≠f->some b≠v.ownBlock->(r.setCell f u).heap[b]?=W.heap[b]?:=λb hb R ho=>by rw[agp _ _ _ b R,N.block b cY ho];grind [Below.heap_alloc]
 refine⟨O,⟨u,cH++[ac C n c],O.set u,?_,?_⟩,Y,?_⟩;rw[List.length_append];exact U.kept (grownBy_setCell' r f u)<|.inr (O.not_row y U).symm;have hk:∀b,jg W b->(r.setCell f u).heap[b]?=W.heap[b]?:=λb hb=>by refine Y b hb.lt (λe=>?_)<|EM hb D;let⟨cs,g1,_⟩:=hb;rw[e,show W.heap[f]?=_ from A]at g1;grind
 have hl:cH.length=L.length:=by have:=D.1;omega
 exact(Z.same λb _ hb=>hk b hb).snoc hl h2 h3 (J.same<|hk C J)<|h5.same<|hk C J;have:=N.size;simp at this⊢;omega
def wV (p){A:List (List Nat)}(h:A[k]?=some l):(A.take<|k+1).filter p=(A.take k).filter p++(if p l then[l]else[]):=by rw[List.take_add_one,h,List.filter_append];grind
def wU {f:FuncId}{args:Array ax}{R:a4->aa->Prop}(h:ao P f args w R):∃e w',R e w':=by let⟨e,w',r,u,_⟩:=h [];grind
def Ob {cap a:Nat}{g h:Nat->Int}{r:Int}(m:ft g h n r)(o:n<=1048576)(i:b<W)(p:aD W b 0 n g)(q:jF g n n)(j:a<W)(u:aD W a 0 n h)(y:jF h n n)(x:am W): ao Tz.prog 193 #[ac b n cap,ac a n cap'] x.at_ λe w'=>e=aj r/\ad x.at_ x.at_ w':=by have d:=x.below;refine(sF b 0 n cap a 0 cap' g h x.at_ o (agx i d.size) (p.below d i) q (agx j d.size) (u.below d j) y).mono ?_;rintro e w' ⟨⟨s,rfl,z⟩,A⟩;exact⟨by rw[z.unique m],A⟩
def acx (h:l∈ba n):jF (λi=>((pl l i:Nat):Int)) n n:=
 ⟨λi a=>by have:=(ir h).2.1 i a;dsimp only;omega,λi j d e=>by have:=(ir h).2.2 i j d e;dsimp only;omega⟩
def JK:Tz.prog.underlying 219=some (.slice 106):=aO
def Gq:(Tz.prog.info? 106).map (λi=>(i.size,i.bytes,i.zero))=some (1,24,some<|ac none 0 0):=aO
def Ra (b off n cap:Nat)(f:Nat->Mv) shift (w:aa)(hm:aH f n)(bN:b<w)(az:aM w b off n f)(p:List Nat->Bool) (hp:∀g,dK f n g->∀l∈ba n,∀r,ft (λi=>((pl l i:Nat):Int)) (λi=>((g i:Nat):Int)) n r->(p l<->r<=shift)): ao Tz.prog 174 #[ac (some ⟨b,off,none⟩) n cap,shift] w λe w'=>(∃v cH,e=aj v/\w'.ownsRow w 106 1 v ((ba n).filter p).length cH/\RowsIn w' n w cH ((ba n).filter p))/\ad w w w':=by
 have h6:=bY hm;have hn:n<=1048576:=ab;have o0:∀o1,ad w w (w.alloc o1):=λo1=>(agn _ w).alloc (agw _) _;refine(aI (n:=9)).1 ?_;refine callsIn_of_wp_marks Tz.func174 rfl trivial ?_ rfl;simp only[Tryz.ntmps174,bv,bE,bH,bO,bR,bo,bp,bB,bs,bJ,bF];gi_wp2_with (first|(refine⟨trivial,?_⟩;refine(aI.2<|BR _ _ _ _ f _ hn cY<|az.below (o0 _) bN).mono ?_;rintro e u ⟨⟨g,B,Y,hg,j9,rfl,tH⟩,b1⟩)|(refine⟨trivial,?_⟩;refine(aI.2<|Ka _ _).mono ?_;rintro e w' ⟨rfl,rfl⟩))
 have eI:(w:Nat)+1<=u:=by have:=b1.size;simpa using this
 have Jv:ad w w u:=(o0 _).trans<|b1.mono aN;have Ju:=tH.lt;obtain⟨WS,Z⟩:∃WS,((u.alloc<|.cells #[ac (some ⟨B,0,none⟩) n Y] 106).alloc<|.cells #[ac none 0 0] 219).alloc (.cells #[au .i64 (n:Int)] 3)=WS:=⟨_,rfl⟩;have hL:ad u u WS:=Z▸(((agn _ u).alloc (agw _) _).alloc aN _).alloc cY _;have aZ:(WS:Nat)=(u:Nat)+3:=by rw[<-Z];simp
 have c0:u.cell? (w:Nat)=some (au .i64 shift):=(b1.cell (p:=(w:Nat)) aN).trans aN;have cS:WS.cell? (w:Nat)=some (au .i64 shift):=(hL.cell (p:=(w:Nat)) cY).trans c0;have cF:WS.cell? (u:Nat)=some (ac B n Y):=by rw[<-Z];simp[go_sem]
 have cN:aP WS ((u:Nat)+1) 219 ():=by(have h1:aP ((u.alloc<|.cells #[ac B n Y] 106).alloc<|.cells #[()] 219) ((u:Nat)+1) 219 ():=by have:=Boxed.new (u.alloc<|.cells #[ac B n Y] 106) 219 ();simpa using this);rw[<-Z];exact h1.alloc _
 have cL:WS.cell? ⟨(u:Nat)+1+1,0,none⟩=some (au .i64 (n:Int)):=by rw[<-Z];simp[go_sem]
 have bb:=tH.below hL Ju;have bj:ad w w WS:=Jv.trans<|hL.mono Jv.size;rw[Z];clear Z c0 hL tH;refine Ir (Bn:=(u:Nat)+1+1) (n:=n) ab rfl h6 ab cL rfl
  (λk W=>ad w w W/\lp ((u:Nat)+1) WS W/\ub W n ((WS:Nat)+3) ((u:Nat)+1) (((ba n).take k).filter p)) ?hI ?h0 ?a1 ?assign ?body ?done
 case hI=>rintro k W1 W2 ⟨i1,i2,i3⟩ hs;refine⟨⟨hs.os.trans i1.os,hs.tape.trans i1.tape,hs.output.trans i1.output,agz i1.size hs.size,λj hj=>(hs.block j (by have:=i1.size;omega) ab).trans<|i1.block j hj⟩,⟨agz i2.size hs.size,λj hj A=>(hs.block j (by have:=i2.size;omega) ab).trans<|i2.block j hj A⟩,i3.same (hs.block _ (by have:=i2.size;omega) ab) λb hb R=>hs.block b R ab⟩
 case h0=>exact⟨bj,lp.refl _ _,⟨ac none 0 0,[],cN,World.ownsRow_nil _ _ _ _,λi s hi=>by simp at hi⟩⟩
 case assign=>intro l x W K hK;gi_wp2;exact hK
 case body=>rintro l k s W0 W C c pb ⟨i1,i2,i3⟩ R J hC N CR a3 Xq;have th:s∈ba n:=List.mem_of_getElem? pb;have O:ad w w W:=⟨J.os.trans i1.os,J.tape.trans i1.tape,J.output.trans i1.output,agz i1.size J.size,λj hj=>(J.block j (by have:=i1.size;omega) ab).trans<|i1.block j hj⟩;have U:lp ((u:Nat)+1) WS W:=⟨agz i2.size J.size,λj hj A=>(J.block j (by have:=i2.size;omega) ab).trans<|i2.block j hj A⟩;have j3:=i3.same (J.block _ (by have:=i2.size;omega) ab) λb hb R=>J.block b R ab;clear i1 i2 i3;have C_:=U.size;(have dS:W.cell? (w:Nat)=some (au .i64 shift):=by have:=U.block w ab ab;simp only[a6,this]at cS⊢;exact cS);(have dF:W.cell? (u:Nat)=some (ac B n Y):=by have:=U.block u ab ab;simp only[a6,this]at cF⊢;exact cF);have Rt:=bb.but U ab;have Qu:=hg.ord;have F9:=acx th;(obtain⟨r,hr⟩:∃r,ft (λi=>((pl s i:Nat):Int)) (λi=>((g i:Nat):Int)) n r:=by let⟨e,w',⟨r,_,hr⟩,_⟩:=wU<|sF C 0 n c B 0 Y _ _ W hn N Xq F9 Rt.lt Rt.2 Qu;exact⟨r,hr⟩);have pZ:=hp g hg s th r hr;have HS:=λx=>Ob (cap:=c) (cap':=Y) hr hn N Xq F9 Rt.lt Rt.2 Qu x;have A:=aK W;have q0:=λx:am W=>x.cell dS;have q1:=λx:am W=>x.cell dF;have HR:Hid (p s=true<->r<=shift):=pZ;clear pZ hr Qu F9;by_cases bl:r<=shift;(.gi_wp2;refine oh (pu _ _) aO aO aO ?_;(repeat(go_big_quiet_step ((go_at_call 193;exact cr<|HS _))));refine bV<|cK ?_;intro w2 y;(have hf:Hid (((ba n).take<|k+1).filter p=((ba n).take k).filter p++[s]):=by rw[wV p pb,if_pos (HR.out.2 bl)];exact rfl);rw[aZ]at j3;let⟨v,cH,m1,m2,m3⟩:=(j3.same (W':=w2) (y.block _ ab) λb hb R=>y.block b R).ex;have bq:=Xq.below y N;have bx:=a3.below y N;have bA:=m1.cell;clear j3 a3 Xq A q0 q1 HS dS dF Rt;have bK:=y.size;(obtain⟨i0,hI,gE,eI,f8⟩:∃i0,Tz.prog.info? 106=some i0/\i0.zero=some (ac none 0 0)/\i0.size=1/\i0.bytes=24:=by have h:=Gq;rcases hI:Tz.prog.info? 106 with _|i0;rw[hI]at h;simp at h;rw[hI]at h;simp only[Option.map_some,Option.some.injEq,Prod.mk.injEq]at h;exact⟨i0,rfl,h.2.2,h.1,h.2.1⟩);have bz:(((ba n).take k).filter p).length<=720:=agz (List.length_filter_le _ _) (by have:=(kD n h6).1;simp;omega);(gi_wp2_with (refine wpListIn_append_own _ rfl (.tmp 19) (.tmp 21) 219 rfl ((u:Nat)+3+3) 106 i0 () 1 24 JK hI gE eI f8 rfl bc v (((ba n).take k).filter p).length cH bQ (m2.alloc _) _ 1 1 [ac C n c] bQ rfl (fC<|heap_alloc_new w2 _) sU iR ab cY ?_;intro v' w3 so zy b2;obtain⟨G,gc,rfl⟩:=ownsRow_succ so;let⟨o1,o2,o3,o4⟩:=Ca m1 m2 m3 CR ab bx bq so zy;have b3:=o1.cell;have b4:=o1.frozen));(have aV:∀b,b<(u:Nat)+3+3->some b≠v.ownBlock:=λb hb e=>by have:=dl m2 b e.symm;omega);have b5:=O.size;(have o5:(w2:Nat)<=w3:=by have:=zy.size;simp at this;omega);refine⟨⟨⟨zy.os.trans<|y.os.trans O.os,zy.tape.trans<|y.tape.trans O.tape,zy.output.trans<|y.output.trans O.output,ab,λb hb=>(o3 b ab ab<|aV b ab).trans<|(y.block b ab).trans<|O.block b hb⟩,⟨ab,λb hb A=>(o3 b ab A<|aV b ab).trans<|(y.block b ab).trans<|U.block b hb A⟩,?_⟩,ab,λb h1 h2=>(o3 b ab ab<|aV b ab).trans<|y.block b ab⟩;rw[hf.out];exact o2);gi_wp2;refine oh (pu _ _) aO aO aO ?_;(repeat(go_big_quiet_step ((go_at_call 193;exact cr<|HS _))));refine bV<|cK ?_;intro w2 y;(have hf:Hid (((ba n).take<|k+1).filter p=((ba n).take k).filter p):=by rw[wV p pb,if_neg (λh=>by have:=HR.out.1 h;omega)];exact List.append_nil _);gi_wp2;rw[aZ]at j3;refine⟨⟨O.trans<|y.mono O.size,U.trans<|lp.of y,?_⟩,y.size,λb h1 h2=>y.block b ab⟩;rw[hf.out];exact j3.same (y.block _ ab) λb hb R=>y.block b R
 rintro D W hD ⟨i1,i2,i3⟩ hK;rw[List.take_length]at i3;let⟨v,cH,O,U,j3⟩:=i3.ex;have cv:=O.cell;gi_wp2;refine⟨aN,.inl ⟨_,_,rfl,run_takeDeferred hK,?_⟩⟩;refine⟨v,?_,⟨v,cH,rfl,mq (ownsRow_putObj U _ hK rfl) ab,?_⟩,i1.trans<|belowK_b (w:=w) (agw _) W D _ _ ab hK rfl rfl⟩
 .simp[results,Tryz.f174,go_sem]
 refine(j3.same (W':=W.putObj D<|.deferred none) λb hb hi=>ay λe=>?_).low ab;let⟨cs,g1,_⟩:=hi;rw[e,hK]at g1;simp at g1
end
section
variable {base:Nat}{T:be}{t:Nat->Int}
theorem U7:IntKind.i64.min=-9223372036854775808:=bc
theorem U6:IntKind.i64.max=9223372036854775807:=bc
def xl {T}(h:aD w b 0 n T):∀j u,(eL T n)[j]?=some u->w.cell? ((b:Addr).add j)=some u:=λj u a=>by
 have d:j<n:=by rcases agE j n with h|h;exact h;rw[agG (by rw[fg];exact h)]at a;cases a
 rw[dY d]at a;rw[show(b:Addr).add j=⟨b,0+j,none⟩ by unfold Addr.add;split<;>simp_all,h j d];exact a
def G6 (h:w.ownsRow base T 1 (ac B n c) n (eL t n)):aD w B 0 n t:=λi e=>by
 rw[a7,h.cellAt i ab];exact dY e
def VA (h:w.ownsRow base T 1 v n xs)(r:0<n):∃B c,v=ac (some ⟨B,0,none⟩) n c:=by obtain⟨u,e|⟨g,p,q,e,x,y⟩⟩:=h;omega;grind
def A5 {x}(h:-9223372036854775808<=x/\x<=9223372036854775807):(Lit.int .i64 x).wf:=by show(decide (IntKind.i64.min<=x)&&decide (x<=IntKind.i64.max))=true;grind [U7,U6]
