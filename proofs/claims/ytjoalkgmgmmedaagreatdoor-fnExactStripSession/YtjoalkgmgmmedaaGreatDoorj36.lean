import Derived.Test.YtjoalkgmgmmedaaGreatDoorj35
set_option linter.defProp false
set_option linter.unusedSectionVars false
set_option linter.unusedVariables false
set_option maxHeartbeats 4000000
set_option maxRecDepth 100000
open Go renaming World->ao,heap_alloc_new->ay,wpList_append_own->aL,Value->a4,results->a7,setRow_heap->a9,setRow_other->bn,setRow_size->bo,FuncId->bv,yielded->bB,bodyPost_ret->bE,Frame->bH,execOp->bO,heap_setCell_same->bR,Calls->bV,Operand->bW,Addr->b0,TypeId->b5,bytes->b6,frozen_of_row->b7,below_setRow->b8,unwind->b9,Code->ca,wpList->cb
open Go.Conc renaming base->a0
open Go.Ending renaming returned->a6
open Go.Frame renaming eval_at->a8,finish->bb,enter->bi,catches->bM
open Go.Region renaming wanted->a3
open Go.RowKit renaming Below->a2
open Go.Value renaming slice->aa,int->ac,pointer->au,tuple->a5,bool->be,agg->bm,string->bp
open Go.World renaming cell?->ai,ownsRow_nil->bt
open List renaming range'->bs,cons_append->bF,nil_append->bI
open Nat renaming zero_add->av
namespace Go.Proofs.YtjoalkgmgmmedaaGreatDoor
open Conc RowKit
variable {a:Act}{ops:Array Oper}{xs N:Array a4}{X:ca}{ok:Ctx}{c fr r0:bH}{fn:Func}{Dr:bv->Array a4->ao->(a4->ao->Prop)->Prop}{now shift A:Int}{cs:List bH}{k:List Item}{l:List Mv}{r:List Nat}{m:Mv}{B J s C b cap i n p:Nat}{t:Nat->Int}{F f g:Nat->Mv}{o:Oper}{afn:Program}{T ty:b5}{u v D x y:a4}{Q:a4->ao->Prop}{V W w w' w0:ao}
def GV (l m):bc (jO<|l++[m]) (l.length+1)=bc (jO l) l.length++m.cells.toList:=by
 rw[ic,pq (λj d=>by rw[K9,if_neg ab]),K9,if_pos rfl]
def rG {f t p}:∀{k:Nat},p<k->0<(aw f t p k).length
 |0,h=>ab
 |k+1,h=>by
  simp only[aw];by_cases e:p=k
  .subst e;rw[if_neg ab];simp
  .have:=rG (f:=f) (t:=t) (p:=p) (k:=k) ab;split
   .exact this
   .simp
def aR (w:ao)(b:Nat)(now shift:Int)(v u:a4)(ty:TypeId:=29):Prop:=w.heap[b]?=some (.cells #[now,shift,v,u] ty (0,0))
def aR.lt (h:aR w b now shift v u ty):b<w:=(afM.1 h).1
def aR.same (h:aR w b now shift v u ty)(e:w'.heap[b]?=w.heap[b]?):aR w' b now shift v u ty:=e.trans h
theorem aR.cells (h:aR w b now shift v u ty):w.cell? b=some (ac .i64 now)/\w.cell? ⟨b,1,none⟩=some (ac .i64 shift)/\w.cell? ⟨b,2,none⟩=some v/\w.cell? ⟨b,3,none⟩=some u/\∀j,w.frozen? ⟨b,j,none⟩=false:=by
 unfold aR at h;refine⟨?_,?_,?_,?_,λj=>b7 _ _ j _ _ h⟩<;>simp[ai,h]
structure Rb (w0:ao)(a0 J s C now shift A x y D l W):Prop where
 bk:aR W J now shift x y
 res:aR W s 0 0 () ()
 nx:aR W C A shift D ()
 own:W.ownsRow a0 55 6 D l.length (bc (jO l) l.length)
 below:a2 w0 w0 W
 OK:a0<=W
def Rb.grow {W' a0}(h:Rb w0 a0 J s C now shift A x y D l W)(hb:a2 W W W'):Rb w0 a0 J s C now shift A x y D l W':=
 ⟨h.bk.same<|hb.block _ h.bk.lt,h.res.same<|hb.block _ h.res.lt,h.nx.same<|hb.block _ h.nx.lt,h.own.kept (row:=none) ⟨hb.os,hb.tape,hb.output,hb.size,λk d _=>hb.block k d⟩ gC,h.below.trans<|hb.mono h.below.size,afN h.OK hb.size⟩
def Rb.append {a0 q}(h:Rb w0 a0 J s C now shift A x y D l W)(L:J<a0)(M:s<a0)(O:C<a0)(z:J≠C)(E:s≠C)(P:w0<=C)
  (own:w'.ownsRow a0 55 6 q (l.length+1) (bc (jO l) l.length++m.cells.toList))(d:W.grownBy w' D.ownBlock):Rb w0 a0 J s C now shift A x y q (l++[m]) (w'.setCell ⟨C,2,none⟩ q):=by
 have hb:∀k,k<W.heap.size->k<a0->w'.heap[k]?=W.heap[k]?:=λk j R=>d.block k j (λe=>by have:=(h.own.lt k e.symm).1;omega)
 have K:∀k,k≠C->(w'.setCell ⟨C,2,none⟩ q).heap[k]?=w'.heap[k]?:=λk j=>afD _ _ _ k j
 have S:=d.size;have U:=h.OK;refine⟨h.bk.same<|(K _ z).trans<|hb _ h.bk.lt L,h.res.same<|(K _ E).trans<|hb _ h.res.lt M,bR w' C 2 _ _ q<|(hb _ h.nx.lt O).trans h.nx,?_,by refine(h.below.trans ⟨d.os,d.tape,d.output,d.size,λk j=>hb k ab ab⟩).setCell ab _,dj⟩;have e:(l++[m]).length=l.length+1:=cO;rw[e,GV];exact own.kept (row:=some C) ⟨rfl,rfl,rfl,aP,λk _ j=>K k λe=>j cO⟩<|.inr (λe=>by have:=(own.lt C e).1;omega)
def Rb.SC {a0}(h:Rb w0 a0 J s C now shift A x y D l W)(d:W.grownBy w' D.ownBlock)(j:C<a0):aR w' C A shift D ():=
 h.nx.same (d.block C h.nx.lt (λe=>by have:=(h.own.lt C e.symm).1;omega))
def lA {a0 xs}(h:w.ownsRow a0 T 6 v (n+1) xs):∃B c,v=aa (some ⟨B,0,none⟩) (n+1) c:=by
 rcases h.2 with⟨_,e⟩|⟨g,cap,q,e,_⟩
 .omega
 grind
def Te (h:w.heap[b]?=some (.cells m.cells T (0,0))):w.cell? b=some (bp m.name)/\w.cell? ⟨b,1,none⟩=some (be m.ax)/\w.cell? ⟨b,2,none⟩=some (ac .i64 m.aI)/\w.cell? ⟨b,3,none⟩=some (ac .i64 m.cE)/\w.cell? ⟨b,4,none⟩=some (ac .i64 m.late)/\w.cell? ⟨b,5,none⟩=some (ac .i64 m.prom):=by
 simp_all [ai]
def ad7 (h:w.heap[b]?=some (.cells m.cells T (0,0)))(d:Mv):((((((w.setCell b d.name).setCell ⟨b,1,none⟩ d.ax).setCell ⟨b,2,none⟩ d.aI).setCell ⟨b,3,none⟩ d.cE).setCell ⟨b,4,none⟩ d.late).setCell ⟨b,5,none⟩ d.prom).heap[b]?=some (.cells d.cells T (0,0)):=by
 have:=bR _ _ 5 _ _ d.prom<|heap_setCell_same _ _ 4 _ _ d.late<|heap_setCell_same _ _ 3 _ _ d.cE<|heap_setCell_same _ _ 2 _ _ d.aI<|heap_setCell_same _ _ 1 _ _ d.ax<|heap_setCell_same w b 0 _ _ d.name h;simp_all
def vF (h:w.heap[b]?=some (.cells m.cells T (0,0))):∀j u,m.cells.toList[j]?=some u->w.cell? ((b:b0).add j)=some u:=λj u d=>by
 rw[qf,av,cell_of_row _ _ _ _ _ _ h];simpa using d
def dY (w:ao)(e d):((w.alloc e).alloc d).heap[w.heap.size+1]?=some d:=by have:=ay (w.alloc e) d;simpa using this
def BL (f t) p:gR f t p p=vu (f p) (t p):=by unfold gR;rw[if_pos rfl]
def vY {k}(h:¬k=p):gR f t p k=bT (f k) (t k) (t p):=by unfold gR;rw[if_neg h]
def my {k}(h:¬t k<t p):aw f t p (k+1)=aw f t p k++[gR f t p k]:=by simp only[aw];rw[if_neg h]
def Dw (w:ao)(B n:Nat)(F:Nat->Mv):Prop:=aK w B 0 n F/\∃cs,w.heap[B]?=some (.cells cs 55 (0,0))/\n*6<=cs.size
def Dw.same (h:Dw w B n F)(e:w'.heap[B]?=w.heap[B]?):Dw w' B n F:=by
 let⟨d,cs,j,q⟩:=h;exact⟨dJ d e,cs,e.trans j,q⟩
def Dw.lt (h:Dw w B n F):B<w:=by
 let⟨_,cs,d,_⟩:=h;grind
def Es {a0 c}(h:w.ownsRow a0 55 6 (aa B n c) n (bc F n)):Dw w B n F:=by
 refine⟨eh h,?_⟩;obtain⟨_,e|⟨g,cap,q,e,_,z,O,_,R,_⟩⟩:=h;all_goals grind
section
variable [Gl]
def LT (f:Nat->Mv)(n:Nat)(t:Nat->Int)(p:Nat)(shift:Int)(V:ao)(v:a4)(O:ao):Prop:=
 (∃(U Y:Int) (Z:Option b0) (l2 c2:Nat) (x3:Option b0) (l3 c3:Nat),v=a5 #[bm #[U,Y,aa Z l2 c2,aa x3 l3 c3],be (dG f n t p).isSome]/\∀T,dG f n t p=some T->∃R BT,V.heap.size<=R/\V.heap.size<=BT/\U=t p/\Y=shift/\Z=some ⟨R,0,none⟩/\l2=(aw f t p n).length/\x3=some ⟨BT,0,none⟩/\l3=(aw f t p n).length/\Dw O R (aw f t p n).length (jO<|aw f t p n)/\aC O BT (aw f t p n).length T)/\Bl V V O
def ae.c_ (E:dB Tz.prog ok c aS)(q:ok.aN 108)(z:ok.aN 142)(O:ok.aN 166=false){b:bH}(hb:ok.aN b.fn)(ho:ops[i]?=some o)(hw:a3 o (bB ops a.tmps))
  (R:∀w,(bO a.eval o).run Tz.prog w=.ok (.enter 108 #[aa B n cap,now,shift]) w)
  (U:n<=6)(Y:∀i,i<n->(g i).ok)(Z:0<=now)(h1:now<=20000)(bN:B<V)(aB:aK V B 0 n g)
  (aE:∀v e,gE (gw g n now shift) n V v e->ae Tz.prog ok c aS Q ⟨b.at (a.put o.dst v)<|.inRegion ops r::k,cs,e⟩):ae Tz.prog ok c aS Q ⟨b.at a<|.inRegion ops (i::r)::k,cs,V⟩:=
 ae.aZ E ho hw q R (EW E q z O (r0:=b.at a _) hb U Y Z h1 bN aB λv e hv=>by rw[ar ho];exact aE v e hv)
def XZ {p:Prop}(x9:p:=by
  rcases hR.own.2 with⟨_,e⟩|⟨g,cap,cur,e,_⟩
  .omega
  .exact⟨g,cap,e⟩):p:=x9
def Ht (E:dB Tz.prog ok c aS)(tK:ok.aN 81)(zg:ok.aN 108)(ww:ok.aN 142)(E3:ok.aN 166=false)(eN:ok.aN r0.fn)
  {Y cap':Nat}(hm:aG f n)(hf:fX f t n)(hp:p<n)(bN:b<V)(aB:aK V b 0 n f)(bz:Y<V)(aV:aD V Y 0 n t)
  (aE:∀v V',LT f n t p shift V v V'->ae Tz.prog ok c aS Q ⟨r0.finish v,cs,V'⟩):
  ae Tz.prog ok c aS Q ⟨bi Tz.prog 81 #[bm #[now,shift,aa b n cap,aa Y n cap'],ac .i64 p] .normal,r0::cs,V⟩:=by
 have hE:=enter_at (P:=Tz.prog) #[bm #[ac .i64 now,ac .i64 shift,aa (some ⟨b,0,none⟩) n cap,aa (some ⟨Y,0,none⟩) n cap'],ac .i64 p] Tz.func81 rfl;simp only[Tryz.ntmps81,List.size_toArray,List.length_cons,List.length_nil,Nat.reduceAdd,Nat.reduceSub,Array.replicate_succ,Array.replicate_zero,List.push_toArray,List.append_toArray,bI,bF]at hE;rw[hE];clear hE;have h6:=bX hm;have cz:=Mv.gj<|bd hm p hp;have KY:=iA<|hf.1 p hp;have cA:(p:Int)<n:=ab;refine ae.chain E tK [_] _ (λa' w'=>Bl V.heap.size V w'/\∃J s,V.heap.size<=J/\V.heap.size<=s/\J≠s/\aR w' J now shift (aa (some ⟨b,0,none⟩) n cap) (aa (some ⟨Y,0,none⟩) n cap')/\aR w' s 0 0 (aa none 0 0) (aa none 0 0)/\jI a' (rW 81 [(1,ac .i64 p),(2,au<|some ⟨J,0,none⟩),(4,au<|some ⟨s,0,none⟩),(5,be false)])) (λ_ _=>False) ?_ ?_ λ_ _ _ hh=>hh.elim
 .intro τ d;clear aE aB aV hf hm;simp only[ak];go_wp2;left;refine⟨V8,⟨by simp[re];omega,λk hk=>?_⟩,V.heap.size,V.heap.size+1,afK _,ab,ab,?_,?_,rfl,rfl⟩
  .rw[afC _ _ _ (by simp[re];omega),afC _ _ _ (by simpa[re]using hk)];rfl
  .exact(afC _ _ _<|by simp[re]).trans (ay (re V τ d) _)
  .have:=ay ((re V τ d).alloc<|.cells #[now,shift,aa b n cap,aa Y n cap'] 29)<|.cells #[(0:Int),(0:Int),(),()] 29;rw[show((re V τ d).alloc<|.cells #[now,shift,aa b n cap,aa Y n cap'] 29).heap.size=V.heap.size+1 by simp[re]]at this;exact this
 rintro a' w1 ⟨bL,J,s,qn,IR,cB,bk,rs,jB⟩;obtain⟨u,rfl⟩:=jB.open;clear jB;have eO:=bL.size;have BD:aK w1 b 0 n f:=dJ aB<|bL.block b bN;have QX:aD w1 Y 0 n t:=λi hi=>by have:=aV i hi;simp only[ai,bL.block Y bz]at this⊢;exact this
 have Ug:b<w1:=ab;have cf:Y<w1:=ab;refine ae.DF E tK [_,_,_,_] _ (λa' w'=>t p+6<=(f p).late/\Bl V.heap.size V w'/\∃C O cN,V.heap.size<=C/\s≠C/\V.heap.size<=O/\aR w' s 0 0 (aa none 0 0) (aa none 0 0)/\aR w' C (t p) shift (aa (some ⟨O,0,none⟩) (aw f t p n).length cN) (aa none 0 0)/\Dw w' O (aw f t p n).length (jO<|aw f t p n)/\O<w'.heap.size/\O≠s/\O≠C/\jI a' (rW 81 [(4,au<|some ⟨s,0,none⟩),(6,ac .i64<|t p),(7,au<|some ⟨C,0,none⟩)])) (λa' w'=>(¬t p+6<=(f p).late)/\Bl V.heap.size V w'/\a'.defers=[]/\a'.tmps[4]?=some (au<|some ⟨s,0,none⟩)/\a'.tmps[5]?=some (be false)/\aR w' s 0 0 (aa none 0 0) (aa none 0 0)) ?_ ?_ ?_
 .intro τ d;have vI:aK (re w1 τ d) b 0 n f:=dJ BD rfl;have Lv:aD (re w1 τ d) Y 0 n t:=λi hi=>QX i hi
  have hl:b<(re w1 τ d).heap.size:=Ug;have mF:Y<(re w1 τ d).heap.size:=cf;have DA:aR (re w1 τ d) J now shift (aa b n cap) (aa Y n cap'):=bk;have uP:aR (re w1 τ d) s 0 0 () ():=rs;have zk:∀W,(∀k,k<V.heap.size->W.heap[k]?=(re w1 τ d).heap[k]?)->(re w1 τ d).heap.size<=W.heap.size->Bl V V W:=λW h h2=>⟨afN eO h2,λk hk=>(h k hk).trans<|bL.block k hk⟩
  have gK:V.heap.size<=(re w1 τ d).heap.size:=eO;revert vI Lv hl mF DA uP zk gK;generalize re w1 τ d=w0;intro vI Lv hl mF DA uP zk gK;clear aE aB aV BD QX bk rs bL;let⟨p0,p1,p2,p3,p4,p5⟩:=vI p hp;have tp:=Lv p hp;simp only[av]at p0 p1 p2 p3 p4 p5 tp;have kk:=DA.cells;let⟨U2,ch,ci,ck,cl⟩:=uP.cells;have H5:IntKind.i64.wrap (t p+6)=t p+6:=kw;have cn:=DA.lt;have co:=uP.lt;let⟨iM,hI,ME,WJ,WK⟩:=fe;have aZ:=iX f t p;simp only[ak];by_cases Z:t p+6<=(f p).late
  .have PN:¬(f p).late<t p+6:=by omega
   go_wp2;all_goals try omega
   go_loopw [34,8,9] (λx _ _ W=>∃(k:Nat) (D:a4),x=ac .i64 k/\k<=n/\Rb w0 (w0.heap.size+1) J s w0.heap.size now shift (t p) (aa (some ⟨b,0,none⟩) n cap) (aa (some ⟨Y,0,none⟩) n cap') D (aw f t p k) W) (λx _ _ _=>n-(intOf x).toNat)
   case atStart=>
    have bA:a2 w0 w0 (w0.alloc<|.cells #[ac .i64<|t p,shift,(),()] 29):=(afB _ _).alloc (afK _) _;exact⟨0,(),rfl,afP _,⟨DA.same<|bA.block _ cn,uP.same<|bA.block _ co,ay _ _,bt _ _ _ _,bA,aP⟩⟩
   obtain⟨k,D,rfl,hk,hR⟩:=hrel;have cC:=afL hl hR.below.size;have ZN:=afL mF hR.below.size;have SA:=hR.bk.lt;have cF:=hR.nx.lt;by_cases aF:k<n
   .have dV:(k:Int)<n:=by omega
    let⟨c0,c1,c2,c3,c4,c5⟩:=vI.below hR.below hl k aF;have tk:=Lv.below hR.below mF k aF;simp only[av]at c0 c1 c2 c3 c4 c5 tk;let⟨m0,m1,m2,m3,m4⟩:=hR.bk.cells;let⟨x0,x1,x2,x3,x4⟩:=hR.nx.cells;by_cases bS:t k<t p
    .go_wp2;all_goals try omega
     go_roundw
     case rel=>exact⟨k+1,D,by go_num,ab,by simp only[aw,if_pos bS];exact hR.grow<|(afB _ _).alloc (afK _) _⟩
     case measure=>exact cD
    .by_cases b1:k=p
     .subst b1;have cp:=aZ k;have HG:=λW (hb:a2 wr wr W)=>hR.grow hb
      go_wp2_with(at_builtin;go_loud (refine aL _ rfl (.tmp 62) (.tmp 64) 26 rfl (w0.heap.size+1) 55 iM _ 6 56 aT hI ME WJ WK rfl bh D (aw f t k k).length (bc (jO<|aw f t k k) (aw f t k k).length) bQ (HG _ xE).own ⟨wr.heap.size+1,0,none⟩ 1 1 (Mv.cells<|vu (f k)<|t k).toList bQ rfl (vF<|dY _ _ _) (gu _) iN ab (HG _ xE).OK ?_;intro v8 w8 Cy AR _;obtain⟨B8,c8,rfl⟩:=lA Cy;have yy:=((HG _ xE).SC AR ab).cells;have l8:w0.heap.size<w8.heap.size:=((HG _ xE).SC AR ab).lt))
      all_goals try omega
      go_roundw
      case rel=>exact⟨k+1,_,by go_num,ab,by rw[my bS,BL];exact(HG _ xE).append ab ab ab ab ab (afK _) Cy AR⟩
      case measure=>exact cD
     .have cI:¬(k:Int)=p:=by omega
      have cp:=aZ k;obtain⟨U,qr⟩:∃U,bT (f k) (t k) (t p)=U:=⟨_,rfl⟩;have HP:∀W,bV Tz.prog 107 #[bm #[bp (f k).name,be (f k).ax,ac .i64 (f k).aI,ac .i64 (f k).cE,ac .i64 (f k).late,ac .i64 (f k).prom],ac .i64<|t k,ac .i64<|t p] W λe w'=>e=a6 (bm #[U.name,U.ax,U.aI,U.cE,U.late,U.prom])/\a2 W.heap.size W w':=λW=>by
       rw[<-qr];exact uK (f k) (t k) (t p) W ab ab
      go_wp2;all_goals try omega
      have IW:(wr.alloc<|.cells #[bp (f k).name,be (f k).ax,ac .i64 (f k).aI,ac .i64 (f k).cE,ac .i64 (f k).late,ac .i64 (f k).prom] 55).heap[wr.heap.size]?=some (.cells (f k).cells 55 (0,0)):=ay _ _;have bA:a2 wr wr (wr.alloc<|.cells #[bp (f k).name,be (f k).ax,ac .i64 (f k).aI,ac .i64 (f k).cE,ac .i64 (f k).late,ac .i64 (f k).prom] 55):=(afB _ _).alloc (afK _) _;revert IW bA;generalize (wr.alloc<|.cells #[bp (f k).name,be (f k).ax,ac .i64 (f k).aI,ac .i64 (f k).cE,ac .i64 (f k).late,ac .i64 (f k).prom] 55)=W9;intro IW bA;obtain⟨R,b2⟩:∃R,R=wr.heap.size:=⟨_,rfl⟩;rw[<-b2]at IW⊢;have Mh:wr.heap.size<=R:=ab;clear b2;have n3:=(bA.cell (p:=⟨J,3,none⟩) SA).trans m3;have cq:=(bA.cell (p:=⟨Y,k,none⟩) ZN).trans tk;have zz:=Te IW;have l9:R<W9:=(afM.1 IW).1;clear c0 c1 c2 c3 c4 c5 m0 m1 m2 m3 m4 x0 x1 x2 x3 x4 tk;have cK:J<W9:=afL SA bA.size;have cL:Y<W9:=afL ZN bA.size;go_region_with(go_at_call 107;refine(HP _).mono ?_;clear HP;rintro e w4 ⟨rfl,b4⟩;have Ua:w4.heap[R]?=some (.cells (f k).cells 55 (0,0)):=(b4.block R l9).trans IW;let⟨q0,q1,q2,q3,q4,q5⟩:=Te Ua;have ct:=(λj=>b7 w4 R j _ _ Ua))
      all_goals
       have dZ:=ad7 Ua U;have bj:a2 wr wr ((((((w4.setCell R U.name).setCell ⟨R,1,none⟩ U.ax).setCell ⟨R,2,none⟩ U.aI).setCell ⟨R,3,none⟩ U.cE).setCell ⟨R,4,none⟩ U.late).setCell ⟨R,5,none⟩ U.prom):=((((((bA.drew.trans<|b4.mono bA.drew.size).setCell (p:=R) Mh _).setCell (p:=⟨R,1,none⟩) Mh _).setCell (p:=⟨R,2,none⟩) Mh _).setCell (p:=⟨R,3,none⟩) Mh _).setCell (p:=⟨R,4,none⟩) Mh _).setCell (p:=⟨R,5,none⟩) Mh _;revert dZ bj;generalize ((((((w4.setCell ⟨R,0,none⟩<|bp U.name).setCell ⟨R,1,none⟩<|be U.ax).setCell ⟨R,2,none⟩<|ac .i64 U.aI).setCell ⟨R,3,none⟩<|ac .i64 U.cE).setCell ⟨R,4,none⟩<|ac .i64 U.late).setCell ⟨R,5,none⟩<|ac .i64 U.prom)=W6;intro dZ bj;clear Ua q0 q1 q2 q3 q4 q5 ct IW zz n3 cq bA;have bl:=hR.grow bj;have yy:=bl.nx.cells;have zz:=Te dZ;have cM:=bl.nx.lt;have HG:=λW (hb:a2 W6 W6 W)=>bl.grow hb
       go_wp2_with(at_builtin;refine aL _ rfl (.tmp 62) (.tmp 64) 26 rfl (w0.heap.size+1) 55 iM _ 6 56 aT hI ME WJ WK rfl bh D (aw f t p k).length (bc (jO<|aw f t p k) (aw f t p k).length) bQ (HG _ xE).own ⟨_,0,none⟩ 1 1 (Mv.cells U).toList bQ rfl (vF<|heap_alloc_new _ _) (gu _) iN ab (HG _ xE).OK ?_;intro v8 w8 Cy AR _;obtain⟨B8,c8,rfl⟩:=lA Cy;let⟨cP,cS,cV,cX,c6⟩:=((HG _ xE).SC AR ab).cells;have l8:w0.heap.size<w8.heap.size:=((HG _ xE).SC AR ab).lt)
       go_roundw
       case rel=>exact⟨k+1,_,by go_num,ab,by rw[my ab,vY b1,qr];exact(HG _ xE).append ab ab ab ab ab (afK _) Cy AR⟩
       case measure=>exact cD
   .have dV:¬(k:Int)<n:=by omega
    have tM:k=n:=ab;subst tM;have iG:=rG (f:=f) (t:=t) (p:=p) hp;obtain⟨O,cN,rfl⟩:∃O cN,D=aa (some ⟨O,0,none⟩) (aw f t p k).length cN:=by
     exact XZ
    let⟨lo,hi⟩:=hR.own.lt O rfl;go_wp2;all_goals try omega
    exact⟨zk _ (λq hq=>hR.below.block q ab) hR.below.size,w0.heap.size,gK,ab,O,ab,hR.res,⟨cN,hR.nx⟩,Es hR.own,hi,ab,ab,rfl,rfl⟩
  .have PN:(f p).late<t p+6:=by omega
   go_wp2;all_goals try omega
   rw[uL uP];have oO:=zk _ (λk hk=>bn w0 s _ #[(0:Int),(0:Int),(),()] ab) (by rw[bo];exact afK _);have hB:=a9 w0 s _ #[(0:Int),(0:Int),(),()] _ _ uP;first
    |exact⟨oO,rfl,rfl,hB⟩
    |exact⟨oO,rfl,rfl,rfl,hB⟩
    |exact⟨Z,oO,rfl,rfl,rfl,hB⟩
    |exact⟨oO,hB⟩
 .rintro a' w2 ⟨Z,dg,C,O,cN,c7,cu,Sg,ad,nx,QY,WM,cv,cw,jB⟩;clear u BD QX bk rs bL;obtain⟨u,rfl⟩:=jB.open;clear jB;have cx:dG f n t p=gw (jO<|aw f t p n) (aw f t p n).length (t p) 6:=by unfold dG;rw[if_pos Z]
  have aZ:=iX f t p n;have fZ:=dg.size;obtain⟨r,hr⟩:∃r,dG f n t p=r:=⟨_,rfl⟩;obtain⟨br,oh⟩:∃br,r.isSome=br:=⟨_,rfl⟩;refine ae.seq E tK<|ae.region E tK ?_;rw[mj];refine ae.kZ E tK 0 3 aP (λa' w'=>(∃τ d,w'=re w2 τ d)/\jI a' (rW 81 [(4,au s),(6,ac .i64<|t p),(7,au C),(70,aa O (aw f t p n).length cN),(71,ac .i64<|t p)])) ?_ ?_
  .intro τ d;have cy:aR (re w2 τ d) C (t p) shift (aa O (aw f t p n).length cN) ():=nx;have yy:=cy.cells;clear aE;exact XF
  rintro a' w' ⟨⟨τ,d,rfl⟩,jB⟩;clear u;obtain⟨u,rfl⟩:=jB.open;clear jB;refine ae.c_ E zg ww E3 tK (i:=3) rfl rfl (B:=O) (n:=(aw f t p n).length) (cap:=cN) (g:=jO<|aw f t p n) (now:=t p) (shift:=6) (λw=>od) ab (λi hi=>tx hm hf hp Z hi) ab ab WM (dJ QY.1 rfl) ?_;intro v V3 gt;rw[<-cx,hr]at gt;obtain⟨v5,rfl,t5,Zb⟩:=yd gt;have lu:Bl w2 w2 V3:=⟨Zb.size,Zb.block⟩;replace t5:Tk r (aw f t p n).length w2.heap.size V3 v5:=t5;rw[oh];clear gt Zb;refine ae.kZ E tK 4 5 aP (λa' w'=>(∃τ d,w'=re V3 τ d)/\jI a' (rW 81 [(4,au s),(6,ac .i64<|t p),(7,au C),(10,v5),(11,br)])) ?_ ?_
  .intro τ d;clear aE;simp only[ap,Act.put];exact aco
  rintro a' w' ⟨⟨On,d3,rfl⟩,jB⟩;clear u;obtain⟨u,rfl⟩:=jB.open;clear jB;refine ae.regionEnd E tK ?_;have FP:=lu.size;have b3:aR V3 s 0 0 () ():=ad.same<|lu.block s ad.lt;have cc:aR V3 C (t p) shift (aa O (aw f t p n).length cN) ():=nx.same<|lu.block C nx.lt;have Xw:Dw V3 O (aw f t p n).length (jO<|aw f t p n):=QY.same<|lu.block O WM;have Y8:Bl V V V3:=dg.trans lu fZ;have lN:=nx.lt;have l4:=ad.lt;clear nx ad QY dg lu;have mD:∀(a':Act) (w':ao) (a1:List Item),(∃(x0 x1:Int) (x2:Option b0) (l2 c2:Nat) (x3:Option b0) (l3 c3:Nat),w'.heap[s]?=some (.cells #[x0,x1,aa x2 l2 c2,aa x3 l3 c3] 29 (0,0))/\Bl V V w'/\(∀T,r=some T->∃O BT,V.heap.size<=O/\V.heap.size<=BT/\x0=t p/\x1=shift/\x2=some ⟨O,0,none⟩/\l2=(aw f t p n).length/\x3=some ⟨BT,0,none⟩/\l3=(aw f t p n).length/\Dw w' O (aw f t p n).length (jO<|aw f t p n)/\aC w' BT (aw f t p n).length T)/\jI a' (rW 81 [(4,au s),(5,br)]))->ae Tz.prog ok c aS Q ⟨{(a0 81).at a' a1 with mode:=.returning},r0::cs,w'⟩:=by
   rintro a' w' a1 ⟨x0,x1,x2,l2,c2,x3,l3,c3,hc,oO,hT,jB⟩;obtain⟨u,rfl⟩:=jB.open;refine ae.leave E eN (v:=a5 #[bm #[x0,x1,aa x2 l2 c2,aa x3 l3 c3],br]) (λτ d=>⟨rfl,rfl,rfl,_,Tz.func81,?_⟩)<|aE _ _ ⟨⟨x0,x1,x2,l2,c2,x3,l3,c3,by rw[hr,oh],λT Y4=>hT T<|hr.symm.trans Y4⟩,oO⟩;have q0:(re w' τ d).cell? s=some (ac .i64 x0):=by have h:(re w' τ d).heap[s]?=_:=hc;simp[ai,h]
   have q1:(re w' τ d).cell? ⟨s,1,none⟩=some (ac .i64 x1):=by have h:(re w' τ d).heap[s]?=_:=hc;simp[ai,h]
   have q2:(re w' τ d).cell? ⟨s,2,none⟩=some (aa x2 l2 c2):=by have h:(re w' τ d).heap[s]?=_:=hc;simp[ai,h]
   have q3:(re w' τ d).cell? ⟨s,3,none⟩=some (aa x3 l3 c3):=by have h:(re w' τ d).heap[s]?=_:=hc;simp[ai,h]
   show Sem.run Tz.prog (a7 Tryz.f81<|(rW 81 [(4,au s),(5,br)]) u) (re w' τ d)=.ok (a5 #[bm #[x0,x1,aa x2 l2 c2,aa x3 l3 c3],br]) (re w' τ d);simp[a7,Tryz.f81,go_sem,q0,q1,q2,q3]
  refine ae.last E tK [_,_,_] (λa' w'=>∃(x0 x1:Int) (x2:Option b0) (l2 c2:Nat) (x3:Option b0) (l3 c3:Nat),w'.heap[s]?=some (.cells #[x0,x1,aa x2 l2 c2,aa x3 l3 c3] 29 (0,0))/\Bl V V w'/\(∀T,r=some T->∃O BT,V.heap.size<=O/\V.heap.size<=BT/\x0=t p/\x1=shift/\x2=some ⟨O,0,none⟩/\l2=(aw f t p n).length/\x3=some ⟨BT,0,none⟩/\l3=(aw f t p n).length/\Dw w' O (aw f t p n).length (jO<|aw f t p n)/\aC w' BT (aw f t p n).length T)/\jI a' (rW 81 [(4,au s),(5,br)])) ?_ mD;intro τ d;clear mD aE;have Nm:aR (re (re V3 On d3) τ d) s 0 0 () ():=b3;have bq:aR (re (re V3 On d3) τ d) C (t p) shift (aa O (aw f t p n).length cN) ():=cc;have vI:Dw (re (re V3 On d3) τ d) O (aw f t p n).length (jO<|aw f t p n):=Xw.same rfl;have bx:Tk r (aw f t p n).length w2.heap.size (re (re V3 On d3) τ d) v5:=t5.same λ_ _ _=>rfl
  have Wx:Bl V V (re (re V3 On d3) τ d):=⟨Y8.size,Y8.block⟩;revert Nm bq vI bx Wx;generalize re (re V3 On d3) τ d=w0;intro Nm bq vI bx Wx;clear b3 cc Xw t5 Y8;let⟨U2,ch,ci,ck,cl⟩:=Nm.cells;have yy:=bq.cells;simp only[ak];cases r with
  |none=>
   subst oh;simp only[Option.isSome_none];go_wp2;all_goals try omega
   rw[uL Nm];right;exact⟨V8,_,_,_,_,_,_,_,_,a9 _ _ _ _ _ _ Nm,⟨acO,λk hk=>(bn _ _ _ _ ab).trans<|Wx.block k hk⟩,(λT h=>sK),rfl,rfl⟩
  |some T=>
   obtain⟨BT,cT,Si,rfl,oT⟩:=bx;subst oh;simp only[Option.isSome_some];go_wp2;all_goals try omega
   have hs:∀k,k≠C->(w0.setCell ⟨C,3,none⟩<|aa BT (aw f t p n).length cT).heap[k]?=w0.heap[k]?:=λk hk=>afD _ _ _ k hk
   have tN:(w0.setCell ⟨C,3,none⟩<|aa BT (aw f t p n).length cT).heap.size=w0.heap.size:=aP;revert hs tN;generalize w0.setCell ⟨C,3,none⟩ (aa (some ⟨BT,0,none⟩) (aw f t p n).length cT)=w5;intro hs tN;have cd:=Nm.same<|hs s cu;rw[uL cd];have ho:∀k,k≠C->k≠s->∀ce,(w5.setRow s ce).heap[k]?=w0.heap[k]?:=λk h1 h2 ce=>(bn _ _ _ _ h2).trans<|hs k h1
   left;exact⟨V8,_,_,_,_,_,_,_,_,a9 _ _ _ _ _ _ cd,⟨by rw[bo,tN];exact Wx.size,λk hk=>(ho k ab ab _).trans<|Wx.block k hk⟩,λT' h=>by
    obtain rfl:=afQ h;exact⟨O,BT,Sg,ab,rfl,rfl,rfl,rfl,rfl,rfl,vI.same<|ho O cw cv _,fT oT<|ho BT ab ab _⟩,rfl,rfl⟩
 .rintro a' w2 a1 ⟨Z,dg,hd,h4,h5,ad⟩;refine ae.leave E eN (v:=a5 #[bm #[(0:Int),(0:Int),(),()],false]) (λτ d=>⟨rfl,hd,rfl,_,Tz.func81,?_⟩)<|aE _ _ ⟨⟨0,0,none,0,0,none,0,0,by unfold dG;rw[if_neg Z];rfl,λT hT=>by unfold dG at hT;rw[if_neg Z]at hT;cases hT⟩,dg⟩;have hc:(re w2 τ d).heap[s]?=_:=ad;have q0:(re w2 τ d).cell? s=some (ac .i64 0):=by simp[ai,hc]
  have q1:(re w2 τ d).cell? ⟨s,1,none⟩=some (ac .i64 0):=by simp[ai,hc]
  have q2:(re w2 τ d).cell? ⟨s,2,none⟩=some (aa none 0 0):=by simp[ai,hc]
  have q3:(re w2 τ d).cell? ⟨s,3,none⟩=some (aa none 0 0):=by simp[ai,hc]
  show Sem.run Tz.prog (a7 Tryz.f81 a'.tmps) (re w2 τ d)=.ok (a5 #[bm #[(0:Int),(0:Int),(),()],false]) (re w2 τ d);simp[a7,Tryz.f81,go_sem,q0,q1,q2,q3,h4,h5]
end
def Jk (m:Mv) A (w)(d:0<=A)(j:A<=20000):
  bV Tz.prog 89 #[bm #[m.name,m.ax,m.aI,m.cE,m.late,m.prom],ac .i64 A] w λe w'=>e=a6 (a5 #[bm #[m.name,m.ax,m.aI,ac .i64<|A+6,m.late,ac .i64 (-1)],be<|decide (A+6<=m.late)])/\a2 w w w':=by
 have q:IntKind.i64.wrap (A+6)=A+6:=kw;go_enter Tz.func89,Tryz.ntmps89
 go_wp2;go_region
 all_goals
  go_wp2;refine bE (by simp[a7,Tryz.results89,go_sem]) rfl ⟨rfl,?_⟩;repeat(first|exact afB _ _|refine Below.drew ?_|refine afF ?_ LZ _|refine afE ?_ LZ _)
def nD (f:Nat->Mv)(n:Nat)(t:Nat->Int)(p:Nat)(shift:Int)(w:ao)(e:Ending)(w':ao):Prop:=
 if t p+6<=(f p).late then∃O R,e=a6 (a5 #[bm #[ac .i64<|t p,shift,aa (some ⟨O,0,none⟩) (aw f t p n).length R,()],true])/\w<=O/\O<w'/\aK w' O 0 (aw f t p n).length (jO<|aw f t p n)
 else e=a6 (a5 #[bm #[(0:Int),(0:Int),(),()],false])
def RH {p:Prop}(x9:p:=by
  rw[afG]at this;exact this):p:=x9
def Jl (b n cap U cap' p:Nat)(f t)(now shift:Int)(w:ao)(hm:aG f n)(hf:fX f t n)(hp:p<n)(bN:b<w)(aB:aK w b 0 n f)(bz:U<w)(aV:aD w U 0 n t):
  bV Tz.prog 64 #[bm #[now,shift,aa b n cap,aa U n cap'],ac .i64 p] w λe w'=>nD f n t p shift w e w'/\a2 w w w':=by
 have h6:=bX hm;have b2:=Mv.gj<|bd hm p hp;have KY:=iA<|hf.1 p hp;have b4:(p:Int)<n:=ab;have tp:=aV p hp;simp only[av]at tp;have oN:∀o1 o2,a2 w.heap.size w ((w.alloc o1).alloc o2):=λo1 o2=>((afB _ w).alloc (afK _) _).alloc aP _
 have bx:∀o1 o2,((w.alloc o1).alloc o2).cell? ⟨U,p,none⟩=some (ac .i64<|t p):=λo1 o2=>((oN o1 o2).cell (p:=⟨U,p,none⟩) bz).trans tp
 let⟨iM,hI,ME,WJ,WK⟩:=fe;have aE:=iX f t p;go_enter Tz.func64,Tryz.ntmps64
 go_wp2;have aI:aR (((w.alloc<|.cells #[ac .i64 now,ac .i64 shift,aa (some ⟨b,0,none⟩) n cap,aa (some ⟨U,0,none⟩) n cap'] 29).alloc<|.cells #[(0:Int),(0:Int),aa none 0 0,aa none 0 0] 29).alloc<|.cells #[ac .i64<|t p,ac .i64 shift,aa none 0 0,aa none 0 0] 29) w.heap.size now shift (aa (some ⟨b,0,none⟩) n cap) (aa (some ⟨U,0,none⟩) n cap'):=(afC _ _ _ dj).trans<|(afC _ _ _ aP).trans<|heap_alloc_new _ _;have Zc:aR (((w.alloc<|.cells #[ac .i64 now,ac .i64 shift,aa (some ⟨b,0,none⟩) n cap,aa (some ⟨U,0,none⟩) n cap'] 29).alloc<|.cells #[(0:Int),(0:Int),aa none 0 0,aa none 0 0] 29).alloc<|.cells #[ac .i64<|t p,ac .i64 shift,aa none 0 0,aa none 0 0] 29) (w.heap.size+1) 0 0 (aa none 0 0) (aa none 0 0):=(afC _ _ _ aP).trans<|dY _ _ _;have Zd:aR (((w.alloc<|.cells #[ac .i64 now,ac .i64 shift,aa (some ⟨b,0,none⟩) n cap,aa (some ⟨U,0,none⟩) n cap'] 29).alloc<|.cells #[(0:Int),(0:Int),aa none 0 0,aa none 0 0] 29).alloc<|.cells #[ac .i64<|t p,ac .i64 shift,aa none 0 0,aa none 0 0] 29) (w.heap.size+1+1) (t p) shift (aa none 0 0) (aa none 0 0):=by
  have:=dY (w.alloc<|.cells #[ac .i64 now,ac .i64 shift,aa (some ⟨b,0,none⟩) n cap,aa (some ⟨U,0,none⟩) n cap'] 29) (.cells #[(0:Int),(0:Int),aa none 0 0,aa none 0 0] 29)<|.cells #[ac .i64<|t p,ac .i64 shift,aa none 0 0,aa none 0 0] 29;exact RH
 have oO:a2 w.heap.size w (((w.alloc<|.cells #[ac .i64 now,ac .i64 shift,aa (some ⟨b,0,none⟩) n cap,aa (some ⟨U,0,none⟩) n cap'] 29).alloc<|.cells #[(0:Int),(0:Int),aa none 0 0,aa none 0 0] 29).alloc<|.cells #[ac .i64<|t p,ac .i64 shift,aa none 0 0,aa none 0 0] 29):=(oN _ _).alloc dj _;obtain⟨s,IR⟩:∃B,B=w.heap.size+1:=⟨_,rfl⟩;obtain⟨C,aZ⟩:∃B,B=w.heap.size+1+1:=⟨_,rfl⟩;rw[<-aZ]at Zd⊢;rw[<-IR]at Zc⊢;have q4:w.heap.size<s/\s<w.heap.size+3/\s≠C:=⟨ab,ab,ab⟩;have q7:w.heap.size<C/\C<w.heap.size+3:=⟨ab,ab⟩;clear IR aZ;let⟨cc,cd,ce⟩:=q4;let⟨cf,ch⟩:=q7;go_loopw [8,9,10,11] (λx _ _ _ W=>∃(k:Nat) (D:a4),x=ac .i64 k/\k<=n/\(¬t p+6<=(f p).late->k<=p)/\Rb w (w.heap.size+3) w.heap.size s C now shift (t p) (aa (some ⟨b,0,none⟩) n cap) (aa (some ⟨U,0,none⟩) n cap') D (aw f t p k) W) (λx _ _ _ _=>n-(intOf x).toNat)
 case atStart=>exact⟨0,aa none 0 0,rfl,afP _,λ_=>afP _,⟨aI,Zc,Zd,bt _ _ _ _,oO,aP⟩⟩
 case round=>
  clear aI Zc Zd oO bx oN;obtain⟨k,D,rfl,hk,Uf,hR⟩:=hrel;have ci:=afL bN hR.below.size;have ZN:=afL bz hR.below.size;have SA:=hR.bk.lt;have ck:=hR.res.lt;have cl:=hR.nx.lt;have mm:=hR.bk.cells;have xx:=hR.nx.cells;by_cases aF:k<n
  .have dV:(k:Int)<n:=by omega
   let⟨c0,c1,c2,c3,c4,c5⟩:=aB.below hR.below bN k aF;have tk:=aV.below hR.below bz k aF;simp only[av]at c0 c1 c2 c3 c4 c5 tk;have cn:=aE k;by_cases ax:k=p
   .subst ax;have HQ:=λW=>Jk (f k) (t k) W ab ab
    by_cases ad:t k+6<=(f k).late
    .go_wp2_with(first
      |(go_at_call 89;refine(HQ _).mono ?_;clear HQ;rintro e w3 ⟨rfl,b3⟩;have T4:=(hR.grow<|(afB _ _).alloc (afK _) _).grow b3;let⟨y0,y1,y2,y3,y4⟩:=T4.nx.cells;have bA:=T4.nx.lt;have co:∀o,(w3.alloc o).cell? ⟨C,2,none⟩=some D:=(λo=>(World.cell?_alloc_past _ _ _ bA).trans y2);have O:=λW (hb:a2 w3.heap.size w3 W)=>T4.grow hb)
      |(at_builtin;refine aL _ rfl (.tmp 46) (.tmp 48) 26 rfl (w.heap.size+3) 55 iM _ 6 56 aT hI ME WJ WK rfl bh D (aw f t k k).length (bc (jO<|aw f t k k) (aw f t k k).length) bQ (O _ xE).own ⟨w3.heap.size+1,0,none⟩ 1 1 (Mv.cells<|vu (f k)<|t k).toList bQ rfl (vF<|dY _ _ _) (gu _) iN ab (O _ xE).OK ?_;intro v8 w8 Cy Y _;obtain⟨B8,c8,rfl⟩:=lA Cy;let⟨a1,bj,bl,bq,br⟩:=((O _ xE).SC Y ab).cells;have l8:C<w8.heap.size:=((O _ xE).SC Y ab).lt))
     all_goals try omega
     go_roundw
     case rel=>exact⟨k+1,_,by go_num,ab,λh=>absurd ad h,by rw[my ab,BL];exact(O _ xE).append ab ab ab ab ab ab Cy Y⟩
     case measure=>exact cD
    .have bL:decide (t k+6<=(f k).late)=false:=by simpa using ad
     have HD:Hid (decide (t k+6<=(f k).late)=false):=bL;go_wp2_with(go_at_call 89;refine(HQ _).mono ?_;clear HQ;rintro e w3 ⟨rfl,b3⟩;rw[HD.out];have T4:=(hR.grow<|(afB _ _).alloc (afK _) _).grow b3;let⟨y0,y1,y2,y3,y4⟩:=T4.res.cells;have cp:=T4.res.lt)
     all_goals try omega
     rw[uL T4.res];have Z:=a9 w3 s _ #[(0:Int),(0:Int),aa none 0 0,aa none 0 0] _ _ T4.res;have iZ:=b8 T4.below (by omega:w.heap.size<=s) #[(0:Int),(0:Int),aa none 0 0,aa none 0 0];have tN:(w3.setRow s #[(0:Int),(0:Int),aa none 0 0,aa none 0 0]).heap.size=w3.heap.size:=bo _ _ _;revert Z iZ tN;generalize w3.setRow s #[(0:Int),(0:Int),aa none 0 0,aa none 0 0]=W5;intro Z iZ tN;have bS:=λo=>iZ.alloc (o:=o) iZ.size
     have KW:=λo=>(afC W5 o s ab).trans Z
     have q0:∀o,(W5.alloc o).cell? ⟨s,0,none⟩=some (ac .i64 0):=λo=>by simp[ai,KW]
     have q1:∀o,(W5.alloc o).cell? ⟨s,1,none⟩=some (ac .i64 0):=λo=>by simp[ai,KW]
     have q2:∀o,(W5.alloc o).cell? ⟨s,2,none⟩=some (aa none 0 0):=λo=>by simp[ai,KW]
     have q3:∀o,(W5.alloc o).cell? ⟨s,3,none⟩=some (aa none 0 0):=λo=>by simp[ai,KW]
     refine bE (v:=a5 #[bm #[(0:Int),(0:Int),aa none 0 0,aa none 0 0],be false]) ?_ rfl ⟨by unfold nD;rw[if_neg ab],bS _⟩;simp[a7,Tryz.f64,go_sem,q0,q1,q2,q3]
   .have cq:¬(k:Int)=p:=by omega
    by_cases b1:t k<t p
    .go_wp2;all_goals try omega
     go_roundw
     case rel=>exact⟨k+1,D,by go_num,ab,λh=>by have:=Uf h;omega,by simp only[aw,if_pos b1];exact hR.grow<|(afB _ _).alloc (afK _) _⟩
     case measure=>exact cD
    .have H5:IntKind.i64.wrap (t p+4)=t p+4:=by rw[IntKind.wrap_i64];omega
     have O:=λW (hb:a2 wr.heap.size wr W)=>hR.grow hb
     by_cases ct:t k<t p+4
     .go_wp2_with(at_builtin;refine aL _ rfl (.tmp 73) (.tmp 75) 26 rfl (w.heap.size+3) 55 iM _ 6 56 aT hI ME WJ WK rfl bh D (aw f t p k).length (bc (jO<|aw f t p k) (aw f t p k).length) bQ (O _ xE).own ⟨wr.heap.size+1,0,none⟩ 1 1 (Mv.cells<|{f k with prom:=t k}).toList bQ rfl (vF<|dY _ _ _) (gu _) iN ab (O _ xE).OK ?_;intro v8 w8 Cy Y _;obtain⟨B8,c8,rfl⟩:=lA Cy;let⟨a1,bj,bl,bq,br⟩:=((O _ xE).SC Y ab).cells;have l8:C<w8.heap.size:=((O _ xE).SC Y ab).lt)
      all_goals try omega
      go_roundw
      case rel=>exact⟨k+1,_,by go_num,ab,λh=>by have:=Uf h;omega,by rw[my ab,vY ax,show bT (f k) (t k) (t p)={f k with prom:=t k} by unfold bT;rw[if_pos ab]];exact(O _ xE).append ab ab ab ab ab ab Cy Y⟩
      case measure=>exact cD
     .go_wp2_with(at_builtin;refine aL _ rfl (.tmp 73) (.tmp 75) 26 rfl (w.heap.size+3) 55 iM _ 6 56 aT hI ME WJ WK rfl bh D (aw f t p k).length (bc (jO<|aw f t p k) (aw f t p k).length) bQ (O _ xE).own ⟨wr.heap.size+1,0,none⟩ 1 1 (Mv.cells<|f k).toList bQ rfl (vF<|dY _ _ _) (gu _) iN ab (O _ xE).OK ?_;intro v8 w8 Cy Y _;obtain⟨B8,c8,rfl⟩:=lA Cy;let⟨a1,bj,bl,bq,br⟩:=((O _ xE).SC Y ab).cells;have l8:C<w8.heap.size:=((O _ xE).SC Y ab).lt)
      all_goals try omega
      go_roundw
      case rel=>exact⟨k+1,_,by go_num,ab,λh=>by have:=Uf h;omega,by rw[my ab,vY ax,show bT (f k) (t k) (t p)=f k by unfold bT;rw[if_neg ab]];exact(O _ xE).append ab ab ab ab ab ab Cy Y⟩
      case measure=>exact cD
  .have dV:¬(k:Int)<n:=by omega
   have tM:k=n:=ab;subst tM;have ad:t p+6<=(f p).late:=by
    by_cases h:t p+6<=(f p).late
    .exact h
    .have:=Uf h;omega
   have iG:=rG (f:=f) (t:=t) (p:=p) hp;obtain⟨R,cN,rfl⟩:∃R cN,D=aa (some ⟨R,0,none⟩) (aw f t p k).length cN:=by
    exact XZ
   let⟨lo,hi⟩:=hR.own.lt R rfl;have ss:=hR.res.cells;go_wp2;all_goals try omega
   rw[uL hR.res];have Z:=a9 wr s _ #[ac .i64<|t p,ac .i64 shift,aa (some ⟨R,0,none⟩) (aw f t p k).length cN,aa none 0 0] _ _ hR.res;have iZ:=b8 hR.below (by omega:w.heap.size<=s) #[ac .i64<|t p,ac .i64 shift,aa (some ⟨R,0,none⟩) (aw f t p k).length cN,aa none 0 0];have tN:(wr.setRow s #[ac .i64<|t p,ac .i64 shift,aa (some ⟨R,0,none⟩) (aw f t p k).length cN,aa none 0 0]).heap.size=wr.heap.size:=bo _ _ _;have ol:(wr.setRow s #[ac .i64<|t p,ac .i64 shift,aa (some ⟨R,0,none⟩) (aw f t p k).length cN,aa none 0 0]).heap[R]?=wr.heap[R]?:=bn _ _ _ _ ab;have rN:=eh hR.own;revert Z iZ tN ol;generalize wr.setRow s #[ac .i64<|t p,ac .i64 shift,aa (some ⟨R,0,none⟩) (aw f t p k).length cN,aa none 0 0]=W5;intro Z iZ tN ol;have q0:W5.cell? ⟨s,0,none⟩=some (ac .i64<|t p):=by simp[ai,Z]
   have q1:W5.cell? ⟨s,1,none⟩=some (ac .i64 shift):=by simp[ai,Z]
   have q2:W5.cell? ⟨s,2,none⟩=some (aa (some ⟨R,0,none⟩) (aw f t p k).length cN):=by simp[ai,Z]
   have q3:W5.cell? ⟨s,3,none⟩=some (aa none 0 0):=by simp[ai,Z]
   refine bE (v:=a5 #[bm #[ac .i64<|t p,ac .i64 shift,aa (some ⟨R,0,none⟩) (aw f t p k).length cN,aa none 0 0],be true]) ?_ rfl ⟨by unfold nD;rw[if_pos ad];exact⟨R,cN,rfl,ab,ab,dJ rN ol⟩,iZ⟩;simp[a7,Tryz.f64,go_sem,q0,q1,q2,q3]
def nB (g:Nat->Mv)(n:Nat)(q:Int)(w:ao)(e:Ending)(w':ao):Prop:=
 if∀i,i<n->eL (g i) q then∃B c,e=a6 (a5 #[aa (some ⟨B,0,none⟩) n c,true])/\w<=B/\B<w'/\aK w' B 0 n (eU g q)
 else∃a l c,e=a6 (a5 #[aa a l c,false])
def EB {d k}(h:(g k).prom=-1)(j:d<=(g k).cE) i:eM g d k i=eM g d (k+1) i:=by
 unfold eM;by_cases e:i=k
 .subst e;rw[if_neg ab,if_pos ab];unfold fJ;rw[if_pos h,show max (g i).cE d=(g i).cE by omega]
 grind
def we {P:Program}{rest:List Oper}{Q:Exit->Act->ao->Prop}(Sq:o.guard=none)(s x:bW)(t:b5)
  (ho:o.op=.call {callee:=.builtin .append,args:=#[s,x],argTypes:=#[t,t]})
  a0 (e:b5)(i:TypeInfo) z (size b6:Nat)(ht:P.underlying t=some (.slice e))(hi:P.info? e=some i)(hz:i.zero=some z)(KX:i.size=size)(hby:i.bytes=b6)(H7:z.cells.size=size)(iP:0<size)
  v n (xs:List a4)(hs:a.eval s=v)(bj:w.ownsRow a0 e size v n xs)(p9:yu w v)
  (ad:b0)(m c:Nat)(news:List a4)(hx:a.eval x=.slice (some ad) m c)(hl:news.length=m*size)(gJ:∀j u,news[j]?=some u->w.cell? (ad.add j)=some u)(h1:∀u∈news,u.oneCell')(hnp:∀u∈news,mZ u)(hzp:∀u∈z.cells,mZ u)
  (h63:n+m<=maxLen)(zl:(n+m)*b6<=140737488355328)(aaD:a0<=w)
  (h:∀v' w',w'.ownsRow a0 e size v' (n+m) (xs++news)->w.grownBy w' v.ownBlock->yu w' v'->(v'=()<->v=()/\m=0)->cb P ops Q rest (a.put o.dst v') w'):cb P ops Q (o::rest) a w:=by
 refine wpList_plain Sq λK hK=>?_
 let⟨v',w',hr,h2,h3,h4⟩:=run_append_own w a0 t o.type e i z size b6 ht hi hz KX hby H7 iP v n xs bj ad m c news hl gJ h1 h63 zl aaD;unfold Oper.wp bO;simp only[ho,resolve,invoke,builtin,Sem.run_bind,Sem.run_pure,Result.andThen_ok,List.map_toArray,List.map_cons,List.map_nil,hs,hx,hr];exact hK _ _<|h v' w' h2 h3 (sj a0 t o.type e i z size b6 ht hi hz KX hby H7 v n xs bj p9 ad m c news hl gJ h1 hnp hzp h63 zl hr) h4
def F0 (b n cap:Nat)(g)(z:Int)(w:ao)(hn:n<=6)(hg:∀i,i<n->(g i).ok)(h0:0<=z)(h1:z<=30000)(bN:b<w)(aB:aK w b 0 n g):
  bV Tz.prog 62 #[aa b n cap,z] w λe w'=>nB g n z w e w'/\a2 w w w':=by
 let⟨iM,hI,gK,WJ,WK⟩:=fe;have bA:a2 w w (w.alloc<|.cells #[] 55):=(afB _ _).alloc ab _;have bj:(w.alloc<|.cells #[] 55).ownsRow w.heap.size 55 6 (aa w.heap.size 0 0) 0 []:=World.ownsRow_made w #[] 0 ab iN aP;have Y:yu (w.alloc<|.cells #[] 55) (aa w.heap.size 0 0):=λB hB=>by
  simp[Value.ownBlock,Option.some.injEq]at hB;subst hB;exact⟨#[],_,ay _ _,λv hv=>cO⟩
 go_enter Tz.func62,Tryz.ntmps62
 go_wp2_with(at_builtin;refine we rfl (.tmp 8) (.tmp 9) 26 rfl w.heap.size 55 iM _ 6 56 aT hI gK WJ WK rfl bh (aa w.heap.size 0 0) 0 [] bQ bj Y b n cap (bc g n) bQ (bJ g n) (ep<|aB.below bA bN) (fh g n) (Ar g n) wX iN ab aP ?_;intro v8 w8 Z AR ad aV;simp[av,bI]at Z)
 have ax:a2 w w w8:=bA.grown AR bA.size λq hq=>Iw;obtain⟨B,c,rfl⟩:∃B c,v8=aa (some ⟨B,0,none⟩) n c:=by
  rcases Z.2 with⟨e,hz⟩|⟨gg,cc,bl,e,_⟩;all_goals grind
 have aE:=eh Z;have aI:=ad B rfl;have oN:=(Z.lt B rfl).1;clear Z AR ad aV bj Y bA;go_loopw [7] (λx W=>∃k:Nat,x=ac .i64 k/\k<=n/\a2 w w W/\aK W B 0 n (eM g z k)/\cm W B/\∀i,i<k->eL (g i) z=true) (λx _=>n-(intOf x).toNat)
 .exact⟨0,rfl,afP _,ax,aE.oH λi _=>by unfold eM;rw[if_neg ab],aI,λi R=>absurd R ab⟩
 clear aE aI ax;obtain⟨k,rfl,hk,iY,Sw,U,dw⟩:=hrel;by_cases aF:k<n
 .have dV:(k:Int)<n:=by omega
  have aZ:eM g z k k=g k:=by unfold eM;grind
  have eF:=Mv.gj<|hg k aF;let⟨c0,c1,c2,c3,c4,c5⟩:=Sw k aF;rw[aZ]at c0 c1 c2 c3 c4 c5;simp[av]at c0 c1 c2 c3 c4 c5;have bq:=U.lt;by_cases O:(g k).prom=-1
  .have a1:(g k).prom<0:=by omega
   by_cases he:(g k).cE<z
   .have br:=GJ U<|k*6+3;have hx:max (g k).cE z=z:=ab;have rS:=(Lw Sw aF z).oH λi _=>Ak O hx i;have pS:cm (wr.setCell ⟨B,k*6+3,none⟩ z) B:=U.set<|.inr<|.inl ⟨_,_,rfl⟩;have bS:=iY.setCell (p:=⟨B,k*6+3,none⟩) oN z;have lS:(wr.setCell ⟨B,k*6+3,none⟩ z).cell? ⟨B,k*6+4,none⟩=some (ac .i64 (g k).late):=(World.cell?_setCell_other _ _ _ _ aP).trans c4;by_cases bk:z<=(g k).late
    .have PN:¬(g k).late<z:=by omega
     go_wp2<;>try omega
     go_roundw
     case rel=>exact⟨k+1,by go_num,ab,bS,rS,pS,λi R=>by
      by_cases e:i=k
      .subst e;rw[mi O];simpa using bk
      .exact dw i ab⟩
     exact cD
    have PN:(g k).late<z:=by omega
    have kY:¬∀i,i<n->eL (g i) z=true:=λh=>by
     have:=h k aF;rw[mi O]at this;simp at this;omega
    go_wp2<;>try omega
    go_ret2
    simp_all [nB,if_neg]
   go_wp2;all_goals try omega
   go_roundw
   case rel=>exact⟨k+1,by go_num,ab,iY,Sw.oH λi _=>EB O ab i,U,λi R=>by
    by_cases e:i=k
    .subst e;rw[mi O];simp;omega
    .exact dw i ab⟩
   exact cD
  have a1:¬(g k).prom<0:=by omega
  go_wp2;all_goals try omega
  go_roundw
  case rel=>exact⟨k+1,by go_num,ab,iY,Sw.oH λi _=>uM O i,U,λi R=>by
   by_cases e:i=k
   .subst e;exact Aj O
   .exact dw i ab⟩
  case measure=>exact cD
 have dV:¬(k:Int)<n:=by omega
 have tM:k=n:=ab;subst tM;go_wp2;all_goals try omega
 go_ret2
 exact⟨by unfold nB;rw[if_pos dw];exact⟨B,c,rfl,oN,U.lt,Sw.oH λi R=>by unfold eM eU;rw[if_pos R]⟩,iY⟩
def sW (b n cap:Nat)(g)(now shift:Int)(w:ao)(hn:n<=6)(hg:∀i,i<n->(g i).ok)(h0:0<=now)(h1:now<=20000)(Sx:0<=shift)(KW:shift<=6)(ui:(∀i,i<n->eL (g i) (now+4))->aG (eU g<|now+4) n)(bN:b<w)(aB:aK w b 0 n g):
  bV Tz.prog 39 #[aa b n cap,now,shift] w λe w'=>nA (gw g n now shift) n w e w'/\a2 w w w':=by
 have H5:IntKind.i64.wrap (now+4)=now+4:=kw;have R:=F0 b n cap g (now+4) w hn hg ab ab bN aB;go_enter Tz.func39,Tryz.ntmps39
 by_cases U:∀i,i<n->eL (g i) (now+4)=true
 .have hm:=ui U;have Y:gw g n now shift=fL (eU g<|now+4) n ((ba n).filter<|jG (eU g<|now+4) n shift):=by
   unfold gw nF;grind
  rw[Y];go_wp2_with(first
   |(go_at_call 62;refine R.mono ?_;clear R;rintro e Z ⟨q,z⟩;unfold nB at q;rw[if_pos U]at q;obtain⟨B,c,rfl,oN,hB,r1⟩:=q;have H2:=Jj B 0 n c (eU g<|now+4) shift Z hm hB r1 (jG (eU g<|now+4) n shift)<|zY _ n shift)
   |(go_at_call 63;refine H2.mono ?_;clear H2;rintro e w2 ⟨s2,b2⟩;have O:=Q2 s2 z.size;clear s2;obtain⟨sa,sn,sc,sb,rfl⟩:=Nq O))
  go_ret2
  exact⟨O,z.trans<|b2.mono z.size⟩
 have Y:gw g n now shift=none:=by unfold gw;grind
 rw[Y];go_wp2_with(go_at_call 62;refine R.mono ?_;clear R;rintro e Z ⟨q,z⟩;unfold nB at q;rw[if_neg U]at q;obtain⟨a1,n1,c1,rfl⟩:=q)
 go_ret2
 exact⟨⟨_,_,rfl⟩,z.alloc z.size _⟩
noncomputable def fD (now shift:Int)(f:Nat->Mv)(n:Nat)(t:Nat->Int)(m:Nat):Bool:=aY now shift f n t m&&@decide (LE f n t) (Classical.propDecidable _)
theorem Hk {m}(h:aY now shift f n t m=false):fD now shift f n t m=false:=by unfold fD;rw[h];rfl
def vX {m}(h:aY now shift f n t m)(hs:LE f n t):fD now shift f n t m:=by unfold fD;rw[h];simpa using hs
def Dh {m}(hs:¬LE f n t):fD now shift f n t m=false:=by unfold fD;simp[hs]
def bK {m}(h:aY now shift f n t m):aG f n/\m=n/\fX f t n:=by
 cases O:er f n t m with
 |false=>grind [sI]
 |true=>exact oJ O
section
variable [Gl]
def ae.uy (E:dB afn ok c Dr){b:bH}(hb:ok.aN b.fn)(Inv:Nat->Act->ao->Prop)
  (step:∀j a W,Inv j a W->(∀i,i<j->∀a' W',Inv i a' W'->ae afn ok c Dr Q ⟨b.at a'<|.inLoop X::k,cs,W'⟩)->ae afn ok c Dr Q ⟨b.at a<|.code X::.inLoop X::k,cs,W⟩):
  ∀j a W,Inv j a W->ae afn ok c Dr Q ⟨b.at a<|.code X::.inLoop X::k,cs,W⟩:=by
 intro j;induction j using Nat.strongRecOn with
 |ind j e=>intro a W h;exact step j a W h λi q a' W' z=>ae.inLoop E hb<|e i q a' W' z
end
section
variable [Gl]{b:bH}
def ae.un {τ:Nat->Question->Nat}{d}(h:ae afn ok c Dr Q ⟨fr,cs,V⟩):ae afn ok c Dr Q ⟨fr,cs,re V τ d⟩:=yO
def ae.oc (E:dB afn ok c Dr)(hb:ok.aN b.fn)(j m)
  (h:∀(K:Act->ao->Prop) τ d,Hid (∀a' w',ae afn ok c Dr Q ⟨b.at a'<|.inRegion ops (bs (j+m)<|ops.size-(j+m))::k,cs,w'⟩->K a' w')->cb afn ops (λe a w=>e=.normal/\K a w) ((ops.toList.drop j).take m) a (re V τ d))(hm:j+m<=ops.size:=by simp):
  ae afn ok c Dr Q ⟨b.at a<|.inRegion ops (bs j<|ops.size-j)::k,cs,V⟩:=
 ae.kZ E hb j m hm _ (λτ d=>h _ τ d λ_ _ x=>x) λ_ _ x=>x
def ae.rg (E:dB afn ok c Dr)(hb:ok.aN b.fn){id}(h:ae afn ok c Dr Q ⟨b.at a<|.inRegion ops (bs 0<|ops.size-0)::k,cs,V⟩):ae afn ok c Dr Q ⟨b.at a<|.code (.region id ops false)::k,cs,V⟩:=by
 rw[<-mj]at h;exact ae.region E hb h
def ae.ck (E:dB afn ok c Dr)(hb:ok.aN b.fn)(q T)
  (h:∀(K R:Act->ao->Prop) τ d,Hid (∀a' w',ae afn ok c Dr Q ⟨b.at a'<|.code T::k,cs,w'⟩->K a' w')->Hid (∀a' w',(∀e,ae afn ok c Dr Q ⟨{b.at a' e with mode:=.returning},cs,w'⟩)->R a' w')->ak afn (O8 K R) q a (re V τ d)):
  ae afn ok c Dr Q ⟨b.at a<|.code (Proofs.YtjoalkgmgmmedaaGreatDoor.chain q T)::k,cs,V⟩:=
 ae.DF E hb q T _ _ (λτ d=>h _ _ τ d (λ_ _ x=>x) λ_ _ x=>x) (λ_ _ x=>x) λ_ _ e x=>x e
def ae.en {f O t}(R:afn.funcs[f]?=some fn)(hc:fn.body=some O)(U:fn.ntmps=n)(Y:xs++Array.replicate (n-xs.size) undef=t)(h:ae afn ok c Dr Q ⟨(a0 f).at ⟨t,[]⟩ [.code O],cs,V⟩):ae afn ok c Dr Q ⟨bi afn f xs .normal,cs,V⟩:=by
 rw[enter_at xs R hc,U,Y];exact h
def ae.lv (E:dB afn ok c Dr)(R:ok.aN r0.fn){f t O}(U:afn.funcs[f]?=some fn)(Y:∀τ d,(a7 fn t).run afn (re V τ d)=.ok v (re V τ d))(h:ae afn ok c Dr Q ⟨r0.finish v,cs,V⟩):ae afn ok c Dr Q ⟨{(a0 f).at ⟨t,[]⟩ O with mode:=.returning},r0::cs,V⟩:=
 ae.leave E R (λτ d=>⟨rfl,rfl,rfl,_,U,Y τ d⟩) h
def ae.calls (E:dB afn ok c Dr)(hr:ok.aN r0.fn){f}{R:a4->ao->Prop}(hc:∀τ d,bV afn f xs (re V τ d) λe w'=>∃v,e=a6 v/\R v w')(h:∀v O,R v O->ae afn ok c Dr Q ⟨r0.finish v,cs,O⟩):ae afn ok c Dr Q ⟨bi afn f xs .normal,r0::cs,V⟩:=by
 refine ae.of_steps E.pair E.shut E.floor (λs1=>∃v O,R v O/\s1=⟨r0.finish v,cs,O⟩) ?_ (λτ d=>?_) ?_
 .rintro _ ⟨v,O,_,rfl⟩;have rQ:(r0.finish v).fn=r0.fn:=by
   cases r0 with|mk fn tmps U Z ad kind Y=>cases U with
    |nil=>rfl
    |cons x l=>cases x<;>first|rfl|(rename_i ops l2;cases l2<;>rfl)
  grind
 .obtain⟨e,w',fr,⟨v,rfl,hR⟩,hs,_,hl⟩:=hc τ d _;exact⟨_,⟨v,w',hR,rfl⟩,Steps.trans hs<|.one<|step_leave_returned hl⟩
 rintro _ ⟨v,O,hR,rfl⟩;exact h v O hR
def ae.cut {T}(P:Act->ao->Prop)(e:∀a' W',P a' W'->ae afn ok c Dr Q ⟨b.at a'<|.code T::k,cs,W'⟩)(q:Hid (∀a' W',P a' W'->ae afn ok c Dr Q ⟨b.at a'<|.code T::k,cs,W'⟩)->ae afn ok c Dr Q ⟨b.at a<|.code X::.code T::k,cs,V⟩):ae afn ok c Dr Q ⟨b.at a<|.code X::.code T::k,cs,V⟩:=q e
omit [Gl] in
def Al (W:ao)(τ:Nat->Question->Nat) d:Bl W W (re W τ d):=⟨afK _,λ_ _=>rfl⟩
end
section
variable [Gl]{b fr2:bH}{cs2:List bH}
def ae.go (E:dB afn ok c Dr)(q:ok.aN fr2.fn=true)(h:∀W,∃es,stepG afn true (G fr<|cs++[c]) W=.go (G fr2<|cs2++[c]) W es)(z:ae afn ok c Dr Q ⟨fr2,cs2,V⟩):ae afn ok c Dr Q ⟨fr,cs,V⟩:=
 ae.of_steps E.pair E.shut E.floor (λO=>∃τ d,O=St.re ⟨fr2,cs2,V⟩ τ d) (by rintro _ ⟨τ,d,rfl⟩;exact q) (λτ d=>⟨_,⟨τ,d,rfl⟩,.one (by obtain⟨es,hs⟩:=h _;exact mu hs)⟩) (by rintro _ ⟨τ,d,rfl⟩;exact λe R=>z e R)
def ae.uI {y t}(ho:ops[i]?=some o)(hw:a3 o (bB ops a.tmps)=true)(e:dead o.op=some (.panic y))(q:dq ok.fn y=true)(he:a.eval y=.iface t v)
  (h:ae afn ok c Dr Q ⟨{b.at a (.inRegion ops (i::r)::k)with mode:=.panicking [{v:=.iface t v,recovered:=false}]},cs,V⟩):ae afn ok c Dr Q ⟨b.at a<|.inRegion ops (i::r)::k,cs,V⟩:=
 ae.late (λ_ _=>⟨ops,i,r,k,o,y,rfl,rfl,rfl,ho,hw,q,.inl ⟨e,t,v,(a8 _ _ _ _).trans he,rfl⟩⟩) h
def ae.wQ {y x}(ho:ops[i]?=some o)(hw:a3 o (bB ops a.tmps)=true)(R:dead o.op=some x)(U:Lq x=true)(Y:dq ok.fn y=true)(Z:∀τ d P,Gl.top P->∀ρ e W (O:Oper),O.op=x->lH ok ρ a.eval e->(∀v,e (.const v)=v)->bw ok true ρ (re V τ d) W->(bO e O).runT P W #[]=(.ok (.value<|e y) W,#[]))
  (h:ae afn ok c Dr Q ⟨bb (b.at a<|.inRegion ops (i::r)::k)<|a.eval y,cs,V⟩):ae afn ok c Dr Q ⟨b.at a<|.inRegion ops (i::r)::k,cs,V⟩:=
 ae.late (λτ d=>⟨ops,i,r,k,o,y,rfl,rfl,rfl,ho,hw,Y,.inr<|.inr ⟨x,R,U,by rw[a8],λP hP ρ e W O e1 e2=>Z τ d P hP ρ e W O e1 λz hz=>by have:=e2 z hz;rwa [a8]at this⟩⟩) h
def ae.Tq {y f}(ho:ops[i]?=some o)(hw:a3 o (bB ops a.tmps)=true)(O:dead o.op=some (.defer {callee:=.value y,args:=#[],argTypes:=#[]}))(R:dq ok.fn y=true)(he:a.eval y=.func (.func f) xs N)(U:ok.aN f=true)
  (h:ae afn ok c Dr Q ⟨bb (b.at ⟨a.tmps,⟨.fn (.func f) N,xs++#[]⟩::a.defers⟩<|.inRegion ops (i::r)::k) undef,cs,V⟩):ae afn ok c Dr Q ⟨b.at a<|.inRegion ops (i::r)::k,cs,V⟩:=
 ae.late (λ_ _=>⟨ops,i,r,k,o,y,rfl,rfl,rfl,ho,hw,R,.inr<|.inl ⟨O,f,xs,N,(a8 _ _ _ _).trans he,U,rfl⟩⟩) h
theorem ae.unwind (E:dB afn ok c Dr){e}(z:afn.funcs[fr.fn]?=some fn)(O:fr.mode=.panicking e)(R:fr.defers=[])(q:ok.aN r0.fn=true)(U:r0.mode=.run)(h:ae afn ok c Dr Q ⟨{r0 with mode:=.panicking e},cs,V⟩):ae afn ok c Dr Q ⟨fr,r0::cs,V⟩:=by
 refine ae.go E (fr2:={r0 with mode:=.panicking e}) q (λW=>⟨#[],?_⟩) h;rw[gn cO];have hc:bM afn fr=false:=by grind [bM]
 simp[b9];grind [Frame.raise,G]
def ae.F5 (E:dB afn ok c Dr){f O}(R:fr.mode≠.run)(U:fr.defers=⟨.fn (.func f) xs,N⟩::O)(Y:∃fn,afn.funcs[f]?=some fn/\fn.body.isSome=true/\(fn.name== "runtime.NumGoroutine")=false)(Z:ok.aN f=true)
  (h:ae afn ok c Dr Q ⟨bi afn f (N++xs) .deferred,{fr with defers:=O}::cs,V⟩):ae afn ok c Dr Q ⟨fr,cs,V⟩:=
 ae.go E Z (λW=>⟨#[],by rw[gn R];exact o0 Y U⟩) h
def ae.CW (E:dB afn ok c Dr)(hb:ok.aN b.fn=true)(hk:(b.kind==CallKind.early)=false)(ho:ops[i]?=some o)(hw:a3 o (bB ops a.tmps)=true)(U:∀w,(bO a.eval o).run afn w=.ok .recover w)
  (hs:vH (b.at a<|.inRegion ops (i::r)::k) (cs++[c])=G (bb (b.at a<|.inRegion ops (i::r)::k) v) (cs2++[c]))(h:ae afn ok c Dr Q ⟨bb (b.at a<|.inRegion ops (i::r)::k) v,cs2,V⟩):ae afn ok c Dr Q ⟨b.at a<|.inRegion ops (i::r)::k,cs,V⟩:=by
 refine ae.go E yO (λW=>?_) h;have e:stepG afn true (G (b.at a<|.inRegion ops (i::r)::k)<|cs++[c]) W=_:=stepG_op ho hw;generalize z:(bO a.eval o).runT afn W #[]=x;let⟨q,O⟩:=x;have R:q=.ok .recover W:=by
  simp_all
 subst R;refine⟨seen afn b.fn O,?_⟩;rw[e,<-hs];exact nE E.pair.YT.1 z hk
def ae.K4 (E:dB afn ok c Dr)(e:fr.mode=.returning)(q:fr.defers=[])(hk:fr.kind=.deferred)(z:afn.funcs[fr.fn]?=some fn)(O:∀W,(a7 fn fr.tmps).runT afn W #[]=(.ok v W,#[]))(R:ok.aN (tY r0).fn=true)(h:ae afn ok c Dr Q ⟨tY r0,cs,V⟩):ae afn ok c Dr Q ⟨fr,r0::cs,V⟩:=by
 refine ae.go E R (λW=>⟨#[],?_⟩) h;rw[gn cO];simp only[b9,q,e,z,O,bF,gH (.inr hk),hk,kI];simp[GStep.after,seen]
end
