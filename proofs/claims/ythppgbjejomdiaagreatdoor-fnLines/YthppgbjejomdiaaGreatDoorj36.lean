import Derived.Test.YthppgbjejomdiaaGreatDoorj35
set_option linter.all false
set_option maxHeartbeats 4000000
set_option maxRecDepth 100000
open Go renaming World->ao,Value->au,Frame->a2,FuncId->a4,results->a6,Calls->a8,bytes->a9,Code->bb,yielded->bm,Operand->bn,TypeId->bo,wpList_append_own->bp,bodyPost_ret->bt,execOp->bv,wpList->bB,heap_setCell_same->bH,heap_alloc_new->bJ,below_setRow->bM,unwind->bO,setRow_heap->bR,setRow_size->bV
open Go.Conc renaming base->aj
open Go.Ending renaming returned->a3
open Go.Frame renaming eval_at->bi,enter->bs,catches->bE,finish->bF
open Go.Region renaming wanted->be
open Go.RowKit renaming Below->av
open Go.Value renaming slice->aa,int->ac,tuple->aL,agg->a0,bool->a7
open Go.World renaming cell?->ay
open Nat renaming zero_add->a5
namespace Go.Proofs.YthppgbjejomdiaaGreatDoor
open Conc RowKit
variable {a:Act}{ops:Array Oper}{xs N:Array au}{X:bb}{ok:Ctx}{c fr r0:a2}{fn:Func}{Dr:a4->Array au->ao->(au->ao->Prop)->Prop}{now shift A:Int}{cs:List a2}{k:List Item}{l:List Mv}{r:List Nat}{m:Mv}{B J s C b cap i n p:Nat}{t:Nat->Int}{F f g:Nat->Mv}{o:Oper}{af8:Program}{T ty:bo}{u v D x y:au}{Q:au->ao->Prop}{V W w w' w0:ao}
def Hl (l m):bd (jT<|l++[m]) (l.length+1)=bd (jT l) l.length++m.cells.toList:=by rw[ii,pC (λj d=>by rw[LO,if_neg ab]),LO,if_pos rfl]
def rQ {f t p}:∀{k:Nat},p<k->0<(aw f t p k).length
 |0,h=>ab
 |k+1,h=>by
  simp only[aw];by_cases e:p=k
  .subst e;rw[if_neg ab];simp
  .have:=rQ (f:=f) (t:=t) (p:=p) (k:=k) ab;split
   .exact this
   .simp
def aR (w:ao)(b:Nat)(now shift:Int)(v u:au)(ty:TypeId:=42):Prop:=w.heap[b]?=some (.cells #[now,shift,v,u] ty (0,0))
def aR.lt (h:aR w b now shift v u ty):b<w:=(agy.1 h).1
def aR.same (h:aR w b now shift v u ty)(e:w'.heap[b]?=w.heap[b]?):aR w' b now shift v u ty:=e.trans h
theorem aR.cells (h:aR w b now shift v u ty):w.cell? b=some (ac .i64 now)/\w.cell? ⟨b,1,none⟩=some (ac .i64 shift)/\w.cell? ⟨b,2,none⟩=some v/\w.cell? ⟨b,3,none⟩=some u/\∀j,w.frozen? ⟨b,j,none⟩=false:=by unfold aR at h;refine⟨?_,?_,?_,?_,λj=>frozen_of_row _ _ j _ _ h⟩<;>simp[ay,h]
structure Rb (w0:ao)(aj J s C:Nat)(now shift A:Int)(x y D:au)(l:List Mv)(W:ao):Prop where
 bk:aR W J now shift x y
 res:aR W s 0 0 () ()
 nx:aR W C A shift D ()
 own:W.ownsRow aj 30 6 D l.length (bd (jT l) l.length)
 below:av w0 w0 W
 Pm:aj<=W
def Rb.grow {W' aj}(h:Rb w0 aj J s C now shift A x y D l W)(hb:av W W W'):Rb w0 aj J s C now shift A x y D l W':=
 ⟨h.bk.same<|hb.block _ h.bk.lt,h.res.same<|hb.block _ h.res.lt,h.nx.same<|hb.block _ h.nx.lt,h.own.kept (row:=none) ⟨hb.os,hb.tape,hb.output,hb.size,λk d _=>hb.block k d⟩ f7,h.below.trans<|hb.mono h.below.size,agz h.Pm hb.size⟩
def Rb.append {aj:Nat}{q:au}(h:Rb w0 aj J s C now shift A x y D l W)(L:J<aj)(M:s<aj)(O:C<aj)(z:J≠C)(E:s≠C)(P:w0<=C) (own:w'.ownsRow aj 30 6 q (l.length+1) (bd (jT l) l.length++m.cells.toList))(d:W.grownBy w' D.ownBlock):Rb w0 aj J s C now shift A x y q (l++[m]) (w'.setCell ⟨C,2,none⟩ q):=by have hb:∀k,k<(W:Nat)->k<aj->w'.heap[k]?=W.heap[k]?:=λk j R=>d.block k j (λe=>by have:=(h.own.lt k e.symm).1;omega);have K:∀k,k≠C->(w'.setCell ⟨C,2,none⟩ q).heap[k]?=w'.heap[k]?:=λk j=>agp _ _ _ k j;have S:=d.size;have U:=h.Pm;refine⟨h.bk.same<|(K _ z).trans<|hb _ h.bk.lt L,h.res.same<|(K _ E).trans<|hb _ h.res.lt M,bH w' C 2 _ _ q<|(hb _ h.nx.lt O).trans h.nx,?_,by refine(h.below.trans ⟨d.os,d.tape,d.output,d.size,λk j=>hb k ab ab⟩).setCell ab _,cY⟩;have e:(l++[m]).length=l.length+1:=cQ;rw[e,Hl];exact own.kept (row:=some C) ⟨rfl,rfl,rfl,aN,λk _ j=>K k λe=>j cQ⟩<|.inr (λe=>by have:=(own.lt C e).1;omega)
def Rb.To {aj}(h:Rb w0 aj J s C now shift A x y D l W)(d:W.grownBy w' D.ownBlock)(j:C<aj):aR w' C A shift D ():=
 h.nx.same (d.block C h.nx.lt (λe=>by have:=(h.own.lt C e.symm).1;omega))
def lJ {aj:Nat}{xs:List au}(h:w.ownsRow aj T 6 v (n+1) xs):∃B c,v=aa (some ⟨B,0,none⟩) (n+1) c:=by rcases h.2 with⟨_,e⟩|⟨g,cap,q,e,_⟩;omega;grind
def TU (h:w.heap[b]?=some (.cells m.cells T (0,0))):w.cell? b=some (.string m.name)/\w.cell? ⟨b,1,none⟩=some (a7 m.ax)/\w.cell? ⟨b,2,none⟩=some (ac .i64 m.aI)/\w.cell? ⟨b,3,none⟩=some (ac .i64 m.cj)/\w.cell? ⟨b,4,none⟩=some (ac .i64 m.late)/\w.cell? ⟨b,5,none⟩=some (ac .i64 m.prom):=by simp_all [ay]
def aeT (h:w.heap[b]?=some (.cells m.cells T (0,0)))(d:Mv):((((((w.setCell b d.name).setCell ⟨b,1,none⟩ d.ax).setCell ⟨b,2,none⟩ d.aI).setCell ⟨b,3,none⟩ d.cj).setCell ⟨b,4,none⟩ d.late).setCell ⟨b,5,none⟩ d.prom).heap[b]?=some (.cells d.cells T (0,0)):=by have:=bH _ _ 5 _ _ d.prom<|heap_setCell_same _ _ 4 _ _ d.late<|heap_setCell_same _ _ 3 _ _ d.cj<|heap_setCell_same _ _ 2 _ _ d.aI<|heap_setCell_same _ _ 1 _ _ d.ax<|heap_setCell_same w b 0 _ _ d.name h;simp_all
def we (h:w.heap[b]?=some (.cells m.cells T (0,0))):∀j u,m.cells.toList[j]?=some u->w.cell? ((b:Addr).add j)=some u:=λj u d=>by
 rw[qm,a5,cell_of_row _ _ _ _ _ _ h];simpa using d
def d8 (w:ao)(e d):((w.alloc e).alloc d).heap[(w:Nat)+1]?=some d:=by have:=bJ (w.alloc e) d;simpa using this
def Cn (f t) p:gT f t p p=vQ (f p) (t p):=by unfold gT;rw[if_pos rfl]
def wG {k}(h:¬k=p):gT f t p k=bT (f k) (t k) (t p):=by unfold gT;rw[if_neg h]
def mH {k}(h:¬t k<t p):aw f t p (k+1)=aw f t p k++[gT f t p k]:=by simp only[aw];rw[if_neg h]
def DT (w:ao)(B n:Nat)(F:Nat->Mv):Prop:=aM w B 0 n F/\∃cs,w.heap[B]?=some (.cells cs 30 (0,0))/\n*6<=cs.size
def DT.same (h:DT w B n F)(e:w'.heap[B]?=w.heap[B]?):DT w' B n F:=by let⟨d,cs,j,q⟩:=h;exact⟨dL d e,cs,e.trans j,q⟩
def DT.lt (h:DT w B n F):B<w:=by let⟨_,cs,d,_⟩:=h;grind
def EU {aj c}(h:w.ownsRow aj 30 6 (aa B n c) n (bd F n)):DT w B n F:=by refine⟨eu h,?_⟩;obtain⟨_,e|⟨g,cap,q,e,_,z,O,_,R,_⟩⟩:=h;all_goals grind
def YR {p:Prop}(x9:p:=by rcases hR.own.2 with⟨_,e⟩|⟨g,cap,cur,e,_⟩;omega;exact⟨g,cap,e⟩):p:=x9
section
variable [Gl]
def MD (f:Nat->Mv)(n:Nat)(t:Nat->Int)(p:Nat)(shift:Int)(V:ao)(v:au)(O:ao):Prop:=
 (∃(U Y:Int) (Z:Option Addr) (l2 c2:Nat) (x3:Option Addr) (l3 c3:Nat),v=aL #[a0 #[U,Y,aa Z l2 c2,aa x3 l3 c3],a7 (dI f n t p).isSome]/\∀T,dI f n t p=some T->∃R BT,(V:Nat)<=R/\(V:Nat)<=BT/\U=t p/\Y=shift/\Z=some ⟨R,0,none⟩/\l2=(aw f t p n).length/\x3=some ⟨BT,0,none⟩/\l3=(aw f t p n).length/\DT O R (aw f t p n).length (jT<|aw f t p n)/\aC O BT (aw f t p n).length T)/\Bl V V O
def ae.Y_ (E:dC Tz.prog ok c aS)(q:ok.aP 107)(z:ok.aP 146)(O:ok.aP 173=false){b:a2}(hb:ok.aP b.fn)(ho:ops[i]?=some o)(hw:be o (bm ops a.tmps))
  (R:∀w,(bv a.eval o).run Tz.prog w=.ok (.enter 107 #[aa B n cap,now,shift]) w)
  (U:n<=6)(Y:∀i,i<n->(g i).ok)(Z:0<=now)(h1:now<=20000)(bN:B<V)(az:aM V B 0 n g)
  (aE:∀v e,gI (gG g n now shift) n V v e->ae Tz.prog ok c aS Q ⟨b.at (a.put o.dst v)<|.inRegion ops r::k,cs,e⟩):ae Tz.prog ok c aS Q ⟨b.at a<|.inRegion ops (i::r)::k,cs,V⟩:=
 ae.aZ E ho hw q R (Fl E q z O (r0:=b.at a _) hb U Y Z h1 bN az λv e hv=>by rw[aq ho];exact aE v e hv)
def Ip (E:dC Tz.prog ok c aS)(tV:ok.aP 81)(zD:ok.aP 107)(wW:ok.aP 146)(Ft:ok.aP 173=false)(eU:ok.aP r0.fn)
  {b' cap':Nat}(hm:aH f n)(hf:ga f t n)(hp:p<n)(bN:b<V)(az:aM V b 0 n f)(bz:b'<V)(aV:aD V b' 0 n t)
  (aE:∀v V',MD f n t p shift V v V'->ae Tz.prog ok c aS Q ⟨r0.finish v,cs,V'⟩):
  ae Tz.prog ok c aS Q ⟨Frame.enter Tz.prog 81 #[.agg #[now,shift,.slice b n cap,.slice b' n cap'],.int .i64 p] .normal,r0::cs,V⟩:=by
 have hE:=enter_at (P:=Tz.prog) #[.agg #[.int .i64 now,.int .i64 shift,.slice (some ⟨b,0,none⟩) n cap,.slice (some ⟨b',0,none⟩) n cap'],.int .i64 p] Tz.func81 rfl;simp only[Tryz.ntmps81,List.size_toArray,List.length_cons,List.length_nil,Nat.reduceAdd,Nat.reduceSub,Array.replicate_succ,Array.replicate_zero,List.push_toArray,List.append_toArray,List.nil_append,List.cons_append]at hE;rw[hE];clear hE;have h6:=bY hm;have abM:=Mv.gp (bf hm p hp);have LD:=iE (hf.1 p hp);have hpn:(p:Int)<n:=ab;refine ae.chain E tV [_] _ (λa' w'=>Bl V.heap.size V w'/\∃J s,V.heap.size<=J/\V.heap.size<=s/\J≠s/\aR w' J now shift (.slice (some ⟨b,0,none⟩) n cap) (.slice (some ⟨b',0,none⟩) n cap')/\aR w' s 0 0 (.slice none 0 0) (.slice none 0 0)/\jz a' (rW 81 [(1,.int .i64 p),(2,.pointer (some ⟨J,0,none⟩)),(4,.pointer (some ⟨s,0,none⟩)),(5,.bool false)])) (λ_ _=>False) ?_ ?_ (λ_ _ _ hh=>hh.elim)
 .intro τ d;clear aE az aV hf hm;simp only[ak];go_wp2;left;refine⟨Xf,⟨by simp[re];omega,λk hk=>?_⟩,V.heap.size,V.heap.size+1,agw _,ab,ab,?_,?_,rfl,rfl⟩
  .rw[ago _ _ _ (by simp[re];omega),ago _ _ _ (by simpa[re]using hk)];rfl
  .exact(ago _ _ _ (by simp[re])).trans (heap_alloc_new (re V τ d) _)
  .have:=heap_alloc_new ((re V τ d).alloc (.cells #[now,shift,.slice b n cap,.slice b' n cap'] 42)) (.cells #[.int .i64 0,.int .i64 0,(),()] 42);rw[show((re V τ d).alloc (.cells #[now,shift,.slice b n cap,.slice b' n cap'] 42)).heap.size=V.heap.size+1 by simp[re]]at this;exact this
 rintro a' w1 ⟨bK,J,s,qu,Jr,h24,bk,rs,jo⟩;obtain⟨u,rfl⟩:=jo.open;clear jo;have eI:=bK.size;have Ce:aM w1 b 0 n f:=dL az (bK.block b bN);have RG:aD w1 b' 0 n t:=λi hi=>by have:=aV i hi;simp only[World.cell?,bK.block b' bz]at this⊢;exact this
 have OU:b<w1:=ab;have abB:b'<w1:=ab;refine ae.D8 E tV [_,_,_,_] _ (λa' w'=>t p+6<=(f p).late/\Bl V.heap.size V w'/\∃C BN cN,V.heap.size<=C/\s≠C/\V.heap.size<=BN/\aR w' s 0 0 (.slice none 0 0) (.slice none 0 0)/\aR w' C (t p) shift (.slice (some ⟨BN,0,none⟩) (aw f t p n).length cN) (.slice none 0 0)/\DT w' BN (aw f t p n).length (jT (aw f t p n))/\BN<w'.heap.size/\BN≠s/\BN≠C/\jz a' (rW 81 [(4,.pointer (some ⟨s,0,none⟩)),(6,.int .i64 (t p)),(7,.pointer (some ⟨C,0,none⟩))])) (λa' w'=>(¬t p+6<=(f p).late)/\Bl V.heap.size V w'/\a'.defers=[]/\a'.tmps[4]?=some (.pointer (some ⟨s,0,none⟩))/\a'.tmps[5]?=some (.bool false)/\aR w' s 0 0 (.slice none 0 0) (.slice none 0 0)) ?_ ?_ ?_
 .intro τ d;have wj:aM (re w1 τ d) b 0 n f:=dL Ce rfl;have Mc:aD (re w1 τ d) b' 0 n t:=λi hi=>RG i hi
  have hl:b<(re w1 τ d).heap.size:=OU;have mL:b'<(re w1 τ d).heap.size:=abB;have DX:aR (re w1 τ d) J now shift (.slice b n cap) (.slice b' n cap'):=bk;have vf:aR (re w1 τ d) s 0 0 () ():=rs;have zH:∀W,(∀k,k<V.heap.size->W.heap[k]?=(re w1 τ d).heap[k]?)->(re w1 τ d).heap.size<=W.heap.size->Bl V V W:=λW h h2=>⟨agz eI h2,λk hk=>(h k hk).trans (bK.block k hk)⟩
  have gE:V.heap.size<=(re w1 τ d).heap.size:=eI;revert wj Mc hl mL DX vf zH gE;generalize re w1 τ d=w0;intro wj Mc hl mL DX vf zH gE;clear aE az aV Ce RG bk rs bK;obtain⟨p0,p1,p2,p3,p4,p5⟩:=wj p hp;have tp:=Mc p hp;simp only[Nat.zero_add]at p0 p1 p2 p3 p4 p5 tp;have kk:=DX.cells;obtain⟨VH,r1',r2',r3',r4'⟩:=vf.cells;have CY:IntKind.i64.wrap (t p+6)=t p+6:=jh;have lB2:=DX.lt;have lB4:=vf.lt;obtain⟨iM,hI,Nn,XH,XI⟩:=fh;have hlen:=jc f t p;simp only[ak];by_cases hle:t p+6<=(f p).late
  .have Qr:¬(f p).late<t p+6:=by omega
   go_wp2;all_goals try(exfalso;omega)
   go_loopw [34,8,9] (λx _ _ W=>∃(k:Nat) (D:Value),x=.int .i64 k/\k<=n/\Rb w0 (w0.heap.size+1) J s w0.heap.size now shift (t p) (.slice (some ⟨b,0,none⟩) n cap) (.slice (some ⟨b',0,none⟩) n cap') D (aw f t p k) W) (λx _ _ _=>n-(intOf x).toNat)
   case atStart=>
    have bA:Below w0 w0 (w0.alloc (.cells #[.int .i64 (t p),shift,(),()] 42)):=(agn _ _).alloc (agw _) _;exact⟨0,(),rfl,agB _,⟨DX.same (bA.block _ lB2),vf.same (bA.block _ lB4),heap_alloc_new _ _,World.ownsRow_nil _ _ _ _,bA,aN⟩⟩
   obtain⟨k,D,rfl,hk,hR⟩:=hrel;have lbr:=agx hl hR.below.size;have G_:=agx mL hR.below.size;have Tm:=hR.bk.lt;have lb7:=hR.nx.lt;by_cases aG:k<n
   .have dQ:(k:Int)<n:=by omega
    obtain⟨c0,c1,c2,c3,c4,c5⟩:=wj.below hR.below hl k aG;have tk:=Mc.below hR.below mL k aG;simp only[Nat.zero_add]at c0 c1 c2 c3 c4 c5 tk;obtain⟨m0,m1,m2,m3,m4⟩:=hR.bk.cells;obtain⟨x0,x1,x2,x3,x4⟩:=hR.nx.cells;by_cases hsk:t k<t p
    .go_wp2;all_goals try(exfalso;omega)
     go_roundw
     .exact⟨k+1,D,by go_num,ab,by simp[aw,if_pos hsk];exact hR.grow ((agn _ _).alloc ab _)⟩
     exact cD
    by_cases hkp:k=p
    .subst hkp;have hLk:=hlen k;have HG:=λW (hb:Below wr wr W)=>hR.grow hb
     go_wp2_with(at_builtin;go_loud (refine wpList_append_own _ rfl (.tmp 62) (.tmp 64) 39 rfl (w0.heap.size+1) 30 iM _ 6 56 aT hI Nn XH XI rfl bc D (aw f t k k).length (bd (jT (aw f t k k)) (aw f t k k).length) bQ (HG _ xV).own ⟨wr.heap.size+1,0,none⟩ 1 1 (Mv.cells (vQ (f k) (t k))).toList bQ rfl (we (d8 _ _ _)) (gF _) iR ab (HG _ xV).Pm ?_;intro v8 w8 CW Bd _;obtain⟨B8,c8,rfl⟩:=lJ CW;have yy:=((HG _ xV).To Bd ab).cells;have l8:w0.heap.size<w8.heap.size:=((HG _ xV).To Bd ab).lt))<;>try omega
     go_roundw
     .exact⟨k+1,_,by go_num,ab,by rw[mH hsk,Cn];exact(HG _ xV).append ab ab ab ab ab ab CW Bd⟩
     exact cD
    have ael:¬(k:Int)=p:=by omega
    have hLk:=hlen k;obtain⟨m',qy⟩:∃m',bT (f k) (t k) (t p)=m':=⟨_,rfl⟩;have HP:∀W,Calls Tz.prog 106 #[.agg #[.string (f k).name,.bool (f k).ax,.int .i64 (f k).aI,.int .i64 (f k).cj,.int .i64 (f k).late,.int .i64 (f k).prom],.int .i64 (t k),.int .i64 (t p)] W λe w'=>e=.returned (.agg #[m'.name,m'.ax,m'.aI,m'.cj,m'.late,m'.prom])/\Below W.heap.size W w':=λW=>by
     rw[<-qy];exact uZ (f k) (t k) (t p) W ab ab
    go_wp2;all_goals try(exfalso;omega)
    have Jw:(wr.alloc (.cells #[.string (f k).name,.bool (f k).ax,.int .i64 (f k).aI,.int .i64 (f k).cj,.int .i64 (f k).late,.int .i64 (f k).prom] 30)).heap[wr.heap.size]?=some (.cells (f k).cells 30 (0,0)):=heap_alloc_new _ _;have bA:Below wr wr (wr.alloc (.cells #[.string (f k).name,.bool (f k).ax,.int .i64 (f k).aI,.int .i64 (f k).cj,.int .i64 (f k).late,.int .i64 (f k).prom] 30)):=(agn _ _).alloc ab _;revert Jw bA;generalize (wr.alloc (.cells #[.string (f k).name,.bool (f k).ax,.int .i64 (f k).aI,.int .i64 (f k).cj,.int .i64 (f k).late,.int .i64 (f k).prom] 30))=W9;intro Jw bA;obtain⟨B9,hB9⟩:∃B9,B9=wr.heap.size:=⟨_,rfl⟩;rw[<-hB9]at Jw⊢;have MZ:wr.heap.size<=B9:=ab;clear hB9;have n3:=(bA.cell Tm).trans m3;have ntk:=(bA.cell (p:=⟨b',k,none⟩) G_).trans tk;have zz:=TU Jw;have l9:B9<W9:=(agy.1 Jw).1;clear c0 c1 c2 c3 c4 c5 m0 m1 m2 m3 m4 x0 x1 x2 x3 x4 tk;have l92:J<W9:=agx Tm bA.size;have l9':b'<W9:=agx G_ bA.size;go_region_with(go_at_call 106;refine(HP _).mono ?_;clear HP;rintro e w4 ⟨rfl,b4⟩;have UO:w4.heap[B9]?=some (.cells (f k).cells 30 (0,0)):=(b4.block B9 l9).trans Jw;obtain⟨q0,q1,q2,q3,q4,q5⟩:=TU UO;have fr4:=(λj=>frozen_of_row w4 B9 j _ _ UO))
    all_goals
     have dZ:=aeT UO m';have b4':Below wr wr ((((((w4.setCell B9 m'.name).setCell ⟨B9,1,none⟩ m'.ax).setCell ⟨B9,2,none⟩ m'.aI).setCell ⟨B9,3,none⟩ m'.cj).setCell ⟨B9,4,none⟩ m'.late).setCell ⟨B9,5,none⟩ m'.prom):=((((((bA.drew.trans (b4.mono bA.drew.size)).setCell (p:=B9) MZ _).setCell (p:=⟨B9,1,none⟩) MZ _).setCell (p:=⟨B9,2,none⟩) MZ _).setCell (p:=⟨B9,3,none⟩) MZ _).setCell (p:=⟨B9,4,none⟩) MZ _).setCell (p:=⟨B9,5,none⟩) MZ _;revert dZ b4';generalize ((((((w4.setCell ⟨B9,0,none⟩ (.string m'.name)).setCell ⟨B9,1,none⟩ (.bool m'.ax)).setCell ⟨B9,2,none⟩ (.int .i64 m'.aI)).setCell ⟨B9,3,none⟩ (.int .i64 m'.cj)).setCell ⟨B9,4,none⟩ (.int .i64 m'.late)).setCell ⟨B9,5,none⟩ (.int .i64 m'.prom))=W6;intro dZ b4';clear UO q0 q1 q2 q3 q4 q5 fr4 Jw zz n3 ntk bA;have ZY:=hR.grow b4';have yy:=ZY.nx.cells;have zz:=TU dZ;have lb6:=ZY.nx.lt;have HG:=λW (hb:Below W6 W6 W)=>ZY.grow hb
     go_wp2_with(at_builtin;refine wpList_append_own _ rfl (.tmp 62) (.tmp 64) 39 rfl (w0.heap.size+1) 30 iM _ 6 56 aT hI Nn XH XI rfl bc D (aw f t p k).length (bd (jT (aw f t p k)) (aw f t p k).length) bQ (HG _ xV).own ⟨_,0,none⟩ 1 1 (Mv.cells m').toList bQ rfl (we (heap_alloc_new _ _)) (gF _) iR ab (HG _ xV).Pm ?_;intro v8 w8 CW Bd _;obtain⟨B8,c8,rfl⟩:=lJ CW;obtain⟨k0',k1',k2',k3',k4'⟩:=((HG _ xV).To Bd ab).cells;have l8:w0.heap.size<w8.heap.size:=((HG _ xV).To Bd ab).lt)
     go_roundw
     case rel=>exact⟨k+1,_,by go_num,ab,by rw[mH ab,wG hkp,qy];exact(HG _ xV).append ab ab ab ab ab (agw _) CW Bd⟩
     case measure=>exact cD
   .have dQ:¬(k:Int)<n:=by omega
    have tX:k=n:=ab;subst tX;have gZ:=rQ (f:=f) (t:=t) (p:=p) hp;obtain⟨BN,cN,rfl⟩:∃BN cN,D=.slice (some ⟨BN,0,none⟩) (aw f t p k).length cN:=by
     exact YR
    obtain⟨lo,hi⟩:=hR.own.lt BN rfl;go_wp2;all_goals try(exfalso;omega)
    exact⟨zH _ (λq hq=>hR.below.block q ab) hR.below.size,w0.heap.size,gE,ab,BN,ab,hR.res,⟨cN,hR.nx⟩,EU hR.own,hi,ab,ab,rfl,rfl⟩
  .have Qr:(f p).late<t p+6:=by omega
   go_wp2;all_goals try(exfalso;omega)
   rw[va vf];have pa:=zH _ (λk hk=>setRow_other w0 s _ #[.int .i64 0,.int .i64 0,(),()] ab) (by rw[setRow_size];exact agw _);have hB:=setRow_heap w0 s _ #[.int .i64 0,.int .i64 0,(),()] _ _ vf;first
    |exact⟨pa,rfl,rfl,hB⟩
    |exact⟨pa,rfl,rfl,rfl,hB⟩
    |exact⟨hle,pa,rfl,rfl,rfl,hB⟩
    |exact⟨pa,hB⟩
 .rintro a' w2 ⟨hle,dh,C,BN,cN,hB7,h47,SY,res,nx,RH,XK,hN4,hN7,jo⟩;clear u Ce RG bk rs bK;obtain⟨u,rfl⟩:=jo.open;clear jo;have hRr:dI f n t p=gG (jT (aw f t p n)) (aw f t p n).length (t p) 6:=by unfold dI;rw[if_pos hle]
  have hlen:=jc f t p n;have f8:=dh.size;obtain⟨r,hr⟩:∃r,dI f n t p=r:=⟨_,rfl⟩;obtain⟨br,mY⟩:∃br,r.isSome=br:=⟨_,rfl⟩;refine ae.seq E tV (ae.region E tV ?_);rw[my];refine ae.lx E tV 0 3 aN (λa' w'=>(∃τ d,w'=re w2 τ d)/\jz a' (rW 81 [(4,.pointer s),(6,.int .i64 (t p)),(7,.pointer C),(70,.slice BN (aw f t p n).length cN),(71,.int .i64 (t p))])) ?_ ?_
  .intro τ d;have nx':aR (re w2 τ d) C (t p) shift (.slice BN (aw f t p n).length cN) ():=nx;have yy:=nx'.cells;clear aE;exact Yx
  rintro a' w' ⟨⟨τ,d,rfl⟩,jo⟩;clear u;obtain⟨u,rfl⟩:=jo.open;clear jo;refine ae.Y_ E zD wW Ft tV (i:=3) rfl rfl (B:=BN) (n:=(aw f t p n).length) (cap:=cN) (g:=jT (aw f t p n)) (now:=t p) (shift:=6) (λw=>nU) ab (λi hi=>tL hm hf hp hle hi) ab ab XK (dL RH.1 rfl) ?_;intro v V3 gD;rw[<-hRr,hr]at gD;obtain⟨v5,rfl,t5,Z7⟩:=yz gD;have kO:Bl w2 w2 V3:=⟨Z7.size,Z7.block⟩;replace t5:Tk r (aw f t p n).length w2.heap.size V3 v5:=t5;rw[mY];clear gD Z7;refine ae.lx E tV 4 5 aN (λa' w'=>(∃τ d,w'=re V3 τ d)/\jz a' (rW 81 [(4,.pointer s),(6,.int .i64 (t p)),(7,.pointer C),(10,v5),(11,br)])) ?_ ?_
  .intro τ d;clear aE;simp only[an,Act.put];exact adf
  rintro a' w' ⟨⟨O0,d3,rfl⟩,jo⟩;clear u;obtain⟨u,rfl⟩:=jo.open;clear jo;refine ae.regionEnd E tV ?_;have ED:=kO.size;have acB:aR V3 s 0 0 () ():=res.same (kO.block s res.lt);have nx3:aR V3 C (t p) shift (.slice BN (aw f t p n).length cN) ():=nx.same (kO.block C nx.lt);have Yn:DT V3 BN (aw f t p n).length (jT (aw f t p n)):=RH.same (kO.block BN XK);have Z4:Bl V V V3:=dh.trans kO f8;have lN:=nx.lt;have l4:=res.lt;clear nx res RH dh kO;have mK:∀(a':Act) (w':World) (todo:List Item),(∃(x0 x1:Int) (x2:Option Addr) (l2 c2:Nat) (x3:Option Addr) (l3 c3:Nat),w'.heap[s]?=some (.cells #[x0,x1,.slice x2 l2 c2,.slice x3 l3 c3] 42 (0,0))/\Bl V V w'/\(∀T,r=some T->∃BN BT,V.heap.size<=BN/\V.heap.size<=BT/\x0=t p/\x1=shift/\x2=some ⟨BN,0,none⟩/\l2=(aw f t p n).length/\x3=some ⟨BT,0,none⟩/\l3=(aw f t p n).length/\DT w' BN (aw f t p n).length (jT (aw f t p n))/\aC w' BT (aw f t p n).length T)/\jz a' (rW 81 [(4,.pointer s),(5,br)]))->ae Tz.prog ok c aS Q ⟨{(base 81).at a' todo with mode:=.returning},r0::cs,w'⟩:=by
   rintro a' w' todo ⟨x0,x1,x2,l2,c2,x3,l3,c3,hc,pa,hT,jo⟩;obtain⟨u,rfl⟩:=jo.open;refine ae.leave E eU (v:=.tuple #[.agg #[x0,x1,.slice x2 l2 c2,.slice x3 l3 c3],br]) (λτ d=>⟨rfl,rfl,rfl,_,Tz.func81,?_⟩) (aE _ _ ⟨⟨x0,x1,x2,l2,c2,x3,l3,c3,by rw[hr,mY],λT ZZ=>hT T (hr.symm.trans ZZ)⟩,pa⟩);have q0:(re w' τ d).cell? s=some (.int .i64 x0):=by have h:(re w' τ d).heap[s]?=_:=hc;simp[World.cell?,h]
   have q1:(re w' τ d).cell? ⟨s,1,none⟩=some (.int .i64 x1):=by have h:(re w' τ d).heap[s]?=_:=hc;simp[World.cell?,h]
   have q2:(re w' τ d).cell? ⟨s,2,none⟩=some (.slice x2 l2 c2):=by have h:(re w' τ d).heap[s]?=_:=hc;simp[World.cell?,h]
   have q3:(re w' τ d).cell? ⟨s,3,none⟩=some (.slice x3 l3 c3):=by have h:(re w' τ d).heap[s]?=_:=hc;simp[World.cell?,h]
   show Sem.run Tz.prog (results Tryz.f81 ((rW 81 [(4,.pointer s),(5,br)]) u)) (re w' τ d)=.ok (.tuple #[.agg #[x0,x1,.slice x2 l2 c2,.slice x3 l3 c3],br]) (re w' τ d);simp[results,Tryz.f81,go_sem,q0,q1,q2,q3]
  refine ae.last E tV [_,_,_] (λa' w'=>∃(x0 x1:Int) (x2:Option Addr) (l2 c2:Nat) (x3:Option Addr) (l3 c3:Nat),w'.heap[s]?=some (.cells #[x0,x1,.slice x2 l2 c2,.slice x3 l3 c3] 42 (0,0))/\Bl V V w'/\(∀T,r=some T->∃BN BT,V.heap.size<=BN/\V.heap.size<=BT/\x0=t p/\x1=shift/\x2=some ⟨BN,0,none⟩/\l2=(aw f t p n).length/\x3=some ⟨BT,0,none⟩/\l3=(aw f t p n).length/\DT w' BN (aw f t p n).length (jT (aw f t p n))/\aC w' BT (aw f t p n).length T)/\jz a' (rW 81 [(4,.pointer s),(5,br)])) ?_ mK;intro τ d;clear mK aE;have N6:aR (re (re V3 O0 d3) τ d) s 0 0 () ():=acB;have nx0:aR (re (re V3 O0 d3) τ d) C (t p) shift (.slice BN (aw f t p n).length cN) ():=nx3;have wj:DT (re (re V3 O0 d3) τ d) BN (aw f t p n).length (jT (aw f t p n)):=Yn.same rfl;have t50:Tk r (aw f t p n).length w2.heap.size (re (re V3 O0 d3) τ d) v5:=t5.same λ_ _ _=>rfl
  have Xy:Bl V V (re (re V3 O0 d3) τ d):=⟨Z4.size,Z4.block⟩;revert N6 nx0 wj t50 Xy;generalize re (re V3 O0 d3) τ d=w0;intro N6 nx0 wj t50 Xy;clear acB nx3 Yn t5 Z4;obtain⟨VH,r1',r2',r3',r4'⟩:=N6.cells;have yy:=nx0.cells;simp only[ak];cases r with
  |none=>
   subst mY;simp only[Option.isSome_none];go_wp2;all_goals try(exfalso;omega)
   rw[va N6];right;exact⟨Xf,_,_,_,_,_,_,_,_,setRow_heap _ _ _ _ _ _ N6,⟨adE,λk hk=>(setRow_other _ _ _ _ ab).trans (Xy.block k hk)⟩,(λT h=>sV),rfl,rfl⟩
  |some T=>
   obtain⟨BT,cT,SZ,rfl,oT⟩:=t50;subst mY;simp only[Option.isSome_some];go_wp2;all_goals try(exfalso;omega)
   have hs:∀k,k≠C->(w0.setCell ⟨C,3,none⟩ (.slice BT (aw f t p n).length cT)).heap[k]?=w0.heap[k]?:=λk hk=>agp _ _ _ k hk
   have tY:(w0.setCell ⟨C,3,none⟩ (.slice BT (aw f t p n).length cT)).heap.size=w0.heap.size:=aN;revert hs tY;generalize w0.setCell ⟨C,3,none⟩ (.slice (some ⟨BT,0,none⟩) (aw f t p n).length cT)=w5;intro hs tY;have acC:=N6.same (hs s h47);rw[va acC];have ho:∀k,k≠C->k≠s->∀row,(w5.setRow s row).heap[k]?=w0.heap[k]?:=λk h1 h2 row=>(setRow_other _ _ _ _ h2).trans (hs k h1)
   left;exact⟨Xf,_,_,_,_,_,_,_,_,setRow_heap _ _ _ _ _ _ acC,⟨by rw[setRow_size,tY];exact Xy.size,λk hk=>(ho k ab ab _).trans (Xy.block k hk)⟩,λT' h=>by
    obtain rfl:=agC h;exact⟨BN,BT,SY,ab,rfl,rfl,rfl,rfl,rfl,rfl,wj.same (ho BN hN7 hN4 _),fX oT (ho BT ab ab _)⟩,rfl,rfl⟩
 .rintro a' w2 todo ⟨hle,dh,hd,h4,h5,res⟩;refine ae.leave E eU (v:=.tuple #[.agg #[.int .i64 0,.int .i64 0,(),()],false]) (λτ d=>⟨rfl,hd,rfl,_,Tz.func81,?_⟩) (aE _ _ ⟨⟨0,0,none,0,0,none,0,0,by unfold dI;rw[if_neg hle];rfl,λT hT=>by unfold dI at hT;rw[if_neg hle]at hT;cases hT⟩,dh⟩);have hc:(re w2 τ d).heap[s]?=_:=res;have q0:(re w2 τ d).cell? s=some (.int .i64 0):=by simp[World.cell?,hc]
  have q1:(re w2 τ d).cell? ⟨s,1,none⟩=some (.int .i64 0):=by simp[World.cell?,hc]
  have q2:(re w2 τ d).cell? ⟨s,2,none⟩=some (.slice none 0 0):=by simp[World.cell?,hc]
  have q3:(re w2 τ d).cell? ⟨s,3,none⟩=some (.slice none 0 0):=by simp[World.cell?,hc]
  show Sem.run Tz.prog (results Tryz.f81 a'.tmps) (re w2 τ d)=.ok (.tuple #[.agg #[.int .i64 0,.int .i64 0,(),()],false]) (re w2 τ d);simp[results,Tryz.f81,go_sem,q0,q1,q2,q3,h4,h5]
end
def JR (m:Mv) A (w:ao)(d:0<=A)(j:A<=20000): a8 Tz.prog 115 #[a0 #[m.name,m.ax,m.aI,m.cj,m.late,m.prom],ac .i64 A] w λe w'=>e=a3 (aL #[a0 #[m.name,m.ax,m.aI,ac .i64<|A+6,m.late,ac .i64 (-1)],a7<|decide (A+6<=m.late)])/\av w w w':=by
 have q:IntKind.i64.wrap (A+6)=A+6:=jh;go_enter Tz.func115,Tryz.ntmps115;go_wp2;go_region
 all_goals
  go_wp2;refine bt (by simp[a6,Tryz.results115,go_sem]) rfl ⟨rfl,?_⟩;repeat(first|exact agn _ _|refine Below.drew ?_|refine agr ?_ DZ _|refine agq ?_ DZ _)
def nO (f:Nat->Mv)(n:Nat)(t:Nat->Int)(p:Nat)(shift:Int)(w:ao)(e:Ending)(w':ao):Prop:=
 if t p+6<=(f p).late then∃O R,e=a3 (aL #[a0 #[ac .i64<|t p,shift,aa (some ⟨O,0,none⟩) (aw f t p n).length R,()],true])/\w<=O/\O<w'/\aM w' O 0 (aw f t p n).length (jT<|aw f t p n)
 else e=a3 (aL #[a0 #[(0:Int),(0:Int),(),()],false])
def Sr {p:Prop}(x9:p:=by rw[ags]at this;exact this):p:=x9
def JS (b n cap U cap' p:Nat)(f:Nat->Mv)(t:Nat->Int)(now shift:Int)(w:ao)(hm:aH f n)(hf:ga f t n)(hp:p<n)(bN:b<w)(az:aM w b 0 n f)(bz:U<w)(aV:aD w U 0 n t):
  a8 Tz.prog 87 #[a0 #[now,shift,aa b n cap,aa U n cap'],ac .i64 p] w λe w'=>nO f n t p shift w e w'/\av w w w':=by
 have h6:=bY hm;have bX:=Mv.gp<|bf hm p hp;have LD:=iE<|hf.1 p hp;have b0:(p:Int)<n:=ab;have tp:=aV p hp;simp only[a5]at tp;have o0:∀o1 o2,av w w ((w.alloc o1).alloc o2):=λo1 o2=>((agn _ w).alloc (agw _) _).alloc aN _
 have bx:∀o1 o2,((w.alloc o1).alloc o2).cell? ⟨U,p,none⟩=some (ac .i64<|t p):=λo1 o2=>((o0 o1 o2).cell (p:=⟨U,p,none⟩) bz).trans tp
 let⟨iM,hI,Nn,XH,XI⟩:=fh;have aE:=jc f t p;go_enter Tz.func87,Tryz.ntmps87
 go_wp2;have aI:aR (((w.alloc<|.cells #[ac .i64 now,ac .i64 shift,aa (some ⟨b,0,none⟩) n cap,aa (some ⟨U,0,none⟩) n cap'] 42).alloc<|.cells #[(0:Int),(0:Int),aa none 0 0,aa none 0 0] 42).alloc<|.cells #[ac .i64<|t p,ac .i64 shift,aa none 0 0,aa none 0 0] 42) w now shift (aa (some ⟨b,0,none⟩) n cap) (aa (some ⟨U,0,none⟩) n cap'):=(ago _ _ _ cY).trans<|(ago _ _ _ aN).trans<|heap_alloc_new _ _;have Z8:aR (((w.alloc<|.cells #[ac .i64 now,ac .i64 shift,aa (some ⟨b,0,none⟩) n cap,aa (some ⟨U,0,none⟩) n cap'] 42).alloc<|.cells #[(0:Int),(0:Int),aa none 0 0,aa none 0 0] 42).alloc<|.cells #[ac .i64<|t p,ac .i64 shift,aa none 0 0,aa none 0 0] 42) ((w:Nat)+1) 0 0 (aa none 0 0) (aa none 0 0):=(ago _ _ _ aN).trans<|d8 _ _ _;have Z9:aR (((w.alloc<|.cells #[ac .i64 now,ac .i64 shift,aa (some ⟨b,0,none⟩) n cap,aa (some ⟨U,0,none⟩) n cap'] 42).alloc<|.cells #[(0:Int),(0:Int),aa none 0 0,aa none 0 0] 42).alloc<|.cells #[ac .i64<|t p,ac .i64 shift,aa none 0 0,aa none 0 0] 42) ((w:Nat)+1+1) (t p) shift (aa none 0 0) (aa none 0 0):=by
  have:=d8 (w.alloc<|.cells #[ac .i64 now,ac .i64 shift,aa (some ⟨b,0,none⟩) n cap,aa (some ⟨U,0,none⟩) n cap'] 42) (.cells #[(0:Int),(0:Int),aa none 0 0,aa none 0 0] 42)<|.cells #[ac .i64<|t p,ac .i64 shift,aa none 0 0,aa none 0 0] 42;exact Sr
 have pa:av w w (((w.alloc<|.cells #[ac .i64 now,ac .i64 shift,aa (some ⟨b,0,none⟩) n cap,aa (some ⟨U,0,none⟩) n cap'] 42).alloc<|.cells #[(0:Int),(0:Int),aa none 0 0,aa none 0 0] 42).alloc<|.cells #[ac .i64<|t p,ac .i64 shift,aa none 0 0,aa none 0 0] 42):=(o0 _ _).alloc cY _;obtain⟨s,Jr⟩:∃B,B=(w:Nat)+1:=⟨_,rfl⟩;obtain⟨C,aZ⟩:∃B,B=(w:Nat)+1+1:=⟨_,rfl⟩;rw[<-aZ]at Z9⊢;rw[<-Jr]at Z8⊢;have q4:(w:Nat)<s/\s<(w:Nat)+3/\s≠C:=⟨ab,ab,ab⟩;have q7:(w:Nat)<C/\C<(w:Nat)+3:=⟨ab,ab⟩;clear Jr aZ;let⟨b1,b2,b4⟩:=q4;let⟨b5,b6⟩:=q7;go_loopw [8,9,10,11] (λx _ _ _ W=>∃(k:Nat) (D:au),x=ac .i64 k/\k<=n/\(¬t p+6<=(f p).late->k<=p)/\Rb w ((w:Nat)+3) w s C now shift (t p) (aa (some ⟨b,0,none⟩) n cap) (aa (some ⟨U,0,none⟩) n cap') D (aw f t p k) W) (λx _ _ _ _=>n-(intOf x).toNat)
 case atStart=>exact⟨0,aa none 0 0,rfl,agB _,λ_=>agB _,⟨aI,Z8,Z9,World.ownsRow_nil _ _ _ _,pa,aN⟩⟩
 case round=>
  clear aI Z8 Z9 pa bx o0;obtain⟨k,D,rfl,hk,UT,hR⟩:=hrel;have b7:=agx bN hR.below.size;have G_:=agx bz hR.below.size;have Tm:=hR.bk.lt;have b8:=hR.res.lt;have b9:=hR.nx.lt;have mm:=hR.bk.cells;have xx:=hR.nx.cells;by_cases aG:k<n
  .have dQ:(k:Int)<n:=by omega
   let⟨c0,c1,c2,c3,c4,c5⟩:=az.below hR.below bN k aG;have tk:=aV.below hR.below bz k aG;simp only[a5]at c0 c1 c2 c3 c4 c5 tk;have ca:=aE k;by_cases ax:k=p
   .subst ax;have HQ:=λW=>JR (f k) (t k) W ab ab
    by_cases ad:t k+6<=(f k).late
    .go_wp2_with(first
      |(go_at_call 115;refine(HQ _).mono ?_;clear HQ;rintro e w3 ⟨rfl,b3⟩;have UH:=(hR.grow<|(agn _ _).alloc (agw _) _).grow b3;let⟨y0,y1,y2,y3,y4⟩:=UH.nx.cells;have bA:=UH.nx.lt;have cb:∀o,(w3.alloc o).cell? ⟨C,2,none⟩=some D:=(λo=>(World.cell?_alloc_past _ _ _ bA).trans y2);have O:=λW (hb:av w3 w3 W)=>UH.grow hb)
      |(at_builtin;refine bp _ rfl (.tmp 46) (.tmp 48) 39 rfl ((w:Nat)+3) 30 iM _ 6 56 aT hI Nn XH XI rfl bc D (aw f t k k).length (bd (jT<|aw f t k k) (aw f t k k).length) bQ (O _ xV).own ⟨(w3:Nat)+1,0,none⟩ 1 1 (Mv.cells<|vQ (f k)<|t k).toList bQ rfl (we<|d8 _ _ _) (gF _) iR ab (O _ xV).Pm ?_;intro v8 w8 CW Y _;obtain⟨B8,c8,rfl⟩:=lJ CW;let⟨a1,bj,bl,bq,br⟩:=((O _ xV).To Y ab).cells;have l8:C<w8:=((O _ xV).To Y ab).lt))
     all_goals try omega
     go_roundw
     case rel=>exact⟨k+1,_,by go_num,ab,λh=>absurd ad h,by rw[mH ab,Cn];exact(O _ xV).append ab ab ab ab ab ab CW Y⟩
     case measure=>exact cD
    .have bK:decide (t k+6<=(f k).late)=false:=by simpa using ad
     have HD:Hid (decide (t k+6<=(f k).late)=false):=bK;go_wp2_with(go_at_call 115;refine(HQ _).mono ?_;clear HQ;rintro e w3 ⟨rfl,b3⟩;rw[HD.out];have UH:=(hR.grow<|(agn _ _).alloc (agw _) _).grow b3;let⟨y0,y1,y2,y3,y4⟩:=UH.res.cells;have cc:=UH.res.lt)
     all_goals try omega
     rw[va UH.res];have Z:=bR w3 s _ #[(0:Int),(0:Int),aa none 0 0,aa none 0 0] _ _ UH.res;have jd:=bM UH.below (by omega:(w:Nat)<=s) #[(0:Int),(0:Int),aa none 0 0,aa none 0 0];have tY:(w3.setRow s #[(0:Int),(0:Int),aa none 0 0,aa none 0 0]).heap.size=(w3:Nat):=bV _ _ _;revert Z jd tY;generalize w3.setRow s #[(0:Int),(0:Int),aa none 0 0,aa none 0 0]=W5;intro Z jd tY;have bS:=λo=>jd.alloc (o:=o) jd.size
     have LA:=λo=>(ago W5 o s ab).trans Z
     have q0:∀o,(W5.alloc o).cell? ⟨s,0,none⟩=some (ac .i64 0):=λo=>by simp[ay,LA]
     have q1:∀o,(W5.alloc o).cell? ⟨s,1,none⟩=some (ac .i64 0):=λo=>by simp[ay,LA]
     have q2:∀o,(W5.alloc o).cell? ⟨s,2,none⟩=some (aa none 0 0):=λo=>by simp[ay,LA]
     have q3:∀o,(W5.alloc o).cell? ⟨s,3,none⟩=some (aa none 0 0):=λo=>by simp[ay,LA]
     refine bt (v:=aL #[a0 #[(0:Int),(0:Int),aa none 0 0,aa none 0 0],a7 false]) ?_ rfl ⟨by unfold nO;rw[if_neg ab],bS _⟩;simp[a6,Tryz.f87,go_sem,q0,q1,q2,q3]
   .have cd:¬(k:Int)=p:=by omega
    by_cases bW:t k<t p
    .go_wp2;all_goals try omega
     go_roundw
     case rel=>exact⟨k+1,D,by go_num,ab,λh=>by have:=UT h;omega,by simp only[aw,if_pos bW];exact hR.grow<|(agn _ _).alloc (agw _) _⟩
     case measure=>exact cD
    .have CY:IntKind.i64.wrap (t p+4)=t p+4:=by rw[IntKind.wrap_i64];omega
     have O:=λW (hb:av wr wr W)=>hR.grow hb
     by_cases ce:t k<t p+4
     .go_wp2_with(at_builtin;refine bp _ rfl (.tmp 73) (.tmp 75) 39 rfl ((w:Nat)+3) 30 iM _ 6 56 aT hI Nn XH XI rfl bc D (aw f t p k).length (bd (jT<|aw f t p k) (aw f t p k).length) bQ (O _ xV).own ⟨(wr:Nat)+1,0,none⟩ 1 1 (Mv.cells<|{f k with prom:=t k}).toList bQ rfl (we<|d8 _ _ _) (gF _) iR ab (O _ xV).Pm ?_;intro v8 w8 CW Y _;obtain⟨B8,c8,rfl⟩:=lJ CW;let⟨a1,bj,bl,bq,br⟩:=((O _ xV).To Y ab).cells;have l8:C<w8:=((O _ xV).To Y ab).lt)
      all_goals try omega
      go_roundw
      case rel=>exact⟨k+1,_,by go_num,ab,λh=>by have:=UT h;omega,by rw[mH ab,wG ax,show bT (f k) (t k) (t p)={f k with prom:=t k} by unfold bT;rw[if_pos ab]];exact(O _ xV).append ab ab ab ab ab ab CW Y⟩
      case measure=>exact cD
     .go_wp2_with(at_builtin;refine bp _ rfl (.tmp 73) (.tmp 75) 39 rfl ((w:Nat)+3) 30 iM _ 6 56 aT hI Nn XH XI rfl bc D (aw f t p k).length (bd (jT<|aw f t p k) (aw f t p k).length) bQ (O _ xV).own ⟨(wr:Nat)+1,0,none⟩ 1 1 (Mv.cells<|f k).toList bQ rfl (we<|d8 _ _ _) (gF _) iR ab (O _ xV).Pm ?_;intro v8 w8 CW Y _;obtain⟨B8,c8,rfl⟩:=lJ CW;let⟨a1,bj,bl,bq,br⟩:=((O _ xV).To Y ab).cells;have l8:C<w8:=((O _ xV).To Y ab).lt)
      all_goals try omega
      go_roundw
      case rel=>exact⟨k+1,_,by go_num,ab,λh=>by have:=UT h;omega,by rw[mH ab,wG ax,show bT (f k) (t k) (t p)=f k by unfold bT;rw[if_neg ab]];exact(O _ xV).append ab ab ab ab ab ab CW Y⟩
      case measure=>exact cD
  .have dQ:¬(k:Int)<n:=by omega
   have tX:k=n:=ab;subst tX;have ad:t p+6<=(f p).late:=by
    by_cases h:t p+6<=(f p).late
    .exact h
    .have:=UT h;omega
   have gZ:=rQ (f:=f) (t:=t) (p:=p) hp;obtain⟨R,cN,rfl⟩:∃R cN,D=aa (some ⟨R,0,none⟩) (aw f t p k).length cN:=by
    exact YR
   let⟨lo,hi⟩:=hR.own.lt R rfl;have ss:=hR.res.cells;go_wp2;all_goals try omega
   rw[va hR.res];have Z:=bR wr s _ #[ac .i64<|t p,ac .i64 shift,aa (some ⟨R,0,none⟩) (aw f t p k).length cN,aa none 0 0] _ _ hR.res;have jd:=bM hR.below (by omega:(w:Nat)<=s) #[ac .i64<|t p,ac .i64 shift,aa (some ⟨R,0,none⟩) (aw f t p k).length cN,aa none 0 0];have tY:(wr.setRow s #[ac .i64<|t p,ac .i64 shift,aa (some ⟨R,0,none⟩) (aw f t p k).length cN,aa none 0 0]).heap.size=(wr:Nat):=bV _ _ _;have oB:(wr.setRow s #[ac .i64<|t p,ac .i64 shift,aa (some ⟨R,0,none⟩) (aw f t p k).length cN,aa none 0 0]).heap[R]?=wr.heap[R]?:=setRow_other _ _ _ _ ab;have rN:=eu hR.own;revert Z jd tY oB;generalize wr.setRow s #[ac .i64<|t p,ac .i64 shift,aa (some ⟨R,0,none⟩) (aw f t p k).length cN,aa none 0 0]=W5;intro Z jd tY oB;have q0:W5.cell? ⟨s,0,none⟩=some (ac .i64<|t p):=by simp[ay,Z]
   have q1:W5.cell? ⟨s,1,none⟩=some (ac .i64 shift):=by simp[ay,Z]
   have q2:W5.cell? ⟨s,2,none⟩=some (aa (some ⟨R,0,none⟩) (aw f t p k).length cN):=by simp[ay,Z]
   have q3:W5.cell? ⟨s,3,none⟩=some (aa none 0 0):=by simp[ay,Z]
   refine bt (v:=aL #[a0 #[ac .i64<|t p,ac .i64 shift,aa (some ⟨R,0,none⟩) (aw f t p k).length cN,aa none 0 0],a7 true]) ?_ rfl ⟨by unfold nO;rw[if_pos ad];exact⟨R,cN,rfl,ab,ab,dL rN oB⟩,jd⟩;simp[a6,Tryz.f87,go_sem,q0,q1,q2,q3]
def nK (g:Nat->Mv)(n:Nat)(q:Int)(w:ao)(e:Ending)(w':ao):Prop:=
 if∀i,i<n->eR (g i) q then∃B c,e=a3 (aL #[aa (some ⟨B,0,none⟩) n c,true])/\w<=B/\B<w'/\aM w' B 0 n (eZ g q)
 else∃a l c,e=a3 (aL #[aa a l c,false])
def E1 {d k}(h:(g k).prom=-1)(j:d<=(g k).cj) i:eT g d k i=eT g d (k+1) i:=by unfold eT;by_cases e:i=k;subst e;rw[if_neg ab,if_pos ab];unfold fO;rw[if_pos h,show max (g i).cj d=(g i).cj by omega];grind
def wJ {P:Program}{rest:List Oper}{Q:Exit->Act->ao->Prop}(S9:o.guard=none)(s x:bn)(t:bo) (ho:o.op=.call {callee:=.builtin .append,args:=#[s,x],argTypes:=#[t,t]}) aj (e:bo)(i:TypeInfo) z (O a9:Nat)(ht:P.underlying t=some (.slice e))(hi:P.info? e=some i)(hz:i.zero=some z)(LC:i.size=O)(Y:i.bytes=a9)(IF:z.cells.size=O)(iV:0<O) v n (xs:List au)(hs:a.eval s=v)(bj:w.ownsRow aj e O v n xs)(qf:wK w v) (ad:Addr)(m c:Nat)(R:List au)(hx:a.eval x=.slice (some ad) m c)(hl:R.length=m*O)(gM:∀j u,R[j]?=some u->w.cell? (ad.add j)=some u)(h1:∀u∈R,u.oneCell')(XS:∀u∈R,nu u)(ax:∀u∈z.cells,nu u) (Z:n+m<=maxLen)(zI:(n+m)*a9<=140737488355328)(az:aj<=w) (h:∀U w',w'.ownsRow aj e O U (n+m) (xs++R)->w.grownBy w' v.ownBlock->wK w' U->(U=()<->v=()/\m=0)->bB P ops Q rest (a.put o.dst U) w'):bB P ops Q (o::rest) a w:=by refine wpList_plain S9 λK hK=>?_;let⟨U,w',hr,h2,h3,h4⟩:=run_append_own w aj t o.type e i z O a9 ht hi hz LC Y IF iV v n xs bj ad m c R hl gM h1 Z zI az;unfold Oper.wp bv;simp only[ho,resolve,invoke,builtin,Sem.run_bind,Sem.run_pure,Result.andThen_ok,List.map_toArray,List.map_cons,List.map_nil,hs,hx,hr];exact hK _ _<|h U w' h2 h3 (sD aj t o.type e i z O a9 ht hi hz LC Y IF v n xs bj qf ad m c R hl gM h1 XS ax Z zI hr) h4
def Gv (b n cap:Nat)(g:Nat->Mv)(z:Int)(w:ao)(hn:n<=6)(hg:∀i,i<n->(g i).ok)(h0:0<=z)(h1:z<=30000)(bN:b<w)(az:aM w b 0 n g):
  a8 Tz.prog 85 #[aa b n cap,z] w λe w'=>nK g n z w e w'/\av w w w':=by
 let⟨iM,hI,gE,XH,XI⟩:=fh;have bA:av w w (w.alloc<|.cells #[] 30):=(agn _ _).alloc ab _;have bj:(w.alloc<|.cells #[] 30).ownsRow w 30 6 (aa w 0 0) 0 []:=World.ownsRow_made w #[] 0 ab iR aN;have Y:wK (w.alloc<|.cells #[] 30) (aa w 0 0):=λB hB=>by
  simp[Value.ownBlock,Option.some.injEq]at hB;subst hB;exact⟨#[],_,bJ _ _,λv hv=>cQ⟩
 go_enter Tz.func85,Tryz.ntmps85
 go_wp2_with(at_builtin;refine wJ rfl (.tmp 8) (.tmp 9) 39 rfl w 30 iM _ 6 56 aT hI gE XH XI rfl bc (aa w 0 0) 0 [] bQ bj Y b n cap (bd g n) bQ (bI g n) (ey<|az.below bA bN) (fp g n) (AI g n) xB iR ab aN ?_;intro v8 w8 Z Bd ad aV;simp[a5,List.nil_append]at Z)
 have ax:av w w w8:=bA.grown Bd bA.size λq hq=>I4;obtain⟨B,c,rfl⟩:∃B c,v8=aa (some ⟨B,0,none⟩) n c:=by
  rcases Z.2 with⟨e,hz⟩|⟨gg,cc,bk,e,_⟩;all_goals grind
 have aE:=eu Z;have aI:=ad B rfl;have o0:=(Z.lt B rfl).1;clear Z Bd ad aV bj Y bA;go_loopw [7] (λx W=>∃k:Nat,x=ac .i64 k/\k<=n/\av w w W/\aM W B 0 n (eT g z k)/\cE W B/\∀i,i<k->eR (g i) z=true) (λx _=>n-(intOf x).toNat)
 .exact⟨0,rfl,agB _,ax,aE.oR λi _=>by unfold eT;rw[if_neg ab],aI,λi R=>absurd R ab⟩
 clear aE aI ax;obtain⟨k,rfl,hk,iK,Tg,U,dq⟩:=hrel;by_cases aG:k<n
 .have dQ:(k:Int)<n:=by omega
  have aZ:eT g z k k=g k:=by unfold eT;grind
  have eK:=Mv.gp<|hg k aG;let⟨c0,c1,c2,c3,c4,c5⟩:=Tg k aG;rw[aZ]at c0 c1 c2 c3 c4 c5;simp[a5]at c0 c1 c2 c3 c4 c5;have bl:=U.lt;by_cases O:(g k).prom=-1
  .have ID:(g k).prom<0:=by omega
   by_cases he:(g k).cj<z
   .have bq:=Ha U<|k*6+3;have hx:max (g k).cj z=z:=ab;have rS:=(Md Tg aG z).oR λi _=>AE O hx i;have pS:cE (wr.setCell ⟨B,k*6+3,none⟩ z) B:=U.set<|.inr<|.inl ⟨_,_,rfl⟩;have bS:=iK.setCell (p:=⟨B,k*6+3,none⟩) o0 z;have lS:(wr.setCell ⟨B,k*6+3,none⟩ z).cell? ⟨B,k*6+4,none⟩=some (ac .i64 (g k).late):=(World.cell?_setCell_other _ _ _ _ aN).trans c4;by_cases a1:z<=(g k).late
    .have Qr:¬(g k).late<z:=by omega
     go_wp2<;>try omega
     go_roundw
     case rel=>exact⟨k+1,by go_num,ab,bS,rS,pS,λi R=>by
      by_cases e:i=k
      .subst e;rw[mw O];simpa using a1
      .exact dq i ab⟩
     exact cD
    have Qr:(g k).late<z:=by omega
    have lw:¬∀i,i<n->eR (g i) z=true:=λh=>by
     have:=h k aG;rw[mw O]at this;simp at this;omega
    go_wp2<;>try omega
    go_ret2
    simp_all [nK,if_neg]
   go_wp2;all_goals try omega
   go_roundw
   case rel=>exact⟨k+1,by go_num,ab,iK,Tg.oR λi _=>E1 O ab i,U,λi R=>by
    by_cases e:i=k
    .subst e;rw[mw O];simp;omega
    .exact dq i ab⟩
   exact cD
  have ID:¬(g k).prom<0:=by omega
  go_wp2;all_goals try omega
  go_roundw
  case rel=>exact⟨k+1,by go_num,ab,iK,Tg.oR λi _=>vb O i,U,λi R=>by
   by_cases e:i=k
   .subst e;exact AD O
   .exact dq i ab⟩
  case measure=>exact cD
 have dQ:¬(k:Int)<n:=by omega
 have tX:k=n:=ab;subst tX;go_wp2;all_goals try omega
 go_ret2
 exact⟨by unfold nK;rw[if_pos dq];exact⟨B,c,rfl,o0,U.lt,Tg.oR λi R=>by unfold eT eZ;rw[if_pos R]⟩,iK⟩
def tu (b n cap:Nat)(g:Nat->Mv)(now shift:Int)(w:ao)(hn:n<=6)(hg:∀i,i<n->(g i).ok)(h0:0<=now)(h1:now<=20000)(Th:0<=shift)(LA:shift<=6)(uA:(∀i,i<n->eR (g i) (now+4))->aH (eZ g<|now+4) n)(bN:b<w)(az:aM w b 0 n g): a8 Tz.prog 60 #[aa b n cap,now,shift] w λe w'=>nJ (gG g n now shift) n w e w'/\av w w w':=by
 have CY:IntKind.i64.wrap (now+4)=now+4:=jh;have R:=Gv b n cap g (now+4) w hn hg ab ab bN az;go_enter Tz.func60,Tryz.ntmps60;by_cases U:∀i,i<n->eR (g i) (now+4)=true
 .have hm:=uA U;have Y:gG g n now shift=fQ (eZ g<|now+4) n ((ba n).filter<|jM (eZ g<|now+4) n shift):=by unfold gG nQ;grind
  rw[Y];go_wp2_with(first
   |(go_at_call 85;refine R.mono ?_;clear R;rintro e Z ⟨q,z⟩;unfold nK at q;rw[if_pos U]at q;obtain⟨B,c,rfl,o0,hB,r1⟩:=q;have H2:=JQ B 0 n c (eZ g<|now+4) shift Z hm hB r1 (jM (eZ g<|now+4) n shift)<|At _ n shift)
   |(go_at_call 86;refine H2.mono ?_;clear H2;rintro e w2 ⟨s2,b2⟩;have O:=RL s2 z.size;clear s2;obtain⟨sa,sn,sc,sb,rfl⟩:=Oa O))
  go_ret2;exact⟨O,z.trans<|b2.mono z.size⟩
 have Y:gG g n now shift=none:=by unfold gG;grind
 rw[Y];go_wp2_with(go_at_call 85;refine R.mono ?_;clear R;rintro e Z ⟨q,z⟩;unfold nK at q;rw[if_neg U]at q;obtain⟨a1,n1,c1,rfl⟩:=q)
 go_ret2;exact⟨⟨_,_,rfl⟩,z.alloc z.size _⟩
noncomputable def fG (now shift:Int)(f:Nat->Mv)(n:Nat)(t:Nat->Int)(m:Nat):Bool:=aY now shift f n t m&&@decide (Mm f n t) (Classical.propDecidable _)
theorem Ig {m}(h:aY now shift f n t m=false):fG now shift f n t m=false:=by unfold fG;rw[h];rfl
def wF {m}(h:aY now shift f n t m)(hs:Mm f n t):fG now shift f n t m:=by unfold fG;rw[h];simpa using hs
def DI {m}(hs:¬Mm f n t):fG now shift f n t m=false:=by unfold fG;simp[hs]
def bL {m}(h:aY now shift f n t m):aH f n/\m=n/\ga f t n:=by cases O:eB f n t m;grind [sS];exact oU O
section
variable [Gl]
def ae.uN (E:dC af8 ok c Dr){b:a2}(hb:ok.aP b.fn)(Inv:Nat->Act->ao->Prop) (step:∀j a W,Inv j a W->(∀i,i<j->∀a' W',Inv i a' W'->ae af8 ok c Dr Q ⟨b.at a'<|.inLoop X::k,cs,W'⟩)->ae af8 ok c Dr Q ⟨b.at a<|.code X::.inLoop X::k,cs,W⟩): ∀j a W,Inv j a W->ae af8 ok c Dr Q ⟨b.at a<|.code X::.inLoop X::k,cs,W⟩:=by intro j;induction j using Nat.strongRecOn with|ind j e=>intro a W h;exact step j a W h λi q a' W' z=>ae.inLoop E hb<|e i q a' W' z
end
section
variable [Gl]{b:a2}
def ae.un {τ:Nat->Question->Nat}{d}(h:ae af8 ok c Dr Q ⟨fr,cs,V⟩):ae af8 ok c Dr Q ⟨fr,cs,re V τ d⟩:=zc
def ae.oc (E:dC af8 ok c Dr)(hb:ok.aP b.fn)(j m:Nat)
  (h:∀(K:Act->ao->Prop) τ d,Hid (∀a' w',ae af8 ok c Dr Q ⟨b.at a'<|.inRegion ops (List.range' (j+m)<|ops.size-(j+m))::k,cs,w'⟩->K a' w')->bB af8 ops (λe a w=>e=.normal/\K a w) ((ops.toList.drop j).take m) a (re V τ d))(hm:j+m<=ops.size:=by simp):
  ae af8 ok c Dr Q ⟨b.at a<|.inRegion ops (List.range' j<|ops.size-j)::k,cs,V⟩:=
 ae.lx E hb j m hm _ (λτ d=>h _ τ d λ_ _ x=>x) λ_ _ x=>x
def ae.rg (E:dC af8 ok c Dr)(hb:ok.aP b.fn){id:Nat}(h:ae af8 ok c Dr Q ⟨b.at a<|.inRegion ops (List.range' 0<|ops.size-0)::k,cs,V⟩):ae af8 ok c Dr Q ⟨b.at a<|.code (.region id ops false)::k,cs,V⟩:=by rw[<-my]at h;exact ae.region E hb h
def ae.ck (E:dC af8 ok c Dr)(hb:ok.aP b.fn)(q:List bb)(T:bb)
  (h:∀(K R:Act->ao->Prop) τ d,Hid (∀a' w',ae af8 ok c Dr Q ⟨b.at a'<|.code T::k,cs,w'⟩->K a' w')->Hid (∀a' w',(∀e,ae af8 ok c Dr Q ⟨{b.at a' e with mode:=.returning},cs,w'⟩)->R a' w')->ak af8 (PN K R) q a (re V τ d)):
  ae af8 ok c Dr Q ⟨b.at a<|.code (Proofs.YthppgbjejomdiaaGreatDoor.chain q T)::k,cs,V⟩:=
 ae.D8 E hb q T _ _ (λτ d=>h _ _ τ d (λ_ _ x=>x) λ_ _ x=>x) (λ_ _ x=>x) λ_ _ e x=>x e
def ae.en {f:a4}{O:bb}{t:Array au}(R:af8.funcs[f]?=some fn)(hc:fn.body=some O)(U:fn.ntmps=n)(Y:xs++Array.replicate (n-xs.size) undef=t)(h:ae af8 ok c Dr Q ⟨(aj f).at ⟨t,[]⟩ [.code O],cs,V⟩):ae af8 ok c Dr Q ⟨bs af8 f xs .normal,cs,V⟩:=by rw[enter_at xs R hc,U,Y];exact h
def ae.lv (E:dC af8 ok c Dr)(R:ok.aP r0.fn){f:a4}{t:Array au}{O:List Item}(U:af8.funcs[f]?=some fn)(Y:∀τ d,(a6 fn t).run af8 (re V τ d)=.ok v (re V τ d))(h:ae af8 ok c Dr Q ⟨r0.finish v,cs,V⟩):ae af8 ok c Dr Q ⟨{(aj f).at ⟨t,[]⟩ O with mode:=.returning},r0::cs,V⟩:=
 ae.leave E R (λτ d=>⟨rfl,rfl,rfl,_,U,Y τ d⟩) h
def ae.calls (E:dC af8 ok c Dr)(hr:ok.aP r0.fn){f:a4}{R:au->ao->Prop}(hc:∀τ d,a8 af8 f xs (re V τ d) λe w'=>∃v,e=a3 v/\R v w')(h:∀v O,R v O->ae af8 ok c Dr Q ⟨r0.finish v,cs,O⟩):ae af8 ok c Dr Q ⟨bs af8 f xs .normal,r0::cs,V⟩:=by
 refine ae.of_steps E.pair E.shut E.floor (λs1=>∃v O,R v O/\s1=⟨r0.finish v,cs,O⟩) ?_ (λτ d=>?_) ?_
 .rintro _ ⟨v,O,_,rfl⟩;have se:(r0.finish v).fn=r0.fn:=by
   cases r0 with|mk fn tmps U Z ad kind Y=>cases U with
    |nil=>rfl
    |cons x l=>cases x<;>first|rfl|(rename_i ops l2;cases l2<;>rfl)
  grind
 .obtain⟨e,w',fr,⟨v,rfl,hR⟩,hs,_,hl⟩:=hc τ d _;exact⟨_,⟨v,w',hR,rfl⟩,Steps.trans hs<|.one<|step_leave_returned hl⟩
 rintro _ ⟨v,O,hR,rfl⟩;exact h v O hR
def ae.cut {T:bb}(P:Act->ao->Prop)(e:∀a' W',P a' W'->ae af8 ok c Dr Q ⟨b.at a'<|.code T::k,cs,W'⟩)(q:Hid (∀a' W',P a' W'->ae af8 ok c Dr Q ⟨b.at a'<|.code T::k,cs,W'⟩)->ae af8 ok c Dr Q ⟨b.at a<|.code X::.code T::k,cs,V⟩):ae af8 ok c Dr Q ⟨b.at a<|.code X::.code T::k,cs,V⟩:=q e
omit [Gl] in
def vc (W:ao)(τ:Nat->Question->Nat) d:Bl W W (re W τ d):=⟨agw _,λ_ _=>rfl⟩
end
section
variable [Gl]{b fr2:a2}{cs2:List a2}
def ae.go (E:dC af8 ok c Dr)(hi:ok.aP fr2.fn=true)(h:∀W,∃es,stepG af8 true (G fr (cs++[c])) W=.go (G fr2 (cs2++[c])) W es)(hW:ae af8 ok c Dr Q ⟨fr2,cs2,V⟩):ae af8 ok c Dr Q ⟨fr,cs,V⟩:=
 ae.of_steps E.pair E.shut E.floor (λs1=>∃τ d,s1=St.re ⟨fr2,cs2,V⟩ τ d) (by rintro _ ⟨τ,d,rfl⟩;exact hi) (λτ d=>⟨_,⟨τ,d,rfl⟩,.one (by obtain⟨es,hs⟩:=h _;exact mF hs)⟩) (by rintro _ ⟨τ,d,rfl⟩;exact λτ' d'=>hW τ' d')
def ae.uX {y:bn}{t:bo}(ho:ops[i]?=some o)(hw:be o (bm ops a.tmps)=true)(e:dead o.op=some (.panic y))(q:du ok.fn y=true)(he:a.eval y=.iface t v)
  (h:ae af8 ok c Dr Q ⟨{b.at a (.inRegion ops (i::r)::k)with mode:=.panicking [{v:=.iface t v,recovered:=false}]},cs,V⟩):ae af8 ok c Dr Q ⟨b.at a<|.inRegion ops (i::r)::k,cs,V⟩:=
 ae.late (λ_ _=>⟨ops,i,r,k,o,y,rfl,rfl,rfl,ho,hw,q,.inl ⟨e,t,v,(bi _ _ _ _).trans he,rfl⟩⟩) h
def ae.xu {y:bn}{x:Op}(ho:ops[i]?=some o)(hw:be o (bm ops a.tmps)=true)(R:dead o.op=some x)(U:L6 x=true)(Y:du ok.fn y=true)(Z:∀τ d P,Gl.top P->∀ρ e W (O:Oper),O.op=x->lR ok ρ a.eval e->(∀v,e (.const v)=v)->bw ok true ρ (re V τ d) W->(bv e O).runT P W #[]=(.ok (.value<|e y) W,#[]))
  (h:ae af8 ok c Dr Q ⟨bF (b.at a<|.inRegion ops (i::r)::k)<|a.eval y,cs,V⟩):ae af8 ok c Dr Q ⟨b.at a<|.inRegion ops (i::r)::k,cs,V⟩:=
 ae.late (λτ d=>⟨ops,i,r,k,o,y,rfl,rfl,rfl,ho,hw,Y,.inr<|.inr ⟨x,R,U,by rw[bi],λP hP ρ e W O e1 e2=>Z τ d P hP ρ e W O e1 λz hz=>by have:=e2 z hz;rwa [bi]at this⟩⟩) h
def ae.T8 {y:bn}{f:a4}(ho:ops[i]?=some o)(hw:be o (bm ops a.tmps)=true)(O:dead o.op=some (.defer {callee:=.value y,args:=#[],argTypes:=#[]}))(R:du ok.fn y=true)(he:a.eval y=.func (.func f) xs N)(U:ok.aP f=true)
  (h:ae af8 ok c Dr Q ⟨bF (b.at ⟨a.tmps,⟨.fn (.func f) N,xs++#[]⟩::a.defers⟩<|.inRegion ops (i::r)::k) undef,cs,V⟩):ae af8 ok c Dr Q ⟨b.at a<|.inRegion ops (i::r)::k,cs,V⟩:=
 ae.late (λ_ _=>⟨ops,i,r,k,o,y,rfl,rfl,rfl,ho,hw,R,.inr<|.inl ⟨O,f,xs,N,(bi _ _ _ _).trans he,U,rfl⟩⟩) h
theorem ae.unwind (E:dC af8 ok c Dr){e}(z:af8.funcs[fr.fn]?=some fn)(O:fr.mode=.panicking e)(R:fr.defers=[])(q:ok.aP r0.fn=true)(U:r0.mode=.run)(h:ae af8 ok c Dr Q ⟨{r0 with mode:=.panicking e},cs,V⟩):ae af8 ok c Dr Q ⟨fr,r0::cs,V⟩:=by
 refine ae.go E (fr2:={r0 with mode:=.panicking e}) q (λW=>⟨#[],?_⟩) h;rw[gr cQ];have hc:bE af8 fr=false:=by grind [bE]
 simp[bO];grind [Frame.raise,G]
def ae.Gz (E:dC af8 ok c Dr){f:a4}{O:List Deferred}(R:fr.mode≠.run)(U:fr.defers=⟨.fn (.func f) xs,N⟩::O)(Y:∃fn,af8.funcs[f]?=some fn/\fn.body.isSome=true/\(fn.name== "runtime.NumGoroutine")=false)(Z:ok.aP f=true)
  (h:ae af8 ok c Dr Q ⟨bs af8 f (N++xs) .deferred,{fr with defers:=O}::cs,V⟩):ae af8 ok c Dr Q ⟨fr,cs,V⟩:=
 ae.go E Z (λW=>⟨#[],by rw[gr R];exact pn Y U⟩) h
def ae.Dm (E:dC af8 ok c Dr)(hb:ok.aP b.fn=true)(hk:(b.kind==CallKind.early)=false)(ho:ops[i]?=some o)(hw:Region.wanted o (yielded ops a.tmps)=true)(U:∀w,(execOp a.eval o).run af8 w=.ok .recover w) (hs:wi (b.at a<|.inRegion ops (i::r)::k) (cs++[c])=G (Frame.finish (b.at a<|.inRegion ops (i::r)::k) v) (cs2++[c]))(h:ae af8 ok c Dr Q ⟨Frame.finish (b.at a<|.inRegion ops (i::r)::k) v,cs2,V⟩):ae af8 ok c Dr Q ⟨b.at a<|.inRegion ops (i::r)::k,cs,V⟩:=by refine ae.go E zc (λW=>?_) h;have e:stepG af8 true (G (b.at a<|.inRegion ops (i::r)::k)<|cs++[c]) W=_:=stepG_op ho hw;generalize z:(execOp a.eval o).runT af8 W #[]=x;let⟨q,O⟩:=x;(have R:q=.ok .recover W:=by simp_all);subst R;refine⟨seen af8 b.fn O,?_⟩;rw[e,<-hs];exact nP E.pair.ZN.1 z hk
def ae.LJ (E:dC af8 ok c Dr)(e:fr.mode=.returning)(q:fr.defers=[])(hk:fr.kind=.deferred)(z:af8.funcs[fr.fn]?=some fn)(O:∀W,(a6 fn fr.tmps).runT af8 W #[]=(.ok v W,#[]))(R:ok.aP (um r0).fn=true)(h:ae af8 ok c Dr Q ⟨um r0,cs,V⟩):ae af8 ok c Dr Q ⟨fr,r0::cs,V⟩:=by refine ae.go E R (λW=>⟨#[],?_⟩) h;rw[gr cQ];simp only[bO,q,e,z,O,List.cons_append,gK (.inr hk),hk,kQ];simp[GStep.after,seen]
end
