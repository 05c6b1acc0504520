import Derived.Test.YtlmcblcijndipaaGreatDoorj34
set_option linter.defProp false
set_option linter.unusedSectionVars false
set_option linter.unusedVariables false
set_option maxHeartbeats 4000000
set_option maxRecDepth 100000
namespace Go.Proofs.YtlmcblcijndipaaGreatDoor
open Conc RowKit
variable {a:Act}{ops:Array Oper}{ok:Ctx}{c:Frame}{now shift tick:Int}{cs:List Frame}{l:List Mv}{m:Mv}{B B2 B4 B7 b cap k n p:Nat}{t:Nat->Int}{F f g:Nat->Mv}{o:Oper}{T:TypeId}{u v vM x y:Value}{Q:Value->World->Prop}{V W w w' w0:World}
def Fi (l:List Mv)(m:Mv):aU (im<|l++[m]) (l.length+1)=aU (im l) l.length++m.cells.toList:=by
 rw[gK,oJ (g:=im l) (λj hj=>by rw[Jw,if_neg ab]),Jw,if_pos rfl]
def qD {f:Nat->Mv}{t:Nat->Int}{p:Nat}:∀{k:Nat},p<k->0<(al f t p k).length
 |0,h=>ab
 |k+1,h=>by
  simp only[al];by_cases e:p=k
  .subst e;rw[if_neg ab];simp
  .have:=qD (f:=f) (t:=t) (p:=p) (k:=k) ab;split
   .exact this
   .simp
def aT (w:World)(b:Nat)(now shift:Int)(v u:Value):Prop:=w.heap[b]?=some (.cells #[now,shift,v,u] 29 (0,0))
def aT.lt (h:aT w b now shift v u):b<w:=(ac5.1 h).1
def aT.same (h:aT w b now shift v u)(e:w'.heap[b]?=w.heap[b]?):aT w' b now shift v u:=e.trans h
def aT.cells (h:aT w b now shift v u):w.cell? b=some (.int .i64 now)/\w.cell? ⟨b,1,none⟩=some (.int .i64 shift)/\w.cell? ⟨b,2,none⟩=some v/\w.cell? ⟨b,3,none⟩=some u/\∀j,w.frozen? ⟨b,j,none⟩=false:=by
 unfold aT at h;refine⟨?_,?_,?_,?_,λj=>frozen_of_row _ _ j _ _ h⟩<;>simp[World.cell?,h]
structure Rb (w0:World)(base B2 B4 B7:Nat)(now shift tick:Int)(x y vM:Value)(l:List Mv)(W:World):Prop where
 bk:aT W B2 now shift x y
 res:aT W B4 0 0 () ()
 nx:aT W B7 tick shift vM ()
 own:W.ownsRow base 31 6 vM l.length (aU (im l) l.length)
 below:Below w0 w0 W
 Uy:base<=W
def Rb.grow {W':World}{base:Nat}(h:Rb w0 base B2 B4 B7 now shift tick x y vM l W)(hb:Below W W W'):Rb w0 base B2 B4 B7 now shift tick x y vM l W':=
 ⟨h.bk.same<|hb.block _ h.bk.lt,h.res.same<|hb.block _ h.res.lt,h.nx.same<|hb.block _ h.nx.lt,h.own.kept (row:=none) ⟨hb.os,hb.tape,hb.output,hb.size,λk hk _=>hb.block k hk⟩ (by cases hv:vM.ownBlock<;>simp),h.below.trans<|hb.mono h.below.size,ac6 h.Uy hb.size⟩
def Rb.append {base:Nat}{v':Value}(h:Rb w0 base B2 B4 B7 now shift tick x y vM l W)(h2:B2<base)(h4:B4<base)(h7:B7<base)(h27:B2≠B7)(h47:B4≠B7)(h70:w0.heap.size<=B7)
  (own:w'.ownsRow base 31 6 v' (l.length+1) (aU (im l) l.length++m.cells.toList))(hg:W.grownBy w' vM.ownBlock):Rb w0 base B2 B4 B7 now shift tick x y v' (l++[m]) (w'.setCell ⟨B7,2,none⟩ v'):=by
 have hb:∀k,k<W.heap.size->k<base->w'.heap[k]?=W.heap[k]?:=λk hk ay=>hg.block k hk (λe=>by have:=(h.own.lt k e.symm).1;omega)
 have hs:∀k,k≠B7->(w'.setCell ⟨B7,2,none⟩ v').heap[k]?=w'.heap[k]?:=λk hk=>acW _ _ _ k hk
 have hz:=hg.size;have XB:=h.Uy;refine⟨h.bk.same<|(hs _ h27).trans<|hb _ h.bk.lt h2,h.res.same<|(hs _ h47).trans<|hb _ h.res.lt h4,?_,?_,?_,cH⟩
 .have e:=(hb _ h.nx.lt h7).trans h.nx;exact heap_setCell_same w' B7 2 _ _ v' e
 .have e:(l++[m]).length=l.length+1:=by simp
  rw[e,Fi];exact own.kept (row:=some B7) ⟨rfl,rfl,rfl,aG,λk _ hk=>hs k λe=>hk<|by rw[e]⟩<|.inr (λe=>by have:=(own.lt B7 e).1;omega)
 .refine(h.below.trans ⟨hg.os,hg.tape,hg.output,hg.size,λk hk=>hb k (by have:=h.below.size;omega) ab⟩).setCell (by show w0.heap.size<=B7;exact h70) _
def Rb.P9 {base:Nat}(h:Rb w0 base B2 B4 B7 now shift tick x y vM l W)(hg:W.grownBy w' vM.ownBlock)(h7:B7<base):aT w' B7 tick shift vM ():=
 h.nx.same (hg.block B7 h.nx.lt (λe=>by have:=(h.own.lt B7 e.symm).1;omega))
def kH {base:Nat}{xs:List Value}(h:w.ownsRow base T 6 v (n+1) xs):∃B c,v=.slice (some ⟨B,0,none⟩) (n+1) c:=by
 rcases h.2 with⟨_,e⟩|⟨g,cap,cur,e,_⟩
 .omega
 .exact⟨g,cap,e⟩
def QE (h:w.heap[b]?=some (.cells m.cells T (0,0))):w.cell? b=some (.string m.name)/\w.cell? ⟨b,1,none⟩=some (.bool m.ak)/\w.cell? ⟨b,2,none⟩=some (.int .i64 m.ap)/\w.cell? ⟨b,3,none⟩=some (.int .i64 m.bF)/\w.cell? ⟨b,4,none⟩=some (.int .i64 m.late)/\w.cell? ⟨b,5,none⟩=some (.int .i64 m.prom):=by
 refine⟨?_,?_,?_,?_,?_,?_⟩<;>simp[World.cell?,h]
def abH (h:w.heap[b]?=some (.cells m.cells T (0,0)))(m':Mv):((((((w.setCell b m'.name).setCell ⟨b,1,none⟩ m'.ak).setCell ⟨b,2,none⟩ m'.ap).setCell ⟨b,3,none⟩ m'.bF).setCell ⟨b,4,none⟩ m'.late).setCell ⟨b,5,none⟩ m'.prom).heap[b]?=some (.cells m'.cells T (0,0)):=by
 have:=heap_setCell_same _ _ 5 _ _ m'.prom<|heap_setCell_same _ _ 4 _ _ m'.late<|heap_setCell_same _ _ 3 _ _ m'.bF<|heap_setCell_same _ _ 2 _ _ m'.ap<|heap_setCell_same _ _ 1 _ _ m'.ak<|heap_setCell_same w b 0 _ _ m'.name h;simpa using this
def uq (h:w.heap[b]?=some (.cells m.cells T (0,0))):∀(j:Nat) (u:Value),m.cells.toList[j]?=some u->w.cell? ((b:Addr).add j)=some u:=λj u hu=>by
 rw[pz,Nat.zero_add,cell_of_row _ _ _ _ _ _ h];simpa using hu
def dX (w:World)(o1 o2:Obj):((w.alloc o1).alloc o2).heap[w.heap.size+1]?=some o2:=by have:=heap_alloc_new (w.alloc o1) o2;simpa using this
def tT (f:Nat->Mv)(t:Nat->Int)(p:Nat):eT f t p p=rE (f p) (t p):=by unfold eT;rw[if_pos rfl]
def qE (h:¬k=p):eT f t p k=bf (f k) (t k) (t p):=by unfold eT;rw[if_neg h]
def lJ (h:¬t k<t p):al f t p (k+1)=al f t p k++[eT f t p k]:=by simp only[al];rw[if_neg h]
def BE (w:World)(B n:Nat)(F:Nat->Mv):Prop:=aJ w B 0 n F/\∃cs,w.heap[B]?=some (.cells cs 31 (0,0))/\n*6<=cs.size
def BE.same (h:BE w B n F)(e:w'.heap[B]?=w.heap[B]?):BE w' B n F:=by
 let⟨h1,cs,h2,h3⟩:=h;exact⟨dA h1 e,cs,e.trans h2,h3⟩
def BE.lt (h:BE w B n F):B<w:=by
 let⟨_,cs,h2,_⟩:=h;exact(ac5.1 h2).1
def CL {base c:Nat}(h:w.ownsRow base 31 6 (.slice B n c) n (aU F n)):BE w B n F:=by
 refine⟨dW h,?_⟩;obtain⟨_,h2|⟨g,cap,cur,h2,_,h4,h5,_,h6,_⟩⟩:=h
 .exact absurd h2.1 aG
 .simp at h2;obtain⟨rfl,rfl⟩:=h2;exact⟨cur,h4,ab⟩
section
variable [Gl]
def J8 (f:Nat->Mv)(n:Nat)(t:Nat->Int)(p:Nat)(shift:Int)(V:World)(v:Value)(V':World):Prop:=
 (∃(x0 x1:Int) (x2:Option Addr) (l2 c2:Nat) (x3:Option Addr) (l3 c3:Nat),v=.tuple #[.agg #[x0,x1,.slice x2 l2 c2,.slice x3 l3 c3],.bool (cY f n t p).isSome]/\∀T,cY f n t p=some T->∃BN BT,V.heap.size<=BN/\V.heap.size<=BT/\x0=t p/\x1=shift/\x2=some ⟨BN,0,none⟩/\l2=(al f t p n).length/\x3=some ⟨BT,0,none⟩/\l3=(al f t p n).length/\BE V' BN (al f t p n).length (im<|al f t p n)/\aC V' BT (al f t p n).length T)/\Bl V V V'
def aj.WB (E:dM Tz.prog ok c bY)(xw:ok.aX 80=true)(uO:ok.aX 111=true)(Dz:ok.aX 139=false){b:Frame}{k:List Item}(hb:ok.aX b.fn=true){i:Nat}{r:List Nat}(ho:ops[i]?=some o)(hw:Region.wanted o (yielded ops a.tmps)=true)
  (hx:∀w,(execOp a.eval o).run Tz.prog w=.ok (.enter 80 #[.slice B n cap,now,shift]) w)
  (hn:n<=6)(hg:∀i,i<n->(g i).ok=true)(h0:0<=now)(h1:now<=20000)(bz:B<V)(am:aJ V B 0 n g)
  (aH:∀v V',gh (fI g n now shift) n V v V'->aj Tz.prog ok c bY Q ⟨b.at (a.put o.dst v)<|.inRegion ops r::k,cs,V'⟩):aj Tz.prog ok c bY Q ⟨b.at a<|.inRegion ops (i::r)::k,cs,V⟩:=
 aj.dO E ho hw xw hx (Dq E xw uO Dz (r0:=b.at a<|.inRegion ops (i::r)::k) hb hn hg h0 h1 bz am λv V' hv=>by rw[bT ho];exact aH v V' hv)
def FO (E:dM Tz.prog ok c bY)(sI:ok.aX 52=true)(xw:ok.aX 80=true)(uO:ok.aX 111=true)(Dz:ok.aX 139=false){r0:Frame}(f7:ok.aX r0.fn=true)
  {b' cap':Nat}(hm:az f n=true)(hf:dU f t n)(hp:p<n)(bz:b<V)(am:aJ V b 0 n f)(bu:b'<V)(aP:aA V b' 0 n t)
  (aH:∀v V',J8 f n t p shift V v V'->aj Tz.prog ok c bY Q ⟨r0.finish v,cs,V'⟩):
  aj Tz.prog ok c bY Q ⟨Frame.enter Tz.prog 52 #[.agg #[.int .i64 now,.int .i64 shift,.slice (some ⟨b,0,none⟩) n cap,.slice (some ⟨b',0,none⟩) n cap'],.int .i64 p] .normal,r0::cs,V⟩:=by
 have hE:=enter_at (P:=Tz.prog) #[.agg #[.int .i64 now,.int .i64 shift,.slice (some ⟨b,0,none⟩) n cap,.slice (some ⟨b',0,none⟩) n cap'],.int .i64 p] Tz.func52 rfl;simp only[Tryz.ntmps52,List.size_toArray,List.length_cons,List.length_nil,Nat.reduceAdd,Nat.reduceSub,Array.replicate_succ,Array.replicate_zero,List.push_toArray,List.append_toArray,List.nil_append,List.cons_append]at hE;rw[hE];clear hE;have h6:=bP hm;have ZJ:=Mv.fp<|aW hm p hp;have DD:=fT<|hf.1 p hp;have XI:(p:Int)<n:=ab;refine aj.chain E sI [_] _ (λa' w'=>Bl V.heap.size V w'/\∃B2 B4,V.heap.size<=B2/\V.heap.size<=B4/\B2≠B4/\aT w' B2 now shift (.slice (some ⟨b,0,none⟩) n cap) (.slice (some ⟨b',0,none⟩) n cap')/\aT w' B4 0 0 (.slice none 0 0) (.slice none 0 0)/\iz a' (rW 81 [(1,.int .i64 p),(2,.pointer<|some ⟨B2,0,none⟩),(4,.pointer<|some ⟨B4,0,none⟩),(5,.bool false)])) (λ_ _=>False) ?_ ?_ λ_ _ _ hh=>hh.elim
 .intro τ d;clear aH am aP hf hm;simp only[aD];go_wp2;left;refine⟨QG,⟨by simp[re];omega,λk hk=>?_⟩,V.heap.size,V.heap.size+1,ac3 _,ab,ab,?_,?_,rfl,rfl⟩
  .rw[acV _ _ _ (by simp[re];omega),acV _ _ _ (by simpa[re]using hk)];rfl
  .exact(acV _ _ _<|by simp[re]).trans (heap_alloc_new (re V τ d) _)
  .have:=heap_alloc_new ((re V τ d).alloc<|.cells #[now,shift,.slice b n cap,.slice b' n cap'] 29)<|.cells #[(0:Int),(0:Int),(),()] 29;rw[show((re V τ d).alloc<|.cells #[now,shift,.slice b n cap,.slice b' n cap'] 29).heap.size=V.heap.size+1 by simp[re]]at this;exact this
 rintro a' w1 ⟨bI,B2,B4,qp,YN,h24,bk,rs,fM⟩;obtain⟨u,rfl⟩:=fM.open;clear fM;have eG:=bI.size;have yB:aJ w1 b 0 n f:=dA am<|bI.block b bz;have OU:aA w1 b' 0 n t:=λi hi=>by have:=aP i hi;simp only[World.cell?,bI.block b' bu]at this⊢;exact this
 have Je:b<w1:=ab;have Zv:b'<w1:=ab;refine aj.BL E sI [_,_,_,_] _ (λa' w'=>t p+6<=(f p).late/\Bl V.heap.size V w'/\∃B7 BN cN,V.heap.size<=B7/\B4≠B7/\V.heap.size<=BN/\aT w' B4 0 0 (.slice none 0 0) (.slice none 0 0)/\aT w' B7 (t p) shift (.slice (some ⟨BN,0,none⟩) (al f t p n).length cN) (.slice none 0 0)/\BE w' BN (al f t p n).length (im<|al f t p n)/\BN<w'.heap.size/\BN≠B4/\BN≠B7/\iz a' (rW 81 [(4,.pointer<|some ⟨B4,0,none⟩),(6,.int .i64<|t p),(7,.pointer<|some ⟨B7,0,none⟩)])) (λa' w'=>(¬t p+6<=(f p).late)/\Bl V.heap.size V w'/\a'.defers=[]/\a'.tmps[4]?=some (.pointer<|some ⟨B4,0,none⟩)/\a'.tmps[5]?=some (.bool false)/\aT w' B4 0 0 (.slice none 0 0) (.slice none 0 0)) ?_ ?_ ?_
 .intro τ d;have ut:aJ (re w1 τ d) b 0 n f:=dA yB rfl;have JN:aA (re w1 τ d) b' 0 n t:=λi hi=>OU i hi
  have hl:b<(re w1 τ d).heap.size:=Je;have lZ:b'<(re w1 τ d).heap.size:=Zv;have FY:aT (re w1 τ d) B2 now shift (.slice b n cap) (.slice b' n cap'):=bk;have wz:aT (re w1 τ d) B4 0 0 () ():=rs;have xC:∀W,(∀k,k<V.heap.size->W.heap[k]?=(re w1 τ d).heap[k]?)->(re w1 τ d).heap.size<=W.heap.size->Bl V V W:=λW h h2=>⟨ac6 eG h2,λk hk=>(h k hk).trans<|bI.block k hk⟩
  have gE:V.heap.size<=(re w1 τ d).heap.size:=eG;revert ut JN hl lZ FY wz xC gE;generalize re w1 τ d=w0;intro ut JN hl lZ FY wz xC gE;clear aH am aP yB OU bk rs bI;let⟨p0,p1,p2,p3,p4,p5⟩:=ut p hp;have tp:=JN p hp;simp only[Nat.zero_add]at p0 p1 p2 p3 p4 p5 tp;have kk:=FY.cells;let⟨Qa,r1',r2',r3',r4'⟩:=wz.cells;have xP:IntKind.i64.wrap (t p+6)=t p+6:=ia;have lB2:=FY.lt;have lB4:=wz.lt;let⟨iM,hI,KR,Th,Ti⟩:=eP;have hlen:=jv f t p;simp only[aD];by_cases hle:t p+6<=(f p).late
  .have KI:¬(f p).late<t p+6:=by omega
   go_wp2;all_goals try omega
   go_loopw [34,8,9] (λx _ _ W=>∃(k:Nat) (vM:Value),x=.int .i64 k/\k<=n/\Rb w0 (w0.heap.size+1) B2 B4 w0.heap.size now shift (t p) (.slice (some ⟨b,0,none⟩) n cap) (.slice (some ⟨b',0,none⟩) n cap') vM (al f t p k) W) (λx _ _ _=>n-(intOf x).toNat)
   case atStart=>
    have bA:Below w0 w0 (w0.alloc<|.cells #[.int .i64<|t p,shift,(),()] 29):=(acU _ _).alloc (ac3 _) _;exact⟨0,(),rfl,ac8 _,⟨FY.same<|bA.block _ lB2,wz.same<|bA.block _ lB4,heap_alloc_new _ _,World.ownsRow_nil _ _ _ _,bA,aG⟩⟩
   case round=>
    obtain⟨k,vM,rfl,hk,hR⟩:=hrel;have p_:=ac4 hl hR.below.size;have On:=ac4 lZ hR.below.size;have P7:=hR.bk.lt;have lb7:=hR.nx.lt;by_cases ay:k<n
    .have dq:(k:Int)<n:=by omega
     let⟨c0,c1,c2,c3,c4,c5⟩:=ut.below hR.below hl k ay;have tk:=JN.below hR.below lZ k ay;simp only[Nat.zero_add]at c0 c1 c2 c3 c4 c5 tk;let⟨m0,m1,m2,m3,m4⟩:=hR.bk.cells;let⟨x0,x1,x2,x3,x4⟩:=hR.nx.cells;by_cases hsk:t k<t p
     .go_wp2;all_goals try omega
      go_roundw
      case rel=>exact⟨k+1,vM,by go_num,ab,by simp only[al,if_pos hsk];exact hR.grow<|(acU _ _).alloc (ac3 _) _⟩
      case measure=>exact bZ
     .by_cases XE:k=p
      .subst XE;have hLk:=hlen k;have HG:=λW (hb:Below wr wr W)=>hR.grow hb
       go_wp2_with(at_builtin;go_loud (refine wpList_append_own _ rfl (.tmp 62) (.tmp 64) 23 rfl (w0.heap.size+1) 31 iM _ 6 56 aR hI KR Th Ti rfl bd vM (al f t k k).length (aU (im<|al f t k k) (al f t k k).length) bD (HG _ vJ).own ⟨wr.heap.size+1,0,none⟩ 1 1 (Mv.cells<|rE (f k)<|t k).toList bD rfl (uq<|dX _ _ _) (gb _) ie ab (HG _ vJ).Uy ?_;intro v8 w8 wh uR _;obtain⟨B8,c8,rfl⟩:=kH wh;have yy:=((HG _ vJ).P9 uR ab).cells;have l8:w0.heap.size<w8.heap.size:=((HG _ vJ).P9 uR ab).lt))
       all_goals try omega
       go_roundw
       case rel=>exact⟨k+1,_,by go_num,ab,by rw[lJ hsk,tT];exact(HG _ vJ).append ab ab ab ab ab (ac3 _) wh uR⟩
       case measure=>exact bZ
      .have aa7:¬(k:Int)=p:=by omega
       have hLk:=hlen k;obtain⟨m',rJ⟩:∃m',bf (f k) (t k) (t p)=m':=⟨_,rfl⟩;have HP:∀W,Calls Tz.prog 79 #[.agg #[.string (f k).name,.bool (f k).ak,.int .i64 (f k).ap,.int .i64 (f k).bF,.int .i64 (f k).late,.int .i64 (f k).prom],.int .i64<|t k,.int .i64<|t p] W λe w'=>e=.returned (.agg #[m'.name,m'.ak,m'.ap,m'.bF,m'.late,m'.prom])/\Below W.heap.size W w':=λW=>by
        rw[<-rJ];exact tC (f k) (t k) (t p) W ab ab
       go_wp2;all_goals try omega
       have GT:(wr.alloc<|.cells #[.string (f k).name,.bool (f k).ak,.int .i64 (f k).ap,.int .i64 (f k).bF,.int .i64 (f k).late,.int .i64 (f k).prom] 31).heap[wr.heap.size]?=some (.cells (f k).cells 31 (0,0)):=heap_alloc_new _ _;have bA:Below wr wr (wr.alloc<|.cells #[.string (f k).name,.bool (f k).ak,.int .i64 (f k).ap,.int .i64 (f k).bF,.int .i64 (f k).late,.int .i64 (f k).prom] 31):=(acU _ _).alloc (ac3 _) _;revert GT bA;generalize (wr.alloc<|.cells #[.string (f k).name,.bool (f k).ak,.int .i64 (f k).ap,.int .i64 (f k).bF,.int .i64 (f k).late,.int .i64 (f k).prom] 31)=W9;intro GT bA;obtain⟨B9,hB9⟩:∃B9,B9=wr.heap.size:=⟨_,rfl⟩;rw[<-hB9]at GT⊢;have Ku:wr.heap.size<=B9:=ab;clear hB9;have n3:=(bA.cell (p:=⟨B2,3,none⟩) P7).trans m3;have ntk:=(bA.cell (p:=⟨b',k,none⟩) On).trans tk;have zz:=QE GT;have l9:B9<W9:=(ac5.1 GT).1;clear c0 c1 c2 c3 c4 c5 m0 m1 m2 m3 m4 x0 x1 x2 x3 x4 tk;have l92:B2<W9:=ac4 P7 bA.size;have l9':b'<W9:=ac4 On bA.size;go_region_with(go_at_call 79;refine(HP _).mono ?_;clear HP;rintro e w4 ⟨rfl,b4⟩;have Rp:w4.heap[B9]?=some (.cells (f k).cells 31 (0,0)):=(b4.block B9 l9).trans GT;let⟨q0,q1,q2,q3,q4,q5⟩:=QE Rp;have fr4:=(λj=>frozen_of_row w4 B9 j _ _ Rp))
       all_goals
        have de:=abH Rp m';have b4':Below wr wr ((((((w4.setCell B9 m'.name).setCell ⟨B9,1,none⟩ m'.ak).setCell ⟨B9,2,none⟩ m'.ap).setCell ⟨B9,3,none⟩ m'.bF).setCell ⟨B9,4,none⟩ m'.late).setCell ⟨B9,5,none⟩ m'.prom):=((((((bA.drew.trans<|b4.mono bA.drew.size).setCell (p:=B9) Ku _).setCell (p:=⟨B9,1,none⟩) Ku _).setCell (p:=⟨B9,2,none⟩) Ku _).setCell (p:=⟨B9,3,none⟩) Ku _).setCell (p:=⟨B9,4,none⟩) Ku _).setCell (p:=⟨B9,5,none⟩) Ku _;revert de b4';generalize ((((((w4.setCell ⟨B9,0,none⟩<|.string m'.name).setCell ⟨B9,1,none⟩<|.bool m'.ak).setCell ⟨B9,2,none⟩<|.int .i64 m'.ap).setCell ⟨B9,3,none⟩<|.int .i64 m'.bF).setCell ⟨B9,4,none⟩<|.int .i64 m'.late).setCell ⟨B9,5,none⟩<|.int .i64 m'.prom)=W6;intro de b4';clear Rp q0 q1 q2 q3 q4 q5 fr4 GT zz n3 ntk bA;have hR6:=hR.grow b4';have yy:=hR6.nx.cells;have zz:=QE de;have lb6:=hR6.nx.lt;have HG:=λW (hb:Below W6 W6 W)=>hR6.grow hb
        go_wp2_with(at_builtin;refine wpList_append_own _ rfl (.tmp 62) (.tmp 64) 23 rfl (w0.heap.size+1) 31 iM _ 6 56 aR hI KR Th Ti rfl bd vM (al f t p k).length (aU (im<|al f t p k) (al f t p k).length) bD (HG _ vJ).own ⟨_,0,none⟩ 1 1 (Mv.cells m').toList bD rfl (uq<|heap_alloc_new _ _) (gb _) ie ab (HG _ vJ).Uy ?_;intro v8 w8 wh uR _;obtain⟨B8,c8,rfl⟩:=kH wh;let⟨k0',l_,XV,k3',k4'⟩:=((HG _ vJ).P9 uR ab).cells;have l8:w0.heap.size<w8.heap.size:=((HG _ vJ).P9 uR ab).lt)
        go_roundw
        case rel=>exact⟨k+1,_,by go_num,ab,by rw[lJ ab,qE XE,rJ];exact(HG _ vJ).append ab ab ab ab ab (ac3 _) wh uR⟩
        case measure=>exact bZ
    .have dq:¬(k:Int)<n:=by omega
     have tS:k=n:=ab;subst tS;have gO:=qD (f:=f) (t:=t) (p:=p) hp;obtain⟨BN,cN,rfl⟩:∃BN cN,vM=.slice (some ⟨BN,0,none⟩) (al f t p k).length cN:=by
      rcases hR.own.2 with⟨_,e⟩|⟨g,cap,cur,e,_⟩
      .omega
      .exact⟨g,cap,e⟩
     let⟨lo,hi⟩:=hR.own.lt BN rfl;go_wp2;all_goals try omega
     exact⟨xC _ (λq hq=>hR.below.block q ab) hR.below.size,w0.heap.size,gE,ab,BN,ab,hR.res,⟨cN,hR.nx⟩,CL hR.own,hi,ab,ab,rfl,rfl⟩
  .have KI:(f p).late<t p+6:=by omega
   go_wp2;all_goals try omega
   rw[tD wz];have pa:=xC _ (λk hk=>setRow_other w0 B4 _ #[(0:Int),(0:Int),(),()] ab) (by rw[setRow_size];exact ac3 _);have hB:=setRow_heap w0 B4 _ #[(0:Int),(0:Int),(),()] _ _ wz;first
    |exact⟨pa,rfl,rfl,hB⟩
    |exact⟨pa,rfl,rfl,rfl,hB⟩
    |exact⟨hle,pa,rfl,rfl,rfl,hB⟩
    |exact⟨pa,hB⟩
 .rintro a' w2 ⟨hle,cj,B7,BN,cN,hB7,h47,S0,res,nx,OV,Tj,hN4,hN7,fM⟩;clear u yB OU bk rs bI;obtain⟨u,rfl⟩:=fM.open;clear fM;have hRr:cY f n t p=fI (im<|al f t p n) (al f t p n).length (t p) 6:=by unfold cY;rw[if_pos hle]
  have hlen:=jv f t p n;have ga:=cj.size;obtain⟨r,hr⟩:∃r,cY f n t p=r:=⟨_,rfl⟩;obtain⟨br,lP⟩:∃br,r.isSome=br:=⟨_,rfl⟩;refine aj.seq E sI<|aj.region E sI ?_;rw[lw];refine aj.kv E sI 0 3 aG (λa' w'=>(∃τ d,w'=re w2 τ d)/\iz a' (rW 81 [(4,.pointer B4),(6,.int .i64<|t p),(7,.pointer B7),(70,.slice BN (al f t p n).length cN),(71,.int .i64<|t p)])) ?_ ?_
  .intro τ d;have nx':aT (re w2 τ d) B7 (t p) shift (.slice BN (al f t p n).length cN) ():=nx;have yy:=nx'.cells;clear aH;simp only[aK];go_wp2;exact⟨⟨τ,d,rfl⟩,rfl,rfl⟩
  rintro a' w' ⟨⟨τ,d,rfl⟩,fM⟩;clear u;obtain⟨u,rfl⟩:=fM.open;clear fM;refine aj.WB E xw uO Dz sI (i:=3) rfl rfl (B:=BN) (n:=(al f t p n).length) (cap:=cN) (g:=im<|al f t p n) (now:=t p) (shift:=6) (λw=>y7) ab (λi hi=>sx hm hf hp hle hi) ab ab Tj (dA OV.1 rfl) ?_;intro v V3 fQ;rw[<-hRr,hr]at fQ;obtain⟨v5,rfl,t5,Vn⟩:=wu fQ;have iC:Bl w2 w2 V3:=⟨Vn.size,Vn.block⟩;replace t5:Tk r (al f t p n).length w2.heap.size V3 v5:=t5;rw[lP];clear fQ Vn;refine aj.kv E sI 4 5 aG (λa' w'=>(∃τ d,w'=re V3 τ d)/\iz a' (rW 81 [(4,.pointer B4),(6,.int .i64<|t p),(7,.pointer B7),(10,v5),(11,br)])) ?_ ?_
  .intro τ d;clear aH;simp only[aK,Act.put];go_wp2;exact⟨⟨τ,d,rfl⟩,rfl,rfl⟩
  rintro a' w' ⟨⟨Mf,d3,rfl⟩,fM⟩;clear u;obtain⟨u,rfl⟩:=fM.open;clear fM;refine aj.regionEnd E sI ?_;have Oa:=iC.size;have R_:aT V3 B4 0 0 () ():=res.same<|iC.block B4 res.lt;have nx3:aT V3 B7 (t p) shift (.slice BN (al f t p n).length cN) ():=nx.same<|iC.block B7 nx.lt;have TZ:BE V3 BN (al f t p n).length (im<|al f t p n):=OV.same<|iC.block BN Tj;have Vk:Bl V V V3:=cj.trans iC ga;have lN:=nx.lt;have l4:=res.lt;clear nx res OV cj iC;have gN:∀(a':Act) (w':World) (todo:List Item),(∃(x0 x1:Int) (x2:Option Addr) (l2 c2:Nat) (x3:Option Addr) (l3 c3:Nat),w'.heap[B4]?=some (.cells #[x0,x1,.slice x2 l2 c2,.slice x3 l3 c3] 29 (0,0))/\Bl V V w'/\(∀T,r=some T->∃BN BT,V.heap.size<=BN/\V.heap.size<=BT/\x0=t p/\x1=shift/\x2=some ⟨BN,0,none⟩/\l2=(al f t p n).length/\x3=some ⟨BT,0,none⟩/\l3=(al f t p n).length/\BE w' BN (al f t p n).length (im<|al f t p n)/\aC w' BT (al f t p n).length T)/\iz a' (rW 81 [(4,.pointer B4),(5,br)]))->aj Tz.prog ok c bY Q ⟨{(base 52).at a' todo with mode:=.returning},r0::cs,w'⟩:=by
   rintro a' w' todo ⟨x0,x1,x2,l2,c2,x3,l3,c3,hc,pa,hT,fM⟩;obtain⟨u,rfl⟩:=fM.open;refine aj.leave E f7 (v:=.tuple #[.agg #[x0,x1,.slice x2 l2 c2,.slice x3 l3 c3],br]) (λτ d=>⟨rfl,rfl,rfl,_,Tz.func52,?_⟩)<|aH _ _ ⟨⟨x0,x1,x2,l2,c2,x3,l3,c3,by rw[hr,lP],λT Ri=>hT T<|hr.symm.trans Ri⟩,pa⟩;have q0:(re w' τ d).cell? B4=some (.int .i64 x0):=by have h:(re w' τ d).heap[B4]?=_:=hc;simp[World.cell?,h]
   have q1:(re w' τ d).cell? ⟨B4,1,none⟩=some (.int .i64 x1):=by have h:(re w' τ d).heap[B4]?=_:=hc;simp[World.cell?,h]
   have q2:(re w' τ d).cell? ⟨B4,2,none⟩=some (.slice x2 l2 c2):=by have h:(re w' τ d).heap[B4]?=_:=hc;simp[World.cell?,h]
   have q3:(re w' τ d).cell? ⟨B4,3,none⟩=some (.slice x3 l3 c3):=by have h:(re w' τ d).heap[B4]?=_:=hc;simp[World.cell?,h]
   show Sem.run Tz.prog (results Tryz.f52<|(rW 81 [(4,.pointer B4),(5,br)]) u) (re w' τ d)=.ok (.tuple #[.agg #[x0,x1,.slice x2 l2 c2,.slice x3 l3 c3],br]) (re w' τ d);simp[results,Tryz.f52,go_sem,q0,q1,q2,q3]
  refine aj.last E sI [_,_,_] (λa' w'=>∃(x0 x1:Int) (x2:Option Addr) (l2 c2:Nat) (x3:Option Addr) (l3 c3:Nat),w'.heap[B4]?=some (.cells #[x0,x1,.slice x2 l2 c2,.slice x3 l3 c3] 29 (0,0))/\Bl V V w'/\(∀T,r=some T->∃BN BT,V.heap.size<=BN/\V.heap.size<=BT/\x0=t p/\x1=shift/\x2=some ⟨BN,0,none⟩/\l2=(al f t p n).length/\x3=some ⟨BT,0,none⟩/\l3=(al f t p n).length/\BE w' BN (al f t p n).length (im<|al f t p n)/\aC w' BT (al f t p n).length T)/\iz a' (rW 81 [(4,.pointer B4),(5,br)])) ?_ gN;intro τ d;clear gN aH;have Ll:aT (re (re V3 Mf d3) τ d) B4 0 0 () ():=R_;have nx0:aT (re (re V3 Mf d3) τ d) B7 (t p) shift (.slice BN (al f t p n).length cN) ():=nx3;have ut:BE (re (re V3 Mf d3) τ d) BN (al f t p n).length (im<|al f t p n):=TZ.same rfl;have t50:Tk r (al f t p n).length w2.heap.size (re (re V3 Mf d3) τ d) v5:=t5.same λ_ _ _=>rfl
  have XA:Bl V V (re (re V3 Mf d3) τ d):=⟨Vk.size,Vk.block⟩;revert Ll nx0 ut t50 XA;generalize re (re V3 Mf d3) τ d=w0;intro Ll nx0 ut t50 XA;clear R_ nx3 TZ t5 Vk;let⟨Qa,r1',r2',r3',r4'⟩:=Ll.cells;have yy:=nx0.cells;simp only[aD];cases r with
  |none=>
   subst lP;simp only[Option.isSome_none];go_wp2;all_goals try omega
   rw[tD Ll];right;exact⟨QG,_,_,_,_,_,_,_,_,setRow_heap _ _ _ _ _ _ Ll,⟨aaz,λk hk=>(setRow_other _ _ _ _ ab).trans<|XA.block k hk⟩,(λT h=>qK),rfl,rfl⟩
  |some T=>
   obtain⟨BT,cT,Kv,rfl,oT⟩:=t50;subst lP;simp only[Option.isSome_some];go_wp2;all_goals try omega
   have hs:∀k,k≠B7->(w0.setCell ⟨B7,3,none⟩<|.slice BT (al f t p n).length cT).heap[k]?=w0.heap[k]?:=λk hk=>acW _ _ _ k hk
   have vV:(w0.setCell ⟨B7,3,none⟩<|.slice BT (al f t p n).length cT).heap.size=w0.heap.size:=aG;revert hs vV;generalize w0.setCell ⟨B7,3,none⟩ (.slice (some ⟨BT,0,none⟩) (al f t p n).length cT)=w5;intro hs vV;have S_:=Ll.same<|hs B4 h47;rw[tD S_];have ho:∀k,k≠B7->k≠B4->∀row,(w5.setRow B4 row).heap[k]?=w0.heap[k]?:=λk h1 h2 row=>(setRow_other _ _ _ _ h2).trans<|hs k h1
   left;exact⟨QG,_,_,_,_,_,_,_,_,setRow_heap _ _ _ _ _ _ S_,⟨by rw[setRow_size,vV];exact XA.size,λk hk=>(ho k ab ab _).trans<|XA.block k hk⟩,λT' h=>by
    obtain rfl:=ac9 h;exact⟨BN,BT,S0,ab,rfl,rfl,rfl,rfl,rfl,rfl,ut.same<|ho BN hN7 hN4 _,fi oT<|ho BT ab ab _⟩,rfl,rfl⟩
 .rintro a' w2 todo ⟨hle,cj,hd,h4,h5,res⟩;refine aj.leave E f7 (v:=.tuple #[.agg #[(0:Int),(0:Int),(),()],false]) (λτ d=>⟨rfl,hd,rfl,_,Tz.func52,?_⟩)<|aH _ _ ⟨⟨0,0,none,0,0,none,0,0,by unfold cY;rw[if_neg hle];rfl,λT hT=>by unfold cY at hT;rw[if_neg hle]at hT;cases hT⟩,cj⟩;have hc:(re w2 τ d).heap[B4]?=_:=res;have q0:(re w2 τ d).cell? B4=some (.int .i64 0):=by simp[World.cell?,hc]
  have q1:(re w2 τ d).cell? ⟨B4,1,none⟩=some (.int .i64 0):=by simp[World.cell?,hc]
  have q2:(re w2 τ d).cell? ⟨B4,2,none⟩=some (.slice none 0 0):=by simp[World.cell?,hc]
  have q3:(re w2 τ d).cell? ⟨B4,3,none⟩=some (.slice none 0 0):=by simp[World.cell?,hc]
  show Sem.run Tz.prog (results Tryz.f52 a'.tmps) (re w2 τ d)=.ok (.tuple #[.agg #[(0:Int),(0:Int),(),()],false]) (re w2 τ d);simp[results,Tryz.f52,go_sem,q0,q1,q2,q3,h4,h5]
end
def Hk (m:Mv)(tick:Int)(w:World)(h0:0<=tick)(h1:tick<=20000):
  Calls Tz.prog 113 #[.agg #[.string m.name,.bool m.ak,.int .i64 m.ap,.int .i64 m.bF,.int .i64 m.late,.int .i64 m.prom],.int .i64 tick] w λe w'=>e=.returned (.tuple #[.agg #[.string m.name,.bool m.ak,.int .i64 m.ap,.int .i64<|tick+6,.int .i64 m.late,.int .i64 (-1)],.bool<|decide (tick+6<=m.late)])/\Below w.heap.size w w':=by
 have xP:IntKind.i64.wrap (tick+6)=tick+6:=ia;go_enter Tz.func113,Tryz.ntmps113
 go_wp2;go_region
 all_goals
  go_wp2;refine bodyPost_ret (v:=.tuple #[.agg #[.string m.name,.bool m.ak,.int .i64 m.ap,.int .i64<|tick+6,.int .i64 m.late,.int .i64 (-1)],.bool<|decide (tick+6<=m.late)]) (by simp[results,Tryz.results113,go_sem]) rfl ⟨rfl,?_⟩;repeat(first|exact acU _ _|refine Below.drew ?_|refine acY ?_ zj _|refine acX ?_ zj _)
def mX (f:Nat->Mv)(n:Nat)(t:Nat->Int)(p:Nat)(shift:Int)(w:World)(e:Ending)(w':World):Prop:=
 if t p+6<=(f p).late then∃BN cN,e=.returned (.tuple #[.agg #[.int .i64<|t p,.int .i64 shift,.slice (some ⟨BN,0,none⟩) (al f t p n).length cN,.slice none 0 0],.bool true])/\w.heap.size<=BN/\BN<w'.heap.size/\aJ w' BN 0 (al f t p n).length (im<|al f t p n)
 else e=.returned (.tuple #[.agg #[(0:Int),(0:Int),.slice none 0 0,.slice none 0 0],.bool false])
def Hl (b n cap b' cap' p:Nat)(f:Nat->Mv)(t:Nat->Int)(now shift:Int)(w:World)(hm:az f n=true)(hf:dU f t n)(hp:p<n)(bz:b<w.heap.size)(am:aJ w b 0 n f)(bu:b'<w.heap.size)(aP:aA w b' 0 n t):
  Calls Tz.prog 83 #[.agg #[.int .i64 now,.int .i64 shift,.slice (some ⟨b,0,none⟩) n cap,.slice (some ⟨b',0,none⟩) n cap'],.int .i64 p] w λe w'=>mX f n t p shift w e w'/\Below w.heap.size w w':=by
 have h6:=bP hm;have ZJ:=Mv.fp<|aW hm p hp;have DD:=fT<|hf.1 p hp;have XI:(p:Int)<n:=ab;have tp:=aP p hp;simp only[Nat.zero_add]at tp;have lY:∀o1 o2,Below w.heap.size w ((w.alloc o1).alloc o2):=λo1 o2=>((acU _ w).alloc (ac3 _) _).alloc aG _
 have tp2:∀o1 o2,((w.alloc o1).alloc o2).cell? ⟨b',p,none⟩=some (.int .i64<|t p):=λo1 o2=>((lY o1 o2).cell (p:=⟨b',p,none⟩) bu).trans tp
 let⟨iM,hI,KR,Th,Ti⟩:=eP;have hlen:=jv f t p;go_enter Tz.func83,Tryz.ntmps83
 go_wp2;have Y3:aT (((w.alloc<|.cells #[.int .i64 now,.int .i64 shift,.slice (some ⟨b,0,none⟩) n cap,.slice (some ⟨b',0,none⟩) n cap'] 29).alloc<|.cells #[(0:Int),(0:Int),.slice none 0 0,.slice none 0 0] 29).alloc<|.cells #[.int .i64<|t p,.int .i64 shift,.slice none 0 0,.slice none 0 0] 29) w.heap.size now shift (.slice (some ⟨b,0,none⟩) n cap) (.slice (some ⟨b',0,none⟩) n cap'):=(acV _ _ _ cH).trans<|(acV _ _ _ aG).trans<|heap_alloc_new _ _;have Vp:aT (((w.alloc<|.cells #[.int .i64 now,.int .i64 shift,.slice (some ⟨b,0,none⟩) n cap,.slice (some ⟨b',0,none⟩) n cap'] 29).alloc<|.cells #[(0:Int),(0:Int),.slice none 0 0,.slice none 0 0] 29).alloc<|.cells #[.int .i64<|t p,.int .i64 shift,.slice none 0 0,.slice none 0 0] 29) (w.heap.size+1) 0 0 (.slice none 0 0) (.slice none 0 0):=(acV _ _ _ aG).trans<|dX _ _ _;have Vq:aT (((w.alloc<|.cells #[.int .i64 now,.int .i64 shift,.slice (some ⟨b,0,none⟩) n cap,.slice (some ⟨b',0,none⟩) n cap'] 29).alloc<|.cells #[(0:Int),(0:Int),.slice none 0 0,.slice none 0 0] 29).alloc<|.cells #[.int .i64<|t p,.int .i64 shift,.slice none 0 0,.slice none 0 0] 29) (w.heap.size+1+1) (t p) shift (.slice none 0 0) (.slice none 0 0):=by
  have:=dX (w.alloc<|.cells #[.int .i64 now,.int .i64 shift,.slice (some ⟨b,0,none⟩) n cap,.slice (some ⟨b',0,none⟩) n cap'] 29) (.cells #[(0:Int),(0:Int),.slice none 0 0,.slice none 0 0] 29)<|.cells #[.int .i64<|t p,.int .i64 shift,.slice none 0 0,.slice none 0 0] 29;rw[acZ]at this;exact this
 have pa:Below w.heap.size w (((w.alloc<|.cells #[.int .i64 now,.int .i64 shift,.slice (some ⟨b,0,none⟩) n cap,.slice (some ⟨b',0,none⟩) n cap'] 29).alloc<|.cells #[(0:Int),(0:Int),.slice none 0 0,.slice none 0 0] 29).alloc<|.cells #[.int .i64<|t p,.int .i64 shift,.slice none 0 0,.slice none 0 0] 29):=(lY _ _).alloc cH _;obtain⟨B4,YN⟩:∃B,B=w.heap.size+1:=⟨_,rfl⟩;obtain⟨B7,hB7⟩:∃B,B=w.heap.size+1+1:=⟨_,rfl⟩;rw[<-hB7]at Vq⊢;rw[<-YN]at Vp⊢;have q4:w.heap.size<B4/\B4<w.heap.size+3/\B4≠B7:=⟨ab,ab,ab⟩;have q7:w.heap.size<B7/\B7<w.heap.size+3:=⟨ab,ab⟩;clear YN hB7;let⟨q41,q42,q43⟩:=q4;let⟨q71,q72⟩:=q7;go_loopw [8,9,10,11] (λx _ _ _ W=>∃(k:Nat) (vM:Value),x=.int .i64 k/\k<=n/\(¬t p+6<=(f p).late->k<=p)/\Rb w (w.heap.size+3) w.heap.size B4 B7 now shift (t p) (.slice (some ⟨b,0,none⟩) n cap) (.slice (some ⟨b',0,none⟩) n cap') vM (al f t p k) W) (λx _ _ _ _=>n-(intOf x).toNat)
 case atStart=>exact⟨0,.slice none 0 0,rfl,ac8 _,λ_=>ac8 _,⟨Y3,Vp,Vq,World.ownsRow_nil _ _ _ _,pa,aG⟩⟩
 case round=>
  clear Y3 Vp Vq pa tp2 lY;obtain⟨k,vM,rfl,hk,Rt,hR⟩:=hrel;have p_:=ac4 bz hR.below.size;have On:=ac4 bu hR.below.size;have P7:=hR.bk.lt;have lb4:=hR.res.lt;have lb7:=hR.nx.lt;have mm:=hR.bk.cells;have xx:=hR.nx.cells;by_cases ay:k<n
  .have dq:(k:Int)<n:=by omega
   let⟨c0,c1,c2,c3,c4,c5⟩:=am.below hR.below bz k ay;have tk:=aP.below hR.below bu k ay;simp only[Nat.zero_add]at c0 c1 c2 c3 c4 c5 tk;have hLk:=hlen k;by_cases XE:k=p
   .subst XE;have HQ:=λW=>Hk (f k) (t k) W ab ab
    by_cases hle:t k+6<=(f k).late
    .go_wp2_with(first
      |(go_at_call 113;refine(HQ _).mono ?_;clear HQ;rintro e w3 ⟨rfl,b3⟩;have Rg:=(hR.grow<|(acU _ _).alloc (ac3 _) _).grow b3;let⟨y0,y1,y2,y3,y4⟩:=Rg.nx.cells;have abs:=Rg.nx.lt;have y2':∀o,(w3.alloc o).cell? ⟨B7,2,none⟩=some vM:=(λo=>(World.cell?_alloc_past _ _ _ abs).trans y2);have HG:=λW (hb:Below w3.heap.size w3 W)=>Rg.grow hb)
      |(at_builtin;refine wpList_append_own _ rfl (.tmp 46) (.tmp 48) 23 rfl (w.heap.size+3) 31 iM _ 6 56 aR hI KR Th Ti rfl bd vM (al f t k k).length (aU (im<|al f t k k) (al f t k k).length) bD (HG _ vJ).own ⟨w3.heap.size+1,0,none⟩ 1 1 (Mv.cells<|rE (f k)<|t k).toList bD rfl (uq<|dX _ _ _) (gb _) ie ab (HG _ vJ).Uy ?_;intro v8 w8 wh uR _;obtain⟨B8,c8,rfl⟩:=kH wh;let⟨k0',l_,XV,k3',k4'⟩:=((HG _ vJ).P9 uR ab).cells;have l8:B7<w8.heap.size:=((HG _ vJ).P9 uR ab).lt))
     all_goals try omega
     go_roundw
     case rel=>exact⟨k+1,_,by go_num,ab,λh=>absurd hle h,by rw[lJ ab,tT];exact(HG _ vJ).append ab ab ab ab ab ab wh uR⟩
     case measure=>exact bZ
    .have hdl:decide (t k+6<=(f k).late)=false:=by simpa using hle
     have HD:Hid (decide (t k+6<=(f k).late)=false):=hdl;go_wp2_with(go_at_call 113;refine(HQ _).mono ?_;clear HQ;rintro e w3 ⟨rfl,b3⟩;rw[HD.out];have Rg:=(hR.grow<|(acU _ _).alloc (ac3 _) _).grow b3;let⟨y0,y1,y2,y3,y4⟩:=Rg.res.cells;have acD:=Rg.res.lt)
     all_goals try omega
     rw[tD Rg.res];have uX:=setRow_heap w3 B4 _ #[(0:Int),(0:Int),.slice none 0 0,.slice none 0 0] _ _ Rg.res;have jQ:=below_setRow Rg.below (by omega:w.heap.size<=B4) #[(0:Int),(0:Int),.slice none 0 0,.slice none 0 0];have vV:(w3.setRow B4 #[(0:Int),(0:Int),.slice none 0 0,.slice none 0 0]).heap.size=w3.heap.size:=setRow_size _ _ _;revert uX jQ vV;generalize w3.setRow B4 #[(0:Int),(0:Int),.slice none 0 0,.slice none 0 0]=W5;intro uX jQ vV;have hb6:=λo=>jQ.alloc (o:=o) jQ.size
     have G2:=λo=>(acV W5 o B4 ab).trans uX
     have q0:∀o,(W5.alloc o).cell? ⟨B4,0,none⟩=some (.int .i64 0):=λo=>by simp[World.cell?,G2]
     have q1:∀o,(W5.alloc o).cell? ⟨B4,1,none⟩=some (.int .i64 0):=λo=>by simp[World.cell?,G2]
     have q2:∀o,(W5.alloc o).cell? ⟨B4,2,none⟩=some (.slice none 0 0):=λo=>by simp[World.cell?,G2]
     have q3:∀o,(W5.alloc o).cell? ⟨B4,3,none⟩=some (.slice none 0 0):=λo=>by simp[World.cell?,G2]
     refine bodyPost_ret (v:=.tuple #[.agg #[(0:Int),(0:Int),.slice none 0 0,.slice none 0 0],.bool false]) ?_ rfl ⟨by unfold mX;rw[if_neg ab],hb6 _⟩;simp[results,Tryz.f83,go_sem,q0,q1,q2,q3]
   .have aa7:¬(k:Int)=p:=by omega
    by_cases hsk:t k<t p
    .go_wp2;all_goals try omega
     go_roundw
     case rel=>exact⟨k+1,vM,by go_num,ab,λh=>by have:=Rt h;omega,by simp only[al,if_pos hsk];exact hR.grow<|(acU _ _).alloc (ac3 _) _⟩
     case measure=>exact bZ
    .have xP:IntKind.i64.wrap (t p+4)=t p+4:=by rw[IntKind.wrap_i64];omega
     have HG:=λW (hb:Below wr.heap.size wr W)=>hR.grow hb
     by_cases hso:t k<t p+4
     .go_wp2_with(at_builtin;refine wpList_append_own _ rfl (.tmp 73) (.tmp 75) 23 rfl (w.heap.size+3) 31 iM _ 6 56 aR hI KR Th Ti rfl bd vM (al f t p k).length (aU (im<|al f t p k) (al f t p k).length) bD (HG _ vJ).own ⟨wr.heap.size+1,0,none⟩ 1 1 (Mv.cells<|{f k with prom:=t k}).toList bD rfl (uq<|dX _ _ _) (gb _) ie ab (HG _ vJ).Uy ?_;intro v8 w8 wh uR _;obtain⟨B8,c8,rfl⟩:=kH wh;let⟨k0',l_,XV,k3',k4'⟩:=((HG _ vJ).P9 uR ab).cells;have l8:B7<w8.heap.size:=((HG _ vJ).P9 uR ab).lt)
      all_goals try omega
      go_roundw
      case rel=>exact⟨k+1,_,by go_num,ab,λh=>by have:=Rt h;omega,by rw[lJ ab,qE XE,show bf (f k) (t k) (t p)={f k with prom:=t k} by unfold bf;rw[if_pos ab]];exact(HG _ vJ).append ab ab ab ab ab ab wh uR⟩
      case measure=>exact bZ
     .go_wp2_with(at_builtin;refine wpList_append_own _ rfl (.tmp 73) (.tmp 75) 23 rfl (w.heap.size+3) 31 iM _ 6 56 aR hI KR Th Ti rfl bd vM (al f t p k).length (aU (im<|al f t p k) (al f t p k).length) bD (HG _ vJ).own ⟨wr.heap.size+1,0,none⟩ 1 1 (Mv.cells<|f k).toList bD rfl (uq<|dX _ _ _) (gb _) ie ab (HG _ vJ).Uy ?_;intro v8 w8 wh uR _;obtain⟨B8,c8,rfl⟩:=kH wh;let⟨k0',l_,XV,k3',k4'⟩:=((HG _ vJ).P9 uR ab).cells;have l8:B7<w8.heap.size:=((HG _ vJ).P9 uR ab).lt)
      all_goals try omega
      go_roundw
      case rel=>exact⟨k+1,_,by go_num,ab,λh=>by have:=Rt h;omega,by rw[lJ ab,qE XE,show bf (f k) (t k) (t p)=f k by unfold bf;rw[if_neg ab]];exact(HG _ vJ).append ab ab ab ab ab ab wh uR⟩
      case measure=>exact bZ
  .have dq:¬(k:Int)<n:=by omega
   have tS:k=n:=ab;subst tS;have hle:t p+6<=(f p).late:=by
    by_cases h:t p+6<=(f p).late
    .exact h
    .have:=Rt h;omega
   have gO:=qD (f:=f) (t:=t) (p:=p) hp;obtain⟨BN,cN,rfl⟩:∃BN cN,vM=.slice (some ⟨BN,0,none⟩) (al f t p k).length cN:=by
    rcases hR.own.2 with⟨_,e⟩|⟨g,cap,cur,e,_⟩
    .omega
    .exact⟨g,cap,e⟩
   let⟨lo,hi⟩:=hR.own.lt BN rfl;have ss:=hR.res.cells;go_wp2;all_goals try omega
   rw[tD hR.res];have uX:=setRow_heap wr B4 _ #[.int .i64<|t p,.int .i64 shift,.slice (some ⟨BN,0,none⟩) (al f t p k).length cN,.slice none 0 0] _ _ hR.res;have jQ:=below_setRow hR.below (by omega:w.heap.size<=B4) #[.int .i64<|t p,.int .i64 shift,.slice (some ⟨BN,0,none⟩) (al f t p k).length cN,.slice none 0 0];have vV:(wr.setRow B4 #[.int .i64<|t p,.int .i64 shift,.slice (some ⟨BN,0,none⟩) (al f t p k).length cN,.slice none 0 0]).heap.size=wr.heap.size:=setRow_size _ _ _;have qT:(wr.setRow B4 #[.int .i64<|t p,.int .i64 shift,.slice (some ⟨BN,0,none⟩) (al f t p k).length cN,.slice none 0 0]).heap[BN]?=wr.heap[BN]?:=setRow_other _ _ _ _ ab;have rN:=dW hR.own;revert uX jQ vV qT;generalize wr.setRow B4 #[.int .i64<|t p,.int .i64 shift,.slice (some ⟨BN,0,none⟩) (al f t p k).length cN,.slice none 0 0]=W5;intro uX jQ vV qT;have q0:W5.cell? ⟨B4,0,none⟩=some (.int .i64<|t p):=by simp[World.cell?,uX]
   have q1:W5.cell? ⟨B4,1,none⟩=some (.int .i64 shift):=by simp[World.cell?,uX]
   have q2:W5.cell? ⟨B4,2,none⟩=some (.slice (some ⟨BN,0,none⟩) (al f t p k).length cN):=by simp[World.cell?,uX]
   have q3:W5.cell? ⟨B4,3,none⟩=some (.slice none 0 0):=by simp[World.cell?,uX]
   refine bodyPost_ret (v:=.tuple #[.agg #[.int .i64<|t p,.int .i64 shift,.slice (some ⟨BN,0,none⟩) (al f t p k).length cN,.slice none 0 0],.bool true]) ?_ rfl ⟨by unfold mX;rw[if_pos hle];exact⟨BN,cN,rfl,ab,ab,dA rN qT⟩,jQ⟩;simp[results,Tryz.f83,go_sem,q0,q1,q2,q3]
def mU (g:Nat->Mv)(n:Nat)(gZ:Int)(w:World)(e:Ending)(w':World):Prop:=
 if∀i,i<n->d7 (g i) gZ=true then∃B c,e=.returned (.tuple #[.slice (some ⟨B,0,none⟩) n c,true])/\w.heap.size<=B/\B<w'.heap.size/\aJ w' B 0 n (er g gZ)
 else∃a l c,e=.returned (.tuple #[.slice a l c,false])
def CZ {gZ:Int}(h:(g k).prom=-1)(hx:gZ<=(g k).bF)(i:Nat):ey g gZ k i=ey g gZ (k+1) i:=by
 unfold ey;by_cases e:i=k
 .subst e;rw[if_neg ab,if_pos ab];unfold ft;rw[if_pos h,show max (g i).bF gZ=(g i).bF by omega]
 .by_cases h1:i<k
  .rw[if_pos h1,if_pos ab]
  .rw[if_neg h1,if_neg ab]
def uE {P:Program}{rest:List Oper}{Q:Exit->Act->World->Prop}(KG:o.guard=none)(s x:Operand)(t:TypeId)
  (ho:o.op=.call {callee:=.builtin .append,args:=#[s,x],argTypes:=#[t,t]})
  (base:Nat)(e:TypeId)(i:TypeInfo)(z:Value)(size bytes:Nat)(ht:P.underlying t=some (.slice e))(hi:P.info? e=some i)(hz:i.zero=some z)(Jl:i.size=size)(hby:i.bytes=bytes)(KS:z.cells.size=size)(jw:0<size)
  (v:Value)(n:Nat)(xs:List Value)(hs:a.eval s=v)(bc:w.ownsRow base e size v n xs)(oh:uG w v)
  (ad:Addr)(m c:Nat)(news:List Value)(hx:a.eval x=.slice (some ad) m c)(hl:news.length=m*size)(gq:∀j u,news[j]?=some u->w.cell? (ad.add j)=some u)(h1:∀u∈news,u.oneCell'=true)(Tu:∀u∈news,ml u)(hzp:∀u∈z.cells,ml u)
  (h63:n+m<=maxLen)(xD:(n+m)*bytes<=140737488355328)(Y1:base<=w)
  (h:∀v' w',w'.ownsRow base e size v' (n+m) (xs++news)->w.grownBy w' v.ownBlock->uG w' v'->(v'=()<->v=()/\m=0)->wpList P ops Q rest (a.put o.dst v') w'):wpList P ops Q (o::rest) a w:=by
 refine wpList_plain KG λK hK=>?_
 let⟨v',w',hr,h2,h3,h4⟩:=run_append_own (P:=P) w base t o.type e i z size bytes ht hi hz Jl hby KS jw v n xs bc ad m c news hl gq h1 h63 xD Y1;have h5:=qY base t o.type e i z size bytes ht hi hz Jl hby KS v n xs bc oh ad m c news hl gq h1 Tu hzp h63 xD hr;unfold Oper.wp execOp;simp only[ho,resolve,invoke,builtin,Sem.run_bind,Sem.run_pure,Result.andThen_ok,List.map_toArray,List.map_cons,List.map_nil,hs,hx,hr];exact hK _ _<|h v' w' h2 h3 h5 h4
def Ez (b n cap:Nat)(g:Nat->Mv)(gZ:Int)(w:World)(hn:n<=6)(hg:∀i,i<n->(g i).ok=true)(h0:0<=gZ)(h1:gZ<=30000)(bz:b<w)(am:aJ w b 0 n g):
  Calls Tz.prog 73 #[.slice b n cap,gZ] w λe w'=>mU g n gZ w e w'/\Below w w w':=by
 let⟨iM,hI,gE,Th,Ti⟩:=eP;have bA:Below w w (w.alloc<|.cells #[] 31):=(acU _ _).alloc (ac3 _) _;have bc:(w.alloc<|.cells #[] 31).ownsRow w.heap.size 31 6 (.slice w.heap.size 0 0) 0 []:=World.ownsRow_made w #[] 0 (ac3 _) ie aG;have ZP:uG (w.alloc<|.cells #[] 31) (.slice w.heap.size 0 0):=λB hB=>by
  simp only[Value.ownBlock,Option.some.injEq]at hB;subst hB;exact⟨#[],_,heap_alloc_new _ _,λv hv=>by simp at hv⟩
 go_enter Tz.func73,Tryz.ntmps73
 go_wp2_with(at_builtin;refine uE rfl (.tmp 8) (.tmp 9) 23 rfl w.heap.size 31 iM _ 6 56 aR hI gE Th Ti rfl bd (.slice w.heap.size 0 0) 0 [] bD bc ZP b n cap (aU g n) bD (bq g n) (dZ<|am.below bA bz) (eR g n) (yC g n) vn ie ab aG ?_;intro v8 w8 wh uR hp8 hs8;simp only[Nat.zero_add,List.nil_append]at wh)
 have hb8:Below w w w8:=bA.grown uR bA.size λq hq=>Gu;obtain⟨B,c,rfl⟩:∃B c,v8=.slice (some ⟨B,0,none⟩) n c:=by
  rcases wh.2 with⟨e,hz⟩|⟨gg,cc,cur,e,_⟩
  .exact absurd (hs8.1 e).1 aG
  .exact⟨gg,cc,e⟩
 have U':=dW wh;have pl8:=hp8 B rfl;have lY:=(wh.lt B rfl).1;clear wh uR hp8 hs8 bc ZP bA;go_loopw [7] (λx W=>∃k:Nat,x=.int .i64 k/\k<=n/\Below w w W/\aJ W B 0 n (ey g gZ k)/\ce W B/\∀i,i<k->d7 (g i) gZ=true) (λx _=>n-(intOf x).toNat)
 case atStart=>exact⟨0,rfl,ac8 _,hb8,U'.nX λi _=>by unfold ey;rw[if_neg ab],pl8,λi hi=>absurd hi<|ac7 _⟩
 case round=>
  clear U' pl8 hb8;obtain⟨k,rfl,hk,gD,NW,oh,cD⟩:=hrel;by_cases ay:k<n
  .have dq:(k:Int)<n:=by omega
   have Zp:ey g gZ k k=g k:=by unfold ey;rw[if_neg (Nat.lt_irrefl _)]
   have eO:=Mv.fp<|hg k ay;let⟨c0,c1,c2,c3,c4,c5⟩:=NW k ay;rw[Zp]at c0 c1 c2 c3 c4 c5;simp only[Nat.zero_add]at c0 c1 c2 c3 c4 c5;have hlB:=oh.lt;by_cases hp:(g k).prom=-1
   .have DC:(g k).prom<0:=by omega
    by_cases he:(g k).bF<gZ
    .have Zi:=Fa oh<|k*6+3;have hx:max (g k).bF gZ=gZ:=ab;have rS:=(JO NW ay gZ).nX λi _=>yx hp hx i;have pS:ce (wr.setCell ⟨B,k*6+3,none⟩ gZ) B:=oh.set<|.inr<|.inl ⟨_,_,rfl⟩;have bS:=gD.setCell (p:=⟨B,k*6+3,none⟩) lY gZ;have lS:(wr.setCell ⟨B,k*6+3,none⟩ gZ).cell? ⟨B,k*6+4,none⟩=some (.int .i64 (g k).late):=(World.cell?_setCell_other _ _ _ _ aG).trans c4;by_cases hle:gZ<=(g k).late
     .have KI:¬(g k).late<gZ:=by omega
      go_wp2;all_goals try omega
      go_roundw
      case rel=>exact⟨k+1,by go_num,ab,bS,rS,pS,λi hi=>by
       by_cases e:i=k
       .subst e;rw[lu hp];simpa using hle
       .exact cD i ab⟩
      case measure=>exact bZ
     .have KI:(g k).late<gZ:=by omega
      have lQ:¬∀i,i<n->d7 (g i) gZ=true:=λh=>by
       have:=h k ay;rw[lu hp]at this;simp at this;omega
      go_wp2;all_goals try omega
      go_ret2
      exact⟨by unfold mU;rw[if_neg lQ];exact⟨_,_,_,rfl⟩,bS⟩
    .go_wp2;all_goals try omega
     go_roundw
     case rel=>exact⟨k+1,by go_num,ab,gD,NW.nX λi _=>CZ hp ab i,oh,λi hi=>by
      by_cases e:i=k
      .subst e;rw[lu hp];simp;omega
      .exact cD i ab⟩
     case measure=>exact bZ
   .have DC:¬(g k).prom<0:=by omega
    go_wp2;all_goals try omega
    go_roundw
    case rel=>exact⟨k+1,by go_num,ab,gD,NW.nX λi _=>tE hp i,oh,λi hi=>by
     by_cases e:i=k
     .subst e;exact yw hp
     .exact cD i ab⟩
    case measure=>exact bZ
  .have dq:¬(k:Int)<n:=by omega
   have tS:k=n:=ab;subst tS;go_wp2;all_goals try omega
   go_ret2
   exact⟨by unfold mU;rw[if_pos cD];exact⟨B,c,rfl,lY,oh.lt,NW.nX λi hi=>by unfold ey er;rw[if_pos hi]⟩,gD⟩
def rU (b n cap:Nat)(g:Nat->Mv)(now shift:Int)(w:World)(hn:n<=6)(hg:∀i,i<n->(g i).ok=true)(h0:0<=now)(h1:now<=20000)(NY:0<=shift)(G2:shift<=6)(pb:(∀i,i<n->d7 (g i) (now+4)=true)->az (er g<|now+4) n=true)(bz:b<w)(am:aJ w b 0 n g):
  Calls Tz.prog 44 #[.slice b n cap,now,shift] w λe w'=>mO (fI g n now shift) n w e w'/\Below w w w':=by
 have xP:IntKind.i64.wrap (now+4)=now+4:=ia;have H1:=Ez b n cap g (now+4) w hn hg ab ab bz am;go_enter Tz.func44,Tryz.ntmps44
 by_cases cD:∀i,i<n->d7 (g i) (now+4)=true
 .have hm:=pb cD;have hP:fI g n now shift=fd (er g<|now+4) n ((aS n).filter<|fS (er g<|now+4) n shift):=by
   unfold fI kR;rw[if_pos cD,if_pos ⟨hm,NY,G2⟩]
  rw[hP];clear pb hP;go_wp2_with(first
   |(go_at_call 73;refine H1.mono ?_;clear H1;rintro e w1 ⟨l1,b1⟩;unfold mU at l1;rw[if_pos cD]at l1;obtain⟨B,c,rfl,lY,hB,r1⟩:=l1;have H2:=Hj B 0 n c (er g<|now+4) shift w1 hm hB r1 (fS (er g<|now+4) n shift)<|yj _ n shift)
   |(go_at_call 74;refine H2.mono ?_;clear H2;rintro e w2 ⟨s2,b2⟩;have WN:=OZ s2 b1.size;clear s2;obtain⟨sa,sn,sc,sb,rfl⟩:=Lp WN))
  go_ret2
  exact⟨WN,b1.trans<|b2.mono b1.size⟩
 .have hP:fI g n now shift=none:=by unfold fI;rw[if_neg cD]
  rw[hP];clear pb hP;go_wp2_with(go_at_call 73;refine H1.mono ?_;clear H1;rintro e w1 ⟨l1,b1⟩;unfold mU at l1;rw[if_neg cD]at l1;obtain⟨a1,n1,c1,rfl⟩:=l1)
  go_ret2
  exact⟨⟨_,_,rfl⟩,b1.alloc b1.size _⟩
noncomputable def dG (now shift:Int)(f:Nat->Mv)(n:Nat)(t:Nat->Int)(m:Nat):Bool:=aM now shift f n t m&&@decide (tO f n t) (Classical.propDecidable _)
def FH {m:Nat}(h:aM now shift f n t m=false):dG now shift f n t m=false:=by unfold dG;rw[h];rfl
def nE {m:Nat}(h:aM now shift f n t m=true)(hs:tO f n t):dG now shift f n t m=true:=by unfold dG;rw[h];simpa using hs
def Be {m:Nat}(hs:¬tO f n t):dG now shift f n t m=false:=by unfold dG;simp[hs]
def bG {m:Nat}(h:aM now shift f n t m=true):az f n=true/\m=n/\dU f t n:=by
 cases hf:eC f n t m with
 |false=>rw[rA hf]at h;cases h
 |true=>exact nY hf
section
variable [Gl]
def aj.CJ {P0:Program}{Dr:FuncId->Array Value->World->(Value->World->Prop)->Prop}(E:dM P0 ok c Dr){b:Frame}{X:Code}{k:List Item}(hb:ok.aX b.fn=true)(Inv:Nat->Act->World->Prop)
  (step:∀j a W,Inv j a W->(∀i,i<j->∀a' W',Inv i a' W'->aj P0 ok c Dr Q ⟨b.at a'<|.inLoop X::k,cs,W'⟩)->aj P0 ok c Dr Q ⟨b.at a<|.code X::.inLoop X::k,cs,W⟩):
  ∀j a W,Inv j a W->aj P0 ok c Dr Q ⟨b.at a<|.code X::.inLoop X::k,cs,W⟩:=by
 intro j;induction j using Nat.strongRecOn with
 |ind j ih=>intro a W h;exact step j a W h λi hi a' W' h'=>aj.inLoop E hb<|ih i hi a' W' h'
end
