import Derived.Test.YtlmcblcijndipaaGreatDoora36
set_option linter.defProp false
set_option linter.unusedSectionVars false
set_option linter.unusedVariables false
set_option maxHeartbeats 4000000
set_option maxRecDepth 100000
namespace Go.Proofs.YtlmcblcijndipaaGreatDoor
open Conc RowKit
variable {a:Act}{ops:Array Oper}{ok:Ctx}{c:Frame}{now shift tick:Int}{cs:List Frame}{l:List Mv}{m:Mv}{B B2 B4 B7 b cap k n p:Nat}{t:Nat->Int}{F f g:Nat->Mv}{o:Oper}{T:TypeId}{u v vM x y:Value}{Q:Value->World->Prop}{V W w w' w0:World}
def EJ (l:List Mv)(m:Mv):aV (jz<|l++[m]) (l.length+1)=aV (jz l) l.length++m.cells.toList:=by
 rw[gt,oj (g:=jz l) (λj hj=>by rw[I0,if_neg aa]),I0,if_pos rfl]
def qx {f:Nat->Mv}{t:Nat->Int}{p:Nat}:∀{k:Nat},p<k->0<(al f t p k).length
 |0,h=>aa
 |k+1,h=>by
  simp only[al];by_cases e:p=k
  .subst e;rw[if_neg aa];simp
  .have:=qx (f:=f) (t:=t) (p:=p) (k:=k) aa;split
   .exact this
   .simp
def aH (w:World)(b:Nat)(now shift:Int)(v u:Value):Prop:=w.heap[b]?=some (.cells #[now,shift,v,u] 29 (0,0))
def aH.lt (h:aH w b now shift v u):b<w:=(ac7.1 h).1
def aH.same (h:aH w b now shift v u)(e:w'.heap[b]?=w.heap[b]?):aH w' b now shift v u:=e.trans h
def aH.cells (h:aH w b now shift v u):w.cell? b=some (.int .i64 now)/\w.cell? ⟨b,1,none⟩=some (.int .i64 shift)/\w.cell? ⟨b,2,none⟩=some v/\w.cell? ⟨b,3,none⟩=some u/\∀j,w.frozen? ⟨b,j,none⟩=false:=by
 unfold aH at h;refine⟨?_,?_,?_,?_,λj=>frozen_of_row _ _ j _ _ h⟩<;>simp[World.cell?,h]
structure Rb (w0:World)(base B2 B4 B7:Nat)(now shift tick:Int)(x y vM:Value)(l:List Mv)(W:World):Prop where
 bk:aH W B2 now shift x y
 res:aH W B4 0 0 () ()
 nx:aH W B7 tick shift vM ()
 own:W.ownsRow base 31 6 vM l.length (aV (jz l) l.length)
 below:Below w0 w0 W
 Tx:base<=W
def Rb.grow {W':World}{base:Nat}(h:Rb w0 base B2 B4 B7 now shift tick x y vM l W)(hb:Below W W W'):Rb w0 base B2 B4 B7 now shift tick x y vM l W':=
 ⟨h.bk.same<|hb.block _ h.bk.lt,h.res.same<|hb.block _ h.res.lt,h.nx.same<|hb.block _ h.nx.lt,h.own.kept (row:=none) ⟨hb.os,hb.tape,hb.output,hb.size,λk hk _=>hb.block k hk⟩ (by cases hv:vM.ownBlock<;>simp),h.below.trans<|hb.mono h.below.size,ac8 h.Tx hb.size⟩
def Rb.append {base:Nat}{v':Value}(h:Rb w0 base B2 B4 B7 now shift tick x y vM l W)(h2:B2<base)(h4:B4<base)(h7:B7<base)(h27:B2≠B7)(h47:B4≠B7)(h70:w0.heap.size<=B7)
  (own:w'.ownsRow base 31 6 v' (l.length+1) (aV (jz l) l.length++m.cells.toList))(hg:W.grownBy w' vM.ownBlock):Rb w0 base B2 B4 B7 now shift tick x y v' (l++[m]) (w'.setCell ⟨B7,2,none⟩ v'):=by
 have hb:∀k,k<W.heap.size->k<base->w'.heap[k]?=W.heap[k]?:=λk hk aB=>hg.block k hk (λe=>by have:=(h.own.lt k e.symm).1;omega)
 have hs:∀k,k≠B7->(w'.setCell ⟨B7,2,none⟩ v').heap[k]?=w'.heap[k]?:=λk hk=>acY _ _ _ k hk
 have hz:=hg.size;have Ww:=h.Tx;refine⟨h.bk.same<|(hs _ h27).trans<|hb _ h.bk.lt h2,h.res.same<|(hs _ h47).trans<|hb _ h.res.lt h4,?_,?_,?_,cU⟩
 .have e:=(hb _ h.nx.lt h7).trans h.nx;exact heap_setCell_same w' B7 2 _ _ v' e
 .have e:(l++[m]).length=l.length+1:=by simp
  rw[e,EJ];exact own.kept (row:=some B7) ⟨rfl,rfl,rfl,aF,λk _ hk=>hs k λe=>hk<|by rw[e]⟩<|.inr (λe=>by have:=(own.lt B7 e).1;omega)
 .refine(h.below.trans ⟨hg.os,hg.tape,hg.output,hg.size,λk hk=>hb k (by have:=h.below.size;omega) aa⟩).setCell (by show w0.heap.size<=B7;exact h70) _
def Rb.Pd {base:Nat}(h:Rb w0 base B2 B4 B7 now shift tick x y vM l W)(hg:W.grownBy w' vM.ownBlock)(h7:B7<base):aH w' B7 tick shift vM ():=
 h.nx.same (hg.block B7 h.nx.lt (λe=>by have:=(h.own.lt B7 e.symm).1;omega))
def kN {base:Nat}{xs:List Value}(h:w.ownsRow base T 6 v (n+1) xs):∃B c,v=.slice (some ⟨B,0,none⟩) (n+1) c:=by
 rcases h.2 with⟨_,e⟩|⟨g,cap,cur,e,_⟩
 .omega
 .exact⟨g,cap,e⟩
def PI (h:w.heap[b]?=some (.cells m.cells T (0,0))):w.cell? b=some (.string m.name)/\w.cell? ⟨b,1,none⟩=some (.bool m.aj)/\w.cell? ⟨b,2,none⟩=some (.int .i64 m.ap)/\w.cell? ⟨b,3,none⟩=some (.int .i64 m.aW)/\w.cell? ⟨b,4,none⟩=some (.int .i64 m.late)/\w.cell? ⟨b,5,none⟩=some (.int .i64 m.prom):=by
 refine⟨?_,?_,?_,?_,?_,?_⟩<;>simp[World.cell?,h]
def abA (h:w.heap[b]?=some (.cells m.cells T (0,0)))(m':Mv):((((((w.setCell b m'.name).setCell ⟨b,1,none⟩ m'.aj).setCell ⟨b,2,none⟩ m'.ap).setCell ⟨b,3,none⟩ m'.aW).setCell ⟨b,4,none⟩ m'.late).setCell ⟨b,5,none⟩ m'.prom).heap[b]?=some (.cells m'.cells T (0,0)):=by
 have:=heap_setCell_same _ _ 5 _ _ m'.prom<|heap_setCell_same _ _ 4 _ _ m'.late<|heap_setCell_same _ _ 3 _ _ m'.aW<|heap_setCell_same _ _ 2 _ _ m'.ap<|heap_setCell_same _ _ 1 _ _ m'.aj<|heap_setCell_same w b 0 _ _ m'.name h;simpa using this
def tY (h:w.heap[b]?=some (.cells m.cells T (0,0))):∀(j:Nat) (u:Value),m.cells.toList[j]?=some u->w.cell? ((b:Addr).add j)=some u:=λj u hu=>by
 rw[pu,Nat.zero_add,cell_of_row _ _ _ _ _ _ h];simpa using hu
def dq (w:World)(o1 o2:Obj):((w.alloc o1).alloc o2).heap[w.heap.size+1]?=some o2:=by have:=heap_alloc_new (w.alloc o1) o2;simpa using this
def zN (f:Nat->Mv)(t:Nat->Int)(p:Nat):iU f t p p=wU (f p) (t p):=by unfold iU;rw[if_pos rfl]
def uq (h:¬k=p):iU f t p k=de (f k) (t k) (t p):=by unfold iU;rw[if_neg h]
def lD (h:¬t k<t p):al f t p (k+1)=al f t p k++[iU f t p k]:=by simp only[al];rw[if_neg h]
def C7 (w:World)(B n:Nat)(F:Nat->Mv):Prop:=aI w B 0 n F/\∃cs,w.heap[B]?=some (.cells cs 31 (0,0))/\n*6<=cs.size
def C7.same (h:C7 w B n F)(e:w'.heap[B]?=w.heap[B]?):C7 w' B n F:=by
 let⟨h1,cs,h2,h3⟩:=h;exact⟨dL h1 e,cs,e.trans h2,h3⟩
def C7.lt (h:C7 w B n F):B<w:=by
 let⟨_,cs,h2,_⟩:=h;exact(ac7.1 h2).1
def Cz {base c:Nat}(h:w.ownsRow base 31 6 (.slice B n c) n (aV F n)):C7 w B n F:=by
 refine⟨dK h,?_⟩;obtain⟨_,h2|⟨g,cap,cur,h2,_,h4,h5,_,h6,_⟩⟩:=h
 .exact absurd h2.1 aF
 .simp at h2;obtain⟨rfl,rfl⟩:=h2;exact⟨cur,h4,aa⟩
section
variable [Gl]
def Jz (f:Nat->Mv)(n:Nat)(t:Nat->Int)(p:Nat)(shift:Int)(V:World)(v:Value)(V':World):Prop:=
 (∃(x0 x1:Int) (x2:Option Addr) (l2 c2:Nat) (x3:Option Addr) (l3 c3:Nat),v=.tuple #[.agg #[x0,x1,.slice x2 l2 c2,.slice x3 l3 c3],.bool (dV f n t p).isSome]/\∀T,dV f n t p=some T->∃BN BT,V.heap.size<=BN/\V.heap.size<=BT/\x0=t p/\x1=shift/\x2=some ⟨BN,0,none⟩/\l2=(al f t p n).length/\x3=some ⟨BT,0,none⟩/\l3=(al f t p n).length/\C7 V' BN (al f t p n).length (jz<|al f t p n)/\aC V' BT (al f t p n).length T)/\Bl V V V'
def ak.Vq (E:ee Tz.prog ok c cX)(yZ:ok.bh 80=true)(sx:ok.bh 111=true)(Fu:ok.bh 139=false){b:Frame}{k:List Item}(hb:ok.bh b.fn=true){i:Nat}{r:List Nat}(ho:ops[i]?=some o)(hw:Region.wanted o (yielded ops a.tmps)=true)
  (hx:∀w,(execOp a.eval o).run Tz.prog w=.ok (.enter 80 #[.slice B n cap,now,shift]) w)
  (hn:n<=6)(hg:∀i,i<n->(g i).ok=true)(h0:0<=now)(h1:now<=20000)(bH:B<V)(aq:aI V B 0 n g)
  (aT:∀v V',f8 (fQ g n now shift) n V v V'->ak Tz.prog ok c cX Q ⟨b.at (a.put o.dst v)<|.inRegion ops r::k,cs,V'⟩):ak Tz.prog ok c cX Q ⟨b.at a<|.inRegion ops (i::r)::k,cs,V⟩:=
 ak.ey E ho hw yZ hx (C5 E yZ sx Fu (r0:=b.at a<|.inRegion ops (i::r)::k) hb hn hg h0 h1 bH aq λv V' hv=>by rw[cO ho];exact aT v V' hv)
def OU (E:ee Tz.prog ok c cX)(tS:ok.bh 52=true)(yZ:ok.bh 80=true)(sx:ok.bh 111=true)(Fu:ok.bh 139=false){r0:Frame}(ig:ok.bh r0.fn=true)
  {b' cap':Nat}(hm:aE f n=true)(hf:fk f t n)(hp:p<n)(bH:b<V)(aq:aI V b 0 n f)(bI:b'<V)(aU:aA V b' 0 n t)
  (aT:∀v V',Jz f n t p shift V v V'->ak Tz.prog ok c cX Q ⟨r0.finish v,cs,V'⟩):
  ak Tz.prog ok c cX Q ⟨Frame.enter Tz.prog 52 #[.agg #[.int .i64 now,.int .i64 shift,.slice (some ⟨b,0,none⟩) n cap,.slice (some ⟨b',0,none⟩) n cap'],.int .i64 p] .normal,r0::cs,V⟩:=by
 have hE:=enter_at (P:=Tz.prog) #[.agg #[.int .i64 now,.int .i64 shift,.slice (some ⟨b,0,none⟩) n cap,.slice (some ⟨b',0,none⟩) n cap'],.int .i64 p] Tz.func52 rfl;simp only[Tryz.ntmps52,List.size_toArray,List.length_cons,List.length_nil,Nat.reduceAdd,Nat.reduceSub,Array.replicate_succ,Array.replicate_zero,List.push_toArray,List.append_toArray,List.nil_append,List.cons_append]at hE;rw[hE];clear hE;have h6:=bZ hm;have YZ:=Mv.fX<|bg hm p hp;have FD:=iR<|hf.1 p hp;have WG:(p:Int)<n:=aa;refine ak.chain E tS [_] _ (λa' w'=>Bl V.heap.size V w'/\∃B2 B4,V.heap.size<=B2/\V.heap.size<=B4/\B2≠B4/\aH w' B2 now shift (.slice (some ⟨b,0,none⟩) n cap) (.slice (some ⟨b',0,none⟩) n cap')/\aH w' B4 0 0 (.slice none 0 0) (.slice none 0 0)/\gZ a' (rW 81 [(1,.int .i64 p),(2,.pointer<|some ⟨B2,0,none⟩),(4,.pointer<|some ⟨B4,0,none⟩),(5,.bool false)])) (λ_ _=>False) ?_ ?_ λ_ _ _ hh=>hh.elim
 .intro τ d;clear aT aq aU hf hm;simp only[aD];go_wp2;left;refine⟨PK,⟨by simp[re];omega,λk hk=>?_⟩,V.heap.size,V.heap.size+1,ac5 _,aa,aa,?_,?_,rfl,rfl⟩
  .rw[acX _ _ _ (by simp[re];omega),acX _ _ _ (by simpa[re]using hk)];rfl
  .exact(acX _ _ _<|by simp[re]).trans (heap_alloc_new (re V τ d) _)
  .have:=heap_alloc_new ((re V τ d).alloc<|.cells #[now,shift,.slice b n cap,.slice b' n cap'] 29)<|.cells #[(0:Int),(0:Int),(),()] 29;rw[show((re V τ d).alloc<|.cells #[now,shift,.slice b n cap,.slice b' n cap'] 29).heap.size=V.heap.size+1 by simp[re]]at this;exact this
 rintro a' w1 ⟨bP,B2,B4,rl,hB4,h24,bk,rs,fu⟩;obtain⟨u,rfl⟩:=fu.open;clear fu;have eO:=bP.size;have yj:aI w1 b 0 n f:=dL aq<|bP.block b bH;have N7:aA w1 b' 0 n t:=λi hi=>by have:=aU i hi;simp only[World.cell?,bP.block b' bI]at this⊢;exact this
 have Ll:b<w1:=aa;have YK:b'<w1:=aa;refine ak.BE E tS [_,_,_,_] _ (λa' w'=>t p+6<=(f p).late/\Bl V.heap.size V w'/\∃B7 BN cN,V.heap.size<=B7/\B4≠B7/\V.heap.size<=BN/\aH w' B4 0 0 (.slice none 0 0) (.slice none 0 0)/\aH w' B7 (t p) shift (.slice (some ⟨BN,0,none⟩) (al f t p n).length cN) (.slice none 0 0)/\C7 w' BN (al f t p n).length (jz<|al f t p n)/\BN<w'.heap.size/\BN≠B4/\BN≠B7/\gZ a' (rW 81 [(4,.pointer<|some ⟨B4,0,none⟩),(6,.int .i64<|t p),(7,.pointer<|some ⟨B7,0,none⟩)])) (λa' w'=>(¬t p+6<=(f p).late)/\Bl V.heap.size V w'/\a'.defers=[]/\a'.tmps[4]?=some (.pointer<|some ⟨B4,0,none⟩)/\a'.tmps[5]?=some (.bool false)/\aH w' B4 0 0 (.slice none 0 0) (.slice none 0 0)) ?_ ?_ ?_
 .intro τ d;have uc:aI (re w1 τ d) b 0 n f:=dL yj rfl;have Jg:aA (re w1 τ d) b' 0 n t:=λi hi=>N7 i hi
  have hl:b<(re w1 τ d).heap.size:=Ll;have mI:b'<(re w1 τ d).heap.size:=YK;have ww:aH (re w1 τ d) B2 now shift (.slice b n cap) (.slice b' n cap'):=bk;have qQ:aH (re w1 τ d) B4 0 0 () ():=rs;have xb:∀W,(∀k,k<V.heap.size->W.heap[k]?=(re w1 τ d).heap[k]?)->(re w1 τ d).heap.size<=W.heap.size->Bl V V W:=λW h h2=>⟨ac8 eO h2,λk hk=>(h k hk).trans<|bP.block k hk⟩
  have gj:V.heap.size<=(re w1 τ d).heap.size:=eO;revert uc Jg hl mI ww qQ xb gj;generalize re w1 τ d=w0;intro uc Jg hl mI ww qQ xb gj;clear aT aq aU yj N7 bk rs bP;let⟨p0,p1,p2,p3,p4,p5⟩:=uc p hp;have tp:=Jg p hp;simp only[Nat.zero_add]at p0 p1 p2 p3 p4 p5 tp;have kk:=ww.cells;let⟨Pe,r1',r2',r3',r4'⟩:=qQ.cells;have Ce:IntKind.i64.wrap (t p+6)=t p+6:=hZ;have lB2:=ww.lt;have lB4:=qQ.lt;let⟨iM,hI,Kf,Sj,Sk⟩:=eJ;have hlen:=fT f t p;simp only[aD];by_cases hle:t p+6<=(f p).late
  .have IJ:¬(f p).late<t p+6:=by omega
   go_wp2;all_goals try omega
   go_loopw [34,8,9] (λx _ _ W=>∃(k:Nat) (vM:Value),x=.int .i64 k/\k<=n/\Rb w0 (w0.heap.size+1) B2 B4 w0.heap.size now shift (t p) (.slice (some ⟨b,0,none⟩) n cap) (.slice (some ⟨b',0,none⟩) n cap') vM (al f t p k) W) (λx _ _ _=>n-(intOf x).toNat)
   case atStart=>
    have bA:Below w0 w0 (w0.alloc<|.cells #[.int .i64<|t p,shift,(),()] 29):=(acW _ _).alloc (ac5 _) _;exact⟨0,(),rfl,ada _,⟨ww.same<|bA.block _ lB2,qQ.same<|bA.block _ lB4,heap_alloc_new _ _,World.ownsRow_nil _ _ _ _,bA,aF⟩⟩
   case round=>
    obtain⟨k,vM,rfl,hk,hR⟩:=hrel;have Zz:=ac6 hl hR.below.size;have Nv:=ac6 mI hR.below.size;have Pb:=hR.bk.lt;have lb7:=hR.nx.lt;by_cases aB:k<n
    .have dr:(k:Int)<n:=by omega
     let⟨c0,c1,c2,c3,c4,c5⟩:=uc.below hR.below hl k aB;have tk:=Jg.below hR.below mI k aB;simp only[Nat.zero_add]at c0 c1 c2 c3 c4 c5 tk;let⟨m0,m1,m2,m3,m4⟩:=hR.bk.cells;let⟨x0,x1,x2,x3,x4⟩:=hR.nx.cells;by_cases hsk:t k<t p
     .go_wp2;all_goals try omega
      go_roundw
      case rel=>exact⟨k+1,vM,by go_num,aa,by simp only[al,if_pos hsk];exact hR.grow<|(acW _ _).alloc (ac5 _) _⟩
      case measure=>exact cI
     .by_cases Wz:k=p
      .subst Wz;have hLk:=hlen k;have HG:=λW (hb:Below wr wr W)=>hR.grow hb
       go_wp2_with(at_builtin;go_loud (refine wpList_append_own _ rfl (.tmp 62) (.tmp 64) 23 rfl (w0.heap.size+1) 31 iM _ 6 56 aP hI Kf Sj Sk rfl bF vM (al f t k k).length (aV (jz<|al f t k k) (al f t k k).length) cj (HG _ vq).own ⟨wr.heap.size+1,0,none⟩ 1 1 (Mv.cells<|wU (f k)<|t k).toList cj rfl (tY<|dq _ _ _) (fY _) jl aa (HG _ vq).Tx ?_;intro v8 w8 Aw yO _;obtain⟨B8,c8,rfl⟩:=kN Aw;have yy:=((HG _ vq).Pd yO aa).cells;have l8:w0.heap.size<w8.heap.size:=((HG _ vq).Pd yO aa).lt))
       all_goals try omega
       go_roundw
       case rel=>exact⟨k+1,_,by go_num,aa,by rw[lD hsk,zN];exact(HG _ vq).append aa aa aa aa aa (ac5 _) Aw yO⟩
       case measure=>exact cI
      .have aa0:¬(k:Int)=p:=by omega
       have hLk:=hlen k;obtain⟨m',tU⟩:∃m',de (f k) (t k) (t p)=m':=⟨_,rfl⟩;have HP:∀W,Calls Tz.prog 79 #[.agg #[.string (f k).name,.bool (f k).aj,.int .i64 (f k).ap,.int .i64 (f k).aW,.int .i64 (f k).late,.int .i64 (f k).prom],.int .i64<|t k,.int .i64<|t p] W λe w'=>e=.returned (.agg #[m'.name,m'.aj,m'.ap,m'.aW,m'.late,m'.prom])/\Below W.heap.size W w':=λW=>by
        rw[<-tU];exact CF (f k) (t k) (t p) W aa aa
       go_wp2;all_goals try omega
       have Gs:(wr.alloc<|.cells #[.string (f k).name,.bool (f k).aj,.int .i64 (f k).ap,.int .i64 (f k).aW,.int .i64 (f k).late,.int .i64 (f k).prom] 31).heap[wr.heap.size]?=some (.cells (f k).cells 31 (0,0)):=heap_alloc_new _ _;have bA:Below wr wr (wr.alloc<|.cells #[.string (f k).name,.bool (f k).aj,.int .i64 (f k).ap,.int .i64 (f k).aW,.int .i64 (f k).late,.int .i64 (f k).prom] 31):=(acW _ _).alloc (ac5 _) _;revert Gs bA;generalize (wr.alloc<|.cells #[.string (f k).name,.bool (f k).aj,.int .i64 (f k).ap,.int .i64 (f k).aW,.int .i64 (f k).late,.int .i64 (f k).prom] 31)=W9;intro Gs bA;obtain⟨B9,O0⟩:∃B9,B9=wr.heap.size:=⟨_,rfl⟩;rw[<-O0]at Gs⊢;have JY:wr.heap.size<=B9:=aa;clear O0;have n3:=(bA.cell (p:=⟨B2,3,none⟩) Pb).trans m3;have ntk:=(bA.cell (p:=⟨b',k,none⟩) Nv).trans tk;have zz:=PI Gs;have l9:B9<W9:=(ac7.1 Gs).1;clear c0 c1 c2 c3 c4 c5 m0 m1 m2 m3 m4 x0 x1 x2 x3 x4 tk;have l92:B2<W9:=ac6 Pb bA.size;have l9':b'<W9:=ac6 Nv bA.size;go_region_with(go_at_call 79;refine(HP _).mono ?_;clear HP;rintro e w4 ⟨rfl,b4⟩;have Qm:w4.heap[B9]?=some (.cells (f k).cells 31 (0,0)):=(b4.block B9 l9).trans Gs;let⟨q0,q1,q2,q3,q4,q5⟩:=PI Qm;have fr4:=(λj=>frozen_of_row w4 B9 j _ _ Qm))
       all_goals
        have dz:=abA Qm m';have Tu:Below wr wr ((((((w4.setCell B9 m'.name).setCell ⟨B9,1,none⟩ m'.aj).setCell ⟨B9,2,none⟩ m'.ap).setCell ⟨B9,3,none⟩ m'.aW).setCell ⟨B9,4,none⟩ m'.late).setCell ⟨B9,5,none⟩ m'.prom):=((((((bA.drew.trans<|b4.mono bA.drew.size).setCell (p:=B9) JY _).setCell (p:=⟨B9,1,none⟩) JY _).setCell (p:=⟨B9,2,none⟩) JY _).setCell (p:=⟨B9,3,none⟩) JY _).setCell (p:=⟨B9,4,none⟩) JY _).setCell (p:=⟨B9,5,none⟩) JY _;revert dz Tu;generalize ((((((w4.setCell ⟨B9,0,none⟩<|.string m'.name).setCell ⟨B9,1,none⟩<|.bool m'.aj).setCell ⟨B9,2,none⟩<|.int .i64 m'.ap).setCell ⟨B9,3,none⟩<|.int .i64 m'.aW).setCell ⟨B9,4,none⟩<|.int .i64 m'.late).setCell ⟨B9,5,none⟩<|.int .i64 m'.prom)=W6;intro dz Tu;clear Qm q0 q1 q2 q3 q4 q5 fr4 Gs zz n3 ntk bA;have hR6:=hR.grow Tu;have yy:=hR6.nx.cells;have zz:=PI dz;have lb6:=hR6.nx.lt;have HG:=λW (hb:Below W6 W6 W)=>hR6.grow hb
        go_wp2_with(at_builtin;refine wpList_append_own _ rfl (.tmp 62) (.tmp 64) 23 rfl (w0.heap.size+1) 31 iM _ 6 56 aP hI Kf Sj Sk rfl bF vM (al f t p k).length (aV (jz<|al f t p k) (al f t p k).length) cj (HG _ vq).own ⟨_,0,none⟩ 1 1 (Mv.cells m').toList cj rfl (tY<|heap_alloc_new _ _) (fY _) jl aa (HG _ vq).Tx ?_;intro v8 w8 Aw yO _;obtain⟨B8,c8,rfl⟩:=kN Aw;let⟨k0',Zw,WT,k3',k4'⟩:=((HG _ vq).Pd yO aa).cells;have l8:w0.heap.size<w8.heap.size:=((HG _ vq).Pd yO aa).lt)
        go_roundw
        case rel=>exact⟨k+1,_,by go_num,aa,by rw[lD aa,uq Wz,tU];exact(HG _ vq).append aa aa aa aa aa (ac5 _) Aw yO⟩
        case measure=>exact cI
    .have dr:¬(k:Int)<n:=by omega
     have tD:k=n:=aa;subst tD;have gF:=qx (f:=f) (t:=t) (p:=p) hp;obtain⟨BN,cN,rfl⟩:∃BN cN,vM=.slice (some ⟨BN,0,none⟩) (al f t p k).length cN:=by
      rcases hR.own.2 with⟨_,e⟩|⟨g,cap,cur,e,_⟩
      .omega
      .exact⟨g,cap,e⟩
     let⟨lo,hi⟩:=hR.own.lt BN rfl;go_wp2;all_goals try omega
     exact⟨xb _ (λq hq=>hR.below.block q aa) hR.below.size,w0.heap.size,gj,aa,BN,aa,hR.res,⟨cN,hR.nx⟩,Cz hR.own,hi,aa,aa,rfl,rfl⟩
  .have IJ:(f p).late<t p+6:=by omega
   go_wp2;all_goals try omega
   rw[te qQ];have oG:=xb _ (λk hk=>setRow_other w0 B4 _ #[(0:Int),(0:Int),(),()] aa) (by rw[setRow_size];exact ac5 _);have hB:=setRow_heap w0 B4 _ #[(0:Int),(0:Int),(),()] _ _ qQ;first
    |exact⟨oG,rfl,rfl,hB⟩
    |exact⟨oG,rfl,rfl,rfl,hB⟩
    |exact⟨hle,oG,rfl,rfl,rfl,hB⟩
    |exact⟨oG,hB⟩
 .rintro a' w2 ⟨hle,cP,B7,BN,cN,T9,h47,uB,res,nx,N8,Sl,hN4,hN7,fu⟩;clear u yj N7 bk rs bP;obtain⟨u,rfl⟩:=fu.open;clear fu;have hRr:dV f n t p=fQ (jz<|al f t p n) (al f t p n).length (t p) 6:=by unfold dV;rw[if_pos hle]
  have hlen:=fT f t p n;have gM:=cP.size;obtain⟨r,hr⟩:∃r,dV f n t p=r:=⟨_,rfl⟩;obtain⟨br,nR⟩:∃br,r.isSome=br:=⟨_,rfl⟩;refine ak.seq E tS<|ak.region E tS ?_;rw[lp];refine ak.kw E tS 0 3 aF (λa' w'=>(∃τ d,w'=re w2 τ d)/\gZ a' (rW 81 [(4,.pointer B4),(6,.int .i64<|t p),(7,.pointer B7),(70,.slice BN (al f t p n).length cN),(71,.int .i64<|t p)])) ?_ ?_
  .intro τ d;have nx':aH (re w2 τ d) B7 (t p) shift (.slice BN (al f t p n).length cN) ():=nx;have yy:=nx'.cells;clear aT;simp only[aN];go_wp2;exact⟨⟨τ,d,rfl⟩,rfl,rfl⟩
  rintro a' w' ⟨⟨τ,d,rfl⟩,fu⟩;clear u;obtain⟨u,rfl⟩:=fu.open;clear fu;refine ak.Vq E yZ sx Fu tS (i:=3) rfl rfl (B:=BN) (n:=(al f t p n).length) (cap:=cN) (g:=jz<|al f t p n) (now:=t p) (shift:=6) (λw=>C8) aa (λi hi=>rU hm hf hp hle hi) aa aa Sl (dL N8.1 rfl) ?_;intro v V3 fO;rw[<-hRr,hr]at fO;obtain⟨v5,rfl,t5,Uo⟩:=vP fO;have iw:Bl w2 w2 V3:=⟨Uo.size,Uo.block⟩;replace t5:Tk r (al f t p n).length w2.heap.size V3 v5:=t5;rw[nR];clear fO Uo;refine ak.kw E tS 4 5 aF (λa' w'=>(∃τ d,w'=re V3 τ d)/\gZ a' (rW 81 [(4,.pointer B4),(6,.int .i64<|t p),(7,.pointer B7),(10,v5),(11,br)])) ?_ ?_
  .intro τ d;clear aT;simp only[aN,Act.put];go_wp2;exact⟨⟨τ,d,rfl⟩,rfl,rfl⟩
  rintro a' w' ⟨⟨Lr,d3,rfl⟩,fu⟩;clear u;obtain⟨u,rfl⟩:=fu.open;clear fu;refine ak.regionEnd E tS ?_;have Nj:=iw.size;have Z3:aH V3 B4 0 0 () ():=res.same<|iw.block B4 res.lt;have nx3:aH V3 B7 (t p) shift (.slice BN (al f t p n).length cN) ():=nx.same<|iw.block B7 nx.lt;have ST:C7 V3 BN (al f t p n).length (jz<|al f t p n):=N8.same<|iw.block BN Sl;have Ul:Bl V V V3:=cP.trans iw gM;have lN:=nx.lt;have l4:=res.lt;clear nx res N8 cP iw;have gD:∀(a':Act) (w':World) (todo:List Item),(∃(x0 x1:Int) (x2:Option Addr) (l2 c2:Nat) (x3:Option Addr) (l3 c3:Nat),w'.heap[B4]?=some (.cells #[x0,x1,.slice x2 l2 c2,.slice x3 l3 c3] 29 (0,0))/\Bl V V w'/\(∀T,r=some T->∃BN BT,V.heap.size<=BN/\V.heap.size<=BT/\x0=t p/\x1=shift/\x2=some ⟨BN,0,none⟩/\l2=(al f t p n).length/\x3=some ⟨BT,0,none⟩/\l3=(al f t p n).length/\C7 w' BN (al f t p n).length (jz<|al f t p n)/\aC w' BT (al f t p n).length T)/\gZ a' (rW 81 [(4,.pointer B4),(5,br)]))->ak Tz.prog ok c cX Q ⟨{(base 52).at a' todo with mode:=.returning},r0::cs,w'⟩:=by
   rintro a' w' todo ⟨x0,x1,x2,l2,c2,x3,l3,c3,hc,oG,hT,fu⟩;obtain⟨u,rfl⟩:=fu.open;refine ak.leave E ig (v:=.tuple #[.agg #[x0,x1,.slice x2 l2 c2,.slice x3 l3 c3],br]) (λτ d=>⟨rfl,rfl,rfl,_,Tz.func52,?_⟩)<|aT _ _ ⟨⟨x0,x1,x2,l2,c2,x3,l3,c3,by rw[hr,nR],λT X5=>hT T<|hr.symm.trans X5⟩,oG⟩;have q0:(re w' τ d).cell? B4=some (.int .i64 x0):=by have h:(re w' τ d).heap[B4]?=_:=hc;simp[World.cell?,h]
   have q1:(re w' τ d).cell? ⟨B4,1,none⟩=some (.int .i64 x1):=by have h:(re w' τ d).heap[B4]?=_:=hc;simp[World.cell?,h]
   have q2:(re w' τ d).cell? ⟨B4,2,none⟩=some (.slice x2 l2 c2):=by have h:(re w' τ d).heap[B4]?=_:=hc;simp[World.cell?,h]
   have q3:(re w' τ d).cell? ⟨B4,3,none⟩=some (.slice x3 l3 c3):=by have h:(re w' τ d).heap[B4]?=_:=hc;simp[World.cell?,h]
   show Sem.run Tz.prog (results Tryz.f52<|(rW 81 [(4,.pointer B4),(5,br)]) u) (re w' τ d)=.ok (.tuple #[.agg #[x0,x1,.slice x2 l2 c2,.slice x3 l3 c3],br]) (re w' τ d);simp[results,Tryz.f52,go_sem,q0,q1,q2,q3]
  refine ak.last E tS [_,_,_] (λa' w'=>∃(x0 x1:Int) (x2:Option Addr) (l2 c2:Nat) (x3:Option Addr) (l3 c3:Nat),w'.heap[B4]?=some (.cells #[x0,x1,.slice x2 l2 c2,.slice x3 l3 c3] 29 (0,0))/\Bl V V w'/\(∀T,r=some T->∃BN BT,V.heap.size<=BN/\V.heap.size<=BT/\x0=t p/\x1=shift/\x2=some ⟨BN,0,none⟩/\l2=(al f t p n).length/\x3=some ⟨BT,0,none⟩/\l3=(al f t p n).length/\C7 w' BN (al f t p n).length (jz<|al f t p n)/\aC w' BT (al f t p n).length T)/\gZ a' (rW 81 [(4,.pointer B4),(5,br)])) ?_ gD;intro τ d;clear gD aT;have KD:aH (re (re V3 Lr d3) τ d) B4 0 0 () ():=Z3;have nx0:aH (re (re V3 Lr d3) τ d) B7 (t p) shift (.slice BN (al f t p n).length cN) ():=nx3;have uc:C7 (re (re V3 Lr d3) τ d) BN (al f t p n).length (jz<|al f t p n):=ST.same rfl;have t50:Tk r (al f t p n).length w2.heap.size (re (re V3 Lr d3) τ d) v5:=t5.same λ_ _ _=>rfl
  have Wv:Bl V V (re (re V3 Lr d3) τ d):=⟨Ul.size,Ul.block⟩;revert KD nx0 uc t50 Wv;generalize re (re V3 Lr d3) τ d=w0;intro KD nx0 uc t50 Wv;clear Z3 nx3 ST t5 Ul;let⟨Pe,r1',r2',r3',r4'⟩:=KD.cells;have yy:=nx0.cells;simp only[aD];cases r with
  |none=>
   subst nR;simp only[Option.isSome_none];go_wp2;all_goals try omega
   rw[te KD];right;exact⟨PK,_,_,_,_,_,_,_,_,setRow_heap _ _ _ _ _ _ KD,⟨aan,λk hk=>(setRow_other _ _ _ _ aa).trans<|Wv.block k hk⟩,(λT h=>qC),rfl,rfl⟩
  |some T=>
   obtain⟨BT,cT,JZ,rfl,oT⟩:=t50;subst nR;simp only[Option.isSome_some];go_wp2;all_goals try omega
   have hs:∀k,k≠B7->(w0.setCell ⟨B7,3,none⟩<|.slice BT (al f t p n).length cT).heap[k]?=w0.heap[k]?:=λk hk=>acY _ _ _ k hk
   have rF:(w0.setCell ⟨B7,3,none⟩<|.slice BT (al f t p n).length cT).heap.size=w0.heap.size:=aF;revert hs rF;generalize w0.setCell ⟨B7,3,none⟩ (.slice (some ⟨BT,0,none⟩) (al f t p n).length cT)=w5;intro hs rF;have Z4:=KD.same<|hs B4 h47;rw[te Z4];have ho:∀k,k≠B7->k≠B4->∀row,(w5.setRow B4 row).heap[k]?=w0.heap[k]?:=λk h1 h2 row=>(setRow_other _ _ _ _ h2).trans<|hs k h1
   left;exact⟨PK,_,_,_,_,_,_,_,_,setRow_heap _ _ _ _ _ _ Z4,⟨by rw[setRow_size,rF];exact Wv.size,λk hk=>(ho k aa aa _).trans<|Wv.block k hk⟩,λT' h=>by
    obtain rfl:=adb h;exact⟨BN,BT,uB,aa,rfl,rfl,rfl,rfl,rfl,rfl,uc.same<|ho BN hN7 hN4 _,fD oT<|ho BT aa aa _⟩,rfl,rfl⟩
 .rintro a' w2 todo ⟨hle,cP,hd,h4,h5,res⟩;refine ak.leave E ig (v:=.tuple #[.agg #[(0:Int),(0:Int),(),()],false]) (λτ d=>⟨rfl,hd,rfl,_,Tz.func52,?_⟩)<|aT _ _ ⟨⟨0,0,none,0,0,none,0,0,by unfold dV;rw[if_neg hle];rfl,λT hT=>by unfold dV at hT;rw[if_neg hle]at hT;cases hT⟩,cP⟩;have hc:(re w2 τ d).heap[B4]?=_:=res;have q0:(re w2 τ d).cell? B4=some (.int .i64 0):=by simp[World.cell?,hc]
  have q1:(re w2 τ d).cell? ⟨B4,1,none⟩=some (.int .i64 0):=by simp[World.cell?,hc]
  have q2:(re w2 τ d).cell? ⟨B4,2,none⟩=some (.slice none 0 0):=by simp[World.cell?,hc]
  have q3:(re w2 τ d).cell? ⟨B4,3,none⟩=some (.slice none 0 0):=by simp[World.cell?,hc]
  show Sem.run Tz.prog (results Tryz.f52 a'.tmps) (re w2 τ d)=.ok (.tuple #[.agg #[(0:Int),(0:Int),(),()],false]) (re w2 τ d);simp[results,Tryz.f52,go_sem,q0,q1,q2,q3,h4,h5]
end
def GU (m:Mv)(tick:Int)(w:World)(h0:0<=tick)(h1:tick<=20000):
  Calls Tz.prog 113 #[.agg #[.string m.name,.bool m.aj,.int .i64 m.ap,.int .i64 m.aW,.int .i64 m.late,.int .i64 m.prom],.int .i64 tick] w λe w'=>e=.returned (.tuple #[.agg #[.string m.name,.bool m.aj,.int .i64 m.ap,.int .i64<|tick+6,.int .i64 m.late,.int .i64 (-1)],.bool<|decide (tick+6<=m.late)])/\Below w.heap.size w w':=by
 have Ce:IntKind.i64.wrap (tick+6)=tick+6:=hZ;go_enter Tz.func113,Tryz.ntmps113
 go_wp2;go_region
 all_goals
  go_wp2;refine bodyPost_ret (v:=.tuple #[.agg #[.string m.name,.bool m.aj,.int .i64 m.ap,.int .i64<|tick+6,.int .i64 m.late,.int .i64 (-1)],.bool<|decide (tick+6<=m.late)]) (by simp[results,Tryz.results113,go_sem]) rfl ⟨rfl,?_⟩;repeat(first|exact acW _ _|refine Below.drew ?_|refine ac0 ?_ qB _|refine acZ ?_ qB _)
def mU (f:Nat->Mv)(n:Nat)(t:Nat->Int)(p:Nat)(shift:Int)(w:World)(e:Ending)(w':World):Prop:=
 if t p+6<=(f p).late then∃BN cN,e=.returned (.tuple #[.agg #[.int .i64<|t p,.int .i64 shift,.slice (some ⟨BN,0,none⟩) (al f t p n).length cN,.slice none 0 0],.bool true])/\w.heap.size<=BN/\BN<w'.heap.size/\aI w' BN 0 (al f t p n).length (jz<|al f t p n)
 else e=.returned (.tuple #[.agg #[(0:Int),(0:Int),.slice none 0 0,.slice none 0 0],.bool false])
def GV (b n cap b' cap' p:Nat)(f:Nat->Mv)(t:Nat->Int)(now shift:Int)(w:World)(hm:aE f n=true)(hf:fk f t n)(hp:p<n)(bH:b<w.heap.size)(aq:aI w b 0 n f)(bI:b'<w.heap.size)(aU:aA w b' 0 n t):
  Calls Tz.prog 83 #[.agg #[.int .i64 now,.int .i64 shift,.slice (some ⟨b,0,none⟩) n cap,.slice (some ⟨b',0,none⟩) n cap'],.int .i64 p] w λe w'=>mU f n t p shift w e w'/\Below w.heap.size w w':=by
 have h6:=bZ hm;have YZ:=Mv.fX<|bg hm p hp;have FD:=iR<|hf.1 p hp;have WG:(p:Int)<n:=aa;have tp:=aU p hp;simp only[Nat.zero_add]at tp;have mF:∀o1 o2,Below w.heap.size w ((w.alloc o1).alloc o2):=λo1 o2=>((acW _ w).alloc (ac5 _) _).alloc aF _
 have tp2:∀o1 o2,((w.alloc o1).alloc o2).cell? ⟨b',p,none⟩=some (.int .i64<|t p):=λo1 o2=>((mF o1 o2).cell (p:=⟨b',p,none⟩) bI).trans tp
 let⟨iM,hI,Kf,Sj,Sk⟩:=eJ;have hlen:=fT f t p;go_enter Tz.func83,Tryz.ntmps83
 go_wp2;have Yf:aH (((w.alloc<|.cells #[.int .i64 now,.int .i64 shift,.slice (some ⟨b,0,none⟩) n cap,.slice (some ⟨b',0,none⟩) n cap'] 29).alloc<|.cells #[(0:Int),(0:Int),.slice none 0 0,.slice none 0 0] 29).alloc<|.cells #[.int .i64<|t p,.int .i64 shift,.slice none 0 0,.slice none 0 0] 29) w.heap.size now shift (.slice (some ⟨b,0,none⟩) n cap) (.slice (some ⟨b',0,none⟩) n cap'):=(acX _ _ _ cU).trans<|(acX _ _ _ aF).trans<|heap_alloc_new _ _;have Uq:aH (((w.alloc<|.cells #[.int .i64 now,.int .i64 shift,.slice (some ⟨b,0,none⟩) n cap,.slice (some ⟨b',0,none⟩) n cap'] 29).alloc<|.cells #[(0:Int),(0:Int),.slice none 0 0,.slice none 0 0] 29).alloc<|.cells #[.int .i64<|t p,.int .i64 shift,.slice none 0 0,.slice none 0 0] 29) (w.heap.size+1) 0 0 (.slice none 0 0) (.slice none 0 0):=(acX _ _ _ aF).trans<|dq _ _ _;have Ur:aH (((w.alloc<|.cells #[.int .i64 now,.int .i64 shift,.slice (some ⟨b,0,none⟩) n cap,.slice (some ⟨b',0,none⟩) n cap'] 29).alloc<|.cells #[(0:Int),(0:Int),.slice none 0 0,.slice none 0 0] 29).alloc<|.cells #[.int .i64<|t p,.int .i64 shift,.slice none 0 0,.slice none 0 0] 29) (w.heap.size+1+1) (t p) shift (.slice none 0 0) (.slice none 0 0):=by
  have:=dq (w.alloc<|.cells #[.int .i64 now,.int .i64 shift,.slice (some ⟨b,0,none⟩) n cap,.slice (some ⟨b',0,none⟩) n cap'] 29) (.cells #[(0:Int),(0:Int),.slice none 0 0,.slice none 0 0] 29)<|.cells #[.int .i64<|t p,.int .i64 shift,.slice none 0 0,.slice none 0 0] 29;rw[ac1]at this;exact this
 have oG:Below w.heap.size w (((w.alloc<|.cells #[.int .i64 now,.int .i64 shift,.slice (some ⟨b,0,none⟩) n cap,.slice (some ⟨b',0,none⟩) n cap'] 29).alloc<|.cells #[(0:Int),(0:Int),.slice none 0 0,.slice none 0 0] 29).alloc<|.cells #[.int .i64<|t p,.int .i64 shift,.slice none 0 0,.slice none 0 0] 29):=(mF _ _).alloc cU _;obtain⟨B4,hB4⟩:∃B,B=w.heap.size+1:=⟨_,rfl⟩;obtain⟨B7,T9⟩:∃B,B=w.heap.size+1+1:=⟨_,rfl⟩;rw[<-T9]at Ur⊢;rw[<-hB4]at Uq⊢;have q4:w.heap.size<B4/\B4<w.heap.size+3/\B4≠B7:=⟨aa,aa,aa⟩;have q7:w.heap.size<B7/\B7<w.heap.size+3:=⟨aa,aa⟩;clear hB4 T9;let⟨q41,q42,q43⟩:=q4;let⟨q71,q72⟩:=q7;go_loopw [8,9,10,11] (λx _ _ _ W=>∃(k:Nat) (vM:Value),x=.int .i64 k/\k<=n/\(¬t p+6<=(f p).late->k<=p)/\Rb w (w.heap.size+3) w.heap.size B4 B7 now shift (t p) (.slice (some ⟨b,0,none⟩) n cap) (.slice (some ⟨b',0,none⟩) n cap') vM (al f t p k) W) (λx _ _ _ _=>n-(intOf x).toNat)
 case atStart=>exact⟨0,.slice none 0 0,rfl,ada _,λ_=>ada _,⟨Yf,Uq,Ur,World.ownsRow_nil _ _ _ _,oG,aF⟩⟩
 case round=>
  clear Yf Uq Ur oG tp2 mF;obtain⟨k,vM,rfl,hk,Qq,hR⟩:=hrel;have Zz:=ac6 bH hR.below.size;have Nv:=ac6 bI hR.below.size;have Pb:=hR.bk.lt;have lb4:=hR.res.lt;have lb7:=hR.nx.lt;have mm:=hR.bk.cells;have xx:=hR.nx.cells;by_cases aB:k<n
  .have dr:(k:Int)<n:=by omega
   let⟨c0,c1,c2,c3,c4,c5⟩:=aq.below hR.below bH k aB;have tk:=aU.below hR.below bI k aB;simp only[Nat.zero_add]at c0 c1 c2 c3 c4 c5 tk;have hLk:=hlen k;by_cases Wz:k=p
   .subst Wz;have HQ:=λW=>GU (f k) (t k) W aa aa
    by_cases hle:t k+6<=(f k).late
    .go_wp2_with(first
      |(go_at_call 113;refine(HQ _).mono ?_;clear HQ;rintro e w3 ⟨rfl,b3⟩;have Qh:=(hR.grow<|(acW _ _).alloc (ac5 _) _).grow b3;let⟨y0,y1,y2,y3,y4⟩:=Qh.nx.cells;have abl:=Qh.nx.lt;have y2':∀o,(w3.alloc o).cell? ⟨B7,2,none⟩=some vM:=(λo=>(World.cell?_alloc_past _ _ _ abl).trans y2);have HG:=λW (hb:Below w3.heap.size w3 W)=>Qh.grow hb)
      |(at_builtin;refine wpList_append_own _ rfl (.tmp 46) (.tmp 48) 23 rfl (w.heap.size+3) 31 iM _ 6 56 aP hI Kf Sj Sk rfl bF vM (al f t k k).length (aV (jz<|al f t k k) (al f t k k).length) cj (HG _ vq).own ⟨w3.heap.size+1,0,none⟩ 1 1 (Mv.cells<|wU (f k)<|t k).toList cj rfl (tY<|dq _ _ _) (fY _) jl aa (HG _ vq).Tx ?_;intro v8 w8 Aw yO _;obtain⟨B8,c8,rfl⟩:=kN Aw;let⟨k0',Zw,WT,k3',k4'⟩:=((HG _ vq).Pd yO aa).cells;have l8:B7<w8.heap.size:=((HG _ vq).Pd yO aa).lt))
     all_goals try omega
     go_roundw
     case rel=>exact⟨k+1,_,by go_num,aa,λh=>absurd hle h,by rw[lD aa,zN];exact(HG _ vq).append aa aa aa aa aa aa Aw yO⟩
     case measure=>exact cI
    .have hdl:decide (t k+6<=(f k).late)=false:=by simpa using hle
     have HD:Hid (decide (t k+6<=(f k).late)=false):=hdl;go_wp2_with(go_at_call 113;refine(HQ _).mono ?_;clear HQ;rintro e w3 ⟨rfl,b3⟩;rw[HD.out];have Qh:=(hR.grow<|(acW _ _).alloc (ac5 _) _).grow b3;let⟨y0,y1,y2,y3,y4⟩:=Qh.res.cells;have acE:=Qh.res.lt)
     all_goals try omega
     rw[te Qh.res];have tE:=setRow_heap w3 B4 _ #[(0:Int),(0:Int),.slice none 0 0,.slice none 0 0] _ _ Qh.res;have ix:=below_setRow Qh.below (by omega:w.heap.size<=B4) #[(0:Int),(0:Int),.slice none 0 0,.slice none 0 0];have rF:(w3.setRow B4 #[(0:Int),(0:Int),.slice none 0 0,.slice none 0 0]).heap.size=w3.heap.size:=setRow_size _ _ _;revert tE ix rF;generalize w3.setRow B4 #[(0:Int),(0:Int),.slice none 0 0,.slice none 0 0]=W5;intro tE ix rF;have hb6:=λo=>ix.alloc (o:=o) ix.size
     have DX:=λo=>(acX W5 o B4 aa).trans tE
     have q0:∀o,(W5.alloc o).cell? ⟨B4,0,none⟩=some (.int .i64 0):=λo=>by simp[World.cell?,DX]
     have q1:∀o,(W5.alloc o).cell? ⟨B4,1,none⟩=some (.int .i64 0):=λo=>by simp[World.cell?,DX]
     have q2:∀o,(W5.alloc o).cell? ⟨B4,2,none⟩=some (.slice none 0 0):=λo=>by simp[World.cell?,DX]
     have q3:∀o,(W5.alloc o).cell? ⟨B4,3,none⟩=some (.slice none 0 0):=λo=>by simp[World.cell?,DX]
     refine bodyPost_ret (v:=.tuple #[.agg #[(0:Int),(0:Int),.slice none 0 0,.slice none 0 0],.bool false]) ?_ rfl ⟨by unfold mU;rw[if_neg aa],hb6 _⟩;simp[results,Tryz.f83,go_sem,q0,q1,q2,q3]
   .have aa0:¬(k:Int)=p:=by omega
    by_cases hsk:t k<t p
    .go_wp2;all_goals try omega
     go_roundw
     case rel=>exact⟨k+1,vM,by go_num,aa,λh=>by have:=Qq h;omega,by simp only[al,if_pos hsk];exact hR.grow<|(acW _ _).alloc (ac5 _) _⟩
     case measure=>exact cI
    .have Ce:IntKind.i64.wrap (t p+4)=t p+4:=by rw[IntKind.wrap_i64];omega
     have HG:=λW (hb:Below wr.heap.size wr W)=>hR.grow hb
     by_cases hso:t k<t p+4
     .go_wp2_with(at_builtin;refine wpList_append_own _ rfl (.tmp 73) (.tmp 75) 23 rfl (w.heap.size+3) 31 iM _ 6 56 aP hI Kf Sj Sk rfl bF vM (al f t p k).length (aV (jz<|al f t p k) (al f t p k).length) cj (HG _ vq).own ⟨wr.heap.size+1,0,none⟩ 1 1 (Mv.cells<|{f k with prom:=t k}).toList cj rfl (tY<|dq _ _ _) (fY _) jl aa (HG _ vq).Tx ?_;intro v8 w8 Aw yO _;obtain⟨B8,c8,rfl⟩:=kN Aw;let⟨k0',Zw,WT,k3',k4'⟩:=((HG _ vq).Pd yO aa).cells;have l8:B7<w8.heap.size:=((HG _ vq).Pd yO aa).lt)
      all_goals try omega
      go_roundw
      case rel=>exact⟨k+1,_,by go_num,aa,λh=>by have:=Qq h;omega,by rw[lD aa,uq Wz,show de (f k) (t k) (t p)={f k with prom:=t k} by unfold de;rw[if_pos aa]];exact(HG _ vq).append aa aa aa aa aa aa Aw yO⟩
      case measure=>exact cI
     .go_wp2_with(at_builtin;refine wpList_append_own _ rfl (.tmp 73) (.tmp 75) 23 rfl (w.heap.size+3) 31 iM _ 6 56 aP hI Kf Sj Sk rfl bF vM (al f t p k).length (aV (jz<|al f t p k) (al f t p k).length) cj (HG _ vq).own ⟨wr.heap.size+1,0,none⟩ 1 1 (Mv.cells<|f k).toList cj rfl (tY<|dq _ _ _) (fY _) jl aa (HG _ vq).Tx ?_;intro v8 w8 Aw yO _;obtain⟨B8,c8,rfl⟩:=kN Aw;let⟨k0',Zw,WT,k3',k4'⟩:=((HG _ vq).Pd yO aa).cells;have l8:B7<w8.heap.size:=((HG _ vq).Pd yO aa).lt)
      all_goals try omega
      go_roundw
      case rel=>exact⟨k+1,_,by go_num,aa,λh=>by have:=Qq h;omega,by rw[lD aa,uq Wz,show de (f k) (t k) (t p)=f k by unfold de;rw[if_neg aa]];exact(HG _ vq).append aa aa aa aa aa aa Aw yO⟩
      case measure=>exact cI
  .have dr:¬(k:Int)<n:=by omega
   have tD:k=n:=aa;subst tD;have hle:t p+6<=(f p).late:=by
    by_cases h:t p+6<=(f p).late
    .exact h
    .have:=Qq h;omega
   have gF:=qx (f:=f) (t:=t) (p:=p) hp;obtain⟨BN,cN,rfl⟩:∃BN cN,vM=.slice (some ⟨BN,0,none⟩) (al f t p k).length cN:=by
    rcases hR.own.2 with⟨_,e⟩|⟨g,cap,cur,e,_⟩
    .omega
    .exact⟨g,cap,e⟩
   let⟨lo,hi⟩:=hR.own.lt BN rfl;have ss:=hR.res.cells;go_wp2;all_goals try omega
   rw[te hR.res];have tE:=setRow_heap wr B4 _ #[.int .i64<|t p,.int .i64 shift,.slice (some ⟨BN,0,none⟩) (al f t p k).length cN,.slice none 0 0] _ _ hR.res;have ix:=below_setRow hR.below (by omega:w.heap.size<=B4) #[.int .i64<|t p,.int .i64 shift,.slice (some ⟨BN,0,none⟩) (al f t p k).length cN,.slice none 0 0];have rF:(wr.setRow B4 #[.int .i64<|t p,.int .i64 shift,.slice (some ⟨BN,0,none⟩) (al f t p k).length cN,.slice none 0 0]).heap.size=wr.heap.size:=setRow_size _ _ _;have mo:(wr.setRow B4 #[.int .i64<|t p,.int .i64 shift,.slice (some ⟨BN,0,none⟩) (al f t p k).length cN,.slice none 0 0]).heap[BN]?=wr.heap[BN]?:=setRow_other _ _ _ _ aa;have rN:=dK hR.own;revert tE ix rF mo;generalize wr.setRow B4 #[.int .i64<|t p,.int .i64 shift,.slice (some ⟨BN,0,none⟩) (al f t p k).length cN,.slice none 0 0]=W5;intro tE ix rF mo;have q0:W5.cell? ⟨B4,0,none⟩=some (.int .i64<|t p):=by simp[World.cell?,tE]
   have q1:W5.cell? ⟨B4,1,none⟩=some (.int .i64 shift):=by simp[World.cell?,tE]
   have q2:W5.cell? ⟨B4,2,none⟩=some (.slice (some ⟨BN,0,none⟩) (al f t p k).length cN):=by simp[World.cell?,tE]
   have q3:W5.cell? ⟨B4,3,none⟩=some (.slice none 0 0):=by simp[World.cell?,tE]
   refine bodyPost_ret (v:=.tuple #[.agg #[.int .i64<|t p,.int .i64 shift,.slice (some ⟨BN,0,none⟩) (al f t p k).length cN,.slice none 0 0],.bool true]) ?_ rfl ⟨by unfold mU;rw[if_pos hle];exact⟨BN,cN,rfl,aa,aa,dL rN mo⟩,ix⟩;simp[results,Tryz.f83,go_sem,q0,q1,q2,q3]
def mO (g:Nat->Mv)(n:Nat)(iV:Int)(w:World)(e:Ending)(w':World):Prop:=
 if∀i,i<n->eD (g i) iV=true then∃B c,e=.returned (.tuple #[.slice (some ⟨B,0,none⟩) n c,true])/\w.heap.size<=B/\B<w'.heap.size/\aI w' B 0 n (eB g iV)
 else∃a l c,e=.returned (.tuple #[.slice a l c,false])
def CH {iV:Int}(h:(g k).prom=-1)(hx:iV<=(g k).aW)(i:Nat):eb g iV k i=eb g iV (k+1) i:=by
 unfold eb;by_cases e:i=k
 .subst e;rw[if_neg aa,if_pos aa];unfold jA;rw[if_pos h,show max (g i).aW iV=(g i).aW by omega]
 .by_cases h1:i<k
  .rw[if_pos h1,if_pos aa]
  .rw[if_neg h1,if_neg aa]
def ut {P:Program}{rest:List Oper}{Q:Exit->Act->World->Prop}(J8:o.guard=none)(s x:Operand)(t:TypeId)
  (ho:o.op=.call {callee:=.builtin .append,args:=#[s,x],argTypes:=#[t,t]})
  (base:Nat)(e:TypeId)(i:TypeInfo)(z:Value)(size bytes:Nat)(ht:P.underlying t=some (.slice e))(hi:P.info? e=some i)(hz:i.zero=some z)(IP:i.size=size)(W_:i.bytes=bytes)(Kg:z.cells.size=size)(jQ:0<size)
  (v:Value)(n:Nat)(xs:List Value)(hs:a.eval s=v)(bc:w.ownsRow base e size v n xs)(oW:uv w v)
  (ad:Addr)(m c:Nat)(news:List Value)(hx:a.eval x=.slice (some ad) m c)(hl:news.length=m*size)(gd:∀j u,news[j]?=some u->w.cell? (ad.add j)=some u)(h1:∀u∈news,u.oneCell'=true)(Su:∀u∈news,mf u)(hzp:∀u∈z.cells,mf u)
  (J_:n+m<=maxLen)(xd:(n+m)*bytes<=140737488355328)(Yd:base<=w)
  (h:∀v' w',w'.ownsRow base e size v' (n+m) (xs++news)->w.grownBy w' v.ownBlock->uv w' v'->(v'=()<->v=()/\m=0)->wpList P ops Q rest (a.put o.dst v') w'):wpList P ops Q (o::rest) a w:=by
 refine wpList_plain J8 λK hK=>?_
 let⟨v',w',hr,h2,h3,h4⟩:=run_append_own (P:=P) w base t o.type e i z size bytes ht hi hz IP W_ Kg jQ v n xs bc ad m c news hl gd h1 J_ xd Yd;have h5:=qR base t o.type e i z size bytes ht hi hz IP W_ Kg v n xs bc oW ad m c news hl gd h1 Su hzp J_ xd hr;unfold Oper.wp execOp;simp only[ho,resolve,invoke,builtin,Sem.run_bind,Sem.run_pure,Result.andThen_ok,List.map_toArray,List.map_cons,List.map_nil,hs,hx,hr];exact hK _ _<|h v' w' h2 h3 h5 h4
def Eb (b n cap:Nat)(g:Nat->Mv)(iV:Int)(w:World)(hn:n<=6)(hg:∀i,i<n->(g i).ok=true)(h0:0<=iV)(h1:iV<=30000)(bH:b<w)(aq:aI w b 0 n g):
  Calls Tz.prog 73 #[.slice b n cap,iV] w λe w'=>mO g n iV w e w'/\Below w w w':=by
 let⟨iM,hI,gj,Sj,Sk⟩:=eJ;have bA:Below w w (w.alloc<|.cells #[] 31):=(acW _ _).alloc (ac5 _) _;have bc:(w.alloc<|.cells #[] 31).ownsRow w.heap.size 31 6 (.slice w.heap.size 0 0) 0 []:=World.ownsRow_made w #[] 0 (ac5 _) jl aF;have Y5:uv (w.alloc<|.cells #[] 31) (.slice w.heap.size 0 0):=λB hB=>by
  simp only[Value.ownBlock,Option.some.injEq]at hB;subst hB;exact⟨#[],_,heap_alloc_new _ _,λv hv=>by simp at hv⟩
 go_enter Tz.func73,Tryz.ntmps73
 go_wp2_with(at_builtin;refine ut rfl (.tmp 8) (.tmp 9) 23 rfl w.heap.size 31 iM _ 6 56 aP hI gj Sj Sk rfl bF (.slice w.heap.size 0 0) 0 [] cj bc Y5 b n cap (aV g n) cj (bp g n) (dW<|aq.below bA bH) (eM g n) (yk g n) uU jl aa aF ?_;intro v8 w8 Aw yO hp8 Pa;simp only[Nat.zero_add,List.nil_append]at Aw)
 have hb8:Below w w w8:=bA.grown yO bA.size λq hq=>F2;obtain⟨B,c,rfl⟩:∃B c,v8=.slice (some ⟨B,0,none⟩) n c:=by
  rcases Aw.2 with⟨e,hz⟩|⟨gg,cc,cur,e,_⟩
  .exact absurd (Pa.1 e).1 aF
  .exact⟨gg,cc,e⟩
 have Z6:=dK Aw;have pl8:=hp8 B rfl;have mF:=(Aw.lt B rfl).1;clear Aw yO hp8 Pa bc Y5 bA;go_loopw [7] (λx W=>∃k:Nat,x=.int .i64 k/\k<=n/\Below w w W/\aI W B 0 n (eb g iV k)/\cg W B/\∀i,i<k->eD (g i) iV=true) (λx _=>n-(intOf x).toNat)
 case atStart=>exact⟨0,rfl,ada _,hb8,Z6.nO λi _=>by unfold eb;rw[if_neg aa],pl8,λi hi=>absurd hi<|ac9 _⟩
 case round=>
  clear Z6 pl8 hb8;obtain⟨k,rfl,hk,gK,Nb,oW,cE⟩:=hrel;by_cases aB:k<n
  .have dr:(k:Int)<n:=by omega
   have YE:eb g iV k k=g k:=by unfold eb;rw[if_neg (Nat.lt_irrefl _)]
   have ez:=Mv.fX<|hg k aB;let⟨c0,c1,c2,c3,c4,c5⟩:=Nb k aB;rw[YE]at c0 c1 c2 c3 c4 c5;simp only[Nat.zero_add]at c0 c1 c2 c3 c4 c5;have hlB:=oW.lt;by_cases hp:(g k).prom=-1
   .have FC:(g k).prom<0:=by omega
    by_cases he:(g k).aW<iV
    .have Yx:=EC oW<|k*6+3;have hx:max (g k).aW iV=iV:=aa;have rS:=(Jh Nb aB iV).nO λi _=>yd hp hx i;have pS:cg (wr.setCell ⟨B,k*6+3,none⟩ iV) B:=oW.set<|.inr<|.inl ⟨_,_,rfl⟩;have bS:=gK.setCell (p:=⟨B,k*6+3,none⟩) mF iV;have lS:(wr.setCell ⟨B,k*6+3,none⟩ iV).cell? ⟨B,k*6+4,none⟩=some (.int .i64 (g k).late):=(World.cell?_setCell_other _ _ _ _ aF).trans c4;by_cases hle:iV<=(g k).late
     .have IJ:¬(g k).late<iV:=by omega
      go_wp2;all_goals try omega
      go_roundw
      case rel=>exact⟨k+1,by go_num,aa,bS,rS,pS,λi hi=>by
       by_cases e:i=k
       .subst e;rw[ll hp];simpa using hle
       .exact cE i aa⟩
      case measure=>exact cI
     .have IJ:(g k).late<iV:=by omega
      have pg:¬∀i,i<n->eD (g i) iV=true:=λh=>by
       have:=h k aB;rw[ll hp]at this;simp at this;omega
      go_wp2;all_goals try omega
      go_ret2
      exact⟨by unfold mO;rw[if_neg pg];exact⟨_,_,_,rfl⟩,bS⟩
    .go_wp2;all_goals try omega
     go_roundw
     case rel=>exact⟨k+1,by go_num,aa,gK,Nb.nO λi _=>CH hp aa i,oW,λi hi=>by
      by_cases e:i=k
      .subst e;rw[ll hp];simp;omega
      .exact cE i aa⟩
     case measure=>exact cI
   .have FC:¬(g k).prom<0:=by omega
    go_wp2;all_goals try omega
    go_roundw
    case rel=>exact⟨k+1,by go_num,aa,gK,Nb.nO λi _=>tf hp i,oW,λi hi=>by
     by_cases e:i=k
     .subst e;exact xZ hp
     .exact cE i aa⟩
    case measure=>exact cI
  .have dr:¬(k:Int)<n:=by omega
   have tD:k=n:=aa;subst tD;go_wp2;all_goals try omega
   go_ret2
   exact⟨by unfold mO;rw[if_pos cE];exact⟨B,c,rfl,mF,oW.lt,Nb.nO λi hi=>by unfold eb eB;rw[if_pos hi]⟩,gK⟩
def rH (b n cap:Nat)(g:Nat->Mv)(now shift:Int)(w:World)(hn:n<=6)(hg:∀i,i<n->(g i).ok=true)(h0:0<=now)(h1:now<=20000)(SE:0<=shift)(DX:shift<=6)(pd:(∀i,i<n->eD (g i) (now+4)=true)->aE (eB g<|now+4) n=true)(bH:b<w)(aq:aI w b 0 n g):
  Calls Tz.prog 44 #[.slice b n cap,now,shift] w λe w'=>mK (fQ g n now shift) n w e w'/\Below w w w':=by
 have Ce:IntKind.i64.wrap (now+4)=now+4:=hZ;have H1:=Eb b n cap g (now+4) w hn hg aa aa bH aq;go_enter Tz.func44,Tryz.ntmps44
 by_cases cE:∀i,i<n->eD (g i) (now+4)=true
 .have hm:=pd cE;have hP:fQ g n now shift=eY (eB g<|now+4) n ((aQ n).filter<|fW (eB g<|now+4) n shift):=by
   unfold fQ lP;rw[if_pos cE,if_pos ⟨hm,SE,DX⟩]
  rw[hP];clear pd hP;go_wp2_with(first
   |(go_at_call 73;refine H1.mono ?_;clear H1;rintro e w1 ⟨l1,b1⟩;unfold mO at l1;rw[if_pos cE]at l1;obtain⟨B,c,rfl,mF,hB,r1⟩:=l1;have H2:=GT B 0 n c (eB g<|now+4) shift w1 hm hB r1 (fW (eB g<|now+4) n shift)<|xP _ n shift)
   |(go_at_call 74;refine H2.mono ?_;clear H2;rintro e w2 ⟨s2,b2⟩;have s2':=Oc s2 b1.size;clear s2;obtain⟨sa,sn,sc,sb,rfl⟩:=KI s2'))
  go_ret2
  exact⟨s2',b1.trans<|b2.mono b1.size⟩
 .have hP:fQ g n now shift=none:=by unfold fQ;rw[if_neg cE]
  rw[hP];clear pd hP;go_wp2_with(go_at_call 73;refine H1.mono ?_;clear H1;rintro e w1 ⟨l1,b1⟩;unfold mO at l1;rw[if_neg cE]at l1;obtain⟨a1,n1,c1,rfl⟩:=l1)
  go_ret2
  exact⟨⟨_,_,rfl⟩,b1.alloc b1.size _⟩
noncomputable def fi (now shift:Int)(f:Nat->Mv)(n:Nat)(t:Nat->Int)(m:Nat):Bool:=aX now shift f n t m&&@decide (A6 f n t) (Classical.propDecidable _)
def E9 {m:Nat}(h:aX now shift f n t m=false):fi now shift f n t m=false:=by unfold fi;rw[h];rfl
def uo {m:Nat}(h:aX now shift f n t m=true)(hs:A6 f n t):fi now shift f n t m=true:=by unfold fi;rw[h];simpa using hs
def A5 {m:Nat}(hs:¬A6 f n t):fi now shift f n t m=false:=by unfold fi;simp[hs]
def cK {m:Nat}(h:aX now shift f n t m=true):aE f n=true/\m=n/\fk f t n:=by
 cases hf:eI f n t m with
 |false=>rw[rh hf]at h;cases h
 |true=>exact rj hf
section
variable [Gl]
def ak.QC {P0:Program}{Dr:FuncId->Array Value->World->(Value->World->Prop)->Prop}(E:ee P0 ok c Dr){b:Frame}{X:Code}{k:List Item}(hb:ok.bh b.fn=true)(Inv:Nat->Act->World->Prop)
  (step:∀j a W,Inv j a W->(∀i,i<j->∀a' W',Inv i a' W'->ak P0 ok c Dr Q ⟨b.at a'<|.inLoop X::k,cs,W'⟩)->ak P0 ok c Dr Q ⟨b.at a<|.code X::.inLoop X::k,cs,W⟩):
  ∀j a W,Inv j a W->ak P0 ok c Dr Q ⟨b.at a<|.code X::.inLoop X::k,cs,W⟩:=by
 intro j;induction j using Nat.strongRecOn with
 |ind j ih=>intro a W h;exact step j a W h λi hi a' W' h'=>ak.inLoop E hb<|ih i hi a' W' h'
end
