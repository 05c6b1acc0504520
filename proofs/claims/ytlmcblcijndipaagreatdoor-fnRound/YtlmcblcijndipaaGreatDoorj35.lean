import Derived.Test.YtlmcblcijndipaaGreatDoorj34
set_option linter.unusedSectionVars false
set_option linter.unusedVariables false
set_option maxHeartbeats 4000000
set_option maxRecDepth 100000
namespace Go.Proofs.YtlmcblcijndipaaGreatDoor
section
open Conc RowKit
theorem Dc (l:List Mv)(m:Mv):cG (iy (l++[m])) (l.length+1)=cG (iy l) l.length++m.cells.toList:=by
 rw[gb,nK (g:=iy l) (λj hj=>by rw[GY,if_neg ab]),GY,if_pos rfl]
theorem qa {f:Nat->Mv}{t:Nat->Int}{p:Nat}:∀{k:Nat},p<k->0<(al f t p k).length
 |0,h=>ab
 |k+1,h=>by
  simp only[al];by_cases e:p=k
  .subst e;rw[if_neg ab];simp
  .have:=qa (f:=f) (t:=t) (p:=p) (k:=k) ab;split
   .exact this
   .simp
def am (w:World)(b:Nat)(now shift:Int)(v u:Value):Prop:=w.heap[b]?=some (.cells #[now,shift,v,u] 29 (0,0))
theorem am.lt {w:World}{b:Nat}{now shift:Int}{v u:Value}(h:am w b now shift v u):b<w:=(acm.1 h).1
theorem am.same {w w':World}{b:Nat}{now shift:Int}{v u:Value}(h:am w b now shift v u)(e:w'.heap[b]?=w.heap[b]?):am w' b now shift v u:=e.trans h
theorem am.cells {w:World}{b:Nat}{now shift:Int}{v u:Value}(h:am w b now shift v u):w.cell? b=some (.int .i64 now)/\w.cell? ⟨b,1,none⟩=some (.int .i64 shift)/\w.cell? ⟨b,2,none⟩=some v/\w.cell? ⟨b,3,none⟩=some u/\∀j,w.frozen? ⟨b,j,none⟩=false:=by
 unfold am at h;refine⟨?_,?_,?_,?_,λj=>frozen_of_row _ _ j _ _ h⟩<;>simp[World.cell?,h]
structure Rb (w0:World)(base B2 B4 B7:Nat)(now shift tick:Int)(x y vM:Value)(l:List Mv)(W:World):Prop where
 bk:am W B2 now shift x y
 res:am W B4 0 0 () ()
 nx:am W B7 tick shift vM ()
 own:W.ownsRow base 31 6 vM l.length (cG (iy l) l.length)
 below:Below w0 w0 W
 RH:base<=W
theorem Rb.grow {w0 W W':World}{base B2 B4 B7:Nat}{now shift tick:Int}{x y vM:Value}{l:List Mv}(h:Rb w0 base B2 B4 B7 now shift tick x y vM l W)(hb:Below W W W'):Rb w0 base B2 B4 B7 now shift tick x y vM l W':=
 ⟨h.bk.same (hb.block _ h.bk.lt),h.res.same (hb.block _ h.res.lt),h.nx.same (hb.block _ h.nx.lt),h.own.kept (row:=none) ⟨hb.os,hb.tape,hb.output,hb.size,λk hk _=>hb.block k hk⟩ (by cases hv:vM.ownBlock<;>simp),h.below.trans (hb.mono h.below.size),acn h.RH hb.size⟩
theorem Rb.append {w0 W w':World}{base B2 B4 B7:Nat}{now shift tick:Int}{x y vM v':Value}{l:List Mv}{m:Mv}(h:Rb w0 base B2 B4 B7 now shift tick x y vM l W)(h2:B2<base)(h4:B4<base)(h7:B7<base)(h27:B2≠B7)(w_:B4≠B7)(h70:w0.heap.size<=B7)
  (own:w'.ownsRow base 31 6 v' (l.length+1) (cG (iy l) l.length++m.cells.toList))(hg:W.grownBy w' vM.ownBlock):Rb w0 base B2 B4 B7 now shift tick x y v' (l++[m]) (w'.setCell ⟨B7,2,none⟩ v'):=by
 have hb:∀k,k<W.heap.size->k<base->w'.heap[k]?=W.heap[k]?:=λk hk aI=>hg.block k hk (λe=>by have:=(h.own.lt k e.symm).1;omega)
 have hs:∀k,k≠B7->(w'.setCell ⟨B7,2,none⟩ v').heap[k]?=w'.heap[k]?:=λk hk=>acd _ _ _ k hk
 have hz:=hg.size;have UD:=h.RH;refine⟨h.bk.same ((hs _ h27).trans (hb _ h.bk.lt h2)),h.res.same ((hs _ w_).trans (hb _ h.res.lt h4)),?_,?_,?_,cC⟩
 .have e:=(hb _ h.nx.lt h7).trans h.nx;exact heap_setCell_same w' B7 2 _ _ v' e
 .have e:(l++[m]).length=l.length+1:=by simp
  rw[e,Dc];exact own.kept (row:=some B7) ⟨rfl,rfl,rfl,aH,λk _ hk=>hs k (λe=>hk (by rw[e]))⟩ (.inr (λe=>by have:=(own.lt B7 e).1;omega))
 .refine(h.below.trans ⟨hg.os,hg.tape,hg.output,hg.size,λk hk=>hb k (by have:=h.below.size;omega) ab⟩).setCell (by show w0.heap.size<=B7;exact h70) _
theorem Rb.Nz {w0 W w':World}{base B2 B4 B7:Nat}{now shift tick:Int}{x y vM:Value}{l:List Mv}(h:Rb w0 base B2 B4 B7 now shift tick x y vM l W)(hg:W.grownBy w' vM.ownBlock)(h7:B7<base):am w' B7 tick shift vM ():=
 h.nx.same (hg.block B7 h.nx.lt (λe=>by have:=(h.own.lt B7 e.symm).1;omega))
theorem kh {w:World}{base:Nat}{T:TypeId}{v:Value}{n:Nat}{xs:List Value}(h:w.ownsRow base T 6 v (n+1) xs):∃B c,v=.slice (some ⟨B,0,none⟩) (n+1) c:=by
 rcases h.2 with⟨_,e⟩|⟨g,cap,cur,e,_⟩
 .omega
 .exact⟨g,cap,e⟩
theorem N7 {w:World}{b:Nat}{m:Mv}{T:TypeId}(h:w.heap[b]?=some (.cells m.cells T (0,0))):w.cell? b=some (.string m.name)/\w.cell? ⟨b,1,none⟩=some (.bool m.an)/\w.cell? ⟨b,2,none⟩=some (.int .i64 m.aD)/\w.cell? ⟨b,3,none⟩=some (.int .i64 m.ba)/\w.cell? ⟨b,4,none⟩=some (.int .i64 m.late)/\w.cell? ⟨b,5,none⟩=some (.int .i64 m.prom):=by
 refine⟨?_,?_,?_,?_,?_,?_⟩<;>simp[World.cell?,h]
theorem aaV {w:World}{b:Nat}{m:Mv}{T:TypeId}(h:w.heap[b]?=some (.cells m.cells T (0,0)))(m':Mv):((((((w.setCell b m'.name).setCell ⟨b,1,none⟩ m'.an).setCell ⟨b,2,none⟩ m'.aD).setCell ⟨b,3,none⟩ m'.ba).setCell ⟨b,4,none⟩ m'.late).setCell ⟨b,5,none⟩ m'.prom).heap[b]?=some (.cells m'.cells T (0,0)):=by
 have:=heap_setCell_same _ _ 5 _ _ m'.prom (heap_setCell_same _ _ 4 _ _ m'.late (heap_setCell_same _ _ 3 _ _ m'.ba (heap_setCell_same _ _ 2 _ _ m'.aD (heap_setCell_same _ _ 1 _ _ m'.an (heap_setCell_same w b 0 _ _ m'.name h)))));simpa using this
theorem AG {w:World}{b:Nat}{m:Mv}{T:TypeId}(h:w.heap[b]?=some (.cells m.cells T (0,0))):∀(j:Nat) (u:Value),m.cells.toList[j]?=some u->w.cell? ((b:Addr).add j)=some u:=λj u hu=>by
 rw[vu,Nat.zero_add,cell_of_row _ _ _ _ _ _ h];simpa using hu
theorem di (w:World)(o1 o2:Obj):((w.alloc o1).alloc o2).heap[w.heap.size+1]?=some o2:=by have:=heap_alloc_new (w.alloc o1) o2;simpa using this
theorem tf (f:Nat->Mv)(t:Nat->Int)(p:Nat):fo f t p p=qH (f p) (t p):=by unfold fo;rw[if_pos rfl]
theorem qb {f:Nat->Mv}{t:Nat->Int}{p k:Nat}(h:¬k=p):fo f t p k=aX (f k) (t k) (t p):=by unfold fo;rw[if_neg h]
theorem kY {f:Nat->Mv}{t:Nat->Int}{p k:Nat}(h:¬t k<t p):al f t p (k+1)=al f t p k++[fo f t p k]:=by simp only[al];rw[if_neg h]
def Gq (w:World)(B n:Nat)(F:Nat->Mv):Prop:=aM w B 0 n F/\∃cs,w.heap[B]?=some (.cells cs 31 (0,0))/\n*6<=cs.size
theorem Gq.same {w w':World}{B n:Nat}{F:Nat->Mv}(h:Gq w B n F)(e:w'.heap[B]?=w.heap[B]?):Gq w' B n F:=by
 obtain⟨h1,cs,h2,h3⟩:=h;exact⟨dm h1 e,cs,e.trans h2,h3⟩
theorem Gq.lt {w:World}{B n:Nat}{F:Nat->Mv}(h:Gq w B n F):B<w:=by
 obtain⟨_,cs,h2,_⟩:=h;exact(acm.1 h2).1
theorem O6 {w:World}{base B n c:Nat}{F:Nat->Mv}(h:w.ownsRow base 31 6 (.slice B n c) n (cG F n)):Gq w B n F:=by
 refine⟨dM h,?_⟩;obtain⟨_,h2|⟨g,cap,cur,h2,_,h4,h5,_,h6,_⟩⟩:=h
 .exact absurd h2.1 aH
 .simp at h2;obtain⟨rfl,rfl⟩:=h2;exact⟨cur,h4,ab⟩
section
variable [Gl]{ok:Ctx}{c:Frame}{Q:Value->World->Prop}
def yy (f:Nat->Mv)(n:Nat)(t:Nat->Int)(p:Nat)(shift:Int)(V:World)(v:Value)(V':World):Prop:=
 (∃(x0 x1:Int) (x2:Option Addr) (l2 c2:Nat) (x3:Option Addr) (l3 c3:Nat),v=.tuple #[.agg #[x0,x1,.slice x2 l2 c2,.slice x3 l3 c3],.bool (dc f n t p).isSome]/\∀T,dc f n t p=some T->∃BN BT,V.heap.size<=BN/\V.heap.size<=BT/\x0=t p/\x1=shift/\x2=some ⟨BN,0,none⟩/\l2=(al f t p n).length/\x3=some ⟨BT,0,none⟩/\l3=(al f t p n).length/\Gq V' BN (al f t p n).length (iy (al f t p n))/\aJ V' BT (al f t p n).length T)/\Bl V V V'
theorem aF.TN (E:eI Tz.prog ok c dt)(xJ:ok.bI 80=true)(qK:ok.bI 111=true)(Ca:ok.bI 139=false){b:Frame}{a:Act}{k:List Item}{cs:List Frame}{V:World}(hb:ok.bI b.fn=true){ops:Array Oper}{i:Nat}{r:List Nat}{o:Oper}(ho:ops[i]?=some o)(hw:Region.wanted o (yielded ops a.tmps)=true)
  {B n cap:Nat}{g:Nat->Mv}{now shift:Int}(hx:∀w,(execOp a.eval o).run Tz.prog w=.ok (.enter 80 #[.slice B n cap,now,shift]) w)
  (hn:n<=6)(hg:∀i,i<n->(g i).ok=true)(h0:0<=now)(h1:now<=20000)(bw:B<V)(aq:aM V B 0 n g)
  (bh:∀v V',gm (iT g n now shift) n V v V'->aF Tz.prog ok c dt Q ⟨b.at (a.put o.dst v) (.inRegion ops r::k),cs,V'⟩):aF Tz.prog ok c dt Q ⟨b.at a (.inRegion ops (i::r)::k),cs,V⟩:=
 aF.fX E ho hw xJ hx (P1 E xJ qK Ca (r0:=b.at a (.inRegion ops (i::r)::k)) hb hn hg h0 h1 bw aq (λv V' hv=>by rw[dO ho];exact bh v V' hv))
theorem DI (E:eI Tz.prog ok c dt)(ub:ok.bI 52=true)(xJ:ok.bI 80=true)(qK:ok.bI 111=true)(Ca:ok.bI 139=false){r0:Frame}{cs:List Frame}{V:World}(jR:ok.bI r0.fn=true)
  {b n cap b' cap' p:Nat}{f:Nat->Mv}{t:Nat->Int}{now shift:Int}(hm:aG f n=true)(hf:eH f t n)(hp:p<n)(bw:b<V)(aq:aM V b 0 n f)(bc:b'<V)(aK:aB V b' 0 n t)
  (bh:∀v V',yy f n t p shift V v V'->aF Tz.prog ok c dt Q ⟨r0.finish v,cs,V'⟩):
  aF Tz.prog ok c dt Q ⟨Frame.enter Tz.prog 52 #[.agg #[.int .i64 now,.int .i64 shift,.slice (some ⟨b,0,none⟩) n cap,.slice (some ⟨b',0,none⟩) n cap'],.int .i64 p] .normal,r0::cs,V⟩:=by
 have hE:=enter_at (P:=Tz.prog) #[.agg #[.int .i64 now,.int .i64 shift,.slice (some ⟨b,0,none⟩) n cap,.slice (some ⟨b',0,none⟩) n cap'],.int .i64 p] Tz.func52 rfl;simp only[Tryz.ntmps52,List.size_toArray,List.length_cons,List.length_nil,Nat.reduceAdd,Nat.reduceSub,Array.replicate_succ,Array.replicate_zero,List.push_toArray,List.append_toArray,List.nil_append,List.cons_append]at hE;rw[hE];clear hE;have h6:=cg hm;have WY:=Mv.fR (bj hm p hp);have Bh:=gA (hf.1 p hp);have UL:(p:Int)<n:=ab;refine aF.chain E ub [_] _ (λa' w'=>Bl V.heap.size V w'/\∃B2 B4,V.heap.size<=B2/\V.heap.size<=B4/\B2≠B4/\am w' B2 now shift (.slice (some ⟨b,0,none⟩) n cap) (.slice (some ⟨b',0,none⟩) n cap')/\am w' B4 0 0 (.slice none 0 0) (.slice none 0 0)/\gd a' (rW 81 [(1,.int .i64 p),(2,.pointer (some ⟨B2,0,none⟩)),(4,.pointer (some ⟨B4,0,none⟩)),(5,.bool false)])) (λ_ _=>False) ?_ ?_ (λ_ _ _ hh=>hh.elim)
 .intro τ d;clear bh aq aK hf hm;simp only[aP];go_wp2;left;refine⟨A9,⟨by simp[re];omega,λk hk=>?_⟩,V.heap.size,V.heap.size+1,ack _,ab,ab,?_,?_,rfl,rfl⟩
  .rw[acb _ _ _ (by simp[re];omega),acb _ _ _ (by simpa[re]using hk)];rfl
  .exact(acb _ _ _ (by simp[re])).trans (heap_alloc_new (re V τ d) _)
  .have:=heap_alloc_new ((re V τ d).alloc (.cells #[now,shift,.slice b n cap,.slice b' n cap'] 29)) (.cells #[.int .i64 0,.int .i64 0,(),()] 29);rw[show((re V τ d).alloc (.cells #[now,shift,.slice b n cap,.slice b' n cap'] 29)).heap.size=V.heap.size+1 by simp[re]]at this;exact this
 rintro a' w1 ⟨bF,B2,B4,qI,VI,h24,bk,rs,ew⟩;obtain⟨u,rfl⟩:=ew.open;clear ew;have fq:=bF.size;have Db:aM w1 b 0 n f:=dm aq (bF.block b bw);have Mc:aB w1 b' 0 n t:=λi hi=>by have:=aK i hi;simp only[World.cell?,bF.block b' bc]at this⊢;exact this
 have JS:b<w1:=ab;have ON:b'<w1:=ab;refine aF.EA E ub [_,_,_,_] _ (λa' w'=>t p+6<=(f p).late/\Bl V.heap.size V w'/\∃B7 BN cN,V.heap.size<=B7/\B4≠B7/\V.heap.size<=BN/\am w' B4 0 0 (.slice none 0 0) (.slice none 0 0)/\am w' B7 (t p) shift (.slice (some ⟨BN,0,none⟩) (al f t p n).length cN) (.slice none 0 0)/\Gq w' BN (al f t p n).length (iy (al f t p n))/\BN<w'.heap.size/\BN≠B4/\BN≠B7/\gd a' (rW 81 [(4,.pointer (some ⟨B4,0,none⟩)),(6,.int .i64 (t p)),(7,.pointer (some ⟨B7,0,none⟩))])) (λa' w'=>(¬t p+6<=(f p).late)/\Bl V.heap.size V w'/\a'.defers=[]/\a'.tmps[4]?=some (.pointer (some ⟨B4,0,none⟩))/\a'.tmps[5]?=some (.bool false)/\am w' B4 0 0 (.slice none 0 0) (.slice none 0 0)) ?_ ?_ ?_
 .intro τ d;have ye:aM (re w1 τ d) b 0 n f:=dm Db rfl;have Hf:aB (re w1 τ d) b' 0 n t:=λi hi=>Mc i hi
  have hl:b<(re w1 τ d).heap.size:=JS;have ll:b'<(re w1 τ d).heap.size:=ON;have tm:am (re w1 τ d) B2 now shift (.slice b n cap) (.slice b' n cap'):=bk;have qs:am (re w1 τ d) B4 0 0 () ():=rs;have EW:∀W,(∀k,k<V.heap.size->W.heap[k]?=(re w1 τ d).heap[k]?)->(re w1 τ d).heap.size<=W.heap.size->Bl V V W:=λW h h2=>⟨acn fq h2,λk hk=>(h k hk).trans (bF.block k hk)⟩
  have gI:V.heap.size<=(re w1 τ d).heap.size:=fq;revert ye Hf hl ll tm qs EW gI;generalize re w1 τ d=w0;intro ye Hf hl ll tm qs EW gI;clear bh aq aK Db Mc bk rs bF;obtain⟨p0,p1,p2,p3,p4,p5⟩:=ye p hp;have tp:=Hf p hp;simp only[Nat.zero_add]at p0 p1 p2 p3 p4 p5 tp;obtain⟨k0,k1,k2,k3,k4⟩:=tm.cells;obtain⟨NA,r1',r2',r3',r4'⟩:=qs.cells;have Ao:IntKind.i64.wrap (t p+6)=t p+6:=gH;have lB2:=tm.lt;have lB4:=qs.lt;obtain⟨iM,hI,IE,Qq,Qr⟩:=jA;have hlen:=fk f t p;simp only[aP];by_cases hle:t p+6<=(f p).late
  .have Li:¬(f p).late<t p+6:=by omega
   go_wp2;all_goals try(exfalso;omega)
   go_loopw [34,8,9] (λx _ _ W=>∃(k:Nat) (vM:Value),x=.int .i64 k/\k<=n/\Rb w0 (w0.heap.size+1) B2 B4 w0.heap.size now shift (t p) (.slice (some ⟨b,0,none⟩) n cap) (.slice (some ⟨b',0,none⟩) n cap') vM (al f t p k) W) (λx _ _ _=>n-(intOf x).toNat)
   case atStart=>
    have bA:Below w0 w0 (w0.alloc (.cells #[.int .i64 (t p),shift,(),()] 29)):=(aca _ _).alloc (ack _) _;exact⟨0,(),rfl,acp _,⟨tm.same (bA.block _ lB2),qs.same (bA.block _ lB4),heap_alloc_new _ _,World.ownsRow_nil _ _ _ _,bA,aH⟩⟩
   case round=>
    obtain⟨k,vM,rfl,hk,hR⟩:=hrel;have XE:=acl hl hR.below.size;have LM:=acl ll hR.below.size;have Nw:=hR.bk.lt;have lb7:=hR.nx.lt;by_cases aI:k<n
    .have dG:(k:Int)<n:=by omega
     obtain⟨c0,c1,c2,c3,c4,c5⟩:=ye.below hR.below hl k aI;have tk:=Hf.below hR.below ll k aI;simp only[Nat.zero_add]at c0 c1 c2 c3 c4 c5 tk;obtain⟨m0,m1,m2,m3,m4⟩:=hR.bk.cells;obtain⟨x0,x1,x2,x3,x4⟩:=hR.nx.cells;by_cases Zn:t k<t p
     .go_wp2;all_goals try(exfalso;omega)
      go_roundw
      case rel=>exact⟨k+1,vM,by go_num,ab,by simp only[al,if_pos Zn];exact hR.grow ((aca _ _).alloc (ack _) _)⟩
      case measure=>exact cf
     .by_cases UG:k=p
      .subst UG;have F_:=hlen k;have HG:=λW (hb:Below wr wr W)=>hR.grow hb
       go_wp2_with(at_builtin;go_loud (refine wpList_append_own _ rfl (.tmp 62) (.tmp 64) 23 rfl (w0.heap.size+1) 31 iM _ 6 56 bz hI IE Qq Qr rfl bK vM (al f t k k).length (cG (iy (al f t k k)) (al f t k k).length) bU (HG _ uL).own ⟨wr.heap.size+1,0,none⟩ 1 1 (Mv.cells (qH (f k) (t k))).toList bU rfl (AG (di _ _ _)) (ji _) iI ab (HG _ uL).RH ?_;intro v8 w8 yS xz _;obtain⟨B8,c8,rfl⟩:=kh yS;obtain⟨y0,y1,y2,y3,y4⟩:=((HG _ uL).Nz xz ab).cells;have l8:w0.heap.size<w8.heap.size:=((HG _ uL).Nz xz ab).lt))
       all_goals try(exfalso;omega)
       go_roundw
       case rel=>exact⟨k+1,_,by go_num,ab,by rw[kY Zn,tf];exact(HG _ uL).append ab ab ab ab ab (ack _) yS xz⟩
       case measure=>exact cf
      .have aak:¬(k:Int)=p:=by omega
       have F_:=hlen k;obtain⟨m',rX⟩:∃m',aX (f k) (t k) (t p)=m':=⟨_,rfl⟩;have HP:∀W,Calls Tz.prog 79 #[.agg #[.string (f k).name,.bool (f k).an,.int .i64 (f k).aD,.int .i64 (f k).ba,.int .i64 (f k).late,.int .i64 (f k).prom],.int .i64 (t k),.int .i64 (t p)] W λe w'=>e=.returned (.agg #[m'.name,m'.an,m'.aD,m'.ba,m'.late,m'.prom])/\Below W.heap.size W w':=λW=>by
        rw[<-rX];exact sL (f k) (t k) (t p) W ab ab
       go_wp2;all_goals try(exfalso;omega)
       have EY:(wr.alloc (.cells #[.string (f k).name,.bool (f k).an,.int .i64 (f k).aD,.int .i64 (f k).ba,.int .i64 (f k).late,.int .i64 (f k).prom] 31)).heap[wr.heap.size]?=some (.cells (f k).cells 31 (0,0)):=heap_alloc_new _ _;have bA:Below wr wr (wr.alloc (.cells #[.string (f k).name,.bool (f k).an,.int .i64 (f k).aD,.int .i64 (f k).ba,.int .i64 (f k).late,.int .i64 (f k).prom] 31)):=(aca _ _).alloc (ack _) _;revert EY bA;generalize (wr.alloc (.cells #[.string (f k).name,.bool (f k).an,.int .i64 (f k).aD,.int .i64 (f k).ba,.int .i64 (f k).late,.int .i64 (f k).prom] 31))=W9;intro EY bA;obtain⟨B9,KW⟩:∃B9,B9=wr.heap.size:=⟨_,rfl⟩;rw[<-KW]at EY⊢;have Io:wr.heap.size<=B9:=ab;clear KW;have n3:=(bA.cell (p:=⟨B2,3,none⟩) Nw).trans m3;have ntk:=(bA.cell (p:=⟨b',k,none⟩) LM).trans tk;obtain⟨z0,z1,z2,z3,z4,z5⟩:=N7 EY;have l9:B9<W9:=(acm.1 EY).1;clear c0 c1 c2 c3 c4 c5 m0 m1 m2 m3 m4 x0 x1 x2 x3 x4 tk;have l92:B2<W9:=acl Nw bA.size;have l9':b'<W9:=acl LM bA.size;go_region_with(go_at_call 79;refine(HP _).mono ?_;clear HP;rintro e w4 ⟨rfl,b4⟩;have OH:w4.heap[B9]?=some (.cells (f k).cells 31 (0,0)):=(b4.block B9 l9).trans EY;obtain⟨q0,q1,q2,q3,q4,q5⟩:=N7 OH;have fr4:=(λj=>frozen_of_row w4 B9 j _ _ OH))
       all_goals
        have dJ:=aaV OH m';have xw:Below wr wr ((((((w4.setCell B9 m'.name).setCell ⟨B9,1,none⟩ m'.an).setCell ⟨B9,2,none⟩ m'.aD).setCell ⟨B9,3,none⟩ m'.ba).setCell ⟨B9,4,none⟩ m'.late).setCell ⟨B9,5,none⟩ m'.prom):=((((((bA.drew.trans (b4.mono bA.drew.size)).setCell (p:=B9) Io _).setCell (p:=⟨B9,1,none⟩) Io _).setCell (p:=⟨B9,2,none⟩) Io _).setCell (p:=⟨B9,3,none⟩) Io _).setCell (p:=⟨B9,4,none⟩) Io _).setCell (p:=⟨B9,5,none⟩) Io _;revert dJ xw;generalize ((((((w4.setCell ⟨B9,0,none⟩ (.string m'.name)).setCell ⟨B9,1,none⟩ (.bool m'.an)).setCell ⟨B9,2,none⟩ (.int .i64 m'.aD)).setCell ⟨B9,3,none⟩ (.int .i64 m'.ba)).setCell ⟨B9,4,none⟩ (.int .i64 m'.late)).setCell ⟨B9,5,none⟩ (.int .i64 m'.prom))=W6;intro dJ xw;clear OH q0 q1 q2 q3 q4 q5 fr4 EY z0 z1 z2 z3 z4 z5 n3 ntk bA;have J_:=hR.grow xw;obtain⟨y0,y1,y2,y3,y4⟩:=J_.nx.cells;obtain⟨z0,z1,z2,z3,z4,z5⟩:=N7 dJ;have lb6:=J_.nx.lt;have HG:=λW (hb:Below W6 W6 W)=>J_.grow hb
        go_wp2_with(at_builtin;refine wpList_append_own _ rfl (.tmp 62) (.tmp 64) 23 rfl (w0.heap.size+1) 31 iM _ 6 56 bz hI IE Qq Qr rfl bK vM (al f t p k).length (cG (iy (al f t p k)) (al f t p k).length) bU (HG _ uL).own ⟨_,0,none⟩ 1 1 (Mv.cells m').toList bU rfl (AG (heap_alloc_new _ _)) (ji _) iI ab (HG _ uL).RH ?_;intro v8 w8 yS xz _;obtain⟨B8,c8,rfl⟩:=kh yS;obtain⟨k0',XC,UX,k3',k4'⟩:=((HG _ uL).Nz xz ab).cells;have l8:w0.heap.size<w8.heap.size:=((HG _ uL).Nz xz ab).lt)
        go_roundw
        case rel=>exact⟨k+1,_,by go_num,ab,by rw[kY ab,qb UG,rX];exact(HG _ uL).append ab ab ab ab ab (ack _) yS xz⟩
        case measure=>exact cf
    .have dG:¬(k:Int)<n:=by omega
     have qo:k=n:=ab;subst qo;have gh:=qa (f:=f) (t:=t) (p:=p) hp;obtain⟨BN,cN,rfl⟩:∃BN cN,vM=.slice (some ⟨BN,0,none⟩) (al f t p k).length cN:=by
      rcases hR.own.2 with⟨_,e⟩|⟨g,cap,cur,e,_⟩
      .omega
      .exact⟨g,cap,e⟩
     obtain⟨lo,hi⟩:=hR.own.lt BN rfl;go_wp2;all_goals try(exfalso;omega)
     exact⟨EW _ (λq hq=>hR.below.block q ab) hR.below.size,w0.heap.size,gI,ab,BN,ab,hR.res,⟨cN,hR.nx⟩,O6 hR.own,hi,ab,ab,rfl,rfl⟩
  .have Li:(f p).late<t p+6:=by omega
   go_wp2;all_goals try(exfalso;omega)
   rw[sM qs];have oq:=EW _ (λk hk=>setRow_other w0 B4 _ #[.int .i64 0,.int .i64 0,(),()] ab) (by rw[setRow_size];exact ack _);have hB:=setRow_heap w0 B4 _ #[.int .i64 0,.int .i64 0,(),()] _ _ qs;first
    |exact⟨oq,rfl,rfl,hB⟩
    |exact⟨oq,rfl,rfl,rfl,hB⟩
    |exact⟨hle,oq,rfl,rfl,rfl,hB⟩
    |exact⟨oq,hB⟩
 .rintro a' w2 ⟨hle,cH,B7,BN,cN,Sj,w_,Sl,res,nx,Mf,Qu,hN4,hN7,ew⟩;clear u Db Mc bk rs bF;obtain⟨u,rfl⟩:=ew.open;clear ew;have hRr:dc f n t p=iT (iy (al f t p n)) (al f t p n).length (t p) 6:=by unfold dc;rw[if_pos hle]
  have hlen:=fk f t p n;have iF:=cH.size;obtain⟨r,hr⟩:∃r,dc f n t p=r:=⟨_,rfl⟩;obtain⟨br,uc⟩:∃br,r.isSome=br:=⟨_,rfl⟩;refine aF.seq E ub (aF.region E ub ?_);rw[gK];refine aF.iC E ub 0 3 aH (λa' w'=>(∃τ d,w'=re w2 τ d)/\gd a' (rW 81 [(4,.pointer B4),(6,.int .i64 (t p)),(7,.pointer B7),(70,.slice BN (al f t p n).length cN),(71,.int .i64 (t p))])) ?_ ?_
  .intro τ d;have nx':am (re w2 τ d) B7 (t p) shift (.slice BN (al f t p n).length cN) ():=nx;obtain⟨y0,y1,y2,y3,y4⟩:=nx'.cells;clear bh;simp only[List.drop_zero,List.take_succ_cons,List.take_zero];go_wp2;exact⟨⟨τ,d,rfl⟩,rfl,rfl⟩
  rintro a' w' ⟨⟨τ,d,rfl⟩,ew⟩;clear u;obtain⟨u,rfl⟩:=ew.open;clear ew;refine aF.TN E xJ qK Ca ub (i:=3) rfl rfl (B:=BN) (n:=(al f t p n).length) (cap:=cN) (g:=iy (al f t p n)) (now:=t p) (shift:=6) (λw=>Ia) ab (λi hi=>nJ hm hf hp hle hi) ab ab Qu (dm Mf.1 rfl) ?_;intro v V3 jz;rw[<-hRr,hr]at jz;obtain⟨v5,rfl,t5,EU⟩:=G9 jz;have gZ:Bl w2 w2 V3:=⟨EU.size,EU.block⟩;replace t5:Tk r (al f t p n).length w2.heap.size V3 v5:=t5;rw[uc];clear jz EU;refine aF.iC E ub 4 5 aH (λa' w'=>(∃τ d,w'=re V3 τ d)/\gd a' (rW 81 [(4,.pointer B4),(6,.int .i64 (t p)),(7,.pointer B7),(10,v5),(11,br)])) ?_ ?_
  .intro τ d;clear bh;simp only[List.drop_succ_cons,List.drop_zero,List.take_succ_cons,List.take_zero,Act.put];go_wp2;exact⟨⟨τ,d,rfl⟩,rfl,rfl⟩
  rintro a' w' ⟨⟨Rg,d3,rfl⟩,ew⟩;clear u;obtain⟨u,rfl⟩:=ew.open;clear ew;refine aF.regionEnd E ub ?_;have LA:=gZ.size;have X8:am V3 B4 0 0 () ():=res.same (gZ.block B4 res.lt);have nx3:am V3 B7 (t p) shift (.slice BN (al f t p n).length cN) ():=nx.same (gZ.block B7 nx.lt);have QY:Gq V3 BN (al f t p n).length (iy (al f t p n)):=Mf.same (gZ.block BN Qu);have Sz:Bl V V V3:=cH.trans gZ iF;have lN:=nx.lt;have l4:=res.lt;clear nx res Mf cH gZ;have nt:∀(a':Act) (w':World) (todo:List Item),(∃(x0 x1:Int) (x2:Option Addr) (l2 c2:Nat) (x3:Option Addr) (l3 c3:Nat),w'.heap[B4]?=some (.cells #[x0,x1,.slice x2 l2 c2,.slice x3 l3 c3] 29 (0,0))/\Bl V V w'/\(∀T,r=some T->∃BN BT,V.heap.size<=BN/\V.heap.size<=BT/\x0=t p/\x1=shift/\x2=some ⟨BN,0,none⟩/\l2=(al f t p n).length/\x3=some ⟨BT,0,none⟩/\l3=(al f t p n).length/\Gq w' BN (al f t p n).length (iy (al f t p n))/\aJ w' BT (al f t p n).length T)/\gd a' (rW 81 [(4,.pointer B4),(5,br)]))->aF Tz.prog ok c dt Q ⟨{(base 52).at a' todo with mode:=.returning},r0::cs,w'⟩:=by
   rintro a' w' todo ⟨x0,x1,x2,l2,c2,x3,l3,c3,hc,oq,hT,ew⟩;obtain⟨u,rfl⟩:=ew.open;refine aF.leave E jR (v:=.tuple #[.agg #[x0,x1,.slice x2 l2 c2,.slice x3 l3 c3],br]) (λτ d=>⟨rfl,rfl,rfl,_,Tz.func52,?_⟩) (bh _ _ ⟨⟨x0,x1,x2,l2,c2,x3,l3,c3,by rw[hr,uc],λT Sv=>hT T (hr.symm.trans Sv)⟩,oq⟩);have q0:(re w' τ d).cell? B4=some (.int .i64 x0):=by have h:(re w' τ d).heap[B4]?=_:=hc;simp[World.cell?,h]
   have q1:(re w' τ d).cell? ⟨B4,1,none⟩=some (.int .i64 x1):=by have h:(re w' τ d).heap[B4]?=_:=hc;simp[World.cell?,h]
   have q2:(re w' τ d).cell? ⟨B4,2,none⟩=some (.slice x2 l2 c2):=by have h:(re w' τ d).heap[B4]?=_:=hc;simp[World.cell?,h]
   have q3:(re w' τ d).cell? ⟨B4,3,none⟩=some (.slice x3 l3 c3):=by have h:(re w' τ d).heap[B4]?=_:=hc;simp[World.cell?,h]
   show Sem.run Tz.prog (results Tryz.f52 ((rW 81 [(4,.pointer B4),(5,br)]) u)) (re w' τ d)=.ok (.tuple #[.agg #[x0,x1,.slice x2 l2 c2,.slice x3 l3 c3],br]) (re w' τ d);simp[results,Tryz.f52,go_sem,q0,q1,q2,q3]
  refine aF.last E ub [_,_,_] (λa' w'=>∃(x0 x1:Int) (x2:Option Addr) (l2 c2:Nat) (x3:Option Addr) (l3 c3:Nat),w'.heap[B4]?=some (.cells #[x0,x1,.slice x2 l2 c2,.slice x3 l3 c3] 29 (0,0))/\Bl V V w'/\(∀T,r=some T->∃BN BT,V.heap.size<=BN/\V.heap.size<=BT/\x0=t p/\x1=shift/\x2=some ⟨BN,0,none⟩/\l2=(al f t p n).length/\x3=some ⟨BT,0,none⟩/\l3=(al f t p n).length/\Gq w' BN (al f t p n).length (iy (al f t p n))/\aJ w' BT (al f t p n).length T)/\gd a' (rW 81 [(4,.pointer B4),(5,br)])) ?_ nt;intro τ d;clear nt bh;have I4:am (re (re V3 Rg d3) τ d) B4 0 0 () ():=X8;have nx0:am (re (re V3 Rg d3) τ d) B7 (t p) shift (.slice BN (al f t p n).length cN) ():=nx3;have ye:Gq (re (re V3 Rg d3) τ d) BN (al f t p n).length (iy (al f t p n)):=QY.same rfl;have t50:Tk r (al f t p n).length w2.heap.size (re (re V3 Rg d3) τ d) v5:=t5.same λ_ _ _=>rfl
  have UC:Bl V V (re (re V3 Rg d3) τ d):=⟨Sz.size,Sz.block⟩;revert I4 nx0 ye t50 UC;generalize re (re V3 Rg d3) τ d=w0;intro I4 nx0 ye t50 UC;clear X8 nx3 QY t5 Sz;obtain⟨NA,r1',r2',r3',r4'⟩:=I4.cells;obtain⟨y0,y1,y2,y3,y4⟩:=nx0.cells;simp only[aP];cases r with
  |none=>
   subst uc;simp only[Option.isSome_none];go_wp2;all_goals try(exfalso;omega)
   rw[sM I4];right;exact⟨A9,_,_,_,_,_,_,_,_,setRow_heap _ _ _ _ _ _ I4,⟨e_,λk hk=>(setRow_other _ _ _ _ ab).trans (UC.block k hk)⟩,(λT h=>qh),rfl,rfl⟩
  |some T=>
   obtain⟨BT,cT,KX,rfl,oT⟩:=t50;subst uc;simp only[Option.isSome_some];go_wp2;all_goals try(exfalso;omega)
   have hs:∀k,k≠B7->(w0.setCell ⟨B7,3,none⟩ (.slice BT (al f t p n).length cT)).heap[k]?=w0.heap[k]?:=λk hk=>acd _ _ _ k hk
   have qV:(w0.setCell ⟨B7,3,none⟩ (.slice BT (al f t p n).length cT)).heap.size=w0.heap.size:=aH;revert hs qV;generalize w0.setCell ⟨B7,3,none⟩ (.slice (some ⟨BT,0,none⟩) (al f t p n).length cT)=w5;intro hs qV;have X9:=I4.same (hs B4 w_);rw[sM X9];have ho:∀k,k≠B7->k≠B4->∀row,(w5.setRow B4 row).heap[k]?=w0.heap[k]?:=λk h1 h2 row=>(setRow_other _ _ _ _ h2).trans (hs k h1)
   left;exact⟨A9,_,_,_,_,_,_,_,_,setRow_heap _ _ _ _ _ _ X9,⟨by rw[setRow_size,qV];exact UC.size,λk hk=>(ho k ab ab _).trans (UC.block k hk)⟩,λT' h=>by
    obtain rfl:=acr h;exact⟨BN,BT,Sl,ab,rfl,rfl,rfl,rfl,rfl,rfl,ye.same (ho BN hN7 hN4 _),mG oT (ho BT ab ab _)⟩,rfl,rfl⟩
 .rintro a' w2 todo ⟨hle,cH,hd,h4,h5,res⟩;refine aF.leave E jR (v:=.tuple #[.agg #[.int .i64 0,.int .i64 0,(),()],false]) (λτ d=>⟨rfl,hd,rfl,_,Tz.func52,?_⟩) (bh _ _ ⟨⟨0,0,none,0,0,none,0,0,by unfold dc;rw[if_neg hle];rfl,λT hT=>by unfold dc at hT;rw[if_neg hle]at hT;cases hT⟩,cH⟩);have hc:(re w2 τ d).heap[B4]?=_:=res;have q0:(re w2 τ d).cell? B4=some (.int .i64 0):=by simp[World.cell?,hc]
  have q1:(re w2 τ d).cell? ⟨B4,1,none⟩=some (.int .i64 0):=by simp[World.cell?,hc]
  have q2:(re w2 τ d).cell? ⟨B4,2,none⟩=some (.slice none 0 0):=by simp[World.cell?,hc]
  have q3:(re w2 τ d).cell? ⟨B4,3,none⟩=some (.slice none 0 0):=by simp[World.cell?,hc]
  show Sem.run Tz.prog (results Tryz.f52 a'.tmps) (re w2 τ d)=.ok (.tuple #[.agg #[.int .i64 0,.int .i64 0,(),()],false]) (re w2 τ d);simp[results,Tryz.f52,go_sem,q0,q1,q2,q3,h4,h5]
end
end
section
open RowKit
theorem Fl (m:Mv)(tick:Int)(w:World)(h0:0<=tick)(h1:tick<=20000):
  Calls Tz.prog 113 #[.agg #[.string m.name,.bool m.an,.int .i64 m.aD,.int .i64 m.ba,.int .i64 m.late,.int .i64 m.prom],.int .i64 tick] w λe w'=>e=.returned (.tuple #[.agg #[.string m.name,.bool m.an,.int .i64 m.aD,.int .i64 (tick+6),.int .i64 m.late,.int .i64 (-1)],.bool (decide (tick+6<=m.late))])/\Below w.heap.size w w':=by
 have Ao:IntKind.i64.wrap (tick+6)=tick+6:=gH;go_enter Tz.func113,Tryz.ntmps113
 go_wp2;go_region
 all_goals
  go_wp2;refine bodyPost_ret (v:=.tuple #[.agg #[.string m.name,.bool m.an,.int .i64 m.aD,.int .i64 (tick+6),.int .i64 m.late,.int .i64 (-1)],.bool (decide (tick+6<=m.late))]) (by simp[results,Tryz.results113,go_sem]) rfl ⟨rfl,?_⟩;repeat(first|exact aca _ _|refine Below.drew ?_|refine acf ?_ qf _|refine ace ?_ qf _)
def mi (f:Nat->Mv)(n:Nat)(t:Nat->Int)(p:Nat)(shift:Int)(w:World)(e:Ending)(w':World):Prop:=
 if t p+6<=(f p).late then∃BN cN,e=.returned (.tuple #[.agg #[.int .i64 (t p),.int .i64 shift,.slice (some ⟨BN,0,none⟩) (al f t p n).length cN,.slice none 0 0],.bool true])/\w.heap.size<=BN/\BN<w'.heap.size/\aM w' BN 0 (al f t p n).length (iy (al f t p n))
 else e=.returned (.tuple #[.agg #[.int .i64 0,.int .i64 0,.slice none 0 0,.slice none 0 0],.bool false])
theorem Fm (b n cap b' cap' p:Nat)(f:Nat->Mv)(t:Nat->Int)(now shift:Int)(w:World)(hm:aG f n=true)(hf:eH f t n)(hp:p<n)(bw:b<w.heap.size)(aq:aM w b 0 n f)(bc:b'<w.heap.size)(aK:aB w b' 0 n t):
  Calls Tz.prog 83 #[.agg #[.int .i64 now,.int .i64 shift,.slice (some ⟨b,0,none⟩) n cap,.slice (some ⟨b',0,none⟩) n cap'],.int .i64 p] w λe w'=>mi f n t p shift w e w'/\Below w.heap.size w w':=by
 have h6:=cg hm;have WY:=Mv.fR (bj hm p hp);have Bh:=gA (hf.1 p hp);have UL:(p:Int)<n:=ab;have tp:=aK p hp;simp only[Nat.zero_add]at tp;have mQ:∀o1 o2,Below w.heap.size w ((w.alloc o1).alloc o2):=λo1 o2=>((aca _ w).alloc (ack _) _).alloc aH _
 have tp2:∀o1 o2,((w.alloc o1).alloc o2).cell? ⟨b',p,none⟩=some (.int .i64 (t p)):=λo1 o2=>((mQ o1 o2).cell (p:=⟨b',p,none⟩) bc).trans tp
 obtain⟨iM,hI,IE,Qq,Qr⟩:=jA;have hlen:=fk f t p;go_enter Tz.func83,Tryz.ntmps83
 go_wp2;have Ir:am (((w.alloc (.cells #[.int .i64 now,.int .i64 shift,.slice (some ⟨b,0,none⟩) n cap,.slice (some ⟨b',0,none⟩) n cap'] 29)).alloc (.cells #[.int .i64 0,.int .i64 0,.slice none 0 0,.slice none 0 0] 29)).alloc (.cells #[.int .i64 (t p),.int .i64 shift,.slice none 0 0,.slice none 0 0] 29)) w.heap.size now shift (.slice (some ⟨b,0,none⟩) n cap) (.slice (some ⟨b',0,none⟩) n cap'):=(acb _ _ _ cC).trans ((acb _ _ _ aH).trans (heap_alloc_new _ _));have SG:am (((w.alloc (.cells #[.int .i64 now,.int .i64 shift,.slice (some ⟨b,0,none⟩) n cap,.slice (some ⟨b',0,none⟩) n cap'] 29)).alloc (.cells #[.int .i64 0,.int .i64 0,.slice none 0 0,.slice none 0 0] 29)).alloc (.cells #[.int .i64 (t p),.int .i64 shift,.slice none 0 0,.slice none 0 0] 29)) (w.heap.size+1) 0 0 (.slice none 0 0) (.slice none 0 0):=(acb _ _ _ aH).trans (di _ _ _);have SH:am (((w.alloc (.cells #[.int .i64 now,.int .i64 shift,.slice (some ⟨b,0,none⟩) n cap,.slice (some ⟨b',0,none⟩) n cap'] 29)).alloc (.cells #[.int .i64 0,.int .i64 0,.slice none 0 0,.slice none 0 0] 29)).alloc (.cells #[.int .i64 (t p),.int .i64 shift,.slice none 0 0,.slice none 0 0] 29)) (w.heap.size+1+1) (t p) shift (.slice none 0 0) (.slice none 0 0):=by
  have:=di (w.alloc (.cells #[.int .i64 now,.int .i64 shift,.slice (some ⟨b,0,none⟩) n cap,.slice (some ⟨b',0,none⟩) n cap'] 29)) (.cells #[.int .i64 0,.int .i64 0,.slice none 0 0,.slice none 0 0] 29) (.cells #[.int .i64 (t p),.int .i64 shift,.slice none 0 0,.slice none 0 0] 29);rw[acg]at this;exact this
 have oq:Below w.heap.size w (((w.alloc (.cells #[.int .i64 now,.int .i64 shift,.slice (some ⟨b,0,none⟩) n cap,.slice (some ⟨b',0,none⟩) n cap'] 29)).alloc (.cells #[.int .i64 0,.int .i64 0,.slice none 0 0,.slice none 0 0] 29)).alloc (.cells #[.int .i64 (t p),.int .i64 shift,.slice none 0 0,.slice none 0 0] 29)):=(mQ _ _).alloc cC _;obtain⟨B4,VI⟩:∃B,B=w.heap.size+1:=⟨_,rfl⟩;obtain⟨B7,Sj⟩:∃B,B=w.heap.size+1+1:=⟨_,rfl⟩;rw[<-Sj]at SH⊢;rw[<-VI]at SG⊢;have q4:w.heap.size<B4/\B4<w.heap.size+3/\B4≠B7:=⟨ab,ab,ab⟩;have q7:w.heap.size<B7/\B7<w.heap.size+3:=⟨ab,ab⟩;clear VI Sj;obtain⟨q41,q42,q43⟩:=q4;obtain⟨q71,q72⟩:=q7;go_loopw [8,9,10,11] (λx _ _ _ W=>∃(k:Nat) (vM:Value),x=.int .i64 k/\k<=n/\(¬t p+6<=(f p).late->k<=p)/\Rb w (w.heap.size+3) w.heap.size B4 B7 now shift (t p) (.slice (some ⟨b,0,none⟩) n cap) (.slice (some ⟨b',0,none⟩) n cap') vM (al f t p k) W) (λx _ _ _ _=>n-(intOf x).toNat)
 case atStart=>exact⟨0,.slice none 0 0,rfl,acp _,λ_=>acp _,⟨Ir,SG,SH,World.ownsRow_nil _ _ _ _,oq,aH⟩⟩
 case round=>
  clear Ir SG SH oq tp2 mQ;obtain⟨k,vM,rfl,hk,OM,hR⟩:=hrel;have XE:=acl bw hR.below.size;have LM:=acl bc hR.below.size;have Nw:=hR.bk.lt;have lb4:=hR.res.lt;have lb7:=hR.nx.lt;obtain⟨m0,m1,m2,m3,m4⟩:=hR.bk.cells;obtain⟨x0,x1,x2,x3,x4⟩:=hR.nx.cells;by_cases aI:k<n
  .have dG:(k:Int)<n:=by omega
   obtain⟨c0,c1,c2,c3,c4,c5⟩:=aq.below hR.below bw k aI;have tk:=aK.below hR.below bc k aI;simp only[Nat.zero_add]at c0 c1 c2 c3 c4 c5 tk;have F_:=hlen k;by_cases UG:k=p
   .subst UG;have HQ:=λW=>Fl (f k) (t k) W ab ab
    by_cases hle:t k+6<=(f k).late
    .go_wp2_with(first
      |(go_at_call 113;refine(HQ _).mono ?_;clear HQ;rintro e w3 ⟨rfl,b3⟩;have OE:=(hR.grow ((aca _ _).alloc (ack _) _)).grow b3;obtain⟨y0,y1,y2,y3,y4⟩:=OE.nx.cells;have aaH:=OE.nx.lt;have y2':∀o,(w3.alloc o).cell? ⟨B7,2,none⟩=some vM:=(λo=>(World.cell?_alloc_past _ _ _ aaH).trans y2);have HG:=λW (hb:Below w3.heap.size w3 W)=>OE.grow hb)
      |(at_builtin;refine wpList_append_own _ rfl (.tmp 46) (.tmp 48) 23 rfl (w.heap.size+3) 31 iM _ 6 56 bz hI IE Qq Qr rfl bK vM (al f t k k).length (cG (iy (al f t k k)) (al f t k k).length) bU (HG _ uL).own ⟨w3.heap.size+1,0,none⟩ 1 1 (Mv.cells (qH (f k) (t k))).toList bU rfl (AG (di _ _ _)) (ji _) iI ab (HG _ uL).RH ?_;intro v8 w8 yS xz _;obtain⟨B8,c8,rfl⟩:=kh yS;obtain⟨k0',XC,UX,k3',k4'⟩:=((HG _ uL).Nz xz ab).cells;have l8:B7<w8.heap.size:=((HG _ uL).Nz xz ab).lt))
     all_goals try(exfalso;omega)
     go_roundw
     case rel=>exact⟨k+1,_,by go_num,ab,λh=>absurd hle h,by rw[kY ab,tf];exact(HG _ uL).append ab ab ab ab ab ab yS xz⟩
     case measure=>exact cf
    .have hdl:decide (t k+6<=(f k).late)=false:=by simpa using hle
     have HD:Hid (decide (t k+6<=(f k).late)=false):=hdl;go_wp2_with(go_at_call 113;refine(HQ _).mono ?_;clear HQ;rintro e w3 ⟨rfl,b3⟩;rw[HD.out];have OE:=(hR.grow ((aca _ _).alloc (ack _) _)).grow b3;obtain⟨y0,y1,y2,y3,y4⟩:=OE.res.cells;have abT:=OE.res.lt)
     all_goals try(exfalso;omega)
     rw[sM OE.res];have te:=setRow_heap w3 B4 _ #[.int .i64 0,.int .i64 0,.slice none 0 0,.slice none 0 0] _ _ OE.res;have gi:=below_setRow OE.below (by omega:w.heap.size<=B4) #[.int .i64 0,.int .i64 0,.slice none 0 0,.slice none 0 0];have qV:(w3.setRow B4 #[.int .i64 0,.int .i64 0,.slice none 0 0,.slice none 0 0]).heap.size=w3.heap.size:=setRow_size _ _ _;revert te gi qV;generalize w3.setRow B4 #[.int .i64 0,.int .i64 0,.slice none 0 0,.slice none 0 0]=W5;intro te gi qV;have S_:=λo=>gi.alloc (o:=o) gi.size
     have Cm:=λo=>(acb W5 o B4 ab).trans te
     have q0:∀o,(W5.alloc o).cell? ⟨B4,0,none⟩=some (.int .i64 0):=λo=>by simp[World.cell?,Cm]
     have q1:∀o,(W5.alloc o).cell? ⟨B4,1,none⟩=some (.int .i64 0):=λo=>by simp[World.cell?,Cm]
     have q2:∀o,(W5.alloc o).cell? ⟨B4,2,none⟩=some (.slice none 0 0):=λo=>by simp[World.cell?,Cm]
     have q3:∀o,(W5.alloc o).cell? ⟨B4,3,none⟩=some (.slice none 0 0):=λo=>by simp[World.cell?,Cm]
     refine bodyPost_ret (v:=.tuple #[.agg #[.int .i64 0,.int .i64 0,.slice none 0 0,.slice none 0 0],.bool false]) ?_ rfl ⟨by unfold mi;rw[if_neg ab],S_ _⟩;simp[results,Tryz.f83,go_sem,q0,q1,q2,q3]
   .have aak:¬(k:Int)=p:=by omega
    by_cases Zn:t k<t p
    .go_wp2;all_goals try(exfalso;omega)
     go_roundw
     case rel=>exact⟨k+1,vM,by go_num,ab,λh=>by have:=OM h;omega,by simp only[al,if_pos Zn];exact hR.grow ((aca _ _).alloc (ack _) _)⟩
     case measure=>exact cf
    .have Ao:IntKind.i64.wrap (t p+4)=t p+4:=by rw[IntKind.wrap_i64];omega
     have HG:=λW (hb:Below wr.heap.size wr W)=>hR.grow hb
     by_cases hso:t k<t p+4
     .go_wp2_with(at_builtin;refine wpList_append_own _ rfl (.tmp 73) (.tmp 75) 23 rfl (w.heap.size+3) 31 iM _ 6 56 bz hI IE Qq Qr rfl bK vM (al f t p k).length (cG (iy (al f t p k)) (al f t p k).length) bU (HG _ uL).own ⟨wr.heap.size+1,0,none⟩ 1 1 (Mv.cells ({f k with prom:=t k})).toList bU rfl (AG (di _ _ _)) (ji _) iI ab (HG _ uL).RH ?_;intro v8 w8 yS xz _;obtain⟨B8,c8,rfl⟩:=kh yS;obtain⟨k0',XC,UX,k3',k4'⟩:=((HG _ uL).Nz xz ab).cells;have l8:B7<w8.heap.size:=((HG _ uL).Nz xz ab).lt)
      all_goals try(exfalso;omega)
      go_roundw
      case rel=>exact⟨k+1,_,by go_num,ab,λh=>by have:=OM h;omega,by rw[kY ab,qb UG,show aX (f k) (t k) (t p)={f k with prom:=t k} by unfold aX;rw[if_pos ab]];exact(HG _ uL).append ab ab ab ab ab ab yS xz⟩
      case measure=>exact cf
     .go_wp2_with(at_builtin;refine wpList_append_own _ rfl (.tmp 73) (.tmp 75) 23 rfl (w.heap.size+3) 31 iM _ 6 56 bz hI IE Qq Qr rfl bK vM (al f t p k).length (cG (iy (al f t p k)) (al f t p k).length) bU (HG _ uL).own ⟨wr.heap.size+1,0,none⟩ 1 1 (Mv.cells (f k)).toList bU rfl (AG (di _ _ _)) (ji _) iI ab (HG _ uL).RH ?_;intro v8 w8 yS xz _;obtain⟨B8,c8,rfl⟩:=kh yS;obtain⟨k0',XC,UX,k3',k4'⟩:=((HG _ uL).Nz xz ab).cells;have l8:B7<w8.heap.size:=((HG _ uL).Nz xz ab).lt)
      all_goals try(exfalso;omega)
      go_roundw
      case rel=>exact⟨k+1,_,by go_num,ab,λh=>by have:=OM h;omega,by rw[kY ab,qb UG,show aX (f k) (t k) (t p)=f k by unfold aX;rw[if_neg ab]];exact(HG _ uL).append ab ab ab ab ab ab yS xz⟩
      case measure=>exact cf
  .have dG:¬(k:Int)<n:=by omega
   have qo:k=n:=ab;subst qo;have hle:t p+6<=(f p).late:=by
    by_cases h:t p+6<=(f p).late
    .exact h
    .have:=OM h;omega
   have gh:=qa (f:=f) (t:=t) (p:=p) hp;obtain⟨BN,cN,rfl⟩:∃BN cN,vM=.slice (some ⟨BN,0,none⟩) (al f t p k).length cN:=by
    rcases hR.own.2 with⟨_,e⟩|⟨g,cap,cur,e,_⟩
    .omega
    .exact⟨g,cap,e⟩
   obtain⟨lo,hi⟩:=hR.own.lt BN rfl;obtain⟨s0,s1,s2,s3,s4⟩:=hR.res.cells;go_wp2;all_goals try(exfalso;omega)
   rw[sM hR.res];have te:=setRow_heap wr B4 _ #[.int .i64 (t p),.int .i64 shift,.slice (some ⟨BN,0,none⟩) (al f t p k).length cN,.slice none 0 0] _ _ hR.res;have gi:=below_setRow hR.below (by omega:w.heap.size<=B4) #[.int .i64 (t p),.int .i64 shift,.slice (some ⟨BN,0,none⟩) (al f t p k).length cN,.slice none 0 0];have qV:(wr.setRow B4 #[.int .i64 (t p),.int .i64 shift,.slice (some ⟨BN,0,none⟩) (al f t p k).length cN,.slice none 0 0]).heap.size=wr.heap.size:=setRow_size _ _ _;have lJ:(wr.setRow B4 #[.int .i64 (t p),.int .i64 shift,.slice (some ⟨BN,0,none⟩) (al f t p k).length cN,.slice none 0 0]).heap[BN]?=wr.heap[BN]?:=setRow_other _ _ _ _ ab;have rN:=dM hR.own;revert te gi qV lJ;generalize wr.setRow B4 #[.int .i64 (t p),.int .i64 shift,.slice (some ⟨BN,0,none⟩) (al f t p k).length cN,.slice none 0 0]=W5;intro te gi qV lJ;have q0:W5.cell? ⟨B4,0,none⟩=some (.int .i64 (t p)):=by simp[World.cell?,te]
   have q1:W5.cell? ⟨B4,1,none⟩=some (.int .i64 shift):=by simp[World.cell?,te]
   have q2:W5.cell? ⟨B4,2,none⟩=some (.slice (some ⟨BN,0,none⟩) (al f t p k).length cN):=by simp[World.cell?,te]
   have q3:W5.cell? ⟨B4,3,none⟩=some (.slice none 0 0):=by simp[World.cell?,te]
   refine bodyPost_ret (v:=.tuple #[.agg #[.int .i64 (t p),.int .i64 shift,.slice (some ⟨BN,0,none⟩) (al f t p k).length cN,.slice none 0 0],.bool true]) ?_ rfl ⟨by unfold mi;rw[if_pos hle];exact⟨BN,cN,rfl,ab,ab,dm rN lJ⟩,gi⟩;simp[results,Tryz.f83,go_sem,q0,q1,q2,q3]
def mf (g:Nat->Mv)(n:Nat)(gD:Int)(w:World)(e:Ending)(w':World):Prop:=
 if∀i,i<n->dU (g i) gD=true then∃B c,e=.returned (.tuple #[.slice (some ⟨B,0,none⟩) n c,true])/\w.heap.size<=B/\B<w'.heap.size/\aM w' B 0 n (eb g gD)
 else∃a l c,e=.returned (.tuple #[.slice a l c,false])
theorem AO {g:Nat->Mv}{gD:Int}{k:Nat}(h:(g k).prom=-1)(hx:gD<=(g k).ba)(i:Nat):dV g gD k i=dV g gD (k+1) i:=by
 unfold dV;by_cases e:i=k
 .subst e;rw[if_neg ab,if_pos ab];unfold eZ;rw[if_pos h,show max (g i).ba gD=(g i).ba by omega]
 .by_cases h1:i<k
  .rw[if_pos h1,if_pos ab]
  .rw[if_neg h1,if_neg ab]
theorem tT {P:Program}{w:World}{ops:Array Oper}{rest:List Oper}{o:Oper}{a:Act}{Q:Exit->Act->World->Prop}(hgd:o.guard=none)(s x:Operand)(t:TypeId)
  (ho:o.op=.call {callee:=.builtin .append,args:=#[s,x],argTypes:=#[t,t]})
  (base:Nat)(e:TypeId)(i:TypeInfo)(z:Value)(size bytes:Nat)(ht:P.underlying t=some (.slice e))(hi:P.info? e=some i)(hz:i.zero=some z)(GQ:i.size=size)(Y8:i.bytes=bytes)(hzs:z.cells.size=size)(iZ:0<size)
  (v:Value)(n:Nat)(xs:List Value)(hs:a.eval s=v)(aU:w.ownsRow base e size v n xs)(qT:tV w v)
  (ad:Addr)(m c:Nat)(news:List Value)(hx:a.eval x=.slice (some ad) m c)(hl:news.length=m*size)(oU:∀j u,news[j]?=some u->w.cell? (ad.add j)=some u)(h1:∀u∈news,u.oneCell'=true)(Qz:∀u∈news,lE u)(Zt:∀u∈z.cells,lE u)
  (YP:n+m<=maxLen)(vY:(n+m)*bytes<=140737488355328)(VZ:base<=w)
  (h:∀v' w',w'.ownsRow base e size v' (n+m) (xs++news)->w.grownBy w' v.ownBlock->tV w' v'->(v'=()<->v=()/\m=0)->wpList P ops Q rest (a.put o.dst v') w'):wpList P ops Q (o::rest) a w:=by
 refine wpList_plain hgd λK hK=>?_
 obtain⟨v',w',hr,h2,h3,h4⟩:=run_append_own (P:=P) w base t o.type e i z size bytes ht hi hz GQ Y8 hzs iZ v n xs aU ad m c news hl oU h1 YP vY VZ;have h5:=qt base t o.type e i z size bytes ht hi hz GQ Y8 hzs v n xs aU qT ad m c news hl oU h1 Qz Zt YP vY hr;unfold Oper.wp execOp;simp only[ho,resolve,invoke,builtin,Sem.run_bind,Sem.run_pure,Result.andThen_ok,List.map_toArray,List.map_cons,List.map_nil,hs,hx,hr];exact hK _ _ (h v' w' h2 h3 h5 h4)
theorem Cw (b n cap:Nat)(g:Nat->Mv)(gD:Int)(w:World)(hn:n<=6)(hg:∀i,i<n->(g i).ok=true)(h0:0<=gD)(h1:gD<=30000)(bw:b<w)(aq:aM w b 0 n g):
  Calls Tz.prog 73 #[.slice b n cap,gD] w λe w'=>mf g n gD w e w'/\Below w w w':=by
 obtain⟨iM,hI,gI,Qq,Qr⟩:=jA;have bA:Below w w (w.alloc (.cells #[] 31)):=(aca _ _).alloc (ack _) _;have aU:(w.alloc (.cells #[] 31)).ownsRow w.heap.size 31 6 (.slice w.heap.size 0 0) 0 []:=World.ownsRow_made w #[] 0 (ack _) iI aH;have Xf:tV (w.alloc (.cells #[] 31)) (.slice w.heap.size 0 0):=λB hB=>by
  simp only[Value.ownBlock,Option.some.injEq]at hB;subst hB;exact⟨#[],_,heap_alloc_new _ _,λv hv=>by simp at hv⟩
 go_enter Tz.func73,Tryz.ntmps73
 go_wp2_with(at_builtin;refine tT rfl (.tmp 8) (.tmp 9) 23 rfl w.heap.size 31 iM _ 6 56 bz hI gI Qq Qr rfl bK (.slice w.heap.size 0 0) 0 [] bU aU Xf b n cap (cG g n) bU (dL g n) (eQ (aq.below bA bw)) (fE g n) (wT g n) ut iI ab aH ?_;intro v8 w8 yS xz hp8 hs8;simp only[Nat.zero_add,List.nil_append]at yS)
 have hb8:Below w w w8:=bA.grown xz bA.size (λq hq=>Es);obtain⟨B,c,rfl⟩:∃B c,v8=.slice (some ⟨B,0,none⟩) n c:=by
  rcases yS.2 with⟨e,hz⟩|⟨gg,cc,cur,e,_⟩
  .exact absurd (hs8.1 e).1 aH
  .exact⟨gg,cc,e⟩
 have Yb:=dM yS;have pl8:=hp8 B rfl;have mQ:=(yS.lt B rfl).1;clear yS xz hp8 hs8 aU Xf bA;go_loopw [7] (λx W=>∃k:Nat,x=.int .i64 k/\k<=n/\Below w w W/\aM W B 0 n (dV g gD k)/\bX W B/\∀i,i<k->dU (g i) gD=true) (λx _=>n-(intOf x).toNat)
 case atStart=>exact⟨0,rfl,acp _,hb8,Yb.ng λi _=>by unfold dV;rw[if_neg ab],pl8,λi hi=>absurd hi (aco _)⟩
 case round=>
  clear Yb pl8 hb8;obtain⟨k,rfl,hk,fK,Lt,qT,cP⟩:=hrel;by_cases aI:k<n
  .have dG:(k:Int)<n:=by omega
   have WB:dV g gD k k=g k:=by unfold dV;rw[if_neg (Nat.lt_irrefl _)]
   have fw:=Mv.fR (hg k aI);obtain⟨c0,c1,c2,c3,c4,c5⟩:=Lt k aI;rw[WB]at c0 c1 c2 c3 c4 c5;simp only[Nat.zero_add]at c0 c1 c2 c3 c4 c5;have hlB:=qT.lt;by_cases hp:(g k).prom=-1
   .have DY:(g k).prom<0:=by omega
    by_cases he:(g k).ba<gD
    .have Wv:=C1 qT (k*6+3);have hx:max (g k).ba gD=gD:=ab;have rS:=(Hg Lt aI gD).ng (λi _=>wO hp hx i);have pS:bX (wr.setCell ⟨B,k*6+3,none⟩ gD) B:=qT.set (.inr (.inl ⟨_,_,rfl⟩));have bS:=fK.setCell (p:=⟨B,k*6+3,none⟩) mQ gD;have lS:(wr.setCell ⟨B,k*6+3,none⟩ gD).cell? ⟨B,k*6+4,none⟩=some (.int .i64 (g k).late):=(World.cell?_setCell_other _ _ _ _ aH).trans c4;by_cases hle:gD<=(g k).late
     .have Li:¬(g k).late<gD:=by omega
      go_wp2;all_goals try(exfalso;omega)
      go_roundw
      case rel=>exact⟨k+1,by go_num,ab,bS,rS,pS,λi hi=>by
       by_cases e:i=k
       .subst e;rw[kU hp];simpa using hle
       .exact cP i ab⟩
      case measure=>exact cf
     .have Li:(g k).late<gD:=by omega
      have lp:¬∀i,i<n->dU (g i) gD=true:=λh=>by
       have:=h k aI;rw[kU hp]at this;simp at this;omega
      go_wp2;all_goals try(exfalso;omega)
      go_ret2
      exact⟨by unfold mf;rw[if_neg lp];exact⟨_,_,_,rfl⟩,bS⟩
    .go_wp2;all_goals try(exfalso;omega)
     go_roundw
     case rel=>exact⟨k+1,by go_num,ab,fK,Lt.ng (λi _=>AO hp ab i),qT,λi hi=>by
      by_cases e:i=k
      .subst e;rw[kU hp];simp;omega
      .exact cP i ab⟩
     case measure=>exact cf
   .have DY:¬(g k).prom<0:=by omega
    go_wp2;all_goals try(exfalso;omega)
    go_roundw
    case rel=>exact⟨k+1,by go_num,ab,fK,Lt.ng (λi _=>sN hp i),qT,λi hi=>by
     by_cases e:i=k
     .subst e;exact wN hp
     .exact cP i ab⟩
    case measure=>exact cf
  .have dG:¬(k:Int)<n:=by omega
   have qo:k=n:=ab;subst qo;go_wp2;all_goals try(exfalso;omega)
   go_ret2
   exact⟨by unfold mf;rw[if_pos cP];exact⟨B,c,rfl,mQ,qT.lt,Lt.ng (λi hi=>by unfold dV eb;rw[if_pos hi])⟩,fK⟩
theorem qX (b n cap:Nat)(g:Nat->Mv)(now shift:Int)(w:World)(hn:n<=6)(hg:∀i,i<n->(g i).ok=true)(h0:0<=now)(h1:now<=20000)(Nt:0<=shift)(Cm:shift<=6)(rZ:(∀i,i<n->dU (g i) (now+4)=true)->aG (eb g (now+4)) n=true)(bw:b<w)(aq:aM w b 0 n g):
  Calls Tz.prog 44 #[.slice b n cap,now,shift] w λe w'=>ma (iT g n now shift) n w e w'/\Below w w w':=by
 have Ao:IntKind.i64.wrap (now+4)=now+4:=gH;have H1:=Cw b n cap g (now+4) w hn hg ab ab bw aq;go_enter Tz.func44,Tryz.ntmps44
 by_cases cP:∀i,i<n->dU (g i) (now+4)=true
 .have hm:=rZ cP;have hP:iT g n now shift=fe (eb g (now+4)) n ((aR n).filter (iz (eb g (now+4)) n shift)):=by
   unfold iT mj;rw[if_pos cP,if_pos ⟨hm,Nt,Cm⟩]
  rw[hP];clear rZ hP;go_wp2_with(first
   |(go_at_call 73;refine H1.mono ?_;clear H1;rintro e w1 ⟨l1,b1⟩;unfold mf at l1;rw[if_pos cP]at l1;obtain⟨B,c,rfl,mQ,hB,r1⟩:=l1;have H2:=Fk B 0 n c (eb g (now+4)) shift w1 hm hB r1 (iz (eb g (now+4)) n shift) (wD _ n shift))
   |(go_at_call 74;refine H2.mono ?_;clear H2;rintro e w2 ⟨s2,b2⟩;have s2':=Mm s2 b1.size;clear s2;obtain⟨sa,sn,sc,sb,rfl⟩:=I9 s2'))
  go_ret2
  exact⟨s2',b1.trans (b2.mono b1.size)⟩
 .have hP:iT g n now shift=none:=by unfold iT;rw[if_neg cP]
  rw[hP];clear rZ hP;go_wp2_with(go_at_call 73;refine H1.mono ?_;clear H1;rintro e w1 ⟨l1,b1⟩;unfold mf at l1;rw[if_neg cP]at l1;obtain⟨a1,n1,c1,rfl⟩:=l1)
  go_ret2
  exact⟨⟨_,_,rfl⟩,b1.alloc b1.size _⟩
end
