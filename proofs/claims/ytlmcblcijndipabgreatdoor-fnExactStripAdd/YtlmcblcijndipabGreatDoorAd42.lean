import Derived.Test.YtlmcblcijndipabGreatDoorAd41
set_option linter.unusedVariables false
set_option linter.unusedSectionVars false
set_option maxHeartbeats 4000000
set_option maxRecDepth 100000
namespace Go.Proofs.YtlmcblcijndipabGreatDoor
section
open Go Go.Conc Go.RowKit
theorem Al (l:List Mv)(m:Mv):aG (jz (l++[m])) (l.length+1)=aG (jz l) l.length++m.cells.toList:=by
 rw[eJ,ka (g:=jz l) (λj hj=>by rw[wP,if_neg (by omega)]),wP,if_pos rfl]
theorem jL {f:Nat->Mv}{t:Nat->Int}{p:Nat}:∀{k:Nat},p<k->0<(aq f t p k).length
 |0,h=>by omega
 |k+1,h=>by
  simp only[aq];by_cases e:p=k
  .subst e;rw[if_neg (by omega)];simp
  .have:=jL (f:=f) (t:=t) (p:=p) (k:=k) (by omega);split
   .exact this
   .simp
def ar (w:World)(b:Nat)(now shift:Int)(v u:Value):Prop:=w.heap[b]?=some (.cells #[.int .i64 now,.int .i64 shift,v,u] 32 (0,0))
theorem ar.lt {w:World}{b:Nat}{now shift:Int}{v u:Value}(h:ar w b now shift v u):b<w.heap.size:=(Gp.1 h).1
theorem ar.same {w w':World}{b:Nat}{now shift:Int}{v u:Value}(h:ar w b now shift v u)(e:w'.heap[b]?=w.heap[b]?):ar w' b now shift v u:=e.trans h
theorem ar.cells {w:World}{b:Nat}{now shift:Int}{v u:Value}(h:ar w b now shift v u):w.cell? ⟨b,0,none⟩=some (.int .i64 now)/\w.cell? ⟨b,1,none⟩=some (.int .i64 shift)/\w.cell? ⟨b,2,none⟩=some v/\w.cell? ⟨b,3,none⟩=some u/\∀j,w.frozen? ⟨b,j,none⟩=false:=by
 unfold ar at h;refine⟨?_,?_,?_,?_,λj=>frozen_of_row _ _ j _ _ h⟩<;>simp[World.cell?,h]
structure Rb (w0:World)(base B2 B4 B7:Nat)(now shift tick:Int)(x y vM:Value)(l:List Mv)(W:World):Prop where
 bk:ar W B2 now shift x y
 res:ar W B4 0 0 (.slice none 0 0) (.slice none 0 0)
 nx:ar W B7 tick shift vM (.slice none 0 0)
 own:W.ownsRow base 36 6 vM l.length (aG (jz l) l.length)
 below:Below w0.heap.size w0 W
 big:base<=W.heap.size
theorem Rb.grow {w0 W W':World}{base B2 B4 B7:Nat}{now shift tick:Int}{x y vM:Value}{l:List Mv}(h:Rb w0 base B2 B4 B7 now shift tick x y vM l W)(hb:Below W.heap.size W W'):Rb w0 base B2 B4 B7 now shift tick x y vM l W':=
 ⟨h.bk.same (hb.block _ h.bk.lt),h.res.same (hb.block _ h.res.lt),h.nx.same (hb.block _ h.nx.lt),h.own.kept (row:=none) ⟨hb.os,hb.tape,hb.output,hb.size,λk hk _=>hb.block k hk⟩ (by cases hv:vM.ownBlock<;>simp),h.below.trans (hb.mono h.below.size),Gq h.big hb.size⟩
theorem Rb.append {w0 W w':World}{base B2 B4 B7:Nat}{now shift tick:Int}{x y vM v':Value}{l:List Mv}{m:Mv}(h:Rb w0 base B2 B4 B7 now shift tick x y vM l W)(h2:B2<base)(h4:B4<base)(h7:B7<base)(h27:B2≠B7)(h47:B4≠B7)(h70:w0.heap.size<=B7)
  (own:w'.ownsRow base 36 6 v' (l.length+1) (aG (jz l) l.length++m.cells.toList))(hg:W.grownBy w' vM.ownBlock):Rb w0 base B2 B4 B7 now shift tick x y v' (l++[m]) (w'.setCell ⟨B7,2,none⟩ v'):=by
 have hb:∀k,k<W.heap.size->k<base->w'.heap[k]?=W.heap[k]?:=λk hk hlt=>hg.block k hk (λe=>by have:=(h.own.lt k e.symm).1;omega)
 have hs:∀k,k≠B7->(w'.setCell ⟨B7,2,none⟩ v').heap[k]?=w'.heap[k]?:=λk hk=>Gd _ _ _ k hk
 have hz:=hg.size;have hbg:=h.big;refine⟨h.bk.same ((hs _ h27).trans (hb _ h.bk.lt h2)),h.res.same ((hs _ h47).trans (hb _ h.res.lt h4)),?_,?_,?_,by simp;omega⟩
 .have e:=(hb _ h.nx.lt h7).trans h.nx;exact heap_setCell_same w' B7 2 _ _ v' e
 .have e:(l++[m]).length=l.length+1:=by simp
  rw[e,Al];exact own.kept (row:=some B7) ⟨rfl,rfl,rfl,by simp,λk _ hk=>hs k (λe=>hk (by rw[e]))⟩ (.inr (λe=>by have:=(own.lt B7 e).1;omega))
 .refine(h.below.trans ⟨hg.os,hg.tape,hg.output,hg.size,λk hk=>hb k (by have:=h.below.size;omega) (by omega)⟩).setCell (by show w0.heap.size<=B7;exact h70) _
theorem Rb.nx8 {w0 W w':World}{base B2 B4 B7:Nat}{now shift tick:Int}{x y vM:Value}{l:List Mv}(h:Rb w0 base B2 B4 B7 now shift tick x y vM l W)(hg:W.grownBy w' vM.ownBlock)(h7:B7<base):ar w' B7 tick shift vM (.slice none 0 0):=
 h.nx.same (hg.block B7 h.nx.lt (λe=>by have:=(h.own.lt B7 e.symm).1;omega))
theorem ig {w:World}{base:Nat}{T:TypeId}{v:Value}{n:Nat}{xs:List Value}(h:w.ownsRow base T 6 v (n+1) xs):∃B c,v=.slice (some ⟨B,0,none⟩) (n+1) c:=by
 rcases h.2 with⟨_,e⟩|⟨g,cap,cur,e,_⟩
 .omega
 .exact⟨g,cap,e⟩
theorem BP {w:World}{b:Nat}{m:Mv}{T:TypeId}(h:w.heap[b]?=some (.cells m.cells T (0,0))):w.cell? ⟨b,0,none⟩=some (.string m.name)/\w.cell? ⟨b,1,none⟩=some (.bool m.lands)/\w.cell? ⟨b,2,none⟩=some (.int .i64 m.wake)/\w.cell? ⟨b,3,none⟩=some (.int .i64 m.est)/\w.cell? ⟨b,4,none⟩=some (.int .i64 m.late)/\w.cell? ⟨b,5,none⟩=some (.int .i64 m.prom):=by
 refine⟨?_,?_,?_,?_,?_,?_⟩<;>simp[World.cell?,h]
theorem Ex {w:World}{b:Nat}{m:Mv}{T:TypeId}(h:w.heap[b]?=some (.cells m.cells T (0,0)))(m':Mv):((((((w.setCell ⟨b,0,none⟩ (.string m'.name)).setCell ⟨b,1,none⟩ (.bool m'.lands)).setCell ⟨b,2,none⟩ (.int .i64 m'.wake)).setCell ⟨b,3,none⟩ (.int .i64 m'.est)).setCell ⟨b,4,none⟩ (.int .i64 m'.late)).setCell ⟨b,5,none⟩ (.int .i64 m'.prom)).heap[b]?=some (.cells m'.cells T (0,0)):=by
 have:=heap_setCell_same _ _ 5 _ _ (.int .i64 m'.prom) (heap_setCell_same _ _ 4 _ _ (.int .i64 m'.late) (heap_setCell_same _ _ 3 _ _ (.int .i64 m'.est) (heap_setCell_same _ _ 2 _ _ (.int .i64 m'.wake) (heap_setCell_same _ _ 1 _ _ (.bool m'.lands) (heap_setCell_same w b 0 _ _ (.string m'.name) h)))));simpa using this
theorem o0 {w:World}{b:Nat}{m:Mv}{T:TypeId}(h:w.heap[b]?=some (.cells m.cells T (0,0))):∀(j:Nat) (u:Value),m.cells.toList[j]?=some u->w.cell? ((⟨b,0,none⟩:Addr).add j)=some u:=λj u hu=>by
 rw[kN,Nat.zero_add,cell_of_row _ _ _ _ _ _ h];simpa using hu
theorem bj (w:World)(o1 o2:Obj):((w.alloc o1).alloc o2).heap[w.heap.size+1]?=some o2:=by have:=heap_alloc_new (w.alloc o1) o2;simpa using this
theorem qA (f:Nat->Mv)(t:Nat->Int)(p:Nat):fW f t p p=oP (f p) (t p):=by unfold fW;rw[if_pos rfl]
theorem mh {f:Nat->Mv}{t:Nat->Int}{p k:Nat}(h:¬k=p):fW f t p k=bV (f k) (t k) (t p):=by unfold fW;rw[if_neg h]
theorem fY {f:Nat->Mv}{t:Nat->Int}{p k:Nat}(h:¬t k<t p):aq f t p (k+1)=aq f t p k++[fW f t p k]:=by simp only[aq];rw[if_neg h]
def pa (w:World)(B n:Nat)(F:Nat->Mv):Prop:=ak w B 0 n F/\∃cs,w.heap[B]?=some (.cells cs 36 (0,0))/\n*6<=cs.size
theorem pa.same {w w':World}{B n:Nat}{F:Nat->Mv}(h:pa w B n F)(e:w'.heap[B]?=w.heap[B]?):pa w' B n F:=by
 obtain⟨h1,cs,h2,h3⟩:=h;exact⟨aI h1 e,cs,e.trans h2,h3⟩
theorem pa.lt {w:World}{B n:Nat}{F:Nat->Mv}(h:pa w B n F):B<w.heap.size:=by
 obtain⟨_,cs,h2,_⟩:=h;exact(Gp.1 h2).1
theorem rX {w:World}{base B n c:Nat}{F:Nat->Mv}(h:w.ownsRow base 36 6 (.slice (some ⟨B,0,none⟩) n c) n (aG F n)):pa w B n F:=by
 refine⟨dg h,?_⟩;obtain⟨_,h2|⟨g,cap,cur,h2,_,h4,h5,_,h6,_⟩⟩:=h
 .exact absurd h2.1 (by simp)
 .simp at h2;obtain⟨rfl,rfl⟩:=h2;exact⟨cur,h4,by omega⟩
section
variable [Gl]{ok:Ctx}{c:Frame}{Q:Value->World->Prop}
def qB (f:Nat->Mv)(n:Nat)(t:Nat->Int)(p:Nat)(shift:Int)(V:World)(v:Value)(V':World):Prop:=
 (∃(x0 x1:Int) (x2:Option Addr) (l2 c2:Nat) (x3:Option Addr) (l3 c3:Nat),v=.tuple #[.agg #[.int .i64 x0,.int .i64 x1,.slice x2 l2 c2,.slice x3 l3 c3],.bool (da f n t p).isSome]/\∀T,da f n t p=some T->∃BN BT,V.heap.size<=BN/\V.heap.size<=BT/\x0=t p/\x1=shift/\x2=some ⟨BN,0,none⟩/\l2=(aq f t p n).length/\x3=some ⟨BT,0,none⟩/\l3=(aq f t p n).length/\pa V' BN (aq f t p n).length (jz (aq f t p n))/\an V' BT (aq f t p n).length T)/\Bl V.heap.size V V'
theorem ap.planOp (E:bG Tz.prog ok c Dr24)(hPl:ok.inn 132=true)(hSB:ok.inn 151=true)(hbt:ok.inn 181=false){b:Frame}{a:Act}{k:List Item}{cs:List Frame}{V:World}(hb:ok.inn b.fn=true){ops:Array Oper}{i:Nat}{r:List Nat}{o:Oper}(ho:ops[i]?=some o)(hw:Region.wanted o (yielded ops a.tmps)=true)
  {B n cap:Nat}{g:Nat->Mv}{now shift:Int}(hx:∀w,(execOp a.eval o).run Tz.prog w=.ok (.enter 132 #[.slice (some ⟨B,0,none⟩) n cap,.int .i64 now,.int .i64 shift]) w)
  (hn:n<=6)(hg:∀i,i<n->(g i).ok=true)(h0:0<=now)(h1:now<=20000)(hbs:B<V.heap.size)(hrow:ak V B 0 n g)
  (hcont:∀v V',dy (eA g n now shift) n V v V'->ap Tz.prog ok c Dr24 Q ⟨b.at (a.put o.dst v) (.inRegion ops r::k),cs,V'⟩):ap Tz.prog ok c Dr24 Q ⟨b.at a (.inRegion ops (i::r)::k),cs,V⟩:=
 ap.enterOp E ho hw hPl hx (BO E hPl hSB hbt (r0:=b.at a (.inRegion ops (i::r)::k)) hb hn hg h0 h1 hbs hrow (λv V' hv=>by rw[cD ho];exact hcont v V' hv))
theorem Am (E:bG Tz.prog ok c Dr24)(hRo:ok.inn 112=true)(hPl:ok.inn 132=true)(hSB:ok.inn 151=true)(hbt:ok.inn 181=false){r0:Frame}{cs:List Frame}{V:World}(hr0:ok.inn r0.fn=true)
  {b n cap b' cap' p:Nat}{f:Nat->Mv}{t:Nat->Int}{now shift:Int}(hm:aw f n=true)(hf:dU f t n)(hp:p<n)(hbs:b<V.heap.size)(hrow:ak V b 0 n f)(hbs':b'<V.heap.size)(hrow':al V b' 0 n t)
  (hcont:∀v V',qB f n t p shift V v V'->ap Tz.prog ok c Dr24 Q ⟨r0.finish v,cs,V'⟩):
  ap Tz.prog ok c Dr24 Q ⟨Frame.enter Tz.prog 112 #[.agg #[.int .i64 now,.int .i64 shift,.slice (some ⟨b,0,none⟩) n cap,.slice (some ⟨b',0,none⟩) n cap'],.int .i64 p] .normal,r0::cs,V⟩:=by
 have hE:=enter_at (P:=Tz.prog) #[.agg #[.int .i64 now,.int .i64 shift,.slice (some ⟨b,0,none⟩) n cap,.slice (some ⟨b',0,none⟩) n cap'],.int .i64 p] Tz.func112 rfl;simp only[Tryz.ntmps112,List.size_toArray,List.length_cons,List.length_nil,Nat.reduceAdd,Nat.reduceSub,Array.replicate_succ,Array.replicate_zero,List.push_toArray,List.append_toArray,List.nil_append,List.cons_append]at hE;rw[hE];clear hE;have h6:=aN hm;have hokp:=Mv.ok_bd (aS hm p hp);have hsp:=eZ (hf.1 p hp);have hpn:(p:Int)<n:=by omega
 refine ap.chain E hRo [_] _ (λa' w'=>Bl V.heap.size V w'/\∃B2 B4,V.heap.size<=B2/\V.heap.size<=B4/\B2≠B4/\ar w' B2 now shift (.slice (some ⟨b,0,none⟩) n cap) (.slice (some ⟨b',0,none⟩) n cap')/\ar w' B4 0 0 (.slice none 0 0) (.slice none 0 0)/\aZ a' (rW 81 [(1,.int .i64 p),(2,.pointer (some ⟨B2,0,none⟩)),(4,.pointer (some ⟨B4,0,none⟩)),(5,.bool false)])) (λ_ _=>False) ?_ ?_ (λ_ _ _ hh=>hh.elim)
 .intro τ d;clear hcont hrow hrow' hf hm;simp only[aD];go_wp2;left;refine⟨by first|rfl|trivial,⟨by simp[re];omega,λk hk=>?_⟩,V.heap.size,V.heap.size+1,Gm _,by omega,by omega,?_,?_,rfl,rfl⟩
  .rw[Gc _ _ _ (by simp[re];omega),Gc _ _ _ (by simpa[re]using hk)];rfl
  .exact(Gc _ _ _ (by simp[re])).trans (heap_alloc_new (re V τ d) _)
  .have:=heap_alloc_new ((re V τ d).alloc (.cells #[.int .i64 now,.int .i64 shift,.slice (some ⟨b,0,none⟩) n cap,.slice (some ⟨b',0,none⟩) n cap'] 32)) (.cells #[.int .i64 0,.int .i64 0,.slice none 0 0,.slice none 0 0] 32);rw[show((re V τ d).alloc (.cells #[.int .i64 now,.int .i64 shift,.slice (some ⟨b,0,none⟩) n cap,.slice (some ⟨b',0,none⟩) n cap'] 32)).heap.size=V.heap.size+1 by simp[re]]at this;exact this
 rintro a' w1 ⟨hb1,B2,B4,hB2,hB4,h24,bk,rs,hfr⟩;obtain⟨u,rfl⟩:=hfr.open;clear hfr;have hz1:=hb1.size;have row1:ak w1 b 0 n f:=aI hrow (hb1.block b hbs);have row1':al w1 b' 0 n t:=λi hi=>by have:=hrow' i hi;simp only[World.cell?,hb1.block b' hbs']at this⊢;exact this
 have hl1:b<w1.heap.size:=by omega
 have hl1':b'<w1.heap.size:=by omega
 refine ap.chainM E hRo [_,_,_,_] _ (λa' w'=>t p+6<=(f p).late/\Bl V.heap.size V w'/\∃B7 BN cN,V.heap.size<=B7/\B4≠B7/\V.heap.size<=BN/\ar w' B4 0 0 (.slice none 0 0) (.slice none 0 0)/\ar w' B7 (t p) shift (.slice (some ⟨BN,0,none⟩) (aq f t p n).length cN) (.slice none 0 0)/\pa w' BN (aq f t p n).length (jz (aq f t p n))/\BN<w'.heap.size/\BN≠B4/\BN≠B7/\aZ a' (rW 81 [(4,.pointer (some ⟨B4,0,none⟩)),(6,.int .i64 (t p)),(7,.pointer (some ⟨B7,0,none⟩))])) (λa' w'=>(¬t p+6<=(f p).late)/\Bl V.heap.size V w'/\a'.defers=[]/\a'.tmps[4]?=some (.pointer (some ⟨B4,0,none⟩))/\a'.tmps[5]?=some (.bool false)/\ar w' B4 0 0 (.slice none 0 0) (.slice none 0 0)) ?_ ?_ ?_
 .intro τ d;have row0:ak (re w1 τ d) b 0 n f:=aI row1 rfl;have row0':al (re w1 τ d) b' 0 n t:=λi hi=>row1' i hi
  have hl:b<(re w1 τ d).heap.size:=hl1;have hl':b'<(re w1 τ d).heap.size:=hl1';have bk0:ar (re w1 τ d) B2 now shift (.slice (some ⟨b,0,none⟩) n cap) (.slice (some ⟨b',0,none⟩) n cap'):=bk;have rs0:ar (re w1 τ d) B4 0 0 (.slice none 0 0) (.slice none 0 0):=rs;have hbl0:∀W,(∀k,k<V.heap.size->W.heap[k]?=(re w1 τ d).heap[k]?)->(re w1 τ d).heap.size<=W.heap.size->Bl V.heap.size V W:=λW h h2=>⟨Gq hz1 h2,λk hk=>(h k hk).trans (hb1.block k hk)⟩
  have hz0:V.heap.size<=(re w1 τ d).heap.size:=hz1;revert row0 row0' hl hl' bk0 rs0 hbl0 hz0;generalize re w1 τ d=w0;intro row0 row0' hl hl' bk0 rs0 hbl0 hz0;clear hcont hrow hrow' row1 row1' bk rs hb1;obtain⟨p0,p1,p2,p3,p4,p5⟩:=row0 p hp;have tp:=row0' p hp;simp only[Nat.zero_add]at p0 p1 p2 p3 p4 p5 tp;obtain⟨k0,k1,k2,k3,k4⟩:=bk0.cells;obtain⟨r0',r1',r2',r3',r4'⟩:=rs0.cells;have hwr:IntKind.i64.wrap (t p+6)=t p+6:=by rw[IntKind.wrap_i64];omega
  have lB2:=bk0.lt;have lB4:=rs0.lt;obtain⟨iM,hI,hz0i,hi1,hi2⟩:=dh;have hlen:=fG f t p;simp only[aD];by_cases hle:t p+6<=(f p).late
  .have hnl:¬(f p).late<t p+6:=by omega
   go_wp2;all_goals first|(exfalso;omega)|skip
   go_loopw [34,8,9] (λx _ _ W=>∃(k:Nat) (vM:Value),x=.int .i64 k/\k<=n/\Rb w0 (w0.heap.size+1) B2 B4 w0.heap.size now shift (t p) (.slice (some ⟨b,0,none⟩) n cap) (.slice (some ⟨b',0,none⟩) n cap') vM (aq f t p k) W) (λx _ _ _=>n-(intOf x).toNat)
   case atStart=>
    have bA:Below w0.heap.size w0 (w0.alloc (.cells #[.int .i64 (t p),.int .i64 shift,.slice none 0 0,.slice none 0 0] 32)):=(Gb _ _).alloc (Gm _) _;exact⟨0,.slice none 0 0,rfl,Gs _,⟨bk0.same (bA.block _ lB2),rs0.same (bA.block _ lB4),heap_alloc_new _ _,World.ownsRow_nil _ _ _ _,bA,by simp⟩⟩
   case round=>
    obtain⟨k,vM,rfl,hk,hR⟩:=hrel;have lbr:=Gn hl hR.below.size;have lbr':=Gn hl' hR.below.size;have lb2:=hR.bk.lt;have lb7:=hR.nx.lt;by_cases hlt:k<n
    .have hlt':(k:Int)<n:=by omega
     obtain⟨c0,c1,c2,c3,c4,c5⟩:=row0.below hR.below hl k hlt;have tk:=row0'.below hR.below hl' k hlt;simp only[Nat.zero_add]at c0 c1 c2 c3 c4 c5 tk;obtain⟨m0,m1,m2,m3,m4⟩:=hR.bk.cells;obtain⟨x0,x1,x2,x3,x4⟩:=hR.nx.cells;by_cases hsk:t k<t p
     .go_wp2;all_goals first|(exfalso;omega)|skip
      go_roundw
      case rel=>exact⟨k+1,vM,by go_num,by omega,by simp only[aq,if_pos hsk];exact hR.grow ((Gb _ _).alloc (Gm _) _)⟩
      case measure=>simp[intOf];omega
     .by_cases hkp:k=p
      .subst hkp;have hLk:=hlen k;have HG:=λW (hb:Below wr.heap.size wr W)=>hR.grow hb
       go_wp2_with(at_builtin;go_loud (refine wpList_append_own _ rfl (.tmp 62) (.tmp 64) 30 rfl (w0.heap.size+1) 36 iM _ 6 56 aC hI hz0i hi1 hi2 rfl (by decide) vM (aq f t k k).length (aG (jz (aq f t k k)) (aq f t k k).length) (by rfl) (HG _ (by repeat(first|exact Gb _ _|refine Gf ?_ (by simp<;>omega) _|refine Ge ?_ (by simp<;>omega) _))).own ⟨wr.heap.size+1,0,none⟩ 1 1 (Mv.cells (oP (f k) (t k))).toList (by rfl) rfl (o0 (bj _ _ _)) (dA _) (by unfold maxLen;omega) (by omega) (HG _ (by repeat(first|exact Gb _ _|refine Gf ?_ (by simp<;>omega) _|refine Ge ?_ (by simp<;>omega) _))).big ?_;intro v8 w8 ho8 hg8 _;obtain⟨B8,c8,rfl⟩:=ig ho8;obtain⟨y0,y1,y2,y3,y4⟩:=((HG _ (by repeat(first|exact Gb _ _|refine Gf ?_ (by simp<;>omega) _|refine Ge ?_ (by simp<;>omega) _))).nx8 hg8 (by omega)).cells;have l8:w0.heap.size<w8.heap.size:=((HG _ (by repeat(first|exact Gb _ _|refine Gf ?_ (by simp<;>omega) _|refine Ge ?_ (by simp<;>omega) _))).nx8 hg8 (by omega)).lt))
       all_goals first|(exfalso;omega)|skip
       go_roundw
       case rel=>exact⟨k+1,_,by go_num,by omega,by rw[fY hsk,qA];exact(HG _ (by repeat(first|exact Gb _ _|refine Gf ?_ (by simp<;>omega) _|refine Ge ?_ (by simp<;>omega) _))).append (by omega) (by omega) (by omega) (by omega) (by omega) (Gm _) ho8 hg8⟩
       case measure=>simp[intOf];omega
      .have hkp':¬(k:Int)=p:=by omega
       have hLk:=hlen k;obtain⟨m',hm'⟩:∃m',bV (f k) (t k) (t p)=m':=⟨_,rfl⟩;have HP:∀W,Calls Tz.prog 131 #[.agg #[.string (f k).name,.bool (f k).lands,.int .i64 (f k).wake,.int .i64 (f k).est,.int .i64 (f k).late,.int .i64 (f k).prom],.int .i64 (t k),.int .i64 (t p)] W λe w'=>e=.returned (.agg #[.string m'.name,.bool m'.lands,.int .i64 m'.wake,.int .i64 m'.est,.int .i64 m'.late,.int .i64 m'.prom])/\Below W.heap.size W w':=λW=>by
        rw[<-hm'];exact rR (f k) (t k) (t p) W (by omega) (by omega)
       go_wp2;all_goals first|(exfalso;omega)|skip
       have hbox:(wr.alloc (.cells #[.string (f k).name,.bool (f k).lands,.int .i64 (f k).wake,.int .i64 (f k).est,.int .i64 (f k).late,.int .i64 (f k).prom] 36)).heap[wr.heap.size]?=some (.cells (f k).cells 36 (0,0)):=heap_alloc_new _ _;have bA:Below wr.heap.size wr (wr.alloc (.cells #[.string (f k).name,.bool (f k).lands,.int .i64 (f k).wake,.int .i64 (f k).est,.int .i64 (f k).late,.int .i64 (f k).prom] 36)):=(Gb _ _).alloc (Gm _) _;revert hbox bA;generalize (wr.alloc (.cells #[.string (f k).name,.bool (f k).lands,.int .i64 (f k).wake,.int .i64 (f k).est,.int .i64 (f k).late,.int .i64 (f k).prom] 36))=W9;intro hbox bA;obtain⟨B9,hB9⟩:∃B9,B9=wr.heap.size:=⟨_,rfl⟩;rw[<-hB9]at hbox⊢;have hB9l:wr.heap.size<=B9:=by omega
       clear hB9;have n3:=(bA.cell (p:=⟨B2,3,none⟩) lb2).trans m3;have ntk:=(bA.cell (p:=⟨b',k,none⟩) lbr').trans tk;obtain⟨z0,z1,z2,z3,z4,z5⟩:=BP hbox;have l9:B9<W9.heap.size:=(Gp.1 hbox).1;clear c0 c1 c2 c3 c4 c5 m0 m1 m2 m3 m4 x0 x1 x2 x3 x4 tk;have l92:B2<W9.heap.size:=Gn lb2 bA.size;have l9':b'<W9.heap.size:=Gn lbr' bA.size;go_region_with(go_at_call 131;refine(HP _).mono ?_;clear HP;rintro e w4 ⟨rfl,b4⟩;have hbx4:w4.heap[B9]?=some (.cells (f k).cells 36 (0,0)):=(b4.block B9 l9).trans hbox;obtain⟨q0,q1,q2,q3,q4,q5⟩:=BP hbx4;have fr4:=(λj=>frozen_of_row w4 B9 j _ _ hbx4))
       all_goals
        have hst:=Ex hbx4 m';have b4':Below wr.heap.size wr ((((((w4.setCell ⟨B9,0,none⟩ (.string m'.name)).setCell ⟨B9,1,none⟩ (.bool m'.lands)).setCell ⟨B9,2,none⟩ (.int .i64 m'.wake)).setCell ⟨B9,3,none⟩ (.int .i64 m'.est)).setCell ⟨B9,4,none⟩ (.int .i64 m'.late)).setCell ⟨B9,5,none⟩ (.int .i64 m'.prom)):=((((((bA.drew.trans (b4.mono bA.drew.size)).setCell (p:=⟨B9,0,none⟩) hB9l _).setCell (p:=⟨B9,1,none⟩) hB9l _).setCell (p:=⟨B9,2,none⟩) hB9l _).setCell (p:=⟨B9,3,none⟩) hB9l _).setCell (p:=⟨B9,4,none⟩) hB9l _).setCell (p:=⟨B9,5,none⟩) hB9l _;revert hst b4';generalize ((((((w4.setCell ⟨B9,0,none⟩ (.string m'.name)).setCell ⟨B9,1,none⟩ (.bool m'.lands)).setCell ⟨B9,2,none⟩ (.int .i64 m'.wake)).setCell ⟨B9,3,none⟩ (.int .i64 m'.est)).setCell ⟨B9,4,none⟩ (.int .i64 m'.late)).setCell ⟨B9,5,none⟩ (.int .i64 m'.prom))=W6;intro hst b4';clear hbx4 q0 q1 q2 q3 q4 q5 fr4 hbox z0 z1 z2 z3 z4 z5 n3 ntk bA;have hR6:=hR.grow b4';obtain⟨y0,y1,y2,y3,y4⟩:=hR6.nx.cells;obtain⟨z0,z1,z2,z3,z4,z5⟩:=BP hst;have lb6:=hR6.nx.lt;have HG:=λW (hb:Below W6.heap.size W6 W)=>hR6.grow hb
        go_wp2_with(at_builtin;refine wpList_append_own _ rfl (.tmp 62) (.tmp 64) 30 rfl (w0.heap.size+1) 36 iM _ 6 56 aC hI hz0i hi1 hi2 rfl (by decide) vM (aq f t p k).length (aG (jz (aq f t p k)) (aq f t p k).length) (by rfl) (HG _ (by repeat(first|exact Gb _ _|refine Gf ?_ (by simp<;>omega) _|refine Ge ?_ (by simp<;>omega) _))).own ⟨_,0,none⟩ 1 1 (Mv.cells m').toList (by rfl) rfl (o0 (heap_alloc_new _ _)) (dA _) (by unfold maxLen;omega) (by omega) (HG _ (by repeat(first|exact Gb _ _|refine Gf ?_ (by simp<;>omega) _|refine Ge ?_ (by simp<;>omega) _))).big ?_;intro v8 w8 ho8 hg8 _;obtain⟨B8,c8,rfl⟩:=ig ho8;obtain⟨k0',k1',k2',k3',k4'⟩:=((HG _ (by repeat(first|exact Gb _ _|refine Gf ?_ (by simp<;>omega) _|refine Ge ?_ (by simp<;>omega) _))).nx8 hg8 (by omega)).cells;have l8:w0.heap.size<w8.heap.size:=((HG _ (by repeat(first|exact Gb _ _|refine Gf ?_ (by simp<;>omega) _|refine Ge ?_ (by simp<;>omega) _))).nx8 hg8 (by omega)).lt)
        go_roundw
        case rel=>exact⟨k+1,_,by go_num,by omega,by rw[fY (by omega),mh hkp,hm'];exact(HG _ (by repeat(first|exact Gb _ _|refine Gf ?_ (by simp<;>omega) _|refine Ge ?_ (by simp<;>omega) _))).append (by omega) (by omega) (by omega) (by omega) (by omega) (Gm _) ho8 hg8⟩
        case measure=>simp[intOf];omega
    .have hlt':¬(k:Int)<n:=by omega
     have hkn:k=n:=by omega
     subst hkn;have hpos:=jL (f:=f) (t:=t) (p:=p) hp;obtain⟨BN,cN,rfl⟩:∃BN cN,vM=.slice (some ⟨BN,0,none⟩) (aq f t p k).length cN:=by
      rcases hR.own.2 with⟨_,e⟩|⟨g,cap,cur,e,_⟩
      .omega
      .exact⟨g,cap,e⟩
     obtain⟨lo,hi⟩:=hR.own.lt BN rfl;go_wp2;all_goals first|(exfalso;omega)|skip
     exact⟨hbl0 _ (λq hq=>hR.below.block q (by omega)) hR.below.size,w0.heap.size,hz0,by omega,BN,by omega,hR.res,⟨cN,hR.nx⟩,rX hR.own,hi,by omega,by omega,rfl,rfl⟩
  .have hnl:(f p).late<t p+6:=by omega
   go_wp2;all_goals first|(exfalso;omega)|skip
   rw[dO rs0];have hbl:=hbl0 _ (λk hk=>setRow_other w0 B4 _ #[.int .i64 0,.int .i64 0,.slice none 0 0,.slice none 0 0] (by omega)) (by rw[setRow_size];exact Gm _);have hB:=setRow_heap w0 B4 _ #[.int .i64 0,.int .i64 0,.slice none 0 0,.slice none 0 0] _ _ rs0;first
    |exact⟨hbl,rfl,rfl,hB⟩
    |exact⟨hbl,rfl,rfl,rfl,hB⟩
    |exact⟨hle,hbl,rfl,rfl,rfl,hB⟩
    |exact⟨hbl,hB⟩
 .rintro a' w2 ⟨hle,hb2,B7,BN,cN,hB7,h47,hBN,res,nx,sC,hlN,hN4,hN7,hfr⟩;clear u row1 row1' bk rs hb1;obtain⟨u,rfl⟩:=hfr.open;clear hfr;have hRr:da f n t p=eA (jz (aq f t p n)) (aq f t p n).length (t p) 6:=by unfold da;rw[if_pos hle]
  have hlen:=fG f t p n;have hz2:=hb2.size;obtain⟨r,hr⟩:∃r,da f n t p=r:=⟨_,rfl⟩;obtain⟨br,hbr⟩:∃br,r.isSome=br:=⟨_,rfl⟩;refine ap.seq E hRo (ap.region E hRo ?_);rw[bh];refine ap.opsFrom E hRo 0 3 (by simp) (λa' w'=>(∃τ d,w'=re w2 τ d)/\aZ a' (rW 81 [(4,.pointer (some ⟨B4,0,none⟩)),(6,.int .i64 (t p)),(7,.pointer (some ⟨B7,0,none⟩)),(70,.slice (some ⟨BN,0,none⟩) (aq f t p n).length cN),(71,.int .i64 (t p))])) ?_ ?_
  .intro τ d;have nx':ar (re w2 τ d) B7 (t p) shift (.slice (some ⟨BN,0,none⟩) (aq f t p n).length cN) (.slice none 0 0):=nx;obtain⟨y0,y1,y2,y3,y4⟩:=nx'.cells;clear hcont;simp only[List.drop_zero,List.take_succ_cons,List.take_zero];go_wp2;exact⟨⟨τ,d,rfl⟩,rfl,rfl⟩
  rintro a' w' ⟨⟨τ,d,rfl⟩,hfr⟩;clear u;obtain⟨u,rfl⟩:=hfr.open;clear hfr;refine ap.planOp E hPl hSB hbt hRo (i:=3) rfl rfl (B:=BN) (n:=(aq f t p n).length) (cap:=cN) (g:=jz (aq f t p n)) (now:=t p) (shift:=6) (λw=>by simp[execOp,resolve,invoke,Act.eval,go_sem]) (by omega) (λi hi=>oU hm hf hp hle hi) (by omega) (by omega) hlN (aI sC.1 rfl) ?_;intro v V3 hpost;rw[<-hRr,hr]at hpost;obtain⟨v5,rfl,t5,hb3'⟩:=rV hpost;have hb3:Bl w2.heap.size w2 V3:=⟨hb3'.size,hb3'.block⟩;replace t5:Tk r (aq f t p n).length w2.heap.size V3 v5:=t5;rw[hbr];clear hpost hb3';refine ap.opsFrom E hRo 4 5 (by simp) (λa' w'=>(∃τ d,w'=re V3 τ d)/\aZ a' (rW 81 [(4,.pointer (some ⟨B4,0,none⟩)),(6,.int .i64 (t p)),(7,.pointer (some ⟨B7,0,none⟩)),(10,v5),(11,.bool br)])) ?_ ?_
  .intro τ d;clear hcont;simp only[List.drop_succ_cons,List.drop_zero,List.take_succ_cons,List.take_zero,Act.put];go_wp2;exact⟨⟨τ,d,rfl⟩,rfl,rfl⟩
  rintro a' w' ⟨⟨τ3,d3,rfl⟩,hfr⟩;clear u;obtain⟨u,rfl⟩:=hfr.open;clear hfr;refine ap.regionEnd E hRo ?_;have hz3:=hb3.size;have res3:ar V3 B4 0 0 (.slice none 0 0) (.slice none 0 0):=res.same (hb3.block B4 res.lt);have nx3:ar V3 B7 (t p) shift (.slice (some ⟨BN,0,none⟩) (aq f t p n).length cN) (.slice none 0 0):=nx.same (hb3.block B7 nx.lt);have rowN3:pa V3 BN (aq f t p n).length (jz (aq f t p n)):=sC.same (hb3.block BN hlN);have hb03:Bl V.heap.size V V3:=hb2.trans hb3 hz2;have lN:=nx.lt;have l4:=res.lt;clear nx res sC hb2 hb3;have hfin:∀(a':Act) (w':World) (todo:List Item),(∃(x0 x1:Int) (x2:Option Addr) (l2 c2:Nat) (x3:Option Addr) (l3 c3:Nat),w'.heap[B4]?=some (.cells #[.int .i64 x0,.int .i64 x1,.slice x2 l2 c2,.slice x3 l3 c3] 32 (0,0))/\Bl V.heap.size V w'/\(∀T,r=some T->∃BN BT,V.heap.size<=BN/\V.heap.size<=BT/\x0=t p/\x1=shift/\x2=some ⟨BN,0,none⟩/\l2=(aq f t p n).length/\x3=some ⟨BT,0,none⟩/\l3=(aq f t p n).length/\pa w' BN (aq f t p n).length (jz (aq f t p n))/\an w' BT (aq f t p n).length T)/\aZ a' (rW 81 [(4,.pointer (some ⟨B4,0,none⟩)),(5,.bool br)]))->ap Tz.prog ok c Dr24 Q ⟨{(base 112).at a' todo with mode:=.returning},r0::cs,w'⟩:=by
   rintro a' w' todo ⟨x0,x1,x2,l2,c2,x3,l3,c3,hc,hbl,hT,hfr⟩;obtain⟨u,rfl⟩:=hfr.open;refine ap.leave E hr0 (v:=.tuple #[.agg #[.int .i64 x0,.int .i64 x1,.slice x2 l2 c2,.slice x3 l3 c3],.bool br]) (λτ d=>⟨rfl,rfl,rfl,_,Tz.func112,?_⟩) (hcont _ _ ⟨⟨x0,x1,x2,l2,c2,x3,l3,c3,by rw[hr,hbr],λT hT'=>hT T (hr.symm.trans hT')⟩,hbl⟩);have q0:(re w' τ d).cell? ⟨B4,0,none⟩=some (.int .i64 x0):=by have h:(re w' τ d).heap[B4]?=_:=hc;simp[World.cell?,h]
   have q1:(re w' τ d).cell? ⟨B4,1,none⟩=some (.int .i64 x1):=by have h:(re w' τ d).heap[B4]?=_:=hc;simp[World.cell?,h]
   have q2:(re w' τ d).cell? ⟨B4,2,none⟩=some (.slice x2 l2 c2):=by have h:(re w' τ d).heap[B4]?=_:=hc;simp[World.cell?,h]
   have q3:(re w' τ d).cell? ⟨B4,3,none⟩=some (.slice x3 l3 c3):=by have h:(re w' τ d).heap[B4]?=_:=hc;simp[World.cell?,h]
   show Sem.run Tz.prog (results Tryz.f112 ((rW 81 [(4,.pointer (some ⟨B4,0,none⟩)),(5,.bool br)]) u)) (re w' τ d)=.ok (.tuple #[.agg #[.int .i64 x0,.int .i64 x1,.slice x2 l2 c2,.slice x3 l3 c3],.bool br]) (re w' τ d);simp[results,Tryz.f112,go_sem,q0,q1,q2,q3]
  refine ap.last E hRo [_,_,_] (λa' w'=>∃(x0 x1:Int) (x2:Option Addr) (l2 c2:Nat) (x3:Option Addr) (l3 c3:Nat),w'.heap[B4]?=some (.cells #[.int .i64 x0,.int .i64 x1,.slice x2 l2 c2,.slice x3 l3 c3] 32 (0,0))/\Bl V.heap.size V w'/\(∀T,r=some T->∃BN BT,V.heap.size<=BN/\V.heap.size<=BT/\x0=t p/\x1=shift/\x2=some ⟨BN,0,none⟩/\l2=(aq f t p n).length/\x3=some ⟨BT,0,none⟩/\l3=(aq f t p n).length/\pa w' BN (aq f t p n).length (jz (aq f t p n))/\an w' BT (aq f t p n).length T)/\aZ a' (rW 81 [(4,.pointer (some ⟨B4,0,none⟩)),(5,.bool br)])) ?_ hfin;intro τ d;clear hfin hcont;have res0:ar (re (re V3 τ3 d3) τ d) B4 0 0 (.slice none 0 0) (.slice none 0 0):=res3;have nx0:ar (re (re V3 τ3 d3) τ d) B7 (t p) shift (.slice (some ⟨BN,0,none⟩) (aq f t p n).length cN) (.slice none 0 0):=nx3;have row0:pa (re (re V3 τ3 d3) τ d) BN (aq f t p n).length (jz (aq f t p n)):=rowN3.same rfl;have t50:Tk r (aq f t p n).length w2.heap.size (re (re V3 τ3 d3) τ d) v5:=t5.same λ_ _ _=>rfl
  have hb0:Bl V.heap.size V (re (re V3 τ3 d3) τ d):=⟨hb03.size,hb03.block⟩;revert res0 nx0 row0 t50 hb0;generalize re (re V3 τ3 d3) τ d=w0;intro res0 nx0 row0 t50 hb0;clear res3 nx3 rowN3 t5 hb03;obtain⟨r0',r1',r2',r3',r4'⟩:=res0.cells;obtain⟨y0,y1,y2,y3,y4⟩:=nx0.cells;simp only[aD];cases r with
  |none=>
   subst hbr;simp only[Option.isSome_none];go_wp2;all_goals first|(exfalso;omega)|skip
   rw[dO res0];right;exact⟨by first|rfl|trivial,_,_,_,_,_,_,_,_,setRow_heap _ _ _ _ _ _ res0,⟨by rw[setRow_size];exact hb0.size,λk hk=>(setRow_other _ _ _ _ (by omega)).trans (hb0.block k hk)⟩,(λT h=>by cases h),rfl,rfl⟩
  |some T=>
   obtain⟨BT,cT,hBT,rfl,oT⟩:=t50;subst hbr;simp only[Option.isSome_some];go_wp2;all_goals first|(exfalso;omega)|skip
   have hs:∀k,k≠B7->(w0.setCell ⟨B7,3,none⟩ (.slice (some ⟨BT,0,none⟩) (aq f t p n).length cT)).heap[k]?=w0.heap[k]?:=λk hk=>Gd _ _ _ k hk
   have hz5:(w0.setCell ⟨B7,3,none⟩ (.slice (some ⟨BT,0,none⟩) (aq f t p n).length cT)).heap.size=w0.heap.size:=by simp
   revert hs hz5;generalize w0.setCell ⟨B7,3,none⟩ (.slice (some ⟨BT,0,none⟩) (aq f t p n).length cT)=w5;intro hs hz5;have res5:=res0.same (hs B4 h47);rw[dO res5];have ho:∀k,k≠B7->k≠B4->∀row,(w5.setRow B4 row).heap[k]?=w0.heap[k]?:=λk h1 h2 row=>(setRow_other _ _ _ _ h2).trans (hs k h1)
   left;exact⟨by first|rfl|trivial,_,_,_,_,_,_,_,_,setRow_heap _ _ _ _ _ _ res5,⟨by rw[setRow_size,hz5];exact hb0.size,λk hk=>(ho k (by omega) (by omega) _).trans (hb0.block k hk)⟩,λT' h=>by
    obtain rfl:=Gt h;exact⟨BN,BT,hBN,by omega,rfl,rfl,rfl,rfl,rfl,rfl,row0.same (ho BN hN7 hN4 _),ju oT (ho BT (by omega) (by omega) _)⟩,rfl,rfl⟩
 .rintro a' w2 todo ⟨hle,hb2,hd,h4,h5,res⟩;refine ap.leave E hr0 (v:=.tuple #[.agg #[.int .i64 0,.int .i64 0,.slice none 0 0,.slice none 0 0],.bool false]) (λτ d=>⟨rfl,hd,rfl,_,Tz.func112,?_⟩) (hcont _ _ ⟨⟨0,0,none,0,0,none,0,0,by unfold da;rw[if_neg hle];rfl,λT hT=>by unfold da at hT;rw[if_neg hle]at hT;cases hT⟩,hb2⟩);have hc:(re w2 τ d).heap[B4]?=_:=res;have q0:(re w2 τ d).cell? ⟨B4,0,none⟩=some (.int .i64 0):=by simp[World.cell?,hc]
  have q1:(re w2 τ d).cell? ⟨B4,1,none⟩=some (.int .i64 0):=by simp[World.cell?,hc]
  have q2:(re w2 τ d).cell? ⟨B4,2,none⟩=some (.slice none 0 0):=by simp[World.cell?,hc]
  have q3:(re w2 τ d).cell? ⟨B4,3,none⟩=some (.slice none 0 0):=by simp[World.cell?,hc]
  show Sem.run Tz.prog (results Tryz.f112 a'.tmps) (re w2 τ d)=.ok (.tuple #[.agg #[.int .i64 0,.int .i64 0,.slice none 0 0,.slice none 0 0],.bool false]) (re w2 τ d);simp[results,Tryz.f112,go_sem,q0,q1,q2,q3,h4,h5]
end
end
section
open Go Go.RowKit
theorem vC (m:Mv)(tick:Int)(w:World)(h0:0<=tick)(h1:tick<=20000):
  Calls Tz.prog 93 #[.agg #[.string m.name,.bool m.lands,.int .i64 m.wake,.int .i64 m.est,.int .i64 m.late,.int .i64 m.prom],.int .i64 tick] w λe w'=>e=.returned (.tuple #[.agg #[.string m.name,.bool m.lands,.int .i64 m.wake,.int .i64 (tick+6),.int .i64 m.late,.int .i64 (-1)],.bool (decide (tick+6<=m.late))])/\Below w.heap.size w w':=by
 have hwr:IntKind.i64.wrap (tick+6)=tick+6:=by rw[IntKind.wrap_i64];omega
 go_enter Tz.func93,Tryz.ntmps93
 go_wp2;go_region
 all_goals
  go_wp2;refine bodyPost_ret (v:=.tuple #[.agg #[.string m.name,.bool m.lands,.int .i64 m.wake,.int .i64 (tick+6),.int .i64 m.late,.int .i64 (-1)],.bool (decide (tick+6<=m.late))]) (by simp[results,Tryz.results93,go_sem]) rfl ⟨rfl,?_⟩;repeat(first|exact Gb _ _|refine Below.drew ?_|refine Gf ?_ (by simp<;>omega) _|refine Ge ?_ (by simp<;>omega) _)
def ii (f:Nat->Mv)(n:Nat)(t:Nat->Int)(p:Nat)(shift:Int)(w:World)(e:Ending)(w':World):Prop:=
 if t p+6<=(f p).late then∃BN cN,e=.returned (.tuple #[.agg #[.int .i64 (t p),.int .i64 shift,.slice (some ⟨BN,0,none⟩) (aq f t p n).length cN,.slice none 0 0],.bool true])/\w.heap.size<=BN/\BN<w'.heap.size/\ak w' BN 0 (aq f t p n).length (jz (aq f t p n))
 else e=.returned (.tuple #[.agg #[.int .i64 0,.int .i64 0,.slice none 0 0,.slice none 0 0],.bool false])
theorem vD (b n cap b' cap' p:Nat)(f:Nat->Mv)(t:Nat->Int)(now shift:Int)(w:World)(hm:aw f n=true)(hf:dU f t n)(hp:p<n)(hbs:b<w.heap.size)(hrow:ak w b 0 n f)(hbs':b'<w.heap.size)(hrow':al w b' 0 n t):
  Calls Tz.prog 68 #[.agg #[.int .i64 now,.int .i64 shift,.slice (some ⟨b,0,none⟩) n cap,.slice (some ⟨b',0,none⟩) n cap'],.int .i64 p] w λe w'=>ii f n t p shift w e w'/\Below w.heap.size w w':=by
 have h6:=aN hm;have hokp:=Mv.ok_bd (aS hm p hp);have hsp:=eZ (hf.1 p hp);have hpn:(p:Int)<n:=by omega
 have tp:=hrow' p hp;simp only[Nat.zero_add]at tp;have hB0:∀o1 o2,Below w.heap.size w ((w.alloc o1).alloc o2):=λo1 o2=>((Gb _ w).alloc (Gm _) _).alloc (by simp) _
 have tp2:∀o1 o2,((w.alloc o1).alloc o2).cell? ⟨b',p,none⟩=some (.int .i64 (t p)):=λo1 o2=>((hB0 o1 o2).cell (p:=⟨b',p,none⟩) hbs').trans tp
 obtain⟨iM,hI,hz0i,hi1,hi2⟩:=dh;have hlen:=fG f t p;go_enter Tz.func68,Tryz.ntmps68
 go_wp2;have hbk1:ar (((w.alloc (.cells #[.int .i64 now,.int .i64 shift,.slice (some ⟨b,0,none⟩) n cap,.slice (some ⟨b',0,none⟩) n cap'] 32)).alloc (.cells #[.int .i64 0,.int .i64 0,.slice none 0 0,.slice none 0 0] 32)).alloc (.cells #[.int .i64 (t p),.int .i64 shift,.slice none 0 0,.slice none 0 0] 32)) w.heap.size now shift (.slice (some ⟨b,0,none⟩) n cap) (.slice (some ⟨b',0,none⟩) n cap'):=(Gc _ _ _ (by simp;omega)).trans ((Gc _ _ _ (by simp)).trans (heap_alloc_new _ _));have hbk2:ar (((w.alloc (.cells #[.int .i64 now,.int .i64 shift,.slice (some ⟨b,0,none⟩) n cap,.slice (some ⟨b',0,none⟩) n cap'] 32)).alloc (.cells #[.int .i64 0,.int .i64 0,.slice none 0 0,.slice none 0 0] 32)).alloc (.cells #[.int .i64 (t p),.int .i64 shift,.slice none 0 0,.slice none 0 0] 32)) (w.heap.size+1) 0 0 (.slice none 0 0) (.slice none 0 0):=(Gc _ _ _ (by simp)).trans (bj _ _ _);have hbk3:ar (((w.alloc (.cells #[.int .i64 now,.int .i64 shift,.slice (some ⟨b,0,none⟩) n cap,.slice (some ⟨b',0,none⟩) n cap'] 32)).alloc (.cells #[.int .i64 0,.int .i64 0,.slice none 0 0,.slice none 0 0] 32)).alloc (.cells #[.int .i64 (t p),.int .i64 shift,.slice none 0 0,.slice none 0 0] 32)) (w.heap.size+1+1) (t p) shift (.slice none 0 0) (.slice none 0 0):=by
  have:=bj (w.alloc (.cells #[.int .i64 now,.int .i64 shift,.slice (some ⟨b,0,none⟩) n cap,.slice (some ⟨b',0,none⟩) n cap'] 32)) (.cells #[.int .i64 0,.int .i64 0,.slice none 0 0,.slice none 0 0] 32) (.cells #[.int .i64 (t p),.int .i64 shift,.slice none 0 0,.slice none 0 0] 32);rw[Gg]at this;exact this
 have hbl:Below w.heap.size w (((w.alloc (.cells #[.int .i64 now,.int .i64 shift,.slice (some ⟨b,0,none⟩) n cap,.slice (some ⟨b',0,none⟩) n cap'] 32)).alloc (.cells #[.int .i64 0,.int .i64 0,.slice none 0 0,.slice none 0 0] 32)).alloc (.cells #[.int .i64 (t p),.int .i64 shift,.slice none 0 0,.slice none 0 0] 32)):=(hB0 _ _).alloc (by simp;omega) _;obtain⟨B4,hB4⟩:∃B,B=w.heap.size+1:=⟨_,rfl⟩;obtain⟨B7,hB7⟩:∃B,B=w.heap.size+1+1:=⟨_,rfl⟩;rw[<-hB7]at hbk3⊢;rw[<-hB4]at hbk2⊢;have q4:w.heap.size<B4/\B4<w.heap.size+3/\B4≠B7:=⟨by omega,by omega,by omega⟩;have q7:w.heap.size<B7/\B7<w.heap.size+3:=⟨by omega,by omega⟩;clear hB4 hB7;obtain⟨q41,q42,q43⟩:=q4;obtain⟨q71,q72⟩:=q7;go_loopw [8,9,10,11] (λx _ _ _ W=>∃(k:Nat) (vM:Value),x=.int .i64 k/\k<=n/\(¬t p+6<=(f p).late->k<=p)/\Rb w (w.heap.size+3) w.heap.size B4 B7 now shift (t p) (.slice (some ⟨b,0,none⟩) n cap) (.slice (some ⟨b',0,none⟩) n cap') vM (aq f t p k) W) (λx _ _ _ _=>n-(intOf x).toNat)
 case atStart=>exact⟨0,.slice none 0 0,rfl,Gs _,λ_=>Gs _,⟨hbk1,hbk2,hbk3,World.ownsRow_nil _ _ _ _,hbl,by simp⟩⟩
 case round=>
  clear hbk1 hbk2 hbk3 hbl tp2 hB0;obtain⟨k,vM,rfl,hk,hkp0,hR⟩:=hrel;have lbr:=Gn hbs hR.below.size;have lbr':=Gn hbs' hR.below.size;have lb2:=hR.bk.lt;have lb4:=hR.res.lt;have lb7:=hR.nx.lt;obtain⟨m0,m1,m2,m3,m4⟩:=hR.bk.cells;obtain⟨x0,x1,x2,x3,x4⟩:=hR.nx.cells;by_cases hlt:k<n
  .have hlt':(k:Int)<n:=by omega
   obtain⟨c0,c1,c2,c3,c4,c5⟩:=hrow.below hR.below hbs k hlt;have tk:=hrow'.below hR.below hbs' k hlt;simp only[Nat.zero_add]at c0 c1 c2 c3 c4 c5 tk;have hLk:=hlen k;by_cases hkp:k=p
   .subst hkp;have HQ:=λW=>vC (f k) (t k) W (by omega) (by omega)
    by_cases hle:t k+6<=(f k).late
    .go_wp2_with(first
      |(go_at_call 93;refine(HQ _).mono ?_;clear HQ;rintro e w3 ⟨rfl,b3⟩;have hR3:=(hR.grow ((Gb _ _).alloc (Gm _) _)).grow b3;obtain⟨y0,y1,y2,y3,y4⟩:=hR3.nx.cells;have lb73:=hR3.nx.lt;have y2':∀o,(w3.alloc o).cell? ⟨B7,2,none⟩=some vM:=(λo=>(World.cell?_alloc_past _ _ _ lb73).trans y2);have HG:=λW (hb:Below w3.heap.size w3 W)=>hR3.grow hb)
      |(at_builtin;refine wpList_append_own _ rfl (.tmp 46) (.tmp 48) 30 rfl (w.heap.size+3) 36 iM _ 6 56 aC hI hz0i hi1 hi2 rfl (by decide) vM (aq f t k k).length (aG (jz (aq f t k k)) (aq f t k k).length) (by rfl) (HG _ (by repeat(first|exact Gb _ _|refine Gf ?_ (by simp<;>omega) _|refine Ge ?_ (by simp<;>omega) _))).own ⟨w3.heap.size+1,0,none⟩ 1 1 (Mv.cells (oP (f k) (t k))).toList (by rfl) rfl (o0 (bj _ _ _)) (dA _) (by unfold maxLen;omega) (by omega) (HG _ (by repeat(first|exact Gb _ _|refine Gf ?_ (by simp<;>omega) _|refine Ge ?_ (by simp<;>omega) _))).big ?_;intro v8 w8 ho8 hg8 _;obtain⟨B8,c8,rfl⟩:=ig ho8;obtain⟨k0',k1',k2',k3',k4'⟩:=((HG _ (by repeat(first|exact Gb _ _|refine Gf ?_ (by simp<;>omega) _|refine Ge ?_ (by simp<;>omega) _))).nx8 hg8 (by omega)).cells;have l8:B7<w8.heap.size:=((HG _ (by repeat(first|exact Gb _ _|refine Gf ?_ (by simp<;>omega) _|refine Ge ?_ (by simp<;>omega) _))).nx8 hg8 (by omega)).lt))
     all_goals first|(exfalso;omega)|skip
     go_roundw
     case rel=>exact⟨k+1,_,by go_num,by omega,λh=>absurd hle h,by rw[fY (by omega),qA];exact(HG _ (by repeat(first|exact Gb _ _|refine Gf ?_ (by simp<;>omega) _|refine Ge ?_ (by simp<;>omega) _))).append (by omega) (by omega) (by omega) (by omega) (by omega) (by omega) ho8 hg8⟩
     case measure=>simp[intOf];omega
    .have hdl:decide (t k+6<=(f k).late)=false:=by simpa using hle
     have HD:Hid (decide (t k+6<=(f k).late)=false):=hdl;go_wp2_with(go_at_call 93;refine(HQ _).mono ?_;clear HQ;rintro e w3 ⟨rfl,b3⟩;rw[HD.out];have hR3:=(hR.grow ((Gb _ _).alloc (Gm _) _)).grow b3;obtain⟨y0,y1,y2,y3,y4⟩:=hR3.res.cells;have lb43:=hR3.res.lt)
     all_goals first|(exfalso;omega)|skip
     rw[dO hR3.res];have hs5:=setRow_heap w3 B4 _ #[.int .i64 0,.int .i64 0,.slice none 0 0,.slice none 0 0] _ _ hR3.res;have hb5:=below_setRow hR3.below (by omega:w.heap.size<=B4) #[.int .i64 0,.int .i64 0,.slice none 0 0,.slice none 0 0];have hz5:(w3.setRow B4 #[.int .i64 0,.int .i64 0,.slice none 0 0,.slice none 0 0]).heap.size=w3.heap.size:=setRow_size _ _ _;revert hs5 hb5 hz5;generalize w3.setRow B4 #[.int .i64 0,.int .i64 0,.slice none 0 0,.slice none 0 0]=W5;intro hs5 hb5 hz5;have hb6:=λo=>hb5.alloc (o:=o) hb5.size
     have hs6:=λo=>(Gc W5 o B4 (by omega)).trans hs5
     have q0:∀o,(W5.alloc o).cell? ⟨B4,0,none⟩=some (.int .i64 0):=λo=>by simp[World.cell?,hs6]
     have q1:∀o,(W5.alloc o).cell? ⟨B4,1,none⟩=some (.int .i64 0):=λo=>by simp[World.cell?,hs6]
     have q2:∀o,(W5.alloc o).cell? ⟨B4,2,none⟩=some (.slice none 0 0):=λo=>by simp[World.cell?,hs6]
     have q3:∀o,(W5.alloc o).cell? ⟨B4,3,none⟩=some (.slice none 0 0):=λo=>by simp[World.cell?,hs6]
     refine bodyPost_ret (v:=.tuple #[.agg #[.int .i64 0,.int .i64 0,.slice none 0 0,.slice none 0 0],.bool false]) ?_ rfl ⟨by unfold ii;rw[if_neg (by omega)],hb6 _⟩;simp[results,Tryz.f68,go_sem,q0,q1,q2,q3]
   .have hkp':¬(k:Int)=p:=by omega
    by_cases hsk:t k<t p
    .go_wp2;all_goals first|(exfalso;omega)|skip
     go_roundw
     case rel=>exact⟨k+1,vM,by go_num,by omega,λh=>by have:=hkp0 h;omega,by simp only[aq,if_pos hsk];exact hR.grow ((Gb _ _).alloc (Gm _) _)⟩
     case measure=>simp[intOf];omega
    .have hwr:IntKind.i64.wrap (t p+4)=t p+4:=by rw[IntKind.wrap_i64];omega
     have HG:=λW (hb:Below wr.heap.size wr W)=>hR.grow hb
     by_cases hso:t k<t p+4
     .go_wp2_with(at_builtin;refine wpList_append_own _ rfl (.tmp 73) (.tmp 75) 30 rfl (w.heap.size+3) 36 iM _ 6 56 aC hI hz0i hi1 hi2 rfl (by decide) vM (aq f t p k).length (aG (jz (aq f t p k)) (aq f t p k).length) (by rfl) (HG _ (by repeat(first|exact Gb _ _|refine Gf ?_ (by simp<;>omega) _|refine Ge ?_ (by simp<;>omega) _))).own ⟨wr.heap.size+1,0,none⟩ 1 1 (Mv.cells ({f k with prom:=t k})).toList (by rfl) rfl (o0 (bj _ _ _)) (dA _) (by unfold maxLen;omega) (by omega) (HG _ (by repeat(first|exact Gb _ _|refine Gf ?_ (by simp<;>omega) _|refine Ge ?_ (by simp<;>omega) _))).big ?_;intro v8 w8 ho8 hg8 _;obtain⟨B8,c8,rfl⟩:=ig ho8;obtain⟨k0',k1',k2',k3',k4'⟩:=((HG _ (by repeat(first|exact Gb _ _|refine Gf ?_ (by simp<;>omega) _|refine Ge ?_ (by simp<;>omega) _))).nx8 hg8 (by omega)).cells;have l8:B7<w8.heap.size:=((HG _ (by repeat(first|exact Gb _ _|refine Gf ?_ (by simp<;>omega) _|refine Ge ?_ (by simp<;>omega) _))).nx8 hg8 (by omega)).lt)
      all_goals first|(exfalso;omega)|skip
      go_roundw
      case rel=>exact⟨k+1,_,by go_num,by omega,λh=>by have:=hkp0 h;omega,by rw[fY (by omega),mh hkp,show bV (f k) (t k) (t p)={f k with prom:=t k} by unfold bV;rw[if_pos (by omega)]];exact(HG _ (by repeat(first|exact Gb _ _|refine Gf ?_ (by simp<;>omega) _|refine Ge ?_ (by simp<;>omega) _))).append (by omega) (by omega) (by omega) (by omega) (by omega) (by omega) ho8 hg8⟩
      case measure=>simp[intOf];omega
     .go_wp2_with(at_builtin;refine wpList_append_own _ rfl (.tmp 73) (.tmp 75) 30 rfl (w.heap.size+3) 36 iM _ 6 56 aC hI hz0i hi1 hi2 rfl (by decide) vM (aq f t p k).length (aG (jz (aq f t p k)) (aq f t p k).length) (by rfl) (HG _ (by repeat(first|exact Gb _ _|refine Gf ?_ (by simp<;>omega) _|refine Ge ?_ (by simp<;>omega) _))).own ⟨wr.heap.size+1,0,none⟩ 1 1 (Mv.cells (f k)).toList (by rfl) rfl (o0 (bj _ _ _)) (dA _) (by unfold maxLen;omega) (by omega) (HG _ (by repeat(first|exact Gb _ _|refine Gf ?_ (by simp<;>omega) _|refine Ge ?_ (by simp<;>omega) _))).big ?_;intro v8 w8 ho8 hg8 _;obtain⟨B8,c8,rfl⟩:=ig ho8;obtain⟨k0',k1',k2',k3',k4'⟩:=((HG _ (by repeat(first|exact Gb _ _|refine Gf ?_ (by simp<;>omega) _|refine Ge ?_ (by simp<;>omega) _))).nx8 hg8 (by omega)).cells;have l8:B7<w8.heap.size:=((HG _ (by repeat(first|exact Gb _ _|refine Gf ?_ (by simp<;>omega) _|refine Ge ?_ (by simp<;>omega) _))).nx8 hg8 (by omega)).lt)
      all_goals first|(exfalso;omega)|skip
      go_roundw
      case rel=>exact⟨k+1,_,by go_num,by omega,λh=>by have:=hkp0 h;omega,by rw[fY (by omega),mh hkp,show bV (f k) (t k) (t p)=f k by unfold bV;rw[if_neg (by omega)]];exact(HG _ (by repeat(first|exact Gb _ _|refine Gf ?_ (by simp<;>omega) _|refine Ge ?_ (by simp<;>omega) _))).append (by omega) (by omega) (by omega) (by omega) (by omega) (by omega) ho8 hg8⟩
      case measure=>simp[intOf];omega
  .have hlt':¬(k:Int)<n:=by omega
   have hkn:k=n:=by omega
   subst hkn;have hle:t p+6<=(f p).late:=by
    by_cases h:t p+6<=(f p).late
    .exact h
    .have:=hkp0 h;omega
   have hpos:=jL (f:=f) (t:=t) (p:=p) hp;obtain⟨BN,cN,rfl⟩:∃BN cN,vM=.slice (some ⟨BN,0,none⟩) (aq f t p k).length cN:=by
    rcases hR.own.2 with⟨_,e⟩|⟨g,cap,cur,e,_⟩
    .omega
    .exact⟨g,cap,e⟩
   obtain⟨lo,hi⟩:=hR.own.lt BN rfl;obtain⟨s0,s1,s2,s3,s4⟩:=hR.res.cells;go_wp2;all_goals first|(exfalso;omega)|skip
   rw[dO hR.res];have hs5:=setRow_heap wr B4 _ #[.int .i64 (t p),.int .i64 shift,.slice (some ⟨BN,0,none⟩) (aq f t p k).length cN,.slice none 0 0] _ _ hR.res;have hb5:=below_setRow hR.below (by omega:w.heap.size<=B4) #[.int .i64 (t p),.int .i64 shift,.slice (some ⟨BN,0,none⟩) (aq f t p k).length cN,.slice none 0 0];have hz5:(wr.setRow B4 #[.int .i64 (t p),.int .i64 shift,.slice (some ⟨BN,0,none⟩) (aq f t p k).length cN,.slice none 0 0]).heap.size=wr.heap.size:=setRow_size _ _ _;have hn5:(wr.setRow B4 #[.int .i64 (t p),.int .i64 shift,.slice (some ⟨BN,0,none⟩) (aq f t p k).length cN,.slice none 0 0]).heap[BN]?=wr.heap[BN]?:=setRow_other _ _ _ _ (by omega);have rN:=dg hR.own;revert hs5 hb5 hz5 hn5;generalize wr.setRow B4 #[.int .i64 (t p),.int .i64 shift,.slice (some ⟨BN,0,none⟩) (aq f t p k).length cN,.slice none 0 0]=W5;intro hs5 hb5 hz5 hn5;have q0:W5.cell? ⟨B4,0,none⟩=some (.int .i64 (t p)):=by simp[World.cell?,hs5]
   have q1:W5.cell? ⟨B4,1,none⟩=some (.int .i64 shift):=by simp[World.cell?,hs5]
   have q2:W5.cell? ⟨B4,2,none⟩=some (.slice (some ⟨BN,0,none⟩) (aq f t p k).length cN):=by simp[World.cell?,hs5]
   have q3:W5.cell? ⟨B4,3,none⟩=some (.slice none 0 0):=by simp[World.cell?,hs5]
   refine bodyPost_ret (v:=.tuple #[.agg #[.int .i64 (t p),.int .i64 shift,.slice (some ⟨BN,0,none⟩) (aq f t p k).length cN,.slice none 0 0],.bool true]) ?_ rfl ⟨by unfold ii;rw[if_pos hle];exact⟨BN,cN,rfl,by omega,by omega,aI rN hn5⟩,hb5⟩;simp[results,Tryz.f68,go_sem,q0,q1,q2,q3]
def ij (g:Nat->Mv)(n:Nat)(frm:Int)(w:World)(e:Ending)(w':World):Prop:=
 if∀i,i<n->bQ (g i) frm=true then∃B c,e=.returned (.tuple #[.slice (some ⟨B,0,none⟩) n c,.bool true])/\w.heap.size<=B/\B<w'.heap.size/\ak w' B 0 n (bY g frm)
 else∃a l c,e=.returned (.tuple #[.slice a l c,.bool false])
theorem rY {g:Nat->Mv}{frm:Int}{k:Nat}(h:(g k).prom=-1)(hx:frm<=(g k).est)(i:Nat):bF g frm k i=bF g frm (k+1) i:=by
 unfold bF;by_cases e:i=k
 .subst e;rw[if_neg (by omega),if_pos (by omega)];unfold eX;rw[if_pos h,show max (g i).est frm=(g i).est by omega]
 .by_cases h1:i<k
  .rw[if_pos h1,if_pos (by omega)]
  .rw[if_neg h1,if_neg (by omega)]
theorem mi {P:Program}{w:World}{ops:Array Oper}{rest:List Oper}{o:Oper}{a:Act}{Q:Exit->Act->World->Prop}(hgd:o.guard=none)(s x:Operand)(t:TypeId)
  (ho:o.op=.call {callee:=.builtin .append,args:=#[s,x],argTypes:=#[t,t]})
  (base:Nat)(e:TypeId)(i:TypeInfo)(z:Value)(size bytes:Nat)(ht:P.underlying t=some (.slice e))(hi:P.info? e=some i)(hz:i.zero=some z)(hsize:i.size=size)(hby:i.bytes=bytes)(hzs:z.cells.size=size)(hsz:0<size)
  (v:Value)(n:Nat)(xs:List Value)(hs:a.eval s=v)(hown:w.ownsRow base e size v n xs)(hpl:nv w v)
  (ad:Addr)(m c:Nat)(news:List Value)(hx:a.eval x=.slice (some ad) m c)(hl:news.length=m*size)(hnews:∀j u,news[j]?=some u->w.cell? (ad.add j)=some u)(h1:∀u∈news,u.oneCell'=true)(hnp:∀u∈news,gw u)(hzp:∀u∈z.cells,gw u)
  (h63:n+m<=maxLen)(hbytes:(n+m)*bytes<=140737488355328)(hbase:base<=w.heap.size)
  (h:∀v' w',w'.ownsRow base e size v' (n+m) (xs++news)->w.grownBy w' v.ownBlock->nv w' v'->(v'=.slice none 0 0<->v=.slice none 0 0/\m=0)->wpList P ops Q rest (a.put o.dst v') w'):wpList P ops Q (o::rest) a w:=by
 refine wpList_plain hgd λK hK=>?_
 obtain⟨v',w',hr,h2,h3,h4⟩:=run_append_own (P:=P) w base t o.type e i z size bytes ht hi hz hsize hby hzs hsz v n xs hown ad m c news hl hnews h1 h63 hbytes hbase;have h5:=jR base t o.type e i z size bytes ht hi hz hsize hby hzs v n xs hown hpl ad m c news hl hnews h1 hnp hzp h63 hbytes hr;unfold Oper.wp execOp;simp only[ho,resolve,invoke,builtin,Sem.run_bind,Sem.run_pure,Result.andThen_ok,List.map_toArray,List.map_cons,List.map_nil,hs,hx,hr];exact hK _ _ (h v' w' h2 h3 h5 h4)
theorem t8 (b n cap:Nat)(g:Nat->Mv)(frm:Int)(w:World)(hn:n<=6)(hg:∀i,i<n->(g i).ok=true)(h0:0<=frm)(h1:frm<=30000)(hbs:b<w.heap.size)(hrow:ak w b 0 n g):
  Calls Tz.prog 62 #[.slice (some ⟨b,0,none⟩) n cap,.int .i64 frm] w λe w'=>ij g n frm w e w'/\Below w.heap.size w w':=by
 obtain⟨iM,hI,hz0,hi1,hi2⟩:=dh;have bA:Below w.heap.size w (w.alloc (.cells #[] 36)):=(Gb _ _).alloc (Gm _) _;have hown:(w.alloc (.cells #[] 36)).ownsRow w.heap.size 36 6 (.slice (some ⟨w.heap.size,0,none⟩) 0 0) 0 []:=World.ownsRow_made w #[] 0 (Gm _) (by unfold maxLen;omega) (by simp);have hpl0:nv (w.alloc (.cells #[] 36)) (.slice (some ⟨w.heap.size,0,none⟩) 0 0):=λB hB=>by
  simp only[Value.ownBlock,Option.some.injEq]at hB;subst hB;exact⟨#[],_,heap_alloc_new _ _,λv hv=>by simp at hv⟩
 go_enter Tz.func62,Tryz.ntmps62
 go_wp2_with(at_builtin;refine mi rfl (.tmp 8) (.tmp 9) 30 rfl w.heap.size 36 iM _ 6 56 aC hI hz0 hi1 hi2 rfl (by decide) (.slice (some ⟨w.heap.size,0,none⟩) 0 0) 0 [] (by rfl) hown hpl0 ⟨b,0,none⟩ n cap (aG g n) (by rfl) (aU g n) (cm (hrow.below bA hbs)) (cV g n) (nF g n) mD (by unfold maxLen;omega) (by omega) (by simp) ?_;intro v8 w8 ho8 hg8 hp8 hs8;simp only[Nat.zero_add,List.nil_append]at ho8)
 have hb8:Below w.heap.size w w8:=bA.grown hg8 bA.size (λq hq=>by simp[Value.ownBlock]at hq;omega);obtain⟨B,c,rfl⟩:∃B c,v8=.slice (some ⟨B,0,none⟩) n c:=by
  rcases ho8.2 with⟨e,hz⟩|⟨gg,cc,cur,e,_⟩
  .exact absurd (hs8.1 e).1 (by simp)
  .exact⟨gg,cc,e⟩
 have row8:=dg ho8;have pl8:=hp8 B rfl;have hB0:=(ho8.lt B rfl).1;clear ho8 hg8 hp8 hs8 hown hpl0 bA;go_loopw [7] (λx W=>∃k:Nat,x=.int .i64 k/\k<=n/\Below w.heap.size w W/\ak W B 0 n (bF g frm k)/\aQ W B/\∀i,i<k->bQ (g i) frm=true) (λx _=>n-(intOf x).toNat)
 case atStart=>exact⟨0,rfl,Gs _,hb8,row8.fcongr λi _=>by unfold bF;rw[if_neg (by omega)],pl8,λi hi=>absurd hi (Gr _)⟩
 case round=>
  clear row8 pl8 hb8;obtain⟨k,rfl,hk,hBr,hrw,hpl,hall⟩:=hrel;by_cases hlt:k<n
  .have hlt':(k:Int)<n:=by omega
   have hgk:bF g frm k k=g k:=by unfold bF;rw[if_neg (Nat.lt_irrefl _)]
   have hok:=Mv.ok_bd (hg k hlt);obtain⟨c0,c1,c2,c3,c4,c5⟩:=hrw k hlt;rw[hgk]at c0 c1 c2 c3 c4 c5;simp only[Nat.zero_add]at c0 c1 c2 c3 c4 c5;have hlB:=hpl.lt;by_cases hp:(g k).prom=-1
   .have hp0:(g k).prom<0:=by omega
    by_cases he:(g k).est<frm
    .have hfr3:=t6 hpl (k*6+3);have hx:max (g k).est frm=frm:=by omega
     have rS:=(wR hrw hlt frm).fcongr (λi _=>oW hp hx i);have pS:aQ (wr.setCell ⟨B,k*6+3,none⟩ (.int .i64 frm)) B:=hpl.set (.inr (.inl ⟨_,_,rfl⟩));have bS:=hBr.setCell (p:=⟨B,k*6+3,none⟩) hB0 (.int .i64 frm);have lS:(wr.setCell ⟨B,k*6+3,none⟩ (.int .i64 frm)).cell? ⟨B,k*6+4,none⟩=some (.int .i64 (g k).late):=(World.cell?_setCell_other _ _ _ _ (by simp)).trans c4;by_cases hle:frm<=(g k).late
     .have hnl:¬(g k).late<frm:=by omega
      go_wp2;all_goals first|(exfalso;omega)|skip
      go_roundw
      case rel=>exact⟨k+1,by go_num,by omega,bS,rS,pS,λi hi=>by
       by_cases e:i=k
       .subst e;rw[fX hp];simpa using hle
       .exact hall i (by omega)⟩
      case measure=>simp[intOf];omega
     .have hnl:(g k).late<frm:=by omega
      have hno:¬∀i,i<n->bQ (g i) frm=true:=λh=>by
       have:=h k hlt;rw[fX hp]at this;simp at this;omega
      go_wp2;all_goals first|(exfalso;omega)|skip
      go_ret2
      exact⟨by unfold ij;rw[if_neg hno];exact⟨_,_,_,rfl⟩,bS⟩
    .go_wp2;all_goals first|(exfalso;omega)|skip
     go_roundw
     case rel=>exact⟨k+1,by go_num,by omega,hBr,hrw.fcongr (λi _=>rY hp (by omega) i),hpl,λi hi=>by
      by_cases e:i=k
      .subst e;rw[fX hp];simp;omega
      .exact hall i (by omega)⟩
     case measure=>simp[intOf];omega
   .have hp0:¬(g k).prom<0:=by omega
    go_wp2;all_goals first|(exfalso;omega)|skip
    go_roundw
    case rel=>exact⟨k+1,by go_num,by omega,hBr,hrw.fcongr (λi _=>lw hp i),hpl,λi hi=>by
     by_cases e:i=k
     .subst e;exact oX hp
     .exact hall i (by omega)⟩
    case measure=>simp[intOf];omega
  .have hlt':¬(k:Int)<n:=by omega
   have hkn:k=n:=by omega
   subst hkn;go_wp2;all_goals first|(exfalso;omega)|skip
   go_ret2
   exact⟨by unfold ij;rw[if_pos hall];exact⟨B,c,rfl,hB0,hpl.lt,hrw.fcongr (λi hi=>by unfold bF bY;rw[if_pos hi])⟩,hBr⟩
theorem pb (b n cap:Nat)(g:Nat->Mv)(now shift:Int)(w:World)(hn:n<=6)(hg:∀i,i<n->(g i).ok=true)(h0:0<=now)(h1:now<=20000)(hs0:0<=shift)(hs6:shift<=6)(hmv:(∀i,i<n->bQ (g i) (now+4)=true)->aw (bY g (now+4)) n=true)(hbs:b<w.heap.size)(hrow:ak w b 0 n g):
  Calls Tz.prog 35 #[.slice (some ⟨b,0,none⟩) n cap,.int .i64 now,.int .i64 shift] w λe w'=>gZ (eA g n now shift) n w e w'/\Below w.heap.size w w':=by
 have hwr:IntKind.i64.wrap (now+4)=now+4:=by rw[IntKind.wrap_i64];omega
 have H1:=t8 b n cap g (now+4) w hn hg (by omega) (by omega) hbs hrow;go_enter Tz.func35,Tryz.ntmps35
 by_cases hall:∀i,i<n->bQ (g i) (now+4)=true
 .have hm:=hmv hall;have hP:eA g n now shift=dc (bY g (now+4)) n ((az n).filter (jv (bY g (now+4)) n shift)):=by
   unfold eA jZ;rw[if_pos hall,if_pos ⟨hm,hs0,hs6⟩]
  rw[hP];clear hmv hP;go_wp2_with(first
   |(go_at_call 62;refine H1.mono ?_;clear H1;rintro e w1 ⟨l1,b1⟩;unfold ij at l1;rw[if_pos hall]at l1;obtain⟨B,c,rfl,hB0,hB,r1⟩:=l1;have H2:=vy B 0 n c (bY g (now+4)) shift w1 hm hB r1 (jv (bY g (now+4)) n shift) (oO _ n shift))
   |(go_at_call 63;refine H2.mono ?_;clear H2;rintro e w2 ⟨s2,b2⟩;have s2':=Ah s2 b1.size;clear s2;obtain⟨sa,sn,sc,sb,rfl⟩:=yp s2'))
  go_ret2
  exact⟨s2',b1.trans (b2.mono b1.size)⟩
 .have hP:eA g n now shift=none:=by unfold eA;rw[if_neg hall]
  rw[hP];clear hmv hP;go_wp2_with(go_at_call 62;refine H1.mono ?_;clear H1;rintro e w1 ⟨l1,b1⟩;unfold ij at l1;rw[if_neg hall]at l1;obtain⟨a1,n1,c1,rfl⟩:=l1)
  go_ret2
  exact⟨⟨_,_,rfl⟩,b1.alloc b1.size _⟩
end
