import Derived.Test.YtlmcblcijndipabGreatDoorAd17
import Derived.Test.YtlmcblcijndipabGreatDoorAd18
import Derived.Test.YtlmcblcijndipabGreatDoorAd30
import Derived.Test.YtlmcblcijndipabGreatDoorAd04c
import Derived.Sort.LoopGhostIn
set_option linter.unusedVariables false
set_option maxHeartbeats 2000000
set_option maxRecDepth 10000
namespace Go.Proofs.YtlmcblcijndipabGreatDoor
open Go.RowKit
theorem fL.drew {B:Nat}{a w:World}(h:fL B a w):fL B a w.drew:=⟨h.size,h.block⟩
theorem fL.drewN {B:Nat}{a w:World}(h:fL B a w)(q:Nat):fL B a (w.drewN q):=⟨h.size,h.block⟩
theorem an.drewN {w:World}{b n:Nat}{g:Nat->Int}(h:an w b n g)(q:Nat):an (w.drewN q) b n g:=h
theorem ce {B:Nat}{a w:World}(h:Below B a w)(q:Nat):Below B a (w.drewN q):=⟨h.os,h.tape,h.output,h.size,h.block⟩
theorem an.drew {w:World}{b n:Nat}{g:Nat->Int}(h:an w b n g):an w.drew b n g:=h
def wl (h:Nat->Int)(m k:Nat)(y:Nat):Int:=if y<k\/m<=y+k then h (m-1-y)else h y
def nL (g:Nat->Int)(off:Nat)(r:Nat->Int)(x:Nat):Int:=if x<off then g x else r (x-off)
theorem sV (b n off m cap:Nat)(g:Nat->Int)(w:World)(hn:n<=1048576)(hoff:off+m=n)(hown:an w b n g):
  Calls Tz.prog 250 #[.slice (some ⟨b,off,none⟩) m cap] w λe w'=>(∃v,e=.returned v)/\an w' b n (nL g off (λy=>g (off+(m-1-y))))/\fL b w w'/\Below b w w':=by
 have hbl:=hown.lt;go_enter Tz.func250,Tryz.ntmps250
 go_wp2;go_loopw [2,3] (λx y wr=>∃k:Nat,2*k<=m+1/\x=.int .i64 k/\y=.int .i64 ((m:Int)-1-k)/\an wr b n (nL g off (wl (λy=>g (off+y)) m k))/\fL b w wr/\Below b w wr) (λx _ _=>m-(intOf x).toNat)
 case atStart=>exact⟨0,by omega,rfl,by simp,hown.congr (λi hi=>by unfold nL wl;split;rfl;rw[if_neg (by omega)];congr 1;omega),fL.refl _ _,Gb _ _⟩
 case round=>
  obtain⟨k,hk,rfl,rfl,hown1,hbut,hbel⟩:=hrel;by_cases hlt:2*k+1<m
  .obtain⟨q,hq⟩:∃q,m=q+k+1:=⟨m-1-k,by omega⟩;have e1:((m:Int)-1-k)=(q:Int):=by omega
   have hlt':(k:Int)<q:=by omega
   have hqm:(q:Int)<m:=by omega
   have hkm:(k:Int)<m:=by omega
   have c1:=hown1.cellAt (off+k) (by omega);have c2:=hown1.cellAt (off+q) (by omega);have hfz:=λj=>hown1.frozen j
   rw[e1];go_wp2;go_region
   all_goals
    go_wp2;go_roundw
    case rel=>
     refine⟨k+1,by omega,by go_num,by first|(congr 1;omega)|(go_num),?_,(hbut.setCell _ _).setCell _ _|>.drew,((hbel.setCell (Gm _) _).setCell (Gm _) _).drew⟩;refine an.drew (((hown1.set (off+k) (by omega) _).set (off+q) (by omega) _).congr λi hi=>?_);unfold nL wl;by_cases h0:i<off
     .rw[if_neg (by omega),if_neg (by omega),if_pos h0,if_pos h0]
     .obtain⟨y,rfl⟩:∃y,i=off+y:=⟨i-off,by omega⟩;simp only[Nat.add_sub_cancel_left];by_cases h1:y=q
      .subst h1;rw[if_pos rfl,if_neg (by omega),if_neg (by omega),if_neg (by omega),if_pos (by omega)];congr 2;omega
      .by_cases h2:y=k
       .subst h2;rw[if_neg (by omega),if_pos rfl,if_neg (by omega),if_neg (by omega),if_neg (by omega),if_pos (by omega)];try(congr 2;omega)
       .rw[if_neg (by omega),if_neg (by omega),if_neg h0,if_neg h0];by_cases h3:y<k\/m<=y+k
        .rw[if_pos (by omega),if_pos (by omega)]
        .rw[if_neg (by omega),if_neg (by omega)]
    case measure=>simp[intOf];omega
  .go_wp2;go_end0
   refine⟨⟨_,rfl⟩,hown1.congr (λi hi=>?_),hbut,hbel⟩;unfold nL wl;by_cases h0:i<off
   .rw[if_pos h0,if_pos h0]
   .rw[if_neg h0,if_neg h0];by_cases h3:i-off<k\/m<=i-off+k
    .rw[if_pos h3]
    .rw[if_neg h3];congr 1;omega
theorem qR {g:Nat->Nat}{m:Nat}(h:g (m+1)<g m):dW g (m+1)=dW g m:=by simp[dW,h]
theorem qS {g:Nat->Nat}{m:Nat}(h:¬g (m+1)<g m):dW g (m+1)=some m:=by simp[dW,h]
theorem sW {g:Nat->Nat}{x m:Nat}(h:g (m+1)<x):fM g x (m+1)=fM g x m:=by simp[fM,h]
theorem sX {g:Nat->Nat}{x m:Nat}(h:¬g (m+1)<x):fM g x (m+1)=m+1:=by simp[fM,h]
theorem AU (g:Nat->Nat){n k q i:Nat}(hi:i<n)(hk:k+1<n)(hq:k<q):nL (λi=>if i=q then(g k:Int)else if i=k then(g q:Int)else(g i:Int)) (k+1) (λy=>(λi=>if i=q then(g k:Int)else if i=k then(g q:Int)else(g i:Int)) (k+1+(n-(k+1)-1-y))) i=((wj n (wi g k q) k i:Nat):Int):=by
 unfold nL wj wi;by_cases h0:i<=k
 .simp only[if_pos (show i<k+1 by omega),if_pos h0,if_neg (show¬i=q by omega)];split<;>rfl
 .have e1:k+1+(n-(k+1)-1-(i-(k+1)))=n+k-i:=by omega
  simp only[if_neg (show¬i<k+1 by omega),if_neg h0,e1];split
  .rfl
  .split<;>rfl
theorem yW (b n cap:Nat)(g:Nat->Nat)(w:World)(hn:n<=1048576)(hcap:n<=cap)(hown:an w b n (λi=>(g i:Int))):
  Calls Tz.prog 237 #[.slice (some ⟨b,0,none⟩) n cap] w λe w'=>e=.returned (.bool (gL n g).isSome)/\(∀g',gL n g=some g'->an w' b n (λi=>(g' i:Int)))/\fL b w w'/\Below b w w':=by
 have hbl:=hown.lt;go_enter Tz.func237,Tryz.ntmps237
 go_wp2;rcases GA n with hz|hpos
 .subst hz;go_loopw [3] (λx wr=>x=.int .i64 (-2)/\wr=w) (λx _=>0)
  case atStart=>exact⟨by go_num,rfl⟩
  case round=>
   obtain⟨rfl,rfl⟩:=hrel;go_wp2;go_quiet (fail)
   go_wp2;go_ret;exact⟨aK rfl,λg' h=>by simp[gL,dW]at h,(fL.refl _ _).drewN _,ce (Gb _ _) _⟩
 have hpos':0<n:=hpos;go_loopw [3] (λx wr=>∃k:Nat,x=.int .i64 ((k:Int)-1)/\k+1<=n/\dW g (n-1)=dW g k/\an wr b n (λi=>(g i:Int))/\fL b w wr/\Below b w wr) (λx _=>(intOf x+1).toNat)
 case atStart=>exact⟨n-1,by go_num,by omega,rfl,hown,fL.refl _ _,Gb _ _⟩
 case round=>
  obtain⟨k,rfl,hk,hla,hown1,hbut,hbel⟩:=hrel;cases k with
  |zero=>
   have hno:gL n g=none:=by unfold gL;rw[hla];rfl
   have HN:Hid (gL n g=none):=hno;clear hno;go_wp2;go_quiet (fail)
   go_wp2;go_ret;exact⟨aK (by rw[HN.out];rfl),λg' h=>absurd (HN.out.symm.trans h) (by simp),hbut.drewN _,ce hbel _⟩
  |succ k=>
   have e0:(((k+1:Nat):Int)-1)=(k:Int):=by omega
   have hkn:(k:Int)<n:=by omega
   have hkn1:(k:Int)+1<n:=by omega
   have c1:=hown1.cellAt k (by omega);have c2:=hown1.cellAt (k+1) (by omega);rw[e0];by_cases hd:g (k+1)<g k
   .have hd':(((g (k+1):Nat):Int)<((g k:Nat):Int)):=by omega
    go_wp2;go_quiet (fail)
    go_wp2;go_roundw
    case rel=>exact⟨k,by go_num,by omega,hla.trans (qR hd),hown1.drewN _,hbut.drewN _,ce hbel _⟩
    case measure=>simp[intOf]<;>omega
   .have hd':¬(((g (k+1):Nat):Int)<((g k:Nat):Int)):=by omega
    have hla2:dW g (n-1)=some k:=hla.trans (qS hd);have HN:Hid (gL n g=some (wj n (wi g k (fM g (g k) (n-1))) k)):=by unfold gL;rw[hla2];exact rfl
    clear hla hla2;go_wp2;go_quiet (fail)
    go_wp2;go_loopw [4] (λx W=>∃q:Nat,x=.int .i64 q/\k+1<=q/\q+1<=n/\fM g (g k) (n-1)=fM g (g k) q/\an W b n (λi=>(g i:Int))/\fL b w W/\Below b w W) (λx _=>(intOf x).toNat)
    case atStart=>exact⟨n-1,by go_num,by omega,by omega,rfl,hown1.drewN _,hbut.drewN _,ce hbel _⟩
    case round=>
     clear hown1 hbut hbel c1 c2;obtain⟨q,rfl,hkq,hqn,hge,hown1,hbut,hbel⟩:=hrel;have c1:=hown1.cellAt k (by omega);have c2:=hown1.cellAt q (by omega);have hqn':(q:Int)<n:=by omega
     by_cases hc:g q<g k
     .have hc':(((g q:Nat):Int)<((g k:Nat):Int)):=by omega
      have hne:q≠k+1:=λe=>by subst e;exact hd hc
      obtain⟨q,rfl⟩:∃p,q=p+1:=⟨q-1,by omega⟩;go_wp2;go_quiet (fail)
      go_wp2;go_roundw
      case rel=>exact⟨q,by go_num,by omega,by omega,hge.trans (sW hc),hown1.drewN _,hbut.drewN _,ce hbel _⟩
      case measure=>simp[intOf]
     .have hc':¬(((g q:Nat):Int)<((g k:Nat):Int)):=by omega
      have hge2:fM g (g k) (n-1)=q:=by
       obtain⟨p,rfl⟩:∃p,q=p+1:=⟨q-1,by omega⟩;exact hge.trans (sX hc)
      rw[hge2]at HN;have hfz:=λj=>hown1.frozen j
      have hkq':(k:Int)≠q:=by omega
      go_wp2;go_quiet (fail)
      go_wp2;go_region
      all_goals
       go_wp2_with(go_at_call 250;refine(sV b n (k+1) (n-(k+1)) _ _ _ hn (by omega) (((hown1.drewN _).set k (by omega) _).set q (by omega) _)).mono ?_;rintro e w1 ⟨⟨v1,rfl⟩,o1,t1,b1⟩)
       go_ret;refine⟨aK (by rw[HN.out];rfl),λg' h=>?_,(((hbut.drewN _).setCell _ _).setCell _ _).trans t1,(((ce hbel _).setCell (Gm _) _).setCell (Gm _) _).trans b1⟩;obtain rfl:=Gt (HN.out.symm.trans h);exact o1.congr λi hi=>AU g hi (by omega) (by omega)
theorem wpList_append_run {P:Program}{ops:Array Oper}{rest:List Oper}{o:Oper}{a:Act}{w:World}{Q:Exit->Act->World->Prop}(hgd:o.guard=none)(s x:Operand)(t:TypeId)
  (ho:o.op=.call {callee:=.builtin .append,args:=#[s,x],argTypes:=#[t,t]})(v vx:Value)(hs:a.eval s=v)(hx:a.eval x=vx){v':Value}{w':World}
  (hr:(Builtin.append_ #[t,t] o.type #[v,vx]).run P w=.ok v' w')(h:wpList P ops Q rest (a.put o.dst v') w'):wpList P ops Q (o::rest) a w:=by
 have hw:Region.wanted o (yielded ops a.tmps)=true:=by simp[Region.wanted,hgd]
 unfold wpList;rw[if_pos hw];refine .inl ?_;unfold Oper.wp execOp;simp only[ho,resolve,invoke,builtin,Sem.run_bind,Sem.run_pure,Result.andThen_ok,List.map_toArray,List.map_cons,List.map_nil,hs,hx,hr];exact h
def dY (w:World)(B:Nat):Prop:=∃cs,w.heap[B]?=some (.cells cs 3 (0,0))/\∀v∈cs,∃x:Int,v=.int .i64 x
theorem dY.below {B:Nat}{w w':World}{b:Nat}(h:dY w b)(hb:Below B w w')(hB:b<B):dY w' b:=by
 obtain⟨cs,h1,h2⟩:=h;exact⟨cs,(hb.block b hB).trans h1,h2⟩
theorem gj:Tz.prog.underlying 164=some (.slice 3):=by kernel_rfl
theorem qT (b n cap:Nat)(g:Nat->Int)(w:World)(hn:n<=1048576)(hbs:b<w.heap.size)(hrow:al w b 0 n g):
  ∃B c w',(Builtin.append_ #[164,164] 164 #[.slice (some ⟨w.heap.size,0,none⟩) 0 0,.slice (some ⟨b,0,none⟩) n cap]).run Tz.prog (w.alloc (.cells #[] 3))=.ok (.slice (some ⟨B,0,none⟩) n c) w'/\
   n<=c/\w.heap.size<=B/\B<w'.heap.size/\dY w' B/\al w' B 0 n g/\Below w.heap.size w w':=by
 obtain⟨i0,hI,hz0,hz1,hz2⟩:∃i0,Tz.prog.info? 3=some i0/\i0.zero=some (.int .i64 0)/\i0.size=1/\i0.bytes=8:=by
  have h:=gI;cases hI:Tz.prog.info? 3 with
  |none=>rw[hI]at h;simp at h
  |some i0=>rw[hI]at h;simp only[Option.map_some,Option.some.injEq,Prod.mk.injEq]at h;exact⟨i0,rfl,h.2.2,h.1,h.2.1⟩
 have hB0:Below w.heap.size w (w.alloc (.cells #[] 3)):=(Gb _ _).alloc (Gm _) _;have hrow1:=hrow.below hB0 hbs;have hE:(w.alloc (.cells #[] 3)).heap[w.heap.size]?=some (.cells #[] 3 (0,0)):=heap_alloc_new _ _;let news:List Value:=(List.range n).map λj=>.int .i64 (g j)
 have hnl:news.length=n*i0.size:=by simp[news,hz1]
 have hnews:∀j u,news[j]?=some u->(w.alloc (.cells #[] 3)).cell? ((⟨b,0,none⟩:Addr).add j)=some u:=λj u hu=>by
  have hj:j<n:=by rcases Gv j n with h|h;exact h;rw[Gx (by simp[news];exact h)]at hu;cases hu
  simp[news,hj]at hu;rw[<-hu];have:=hrow1 j hj;rw[show(⟨b,0,none⟩:Addr).add j=⟨b,0+j,none⟩ by unfold Addr.add;split<;>simp_all];exact this
 have hone:∀u∈news,u.oneCell'=true:=λu hu=>by simp[news]at hu;obtain⟨_,_,rfl⟩:=hu;rfl
 rcases GA n with hz|hpos
 .subst hz;have hr:=run_append_room (P:=Tz.prog) (w.alloc (.cells #[] 3)) 164 164 3 i0 gj hI w.heap.size 0 0 #[] hE ⟨b,0,none⟩ 0 cap news hnl hnews hone (by omega) (by simp[news]);refine⟨_,_,_,hr,Gm _,Gm _,?_,⟨_,setRow_heap _ _ _ _ _ _ hE,?_⟩,λi hi=>absurd hi (Gr _),?_⟩
  .simp
  .simp[news]
  .exact⟨rfl,rfl,rfl,by simp,λk hk=>(setRow_other _ _ _ _ (by simp;omega)).trans (hB0.block k hk)⟩
 .have hr:=run_append_grow (P:=Tz.prog) (w.alloc (.cells #[] 3)) 164 164 3 i0 (.int .i64 0) gj hI hz0 ⟨w.heap.size,0,none⟩ 0 0 [] (by simp) (by simp) ⟨b,0,none⟩ n cap news hnl hnews (by omega) (by omega) (growslice_fits (by omega) (by rw[hz2];omega));have hge:=grownCap_ge (w.alloc (.cells #[] 3)) (0+n) 0 3;simp only[Nat.zero_add]at hr hge;refine⟨_,_,_,hr,hge,?_,?_,⟨_,heap_alloc_new _ _,?_⟩,?_,?_⟩
  .simp
  .simp
  .intro v hv;simp[news,Builtin.zeroCells,Value.cells]at hv;rcases hv with⟨j,_,rfl⟩|⟨x,_,rfl⟩
   .exact⟨_,rfl⟩
   .exact⟨0,by simp[Nat.mod_one]⟩
  .intro j hj;have hA:=heap_alloc_new (w.alloc (.cells #[] 3)).drew (.cells (#[]++news.toArray++Builtin.zeroCells (Value.int IntKind.i64 0).cells (grownCap (w.alloc (.cells #[] 3)) n 0 3-n)) 3);rw[show(⟨(w.alloc (.cells #[] 3)).heap.size,0+j,none⟩:Addr)=⟨(w.alloc (.cells #[] 3)).drew.heap.size,j,none⟩ by simp];rw[cell_of_row _ _ _ _ _ _ hA];simp[news,hj,Array.getElem?_append]
  .exact(hB0.drew).alloc (by simp) _
theorem xv (b n cap:Nat)(g:Nat->Int)(w:World)(hn:n<=1048576)(hbs:b<w.heap.size)(hrow:al w b 0 n g):
  Calls Tz.prog 238 #[.slice (some ⟨b,0,none⟩) n cap] w λe w'=>∃B c,e=.returned (.slice (some ⟨B,0,none⟩) n c)/\n<=c/\w.heap.size<=B/\B<w'.heap.size/\dY w' B/\al w' B 0 n g/\Below w.heap.size w w':=by
 obtain⟨B,c,w',hap,h1,h2,h3,h4,h5,h6⟩:=qT b n cap g w hn hbs hrow;have hnil:=Go.Lib.run_eql_slice_nil (P:=Tz.prog) w 164 3 (some ⟨b,0,none⟩) n cap 0 0 gj;go_enter Tz.func238,Tryz.ntmps238
 go_wp2_with(refine wpList_append_run rfl (.tmp 5) (.tmp 6) 164 rfl _ _ (by rfl) (by rfl) hap ?_)
 go_ret;exact⟨B,c,rfl,h1,h2,h3,h4,h5,h6⟩
theorem aC:Tz.prog.underlying 30=some (.slice 36):=by kernel_rfl
theorem nM (b n cap:Nat)(g:Nat->Mv)(w:World)(hn:n<=1048576)(hbs:b<w.heap.size)(hrow:ak w b 0 n g):
  Calls Tz.prog 150 #[.slice (some ⟨b,0,none⟩) n cap] w λe w'=>∃B c,e=.returned (.slice (some ⟨B,0,none⟩) n c)/\w'.ownsRow w.heap.size 36 6 (.slice (some ⟨B,0,none⟩) n c) n (aG g n)/\aQ w' B/\Below w.heap.size w w':=by
 obtain⟨i,hI,hz0,hz1,hz2⟩:=dh;have bA:Below w.heap.size w (w.alloc (.cells #[] 36)):=(Gb _ _).alloc (Gm _) _;have hnil:=Go.Lib.run_eql_slice_nil (P:=Tz.prog) w 30 36 (some ⟨b,0,none⟩) n cap 0 0 aC;have hown:(w.alloc (.cells #[] 36)).ownsRow w.heap.size 36 6 (.slice (some ⟨w.heap.size,0,none⟩) 0 0) 0 []:=World.ownsRow_made w #[] 0 (Gm _) (by unfold maxLen;omega) (by simp);have hpl:nv (w.alloc (.cells #[] 36)) (.slice (some ⟨w.heap.size,0,none⟩) 0 0):=λB hB=>by
  simp only[Value.ownBlock,Option.some.injEq]at hB;subst hB;exact⟨#[],_,heap_alloc_new _ _,λv hv=>by simp at hv⟩
 obtain⟨v',w',hr,h2,h3,h4⟩:=run_append_own (P:=Tz.prog) (w.alloc (.cells #[] 36)) w.heap.size 30 30 36 i _ 6 56 aC hI hz0 hz1 hz2 rfl (by omega) (.slice (some ⟨w.heap.size,0,none⟩) 0 0) 0 [] hown ⟨b,0,none⟩ n cap (aG g n) (aU g n) (cm (hrow.below bA hbs)) (cV g n) (by unfold maxLen;omega) (by omega) (by simp);have h5:=jR (P:=Tz.prog) w.heap.size 30 30 36 i _ 6 56 aC hI hz0 hz1 hz2 rfl (.slice (some ⟨w.heap.size,0,none⟩) 0 0) 0 [] hown hpl ⟨b,0,none⟩ n cap (aG g n) (aU g n) (cm (hrow.below bA hbs)) (cV g n) (nF g n) mD (by unfold maxLen;omega) (by omega) hr;simp only[Nat.zero_add,List.nil_append]at h2;obtain⟨B,c,rfl⟩:∃B c,v'=.slice (some ⟨B,0,none⟩) n c:=by
  rcases h2.2 with⟨e,_⟩|⟨g,cap,cur,e,_⟩
  .exact absurd (h4.1 e).1 (by simp)
  .exact⟨g,cap,e⟩
 have hB:Below w.heap.size w w':=bA.grown h3 bA.size (λq hq=>by simp[Value.ownBlock]at hq;omega);go_enter Tz.func150,Tryz.ntmps150
 go_wp2_with(refine wpList_append_run rfl (.tmp 5) (.tmp 6) 30 rfl _ _ (by rfl) (by rfl) hr ?_)
 go_ret;exact⟨B,c,rfl,h2,h5 B rfl,hB⟩
end Go.Proofs.YtlmcblcijndipabGreatDoor
namespace Go.Proofs.YtlmcblcijndipabGreatDoor
open Go.RowKit Go.Shelf
attribute [local go_sem] Oper.semAt_some
set_option linter.unusedVariables false
theorem D6 (n:Nat)(hn:n<=1048576)(w:World):
  (Instr.makeSlice 164 (.int .i64 (n:Int)) (.int .i64 (n:Int))).run Tz.prog w=.ok (.slice (some ⟨w.heap.size,0,none⟩) n n) (w.alloc (.cells (madeCells #[.int .i64 0] n) 3)):=by
 have hi:=gI;cases hI:Tz.prog.info? 3 with
 |none=>rw[hI]at hi;simp at hi
 |some i=>
  rw[hI]at hi;simp only[Option.map_some,Option.some.injEq,Prod.mk.injEq]at hi;obtain⟨h6,h56,hz⟩:=hi;have:=run_make (P:=Tz.prog) w 164 3 i _ gj hI hz .i64 .i64 n n (by omega) (by omega) (by rw[h56];omega) (by omega);rw[h6]at this;simpa[Value.cells]using this
theorem D7 (n:Nat)(w:World)(hn:n<=1048576):
  Calls Tz.prog 122 #[.int .i64 (n:Int)] w λe w'=>e=.returned (.slice (some ⟨w.heap.size,0,none⟩) n n)/\an w' w.heap.size n (λi=>(i:Int))/\Below w.heap.size w w':=by
 have hmk:=D6 n hn;go_enter Tz.func122,Tryz.ntmps122
 go_wp2;go_loopw [9] (λi w'=>∃k:Nat,k<=n/\i=.int .i64 k/\an w' w.heap.size n (λi=>if i<k then(i:Int)else 0)/\Below w.heap.size w w') (λi _=>n-(intOf i).toNat)
 case atStart=>exact⟨0,Gs _,rfl,(eK w n).congr (λi hi=>by simp),(Gb _ _).alloc (Gm _) _⟩
 case round=>
  obtain⟨k,hk,rfl,hown,hB⟩:=hrel;by_cases hlt:k<n
  .have hlt':(k:Int)<n:=by omega
   have hd:=hown.cellAt k hlt;have hfz:=hown.frozen k;go_wp2;go_roundw
   case rel=>exact⟨k+1,by omega,by go_num,(hown.set k hlt (k:Int)).congr (λi hi=>by
    by_cases e:i=k
    .subst e;simp
    .simp only[if_neg e];by_cases h:i<k
     .rw[if_pos h,if_pos (by omega)]
     .rw[if_neg h,if_neg (by omega)]),hB.setCell (by simp) _⟩
   case measure=>simp[intOf];omega
  .go_wp2;go_ret;exact⟨rfl,hown.congr (λi hi=>by rw[if_pos (by omega)]),hB⟩
theorem vp (n:Int)(w:World):
  Calls Tz.prog 206 #[.int .i64 n] w λe w'=>e=.returned (.func (.func 236) #[] #[.pointer (some ⟨w.heap.size,0,none⟩)])/\w'=w.alloc (.cells #[.int .i64 n] 3):=by
 go_enter Tz.func206,Tryz.ntmps206
 go_wp2;go_ret;exact⟨rfl,rfl⟩
theorem rJ (m Bn n l:Nat)(J:Nat->World->Prop)(W:World)(hn:n<=6)(hBn:Bn<W.heap.size)(hc:W.cell? ⟨Bn,0,none⟩=some (.int .i64 (n:Int)))
  (h0:∀W',Below W.heap.size W W'->W.heap.size<W'.heap.size->J 0 W')
  (hs:∀k W1 W2,J k W1->fL W.heap.size W1 W2->Below W.heap.size W1 W2->J k W2)
  (hY:∀k lst W0 W1 C c,(az n)[k]?=some lst->J k W0->W.heap.size<W0.heap.size->Below W0.heap.size W0 W1->W0.heap.size<=C->C<W1.heap.size->n<=c->dY W1 C->al W1 C 0 n (λi=>((pl lst i:Nat):Int))->
   YieldAt Fence.wide (m-1) Tz.prog l #[.slice (some ⟨C,0,none⟩) n c] W1 λe W'=>e=.returned (.bool true)/\J (k+1) W'/\W1.heap.size<=W'.heap.size/\W'.heap[W.heap.size]?=W1.heap[W.heap.size]?):
  CallsIn Fence.wide m Tz.prog 236 #[.func (.yield l) #[] #[],.pointer (some ⟨Bn,0,none⟩)] W λe W'=>(∃v,e=.returned v)/\J (az n).length W':=by
 obtain⟨hN,hN0⟩:=fd n hn;obtain⟨l0,hl0,hl0'⟩:=uF n hn;have hch:=yV hn;refine callsIn_of_wp Tz.func236 rfl trivial ?_ rfl;simp only[Tryz.ntmps236,List.size_toArray,List.length_cons,List.length_nil,Nat.reduceAdd,Nat.reduceSub,Array.replicate_succ,Array.replicate_zero,List.push_toArray,List.append_toArray,List.nil_append,List.cons_append];gi_wp2_with (refine⟨trivial,λh=>(by simp[Fence.wide]at h),?_⟩;refine(callsIn_wide.2 (D7 n W (by omega))).mono ?_;rintro e w1 ⟨rfl,own1,b1⟩)
 gi_loopg [4] (az n).length (λr v wr=>(∃k lst,v=.bool true/\r+k=(az n).length/\(az n)[k]?=some lst/\J k wr/\W.heap.size<wr.heap.size/\an wr W.heap.size n (λi=>((pl lst i:Nat):Int)))\/(v=.bool false/\J (az n).length wr))
 case atStart=>exact .inl ⟨0,l0,rfl,rfl,hl0,h0 _ b1 own1.lt,own1.lt,own1.congr λi hi=>by rw[hl0' i hi]⟩
 case round=>
  rcases hrel with⟨k,lst,rfl,hrk,hlst,hJ,hlt,hown⟩|⟨rfl,hJ⟩
  .gi_wp2_with (first|(refine⟨trivial,λh=>(by simp[Fence.wide]at h),?_⟩;refine(callsIn_wide.2 (xv _ n n _ wr (by omega) hlt hown.2)).mono ?_;rintro e w2 ⟨C,c,rfl,hc1,hC1,hC2,hC3,hC4,b2⟩;obtain⟨fn,tmps,assign,body,hy,hR⟩:=hY k lst wr w2 C c hlst hJ hlt b2 hC1 hC2 hc1 hC3 hC4))
   refine⟨λh=>(by simp[Fence.wide]at h),hR.mono ?_⟩;rintro e W3 ⟨rfl,hJ3,hz3,hT3⟩;have hown3:an W3 W.heap.size n (λi=>((pl lst i:Nat):Int)):=by
    have h2:=hown.below b2 hlt;obtain⟨⟨cs,g1,g2⟩,g3⟩:=h2;have g1':=hT3.trans g1;refine⟨⟨cs,g1',g2⟩,λi hi=>?_⟩;rw[cell_of_row _ _ _ _ _ _ g1',<-cell_of_row w2 _ _ _ _ _ g1];exact g3 i hi
   have hlt3:W.heap.size<W3.heap.size:=hown3.lt;obtain⟨hc1',hc2'⟩:=nK hch hlst;have hkN:k<(az n).length:=(Gw.1 hlst).1;clear hown hJ hy hR b2;gi_wp2_with (refine⟨trivial,λh=>(by simp[Fence.wide]at h),?_⟩;refine(callsIn_wide.2 (yW _ n n (pl lst) W3 (by omega) (Gm _) hown3)).mono ?_;rintro e w4 ⟨rfl,g4,t4,b4⟩)
   by_cases hk1:k+1<(az n).length
   .obtain⟨lst',hl'⟩:∃x,(az n)[k+1]?=some x:=⟨_,GI hk1⟩;obtain⟨g,hg,hg'⟩:=hc1' lst' hl';gi_roundg ((az n).length-(k+1))
    case rel=>exact .inl ⟨k+1,lst',by rw[hg];rfl,by omega,hl',hs _ _ _ hJ3 t4 b4,by have:=t4.size;omega,(g4 g hg).congr λi hi=>by rw[hg' i hi]⟩
    case measure=>omega
   .have hg:=hc2' (by omega);have hkN':k+1=(az n).length:=by omega
    rw[hkN']at hJ3;gi_roundg 0
    case rel=>exact .inr ⟨by rw[hg];rfl,hs _ _ _ hJ3 t4 b4⟩
    case measure=>omega
  .gi_wp2
   go_end0
   exact⟨⟨_,rfl⟩,hJ⟩
end Go.Proofs.YtlmcblcijndipabGreatDoor
namespace Go.Proofs.YtlmcblcijndipabGreatDoor
open Go.RowKit Go.Shelf
set_option linter.unusedVariables false
structure iF (B:Nat)(w w':World):Prop where
 os:w'.os=w.os
 tape:w'.tape=w.tape
 output:w'.output=w.output
 size:w.heap.size<=w'.heap.size
 block:∀k,k<w.heap.size->(k<B\/B+2<k)->w'.heap[k]?=w.heap[k]?
theorem iF.trans {B:Nat}{a b c:World}(h:iF B a b)(k:iF B b c):iF B a c:=
 ⟨k.os.trans h.os,k.tape.trans h.tape,k.output.trans h.output,Gq h.size k.size,λi hi hB=>(k.block i (Gn hi h.size) hB).trans (h.block i hi hB)⟩
theorem iF.below {B:Nat}{w w':World}(h:Below w.heap.size w w'):iF B w w':=⟨h.os,h.tape,h.output,h.size,λk hk _=>h.block k hk⟩
theorem iF.but {B:Nat}{w w':World}(t:fL (B+2) w w')(h:Below (B+2) w w'):iF B w w':=⟨h.os,h.tape,h.output,h.size,λk hk hB=>t.block k hk (by omega)⟩
theorem iF.put {B:Nat}(w:World)(o:Obj):iF B w (w.putObj (B+1) o):=⟨rfl,rfl,rfl,by simp[World.putObj],λk hk hB=>World.putObj_heap_other (by omega)⟩
variable {P:Program}
theorem tT {g:Operand}{ps:Array Tmp}{assign body:Code}{Q:Exit->Act->World->Prop}{a:Act}{w:World}{m Bn n:Nat}(h1:1<=m)(hg:a.eval g=.func (.func 236) #[] #[.pointer (some ⟨Bn,0,none⟩)])
  (hn:n<=6)(hBn:Bn<w.heap.size)(hc:w.cell? ⟨Bn,0,none⟩=some (.int .i64 (n:Int)))(hps:ps.size=1)
  (I:Nat->World->Prop)(hI:∀k W1 W2,I k W1->iF w.heap.size W1 W2->I k W2)(h0:I 0 w)(Fk:Value->Act)
  (hassign:∀(l:Nat) (x:Value) (W:World) (K:Act->World->Prop),K (Fk x) W->
   assign.wpIn (Fence.wide.inRound l) (m-1-1) Tz.prog (Exit.then K (λ_ _ _=>False)) {tmps:=(ps.zip #[x]).foldl (λt (p,v)=>t.setIfInBounds p v) a.tmps,defers:=[]} W)
  (hbody:∀(l k:Nat) (lst:List Nat) (W0 W:World) (C c:Nat),(az n)[k]?=some lst->I k W0->w.heap.size+2<W0.heap.size->iF w.heap.size W0 W->W0.heap.size<=C->C<W.heap.size->n<=c->dY W C->al W C 0 n (λi=>((pl lst i:Nat):Int))->
   body.wpIn (Fence.wide.inRound l) (m-1-1) Tz.prog (λe _ W'=>e=.normal/\I (k+1) W'/\W.heap.size<=W'.heap.size/\∀b,w.heap.size<=b->b<=w.heap.size+2->W'.heap[b]?=W.heap[b]?) (Fk (.slice (some ⟨C,0,none⟩) n c)) W)
  (hdone:∀(D:Nat) (W:World),w.heap.size<=D->I (az n).length W->W.heap[D]?=some (.deferred (some []))->Q .normal {a with defers:={target:=.collected D,args:=#[]}::a.defers} W):
  (Code.rangeFunc g ps assign body).wpIn Fence.wide m Tz.prog Q a w:=by
 refine wpIn_rangeFunc ?_;intro fn hfn;show _;obtain⟨rec,hrec⟩:∃rec:LoopState->Option Code->Loop,rec=λst pe=>{state:=st,pending:=pe,fn,tmps:=a.tmps,params:=ps,assign,body,defers:=w.heap.size}:=⟨_,rfl⟩
 obtain⟨W1,hW1⟩:∃W1,(w.alloc (.deferred (some []))).alloc (.loop (rec .ready none))=W1:=⟨_,rfl⟩;have hL1:W1.heap[w.heap.size+1]?=some (.loop (rec .ready none)):=by
  rw[<-hW1];have:=World.alloc_heap_new (w.alloc (.deferred (some []))) (.loop (rec .ready none));rwa [Gg]at this
 have hK1:W1.heap[w.heap.size]?=some (.deferred (some [])):=by
  rw[<-hW1];exact(Gc _ _ _ (by simp)).trans (World.alloc_heap_new w _)
 have hb1:Below w.heap.size w W1:=by
  rw[<-hW1];exact((Gb _ w).alloc (Gm _) _).alloc (by simp) _
 have hz1:W1.heap.size=w.heap.size+2:=by rw[<-hW1];simp
 refine⟨w.heap.size+1,[{target:=.collected w.heap.size,args:=#[]}],W1,{target:=.fn (.func 236) #[.pointer (some ⟨Bn,0,none⟩)],args:=#[.func (.yield (w.heap.size+1)) #[] #[]]},W1,236,
  #[.func (.yield (w.heap.size + 1)) #[] #[]] ++ #[.pointer (some ⟨Bn, 0, none⟩)], W1, ?_, ?_, ?_, ?_, fun _ => h1, ?_⟩
 .rw[<-hW1,hrec];exact run_enterLoop_outer _ _ _ _ _
 .simp only[resolve,hg];simp[go_sem]
 .intro f' hf';trivial
 .simp[invoke,go_sem]
 .have hst:=rJ (m-1) Bn n (w.heap.size+1) (λk W=>I k W/\W.heap[w.heap.size+1]?=some (.loop (rec .ready none))/\W.heap[w.heap.size]?=some (.deferred (some [])))
   W1 hn (by omega) ((hb1.cell (p:=⟨Bn,0,none⟩) hBn).trans hc) ?_ ?_ ?_
  .refine hst.mono ?_;rintro e W2 ⟨⟨v,rfl⟩,hi,hl,hk⟩;exact⟨none,_,by have:=run_endLoop (P:=Tz.prog) hl (by rw[hrec];simp);rw[hrec]at this;exact this,hdone _ _ (Gm _) (hI _ _ _ hi (iF.put _ _)) ((World.putObj_heap_other (by omega)).trans hk)⟩
  .intro W' hb hlt;exact⟨hI _ _ _ h0 ((iF.below hb1).trans (iF.below hb)),(hb.block _ (by omega)).trans hL1,(hb.block _ (by omega)).trans hK1⟩
  .rintro k Wa Wb ⟨hi,hl,hk⟩ ht hb;rw[hz1]at ht hb;have z1:=(Gp.1 hl).1;exact⟨hI _ _ _ hi (iF.but ht hb),(ht.block _ (by omega) (by omega)).trans hl,(ht.block _ (by omega) (by omega)).trans hk⟩
  .rintro k lst W0 W C c hlst ⟨hi,hl,hk⟩ hlt hb hC hC' hcc hC3 hC4;rw[hz1]at hlt;replace hl:=(hb.block _ (by omega)).trans hl;replace hk:=(hb.block _ (by omega)).trans hk;have hlt1:w.heap.size+1<W.heap.size:=by omega
   have hy:=run_yield (P:=Tz.prog) (args:=#[.slice (some ⟨C,0,none⟩) n c]) hl (by rw[hrec];simp[hps]);rw[hrec]at hy;refine⟨fn,_,assign,body,hy,roundIn_of_wpIn hfn (hassign _ _ W _ ⟨_,run_beginRound hl (by rw[hrec]),?_⟩)⟩;have hl2:(W.putObj (w.heap.size+1) (.loop {rec .ready none with state:=.busy})).heap[w.heap.size+1]?=some (.loop {rec .ready none with state:=.busy}):=World.putObj_heap_same hlt1;have hk2:(W.putObj (w.heap.size+1) (.loop {rec .ready none with state:=.busy})).heap[w.heap.size]?=some (.deferred (some [])):=(World.putObj_heap_other (by omega)).trans hk;have hT2:(W.putObj (w.heap.size+1) (.loop {rec .ready none with state:=.busy})).heap[w.heap.size+2]?=W.heap[w.heap.size+2]?:=World.putObj_heap_other (by omega);have hCne:w.heap.size+1≠C:=by omega
   have hC2:(W.putObj (w.heap.size+1) (.loop {rec .ready none with state:=.busy})).heap[C]?=W.heap[C]?:=World.putObj_heap_other (by omega);have hzz:(W.putObj (w.heap.size+1) (.loop {rec .ready none with state:=.busy})).heap.size=W.heap.size:=by simp[World.putObj]
   refine wpIn_mono (hbody _ k lst W0 _ C c hlst hi (by omega) ((iF.below hb).trans (iF.put _ _)) hC (by rw[hzz];exact hC') hcc (by obtain⟨cs,g1,g2⟩:=hC3;exact⟨cs,hC2.trans g1,g2⟩) (λi hi=>by have:=hC4 i hi;simp only[World.cell?,hC2]at this⊢;exact this)) ?_;rintro e a3 W3 ⟨rfl,hi3,hz3,hk3⟩;have hl3:=(hk3 (w.heap.size+1) (by omega) (by omega)).trans hl2;have hr:=run_endRound (P:=Tz.prog) none hl3;rw[hrec]at hr;have hz4:W.heap.size<=W3.heap.size:=Gq (Nat.le_of_eq hzz.symm) hz3;have hlt3:w.heap.size+1<W3.heap.size:=by omega
   refine⟨_,_,hr,rfl,⟨hI _ _ _ hi3 (iF.put _ _),?_,?_⟩,?_,?_⟩
   .rw[World.putObj_heap_same hlt3,hrec];rfl
   .exact(World.putObj_heap_other (by omega)).trans ((hk3 _ (by omega) (by omega)).trans hk2)
   .simp only[World.putObj,Array.size_setIfInBounds];exact hz4
   .rw[hz1];exact(World.putObj_heap_other (by omega)).trans ((hk3 _ (by omega) (by omega)).trans hT2)
