import Derived.Test.YtlmcblcijndipaaGreatM24
import Derived.Test.YtlmcblcijndipaaGreatM26
import Derived.Test.YtlmcblcijndipaaGreatM20
set_option linter.unusedVariables false
set_option maxHeartbeats 2000000
set_option maxRecDepth 10000
namespace Go.Proofs.YtlmcblcijndipaaGreat
open Go.RowKit
theorem dg.drew {B:Nat}{a w:World}(h:dg B a w):dg B a w.drew:=⟨h.size,h.block⟩
theorem dg.drewN {B:Nat}{a w:World}(h:dg B a w)(q:Nat):dg B a (w.drewN q):=⟨h.size,h.block⟩
theorem aq.drewN {w:World}{b n:Nat}{g:Nat->Int}(h:aq w b n g)(q:Nat):aq (w.drewN q) b n g:=h
theorem cC {B:Nat}{a w:World}(h:Below B a w)(q:Nat):Below B a (w.drewN q):=⟨h.os,h.tape,h.output,h.size,h.block⟩
theorem aq.drew {w:World}{b n:Nat}{g:Nat->Int}(h:aq w b n g):aq w.drew b n g:=h
def uw (h:Nat->Int)(m k:Nat)(y:Nat):Int:=if y<k\/m<=y+k then h (m-1-y)else h y
def nO (g:Nat->Int)(off:Nat)(r:Nat->Int)(x:Nat):Int:=if x<off then g x else r (x-off)
theorem rQ (b n off m cap:Nat)(g:Nat->Int)(w:World)(hn:n<=1048576)(hoff:off+m=n)(hown:aq w b n g):
  Calls Tryz0.prog 142 #[.slice (some ⟨b,off,none⟩) m cap] w λe w'=>(∃v,e=.returned v)/\aq w' b n (nO g off (λy=>g (off+(m-1-y))))/\dg b w w'/\Below b w w':=by
 have hbl:=hown.lt;go_enter Tryz0.func142,Tryz.ntmps142
 go_wp2;go_loopw [2,3] (λx y wr=>∃k:Nat,2*k<=m+1/\x=.int .i64 k/\y=.int .i64 ((m:Int)-1-k)/\aq wr b n (nO g off (uw (λy=>g (off+y)) m k))/\dg b w wr/\Below b w wr) (λx _ _=>m-(intOf x).toNat)
 case atStart=>exact⟨0,by omega,rfl,by simp,hown.congr (λi hi=>by unfold nO uw;split;rfl;rw[if_neg (by omega)];congr 1;omega),dg.refl _ _,Below.refl _ _⟩
 case round=>
  obtain⟨k,hk,rfl,rfl,hown1,hbut,hbel⟩:=hrel;by_cases hlt:2*k+1<m
  .obtain⟨q,hq⟩:∃q,m=q+k+1:=⟨m-1-k,by omega⟩;have e1:((m:Int)-1-k)=(q:Int):=by omega
   have hlt':(k:Int)<q:=by omega
   have hqm:(q:Int)<m:=by omega
   have hkm:(k:Int)<m:=by omega
   have c1:=hown1.cellAt (off+k) (by omega);have c2:=hown1.cellAt (off+q) (by omega);have hfz:=λj=>hown1.frozen j
   rw[e1];go_wp2;go_region
   all_goals
    go_wp2;go_roundw
    case rel=>
     refine⟨k+1,by omega,by go_num,by first|(congr 1;omega)|(go_num),?_,(hbut.setCell _ _).setCell _ _|>.drew,((hbel.setCell (Nat.le_refl _) _).setCell (Nat.le_refl _) _).drew⟩;refine aq.drew (((hown1.set (off+k) (by omega) _).set (off+q) (by omega) _).congr λi hi=>?_);unfold nO uw;by_cases h0:i<off
     .rw[if_neg (by omega),if_neg (by omega),if_pos h0,if_pos h0]
     .obtain⟨y,rfl⟩:∃y,i=off+y:=⟨i-off,by omega⟩;simp only[Nat.add_sub_cancel_left];by_cases h1:y=q
      .subst h1;rw[if_pos rfl,if_neg (by omega),if_neg (by omega),if_neg (by omega),if_pos (by omega)];congr 2;omega
      .by_cases h2:y=k
       .subst h2;rw[if_neg (by omega),if_pos rfl,if_neg (by omega),if_neg (by omega),if_neg (by omega),if_pos (by omega)];try(congr 2;omega)
       .rw[if_neg (by omega),if_neg (by omega),if_neg h0,if_neg h0];by_cases h3:y<k\/m<=y+k
        .rw[if_pos (by omega),if_pos (by omega)]
        .rw[if_neg (by omega),if_neg (by omega)]
    case measure=>simp[intOf];omega
  .go_wp2;go_end0
   refine⟨⟨_,rfl⟩,hown1.congr (λi hi=>?_),hbut,hbel⟩;unfold nO uw;by_cases h0:i<off
   .rw[if_pos h0,if_pos h0]
   .rw[if_neg h0,if_neg h0];by_cases h3:i-off<k\/m<=i-off+k
    .rw[if_pos h3]
    .rw[if_neg h3];congr 1;omega
theorem qo {g:Nat->Nat}{m:Nat}(h:g (m+1)<g m):dZ g (m+1)=dZ g m:=by simp[dZ,h]
theorem qp {g:Nat->Nat}{m:Nat}(h:¬g (m+1)<g m):dZ g (m+1)=some m:=by simp[dZ,h]
theorem rR {g:Nat->Nat}{x m:Nat}(h:g (m+1)<x):fM g x (m+1)=fM g x m:=by simp[fM,h]
theorem rT {g:Nat->Nat}{x m:Nat}(h:¬g (m+1)<x):fM g x (m+1)=m+1:=by simp[fM,h]
theorem yG (g:Nat->Nat){n k q i:Nat}(hi:i<n)(hk:k+1<n)(hq:k<q):nO (λi=>if i=q then(g k:Int)else if i=k then(g q:Int)else(g i:Int)) (k+1) (λy=>(λi=>if i=q then(g k:Int)else if i=k then(g q:Int)else(g i:Int)) (k+1+(n-(k+1)-1-y))) i=((uu n (ut g k q) k i:Nat):Int):=by
 unfold nO uu ut;by_cases h0:i<=k
 .simp only[if_pos (show i<k+1 by omega),if_pos h0,if_neg (show¬i=q by omega)];split<;>rfl
 .have e1:k+1+(n-(k+1)-1-(i-(k+1)))=n+k-i:=by omega
  simp only[if_neg (show¬i<k+1 by omega),if_neg h0,e1];split
  .rfl
  .split<;>rfl
theorem wV (b n cap:Nat)(g:Nat->Nat)(w:World)(hn:n<=1048576)(hcap:n<=cap)(hown:aq w b n (λi=>(g i:Int))):
  Calls Tryz0.prog 109 #[.slice (some ⟨b,0,none⟩) n cap] w λe w'=>e=.returned (.bool (gG n g).isSome)/\(∀g',gG n g=some g'->aq w' b n (λi=>(g' i:Int)))/\dg b w w'/\Below b w w':=by
 have hbl:=hown.lt;go_enter Tryz0.func109,Tryz.ntmps109
 go_wp2;rcases Nat.eq_zero_or_pos n with hz|hpos
 .subst hz;go_loopw [3] (λx wr=>x=.int .i64 (-2)/\wr=w) (λx _=>0)
  case atStart=>exact⟨by go_num,rfl⟩
  case round=>
   obtain⟨rfl,rfl⟩:=hrel;go_wp2;go_quiet (fail)
   go_wp2;go_ret;exact⟨aJ rfl,λg' h=>by simp[gG,dZ]at h,(dg.refl _ _).drewN _,cC (Below.refl _ _) _⟩
 have hpos':0<n:=hpos;go_loopw [3] (λx wr=>∃k:Nat,x=.int .i64 ((k:Int)-1)/\k+1<=n/\dZ g (n-1)=dZ g k/\aq wr b n (λi=>(g i:Int))/\dg b w wr/\Below b w wr) (λx _=>(intOf x+1).toNat)
 case atStart=>exact⟨n-1,by go_num,by omega,rfl,hown,dg.refl _ _,Below.refl _ _⟩
 case round=>
  obtain⟨k,rfl,hk,hla,hown1,hbut,hbel⟩:=hrel;cases k with
  |zero=>
   have hno:gG n g=none:=by unfold gG;rw[hla];rfl
   have HN:Hid (gG n g=none):=hno;clear hno;go_wp2;go_quiet (fail)
   go_wp2;go_ret;exact⟨aJ (by rw[HN.out];rfl),λg' h=>absurd (HN.out.symm.trans h) (by simp),hbut.drewN _,cC hbel _⟩
  |succ k=>
   have e0:(((k+1:Nat):Int)-1)=(k:Int):=by omega
   have hkn:(k:Int)<n:=by omega
   have hkn1:(k:Int)+1<n:=by omega
   have c1:=hown1.cellAt k (by omega);have c2:=hown1.cellAt (k+1) (by omega);rw[e0];by_cases hd:g (k+1)<g k
   .have hd':(((g (k+1):Nat):Int)<((g k:Nat):Int)):=by omega
    go_wp2;go_quiet (fail)
    go_wp2;go_roundw
    case rel=>exact⟨k,by go_num,by omega,hla.trans (qo hd),hown1.drewN _,hbut.drewN _,cC hbel _⟩
    case measure=>simp[intOf]<;>omega
   .have hd':¬(((g (k+1):Nat):Int)<((g k:Nat):Int)):=by omega
    have hla2:dZ g (n-1)=some k:=hla.trans (qp hd);have HN:Hid (gG n g=some (uu n (ut g k (fM g (g k) (n-1))) k)):=by unfold gG;rw[hla2];exact rfl
    clear hla hla2;go_wp2;go_quiet (fail)
    go_wp2;go_loopw [4] (λx W=>∃q:Nat,x=.int .i64 q/\k+1<=q/\q+1<=n/\fM g (g k) (n-1)=fM g (g k) q/\aq W b n (λi=>(g i:Int))/\dg b w W/\Below b w W) (λx _=>(intOf x).toNat)
    case atStart=>exact⟨n-1,by go_num,by omega,by omega,rfl,hown1.drewN _,hbut.drewN _,cC hbel _⟩
    case round=>
     clear hown1 hbut hbel c1 c2;obtain⟨q,rfl,hkq,hqn,hge,hown1,hbut,hbel⟩:=hrel;have c1:=hown1.cellAt k (by omega);have c2:=hown1.cellAt q (by omega);have hqn':(q:Int)<n:=by omega
     by_cases hc:g q<g k
     .have hc':(((g q:Nat):Int)<((g k:Nat):Int)):=by omega
      have hne:q≠k+1:=λe=>by subst e;exact hd hc
      obtain⟨q,rfl⟩:∃p,q=p+1:=⟨q-1,by omega⟩;go_wp2;go_quiet (fail)
      go_wp2;go_roundw
      case rel=>exact⟨q,by go_num,by omega,by omega,hge.trans (rR hc),hown1.drewN _,hbut.drewN _,cC hbel _⟩
      case measure=>simp[intOf]
     .have hc':¬(((g q:Nat):Int)<((g k:Nat):Int)):=by omega
      have hge2:fM g (g k) (n-1)=q:=by
       obtain⟨p,rfl⟩:∃p,q=p+1:=⟨q-1,by omega⟩;exact hge.trans (rT hc)
      rw[hge2]at HN;have hfz:=λj=>hown1.frozen j
      have hkq':(k:Int)≠q:=by omega
      go_wp2;go_quiet (fail)
      go_wp2;go_region
      all_goals
       go_wp2_with(go_at_call 142;refine(rQ b n (k+1) (n-(k+1)) _ _ _ hn (by omega) (((hown1.drewN _).set k (by omega) _).set q (by omega) _)).mono ?_;rintro e w1 ⟨⟨v1,rfl⟩,o1,t1,b1⟩)
       go_ret;refine⟨aJ (by rw[HN.out];rfl),λg' h=>?_,(((hbut.drewN _).setCell _ _).setCell _ _).trans t1,(((cC hbel _).setCell (Nat.le_refl _) _).setCell (Nat.le_refl _) _).trans b1⟩;obtain rfl:=Option.some.inj (HN.out.symm.trans h);exact o1.congr λi hi=>yG g hi (by omega) (by omega)
theorem fY {P:Program}{ops:Array Oper}{rest:List Oper}{o:Oper}{a:Act}{w:World}{Q:Exit->Act->World->Prop}(hgd:o.guard=none)(s x:Operand)(t:TypeId)
  (ho:o.op=.call {callee:=.builtin .append,args:=#[s,x],argTypes:=#[t,t]})(v vx:Value)(hs:a.eval s=v)(hx:a.eval x=vx){v':Value}{w':World}
  (hr:(Builtin.append_ #[t,t] o.type #[v,vx]).run P w=.ok v' w')(h:wpList P ops Q rest (a.put o.dst v') w'):wpList P ops Q (o::rest) a w:=by
 have hw:Region.wanted o (yielded ops a.tmps)=true:=by simp[Region.wanted,hgd]
 unfold wpList;rw[if_pos hw];refine .inl ?_;unfold Oper.wp execOp;simp only[ho,resolve,invoke,builtin,Sem.run_bind,Sem.run_pure,Result.andThen_ok,List.map_toArray,List.map_cons,List.map_nil,hs,hx,hr];exact h
def eb (w:World)(B:Nat):Prop:=∃cs,w.heap[B]?=some (.cells cs 3 (0,0))/\∀v∈cs,∃x:Int,v=.int .i64 x
theorem eb.below {B:Nat}{w w':World}{b:Nat}(h:eb w b)(hb:Below B w w')(hB:b<B):eb w' b:=by
 obtain⟨cs,h1,h2⟩:=h;exact⟨cs,(hb.block b hB).trans h1,h2⟩
theorem fZ:Tryz0.prog.underlying 60=some (.slice 3):=by kernel_rfl
theorem qq (b n cap:Nat)(g:Nat->Int)(w:World)(hn:n<=1048576)(hbs:b<w.heap.size)(hrow:ak w b 0 n g):
  ∃B c w',(Builtin.append_ #[60,60] 60 #[.slice (some ⟨w.heap.size,0,none⟩) 0 0,.slice (some ⟨b,0,none⟩) n cap]).run Tryz0.prog (w.alloc (.cells #[] 3))=.ok (.slice (some ⟨B,0,none⟩) n c) w'/\
   n<=c/\w.heap.size<=B/\B<w'.heap.size/\eb w' B/\ak w' B 0 n g/\Below w.heap.size w w':=by
 obtain⟨i0,hI,hz0,hz1,hz2⟩:∃i0,Tryz0.prog.info? 3=some i0/\i0.zero=some (.int .i64 0)/\i0.size=1/\i0.bytes=8:=by
  have h:=gA;cases hI:Tryz0.prog.info? 3 with
  |none=>rw[hI]at h;simp at h
  |some i0=>rw[hI]at h;simp only[Option.map_some,Option.some.injEq,Prod.mk.injEq]at h;exact⟨i0,rfl,h.2.2,h.1,h.2.1⟩
 have hB0:Below w.heap.size w (w.alloc (.cells #[] 3)):=(Below.refl _ _).alloc (Nat.le_refl _) _;have hrow1:=hrow.below hB0 hbs;have hE:(w.alloc (.cells #[] 3)).heap[w.heap.size]?=some (.cells #[] 3 (0,0)):=heap_alloc_new _ _;let news:List Value:=(List.range n).map λj=>.int .i64 (g j)
 have hnl:news.length=n*i0.size:=by simp[news,hz1]
 have hnews:∀j u,news[j]?=some u->(w.alloc (.cells #[] 3)).cell? ((⟨b,0,none⟩:Addr).add j)=some u:=λj u hu=>by
  have hj:j<n:=by rcases Nat.lt_or_ge j n with h|h;exact h;rw[List.getElem?_eq_none (by simp[news];exact h)]at hu;cases hu
  simp[news,hj]at hu;rw[<-hu];have:=hrow1 j hj;rw[show(⟨b,0,none⟩:Addr).add j=⟨b,0+j,none⟩ by unfold Addr.add;split<;>simp_all];exact this
 have hone:∀u∈news,u.oneCell'=true:=λu hu=>by simp[news]at hu;obtain⟨_,_,rfl⟩:=hu;rfl
 rcases Nat.eq_zero_or_pos n with hz|hpos
 .subst hz;have hr:=run_append_room (P:=Tryz0.prog) (w.alloc (.cells #[] 3)) 60 60 3 i0 fZ hI w.heap.size 0 0 #[] hE ⟨b,0,none⟩ 0 cap news hnl hnews hone (by omega) (by simp[news]);refine⟨_,_,_,hr,Nat.le_refl _,Nat.le_refl _,?_,⟨_,setRow_heap _ _ _ _ _ _ hE,?_⟩,λi hi=>absurd hi (Nat.not_lt_zero _),?_⟩
  .simp
  .simp[news]
  .exact⟨rfl,rfl,rfl,by simp,λk hk=>(setRow_other _ _ _ _ (by simp;omega)).trans (hB0.block k hk)⟩
 .have hr:=run_append_grow (P:=Tryz0.prog) (w.alloc (.cells #[] 3)) 60 60 3 i0 (.int .i64 0) fZ hI hz0 ⟨w.heap.size,0,none⟩ 0 0 [] (by simp) (by simp) ⟨b,0,none⟩ n cap news hnl hnews (by omega) (by omega) (growslice_fits (by omega) (by rw[hz2];omega));have hge:=grownCap_ge (w.alloc (.cells #[] 3)) (0+n) 0 3;simp only[Nat.zero_add]at hr hge;refine⟨_,_,_,hr,hge,?_,?_,⟨_,heap_alloc_new _ _,?_⟩,?_,?_⟩
  .simp
  .simp
  .intro v hv;simp[news,Builtin.zeroCells,Value.cells]at hv;rcases hv with⟨j,_,rfl⟩|⟨x,_,rfl⟩
   .exact⟨_,rfl⟩
   .exact⟨0,by simp[Nat.mod_one]⟩
  .intro j hj;have hA:=heap_alloc_new (w.alloc (.cells #[] 3)).drew (.cells (#[]++news.toArray++Builtin.zeroCells (Value.int IntKind.i64 0).cells (grownCap (w.alloc (.cells #[] 3)) n 0 3-n)) 3);rw[show(⟨(w.alloc (.cells #[] 3)).heap.size,0+j,none⟩:Addr)=⟨(w.alloc (.cells #[] 3)).drew.heap.size,j,none⟩ by simp];rw[cell_of_row _ _ _ _ _ _ hA];simp[news,hj,Array.getElem?_append]
  .exact(hB0.drew).alloc (by simp) _
theorem vj (b n cap:Nat)(g:Nat->Int)(w:World)(hn:n<=1048576)(hbs:b<w.heap.size)(hrow:ak w b 0 n g):
  Calls Tryz0.prog 110 #[.slice (some ⟨b,0,none⟩) n cap] w λe w'=>∃B c,e=.returned (.slice (some ⟨B,0,none⟩) n c)/\n<=c/\w.heap.size<=B/\B<w'.heap.size/\eb w' B/\ak w' B 0 n g/\Below w.heap.size w w':=by
 obtain⟨B,c,w',hap,h1,h2,h3,h4,h5,h6⟩:=qq b n cap g w hn hbs hrow;have hnil:=Go.Lib.run_eql_slice_nil (P:=Tryz0.prog) w 60 3 (some ⟨b,0,none⟩) n cap 0 0 fZ;go_enter Tryz0.func110,Tryz.ntmps110
 go_wp2_with(refine fY rfl (.tmp 5) (.tmp 6) 60 rfl _ _ (by rfl) (by rfl) hap ?_)
 go_ret;exact⟨B,c,rfl,h1,h2,h3,h4,h5,h6⟩
end Go.Proofs.YtlmcblcijndipaaGreat
