import Derived.Test.YtlmcblcijndipaaGreatDoora12
import Derived.Test.YtlmcblcijndipaaGreatDoora07
import Derived.Test.YtlmcblcijndipaaGreatDoora08
set_option linter.unusedVariables false
set_option linter.defProp false
set_option maxHeartbeats 400000
namespace Go.Proofs.YtlmcblcijndipaaGreatDoor
open RowKit
section
variable {B b off n:Nat}{w w':World}{g:Nat->Int}
def aA.below (h:aA w b off n g)(hb:Below B w w')(hB:b<B):aA w' b off n g:=
 λi hi=>(hb.cell hB).trans<|h i hi
def aC (w:World)(b n:Nat)(g:Nat->Int):Prop:=(∃cs,w.heap[b]?=some (.cells cs 3 (0,0))/\cs.size=n)/\aA w b 0 n g
def aC.below (h:aC w b n g)(hb:Below B w w')(hB:b<B):aC w' b n g:=by
 let⟨⟨cs,h1,h2⟩,h3⟩:=h;exact⟨⟨cs,(hb.block _ hB).trans h1,h2⟩,h3.below hb hB⟩
def aC.lt (h:aC w b n g):b<w:=by
 let⟨⟨cs,h1,_⟩,_⟩:=h;rcases ade b w.heap.size with h|h
 .exact h
 .rw[Array.getElem?_eq_none h]at h1;cases h1
def aC.frozen (h:aC w b n g)(j:Nat):w.frozen? ⟨b,j,none⟩=false:=by
 let⟨⟨cs,h1,_⟩,_⟩:=h;exact frozen_of_row w _ j cs _ h1
def nf:(Tz.prog.info? 3).map (λi=>(i.size,i.bytes,i.zero))=some (1,8,some<|.int .i64 0):=bD
def tW (n:Nat)(hn:n<=1048576)(w:World):
  (Instr.makeSlice 27 (.int .i64 (n:Int)) (.int .i64 (n:Int))).run Tz.prog w=.ok (.slice w.heap.size n n) (w.alloc<|.cells (madeCells #[(0:Int)] n) 3):=by
 have hi:=nf;cases hI:Tz.prog.info? 3 with
 |none=>rw[hI]at hi;simp at hi
 |some i=>
  rw[hI]at hi;simp only[Option.map_some,Option.some.injEq,Prod.mk.injEq]at hi;let⟨h6,XS,hz⟩:=hi;have:=run_make (P:=Tz.prog) w 27 3 i _ (Tz.aR Tryz.underlying27) hI hz .i64 .i64 n n aa aa (by rw[XS];omega) aa;rw[h6]at this;simpa[Value.cells]using this
def ng (w:World)(n:Nat):aC (w.alloc<|.cells (madeCells #[(0:Int)] n) 3) w.heap.size n (λ_=>0):=by
 have hg:(w.alloc<|.cells (madeCells #[(0:Int)] n) 3).heap[w.heap.size]?=some (.cells (madeCells #[(0:Int)] n) 3 (0,0)):=heap_alloc_new _ _;refine⟨⟨_,hg,size_madeCells _ _⟩,λi hi=>?_⟩;rw[cell_of_row _ _ _ _ _ _ hg];simp[madeCells,Nat.mod_one,hi]
def aC.set (h:aC w b n g)(k:Nat)(hk:k<n)(x:Int):aC (w.setCell ⟨b,k,none⟩ x) b n (λi=>if i=k then x else g i):=by
 let⟨⟨cs,h1,h2⟩,h3⟩:=h;have pa:=heap_setCell_same _ _ k _ _ x h1;refine⟨⟨_,pa,by simp[h2]⟩,λi hi=>?_⟩;by_cases e:i=k
 .subst e;rw[cell_of_row _ _ _ _ _ _ pa];simp[Array.getElem?_setIfInBounds]<;>omega
 .rw[World.cell?_setCell_other _ _ _ _ qB];simp only[if_neg e];exact h3 i hi
def aC.congr {g':Nat->Int}(h:aC w b n g)(e:∀i,i<n->g i=g' i):aC w b n g':=
 ⟨h.1,λi hi=>by rw[<-e i hi];exact h.2 i hi⟩
def aC.cellAt (h:aC w b n g)(k:Nat)(hk:k<n):w.cell? ⟨b,k,none⟩=some (.int .i64<|g k):=by
 have:=h.2 k hk;simpa using this
def aag (w:World)(a:Option Addr)(n:Nat)(g:Nat->Int):Prop:=n<=maxLen/\(n=0\/∃b off,a=some ⟨b,off,none⟩/\b<w/\aA w b off n g)/\∀i,i<n->(Lit.int .i64<|g i).wf=true
def aA.same (h:aA w b off n g)(e:w'.heap[b]?=w.heap[b]?):aA w' b off n g:=λi hi=>(ac2 (a:=⟨b,off+i,none⟩) e).trans<|h i hi
end
def eR {k:IntKind}{a b:Int}(h:a=b):Ending.returned (.int k a)=.returned (.int k b):=by rw[h]
def D0 {n lo hi:Int}(h:iL n lo hi=true):lo<=n/\n<=hi:=by unfold iL at h;simpa using h
def DP (x y:Int)(w:World):
  Calls Tz.prog 138 #[x,y] w λe w'=>e=.returned (.int .i64<|nS x y)/\w'=w:=by
 cases hx:iL x 1 3 with
 |false=>
  go_enter Tz.func138,Tryz.ntmps138
  go_wp2_with(go_at_call 135;refine(qc _ _).mono ?_;rintro e w' ⟨rfl,rfl⟩)
  all_goals go_ret
  all_goals exact⟨eR (by unfold nS;rw[hx];rfl),rfl⟩
 |true=>
  have dG:=D0 hx;cases hy:iL y 1 3 with
  |false=>
   go_enter Tz.func138,Tryz.ntmps138
   go_wp2_with(go_at_call 135;refine(qc _ _).mono ?_;rintro e w' ⟨rfl,rfl⟩)
   all_goals go_ret
   all_goals exact⟨eR (by unfold nS;rw[hx,hy];rfl),rfl⟩
  |true=>
   have GH:=D0 hy;let⟨IR,hx2⟩:=dG;let⟨IT,Ke⟩:=GH;by_cases aB:y<x
   .go_enter Tz.func138,Tryz.ntmps138
    go_wp2_with(go_at_call 135;refine(qc _ _).mono ?_;rintro e w' ⟨rfl,rfl⟩)
    all_goals go_ret
    all_goals exact⟨eR (by unfold nS;rw[hx,hy];simp[aB]),rfl⟩
   .go_enter Tz.func138,Tryz.ntmps138
    go_wp2_with(go_at_call 135;refine(qc _ _).mono ?_;rintro e w' ⟨rfl,rfl⟩)
    all_goals go_ret
    all_goals exact⟨eR (by unfold nS;rw[hx,hy];simp;omega),rfl⟩
def pJ (a b:Mv)(w:World):
  Calls Tz.prog 109 #[.agg #[a.name,a.aj,a.ap,a.aW,a.late,a.prom],.agg #[b.name,b.aj,b.ap,b.aW,b.late,b.prom]] w λe w'=>e=.returned (.int .i64<|a.oP b)/\Below w w w':=by
 let⟨bP,cP⟩:=J5 a.ap b.ap;cases hl:a.aj;all_goals
  go_enter Tz.func109,Tryz.ntmps109
  go_wp2_with(go_at_call 138;refine(DP _ _ _).mono ?_;rintro e w' ⟨rfl,rfl⟩)
  go_ret;exact⟨eR (by unfold Mv.oP;rw[P9,hl];simp<;>omega),((acW _ _).alloc (ac5 _) _).alloc aF _⟩
def p9 (a b:Mv)(w:World):
  Calls Tz.prog 130 #[.agg #[a.name,a.aj,a.ap,a.aW,a.late,a.prom],.agg #[b.name,b.aj,b.ap,b.aW,b.late,b.prom]] w λe w'=>e=.returned (.int .i64<|a.oP b)/\Below w w w':=by
 by_cases aB:b.ap<a.ap
 .cases hx:iL a.ap 1 3 with
  |false=>
   cases hl:a.aj;all_goals
    go_enter Tz.func130,Tryz.ntmps130
    go_wp2_with(go_at_call 70;refine(ic _ _ _ _).mono ?_;rintro e w' ⟨rfl,rfl⟩)
    go_ret;exact⟨eR (by unfold Mv.oP pC;rw[hl,hx];simp),((acW _ _).alloc (ac5 _) _).alloc aF _⟩
  |true=>
   let⟨IR,hx2⟩:=D0 hx;cases hy:iL b.ap 1 3 with
   |false=>
    cases hl:a.aj;all_goals
     go_enter Tz.func130,Tryz.ntmps130
     go_wp2_with(go_at_call 70;refine(ic _ _ _ _).mono ?_;rintro e w' ⟨rfl,rfl⟩)
     go_ret;exact⟨eR (by unfold Mv.oP pC;rw[hl,hx,hy];simp),((acW _ _).alloc (ac5 _) _).alloc aF _⟩
   |true=>
    let⟨IT,Ke⟩:=D0 hy;cases hl:a.aj;all_goals
     go_enter Tz.func130,Tryz.ntmps130
     go_wp2_with(go_at_call 70;refine(ic _ _ _ _).mono ?_;rintro e w' ⟨rfl,rfl⟩)
     go_ret;exact⟨eR (by unfold Mv.oP pC;rw[hl,hx,hy];simp[aB];omega),((acW _ _).alloc (ac5 _) _).alloc aF _⟩
 .cases hl:a.aj;all_goals
   go_enter Tz.func130,Tryz.ntmps130
   go_wp2_with(go_at_call 70;refine(ic _ _ _ _).mono ?_;rintro e w' ⟨rfl,rfl⟩)
   go_ret;exact⟨eR (by unfold Mv.oP pC;rw[hl,decide_eq_false (p:=b.ap<a.ap) aa];simp),((acW _ _).alloc (ac5 _) _).alloc aF _⟩
def um (m:Mv)(t:Int)(w:World):
  Calls Tz.prog 76 #[.agg #[m.name,m.aj,m.ap,m.aW,m.late,m.prom],t] w λe w'=>e=.returned (.bool<|m.fG t)/\Below w w w':=by
 cases hi:iL t m.aW m.late with
 |false=>
  go_enter Tz.func76,Tryz.ntmps76
  go_wp2_with(go_at_call 107;refine(nV _ _ _ _ _ _ _ _).mono ?_;rintro e w1 ⟨rfl,bP⟩;let⟨kq,pE⟩:=jJ bP)
  all_goals go_ret
  all_goals exact⟨bQ (by unfold Mv.fG qW;simp[hi]),(lj (od w _) bP).2⟩
 |true=>
  by_cases h1:(m.prom==-1)=true
  .go_enter Tz.func76,Tryz.ntmps76
   go_wp2_with(go_at_call 107;refine(nV _ _ _ _ _ _ _ _).mono ?_;rintro e w1 ⟨rfl,bP⟩;let⟨kq,pE⟩:=jJ bP)
   all_goals go_ret
   all_goals exact⟨bQ (by unfold Mv.fG qW;simp[hi,h1]),(lj (od w _) bP).2⟩
  .have pa:(m.prom==-1)=false:=by simpa using h1
   clear h1;go_enter Tz.func76,Tryz.ntmps76
   go_wp2_with(go_at_call 107;refine(nV _ _ _ _ _ _ _ _).mono ?_;rintro e w1 ⟨rfl,bP⟩;let⟨kq,pE⟩:=jJ bP)
   all_goals go_ret
   all_goals exact⟨bQ (by unfold Mv.fG qW;simp[hi,pa]),(lj (od w _) bP).2⟩
def Ek (a b:Mv)(s t:Int)(w:World)(SE:0<=s)(yQ:s<=10000)(ht0:0<=t)(ht1:t<=10000):
  Calls Tz.prog 78 #[.agg #[a.name,a.aj,a.ap,a.aW,a.late,a.prom],.agg #[b.name,b.aj,b.ap,b.aW,b.late,b.prom],s,t] w λe w'=>e=.returned (.bool<|a.gP b s t)/\Below w w w':=by
 by_cases h:t<s
 .go_enter Tz.func78,Tryz.ntmps78
  go_wp2_with(go_at_call 109;refine(pJ b a _).mono ?_;rintro e w1 ⟨rfl,bP⟩;let⟨kq,pE⟩:=jJ bP)
  all_goals go_ret
  all_goals exact⟨bQ (by unfold Mv.gP AF;rw[if_pos h];unfold Mv.oP;rfl),((((acW _ w).alloc (ac5 _) _).alloc aF _).trans<|bP.mono cU)⟩
 .go_enter Tz.func78,Tryz.ntmps78
  go_wp2_with(go_at_call 109;refine(pJ a b _).mono ?_;rintro e w1 ⟨rfl,bP⟩;let⟨kq,pE⟩:=jJ bP)
  all_goals go_ret
  all_goals exact⟨bQ (by unfold Mv.gP AF;rw[if_neg aa];unfold Mv.oP;rfl),((((acW _ w).alloc (ac5 _) _).alloc aF _).trans<|bP.mono cU)⟩
def zZ (a b:Mv)(s t:Int)(w:World)(SE:0<=s)(yQ:s<=10000)(ht0:0<=t)(ht1:t<=10000):
  Calls Tz.prog 100 #[.agg #[a.name,a.aj,a.ap,a.aW,a.late,a.prom],s,.agg #[b.name,b.aj,b.ap,b.aW,b.late,b.prom],t] w λe w'=>e=.returned (.bool<|!a.gP b s t)/\Below w w w':=by
 have hn:=lY a.aj a.ap b.aj b.ap s t;by_cases e:s=t
 .subst e;rw[if_pos rfl]at hn;go_enter Tz.func100,Tryz.ntmps100
  go_wp2;go_ret;exact⟨bQ hn.symm,((acW _ w).alloc (ac5 _) _).alloc aF _⟩
 .rw[if_neg e]at hn;have e':(s==t)=false:=by simpa using e
  by_cases h:s<t
  .rw[if_pos h]at hn;have HN:Hid _:=hn;clear hn;go_enter Tz.func100,Tryz.ntmps100
   go_wp2_with(go_at_call 130;refine(p9 a b _).mono ?_;rintro e w1 ⟨rfl,bP⟩;let⟨kq,pE⟩:=jJ bP)
   all_goals go_ret
   all_goals exact⟨bQ HN.out.symm,((((acW _ w).alloc (ac5 _) _).alloc aF _).trans<|bP.mono cU)⟩
  .rw[if_neg h]at hn;have HN:Hid _:=hn;clear hn;go_enter Tz.func100,Tryz.ntmps100
   go_wp2_with(go_at_call 130;refine(p9 b a _).mono ?_;rintro e w1 ⟨rfl,bP⟩;let⟨kq,pE⟩:=jJ bP)
   all_goals go_ret
   all_goals exact⟨bQ HN.out.symm,((((acW _ w).alloc (ac5 _) _).alloc aF _).trans<|bP.mono cU)⟩
