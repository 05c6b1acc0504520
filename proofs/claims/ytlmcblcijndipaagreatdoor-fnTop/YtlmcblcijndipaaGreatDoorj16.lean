import Derived.Test.YtlmcblcijndipaaGreatDoorj13
import Derived.Test.YtlmcblcijndipaaGreatDoorj07
import Derived.Test.YtlmcblcijndipaaGreatDoorj08
set_option linter.unusedVariables false
set_option linter.defProp false
set_option maxHeartbeats 400000
namespace Go.Proofs.YtlmcblcijndipaaGreatDoor
open RowKit
section
variable {B b off n:Nat}{w w':World}{g:Nat->Int}
def aA.below (h:aA w b off n g)(hb:Below B w w')(hB:b<B):aA w' b off n g:=
 λi hi=>(hb.cell hB).trans<|h i hi
def aC (w:World)(b n:Nat)(g:Nat->Int):Prop:=(∃cs,w.heap[b]?=some (.cells cs 3 (0,0))/\cs.size=n)/\aA w b 0 n g
def aC.below (h:aC w b n g)(hb:Below B w w')(hB:b<B):aC w' b n g:=by
 let⟨⟨cs,h1,h2⟩,h3⟩:=h;exact⟨⟨cs,(hb.block _ hB).trans h1,h2⟩,h3.below hb hB⟩
def aC.lt (h:aC w b n g):b<w:=by
 let⟨⟨cs,h1,_⟩,_⟩:=h;rcases adb b w.heap.size with h|h
 .exact h
 .rw[Array.getElem?_eq_none h]at h1;cases h1
def aC.frozen (h:aC w b n g)(j:Nat):w.frozen? ⟨b,j,none⟩=false:=by
 let⟨⟨cs,h1,_⟩,_⟩:=h;exact frozen_of_row w _ j cs _ h1
def li:(Tz.prog.info? 3).map (λi=>(i.size,i.bytes,i.zero))=some (1,8,some<|.int .i64 0):=bj
def um (n:Nat)(hn:n<=1048576)(w:World):
  (Instr.makeSlice 27 (.int .i64 (n:Int)) (.int .i64 (n:Int))).run Tz.prog w=.ok (.slice w.heap.size n n) (w.alloc<|.cells (madeCells #[(0:Int)] n) 3):=by
 have hi:=li;cases hI:Tz.prog.info? 3 with
 |none=>rw[hI]at hi;simp at hi
 |some i=>
  rw[hI]at hi;simp only[Option.map_some,Option.some.injEq,Prod.mk.injEq]at hi;let⟨h6,YL,hz⟩:=hi;have:=run_make (P:=Tz.prog) w 27 3 i _ (Tz.aE Tryz.underlying27) hI hz .i64 .i64 n n ab ab (by rw[YL];omega) ab;rw[h6]at this;simpa[Value.cells]using this
def nj (w:World)(n:Nat):aC (w.alloc<|.cells (madeCells #[(0:Int)] n) 3) w.heap.size n (λ_=>0):=by
 have hg:(w.alloc<|.cells (madeCells #[(0:Int)] n) 3).heap[w.heap.size]?=some (.cells (madeCells #[(0:Int)] n) 3 (0,0)):=heap_alloc_new _ _;refine⟨⟨_,hg,size_madeCells _ _⟩,λi hi=>?_⟩;rw[cell_of_row _ _ _ _ _ _ hg];simp[madeCells,Nat.mod_one,hi]
def aC.set (h:aC w b n g)(k:Nat)(hk:k<n)(x:Int):aC (w.setCell ⟨b,k,none⟩ x) b n (λi=>if i=k then x else g i):=by
 let⟨⟨cs,h1,h2⟩,h3⟩:=h;have pn:=heap_setCell_same _ _ k _ _ x h1;refine⟨⟨_,pn,by simp[h2]⟩,λi hi=>?_⟩;by_cases e:i=k
 .subst e;rw[cell_of_row _ _ _ _ _ _ pn];simp[Array.getElem?_setIfInBounds]<;>omega
 .rw[World.cell?_setCell_other _ _ _ _ zj];simp only[if_neg e];exact h3 i hi
def aC.congr {g':Nat->Int}(h:aC w b n g)(e:∀i,i<n->g i=g' i):aC w b n g':=
 ⟨h.1,λi hi=>by rw[<-e i hi];exact h.2 i hi⟩
def aC.cellAt (h:aC w b n g)(k:Nat)(hk:k<n):w.cell? ⟨b,k,none⟩=some (.int .i64<|g k):=by
 have:=h.2 k hk;simpa using this
def aar (w:World)(a:Option Addr)(n:Nat)(g:Nat->Int):Prop:=n<=maxLen/\(n=0\/∃b off,a=some ⟨b,off,none⟩/\b<w/\aA w b off n g)/\∀i,i<n->(Lit.int .i64<|g i).wf=true
def aA.same (h:aA w b off n g)(e:w'.heap[b]?=w.heap[b]?):aA w' b off n g:=λi hi=>(ac0 (a:=⟨b,off+i,none⟩) e).trans<|h i hi
end
def eX {k:IntKind}{a b:Int}(h:a=b):Ending.returned (.int k a)=.returned (.int k b):=by rw[h]
def Eo {n lo hi:Int}(h:iB n lo hi=true):lo<=n/\n<=hi:=by unfold iB at h;simpa using h
def Eg (x y:Int)(w:World):
  Calls Tz.prog 138 #[x,y] w λe w'=>e=.returned (.int .i64<|ob x y)/\w'=w:=by
 cases hx:iB x 1 3 with
 |false=>
  go_enter Tz.func138,Tryz.ntmps138
  go_wp2_with(go_at_call 135;refine(qh _ _).mono ?_;rintro e w' ⟨rfl,rfl⟩)
  all_goals go_ret
  all_goals exact⟨eX (by unfold ob;rw[hx];rfl),rfl⟩
 |true=>
  have dK:=Eo hx;cases hy:iB y 1 3 with
  |false=>
   go_enter Tz.func138,Tryz.ntmps138
   go_wp2_with(go_at_call 135;refine(qh _ _).mono ?_;rintro e w' ⟨rfl,rfl⟩)
   all_goals go_ret
   all_goals exact⟨eX (by unfold ob;rw[hx,hy];rfl),rfl⟩
  |true=>
   have G7:=Eo hy;let⟨Jo,hx2⟩:=dK;let⟨F8,G8⟩:=G7;by_cases ay:y<x
   .go_enter Tz.func138,Tryz.ntmps138
    go_wp2_with(go_at_call 135;refine(qh _ _).mono ?_;rintro e w' ⟨rfl,rfl⟩)
    all_goals go_ret
    all_goals exact⟨eX (by unfold ob;rw[hx,hy];simp[ay]),rfl⟩
   .go_enter Tz.func138,Tryz.ntmps138
    go_wp2_with(go_at_call 135;refine(qh _ _).mono ?_;rintro e w' ⟨rfl,rfl⟩)
    all_goals go_ret
    all_goals exact⟨eX (by unfold ob;rw[hx,hy];simp;omega),rfl⟩
def pN (a b:Mv)(w:World):
  Calls Tz.prog 109 #[.agg #[a.name,a.ak,a.ap,a.bF,a.late,a.prom],.agg #[b.name,b.ak,b.ap,b.bF,b.late,b.prom]] w λe w'=>e=.returned (.int .i64<|a.jX b)/\Below w w w':=by
 let⟨bI,cj⟩:=KE a.ap b.ap;cases hl:a.ak;all_goals
  go_enter Tz.func109,Tryz.ntmps109
  go_wp2_with(go_at_call 138;refine(Eg _ _ _).mono ?_;rintro e w' ⟨rfl,rfl⟩)
  go_ret;exact⟨eX (by unfold Mv.jX;rw[Q6,hl];simp<;>omega),((acU _ _).alloc (ac3 _) _).alloc aG _⟩
def qc (a b:Mv)(w:World):
  Calls Tz.prog 130 #[.agg #[a.name,a.ak,a.ap,a.bF,a.late,a.prom],.agg #[b.name,b.ak,b.ap,b.bF,b.late,b.prom]] w λe w'=>e=.returned (.int .i64<|a.jX b)/\Below w w w':=by
 by_cases ay:b.ap<a.ap
 .cases hx:iB a.ap 1 3 with
  |false=>
   cases hl:a.ak;all_goals
    go_enter Tz.func130,Tryz.ntmps130
    go_wp2_with(go_at_call 70;refine(ig _ _ _ _).mono ?_;rintro e w' ⟨rfl,rfl⟩)
    go_ret;exact⟨eX (by unfold Mv.jX nZ;rw[hl,hx];simp),((acU _ _).alloc (ac3 _) _).alloc aG _⟩
  |true=>
   let⟨Jo,hx2⟩:=Eo hx;cases hy:iB b.ap 1 3 with
   |false=>
    cases hl:a.ak;all_goals
     go_enter Tz.func130,Tryz.ntmps130
     go_wp2_with(go_at_call 70;refine(ig _ _ _ _).mono ?_;rintro e w' ⟨rfl,rfl⟩)
     go_ret;exact⟨eX (by unfold Mv.jX nZ;rw[hl,hx,hy];simp),((acU _ _).alloc (ac3 _) _).alloc aG _⟩
   |true=>
    let⟨F8,G8⟩:=Eo hy;cases hl:a.ak;all_goals
     go_enter Tz.func130,Tryz.ntmps130
     go_wp2_with(go_at_call 70;refine(ig _ _ _ _).mono ?_;rintro e w' ⟨rfl,rfl⟩)
     go_ret;exact⟨eX (by unfold Mv.jX nZ;rw[hl,hx,hy];simp[ay];omega),((acU _ _).alloc (ac3 _) _).alloc aG _⟩
 .cases hl:a.ak;all_goals
   go_enter Tz.func130,Tryz.ntmps130
   go_wp2_with(go_at_call 70;refine(ig _ _ _ _).mono ?_;rintro e w' ⟨rfl,rfl⟩)
   go_ret;exact⟨eX (by unfold Mv.jX nZ;rw[hl,decide_eq_false (p:=b.ap<a.ap) ab];simp),((acU _ _).alloc (ac3 _) _).alloc aG _⟩
def uC (m:Mv)(t:Int)(w:World):
  Calls Tz.prog 76 #[.agg #[m.name,m.ak,m.ap,m.bF,m.late,m.prom],t] w λe w'=>e=.returned (.bool<|m.eM t)/\Below w w w':=by
 cases hi:iB t m.bF m.late with
 |false=>
  go_enter Tz.func76,Tryz.ntmps76
  go_wp2_with(go_at_call 107;refine(oj _ _ _ _ _ _ _ _).mono ?_;rintro e w1 ⟨rfl,bI⟩;let⟨kY,pH⟩:=jF bI)
  all_goals go_ret
  all_goals exact⟨bQ (by unfold Mv.eM qe;simp[hi]),(lp (oF w _) bI).2⟩
 |true=>
  by_cases h1:(m.prom==-1)=true
  .go_enter Tz.func76,Tryz.ntmps76
   go_wp2_with(go_at_call 107;refine(oj _ _ _ _ _ _ _ _).mono ?_;rintro e w1 ⟨rfl,bI⟩;let⟨kY,pH⟩:=jF bI)
   all_goals go_ret
   all_goals exact⟨bQ (by unfold Mv.eM qe;simp[hi,h1]),(lp (oF w _) bI).2⟩
  .have pn:(m.prom==-1)=false:=by simpa using h1
   clear h1;go_enter Tz.func76,Tryz.ntmps76
   go_wp2_with(go_at_call 107;refine(oj _ _ _ _ _ _ _ _).mono ?_;rintro e w1 ⟨rfl,bI⟩;let⟨kY,pH⟩:=jF bI)
   all_goals go_ret
   all_goals exact⟨bQ (by unfold Mv.eM qe;simp[hi,pn]),(lp (oF w _) bI).2⟩
def EK (a b:Mv)(s t:Int)(w:World)(NY:0<=s)(vR:s<=10000)(ht0:0<=t)(ht1:t<=10000):
  Calls Tz.prog 78 #[.agg #[a.name,a.ak,a.ap,a.bF,a.late,a.prom],.agg #[b.name,b.ak,b.ap,b.bF,b.late,b.prom],s,t] w λe w'=>e=.returned (.bool<|a.fF b s t)/\Below w w w':=by
 by_cases h:t<s
 .go_enter Tz.func78,Tryz.ntmps78
  go_wp2_with(go_at_call 109;refine(pN b a _).mono ?_;rintro e w1 ⟨rfl,bI⟩;let⟨kY,pH⟩:=jF bI)
  all_goals go_ret
  all_goals exact⟨bQ (by unfold Mv.fF yi;rw[if_pos h];unfold Mv.jX;rfl),((((acU _ w).alloc (ac3 _) _).alloc aG _).trans<|bI.mono cH)⟩
 .go_enter Tz.func78,Tryz.ntmps78
  go_wp2_with(go_at_call 109;refine(pN a b _).mono ?_;rintro e w1 ⟨rfl,bI⟩;let⟨kY,pH⟩:=jF bI)
  all_goals go_ret
  all_goals exact⟨bQ (by unfold Mv.fF yi;rw[if_neg ab];unfold Mv.jX;rfl),((((acU _ w).alloc (ac3 _) _).alloc aG _).trans<|bI.mono cH)⟩
def Ak (a b:Mv)(s t:Int)(w:World)(NY:0<=s)(vR:s<=10000)(ht0:0<=t)(ht1:t<=10000):
  Calls Tz.prog 100 #[.agg #[a.name,a.ak,a.ap,a.bF,a.late,a.prom],s,.agg #[b.name,b.ak,b.ap,b.bF,b.late,b.prom],t] w λe w'=>e=.returned (.bool<|!a.fF b s t)/\Below w w w':=by
 have hn:=jO a.ak a.ap b.ak b.ap s t;by_cases e:s=t
 .subst e;rw[if_pos rfl]at hn;go_enter Tz.func100,Tryz.ntmps100
  go_wp2;go_ret;exact⟨bQ hn.symm,((acU _ w).alloc (ac3 _) _).alloc aG _⟩
 .rw[if_neg e]at hn;have e':(s==t)=false:=by simpa using e
  by_cases h:s<t
  .rw[if_pos h]at hn;have HN:Hid _:=hn;clear hn;go_enter Tz.func100,Tryz.ntmps100
   go_wp2_with(go_at_call 130;refine(qc a b _).mono ?_;rintro e w1 ⟨rfl,bI⟩;let⟨kY,pH⟩:=jF bI)
   all_goals go_ret
   all_goals exact⟨bQ HN.out.symm,((((acU _ w).alloc (ac3 _) _).alloc aG _).trans<|bI.mono cH)⟩
  .rw[if_neg h]at hn;have HN:Hid _:=hn;clear hn;go_enter Tz.func100,Tryz.ntmps100
   go_wp2_with(go_at_call 130;refine(qc b a _).mono ?_;rintro e w1 ⟨rfl,bI⟩;let⟨kY,pH⟩:=jF bI)
   all_goals go_ret
   all_goals exact⟨bQ HN.out.symm,((((acU _ w).alloc (ac3 _) _).alloc aG _).trans<|bI.mono cH)⟩
