import Derived.Test.YtjoalkgmgmmedaaGreatDoorj11
import Derived.Test.YtjoalkgmgmmedaaGreatDoorj06
set_option linter.unusedVariables false
set_option linter.defProp false
set_option maxHeartbeats 400000
open Go renaming World->ac,Calls->ad,madeCells->ai
open Go.Ending renaming returned->aa
namespace Go.Proofs.YtjoalkgmgmmedaaGreatDoor
open RowKit
variable {p:Prop}
section
variable {B b off n:Nat}{w w':ac}{g:Nat->Int}
def aD.below (h:aD w b off n g)(a:Below B w w')(c:b<B):aD w' b off n g:=
 λi d=>(a.cell c).trans<|h i d
def aC (w:ac)(b n:Nat)(g:Nat->Int):Prop:=(∃a,w.heap[b]?=some (.cells a 3 (0,0))/\a.size=n)/\aD w b 0 n g
def aC.below (h:aC w b n g)(a:Below B w w')(c:b<B):aC w' b n g:=by
 let⟨⟨d,e,f⟩,i⟩:=h;exact⟨⟨d,(a.block _ c).trans e,f⟩,i.below a c⟩
def aC.lt (h:aC w b n g):b<w:=by
 let⟨⟨a,c,_⟩,_⟩:=h;grind
def aef (x9:p:=by
  let⟨⟨cs,h1,_⟩,_⟩:=h;exact frozen_of_row w _ j cs _ h1):p:=x9
def aC.frozen (h:aC w b n g) j:w.frozen? ⟨b,j,none⟩=false:=by
 let⟨⟨a,c,_⟩,_⟩:=h;exact frozen_of_row w _ j a _ c
def lY:(Tz.prog.info? 3).map (λi=>(i.size,i.bytes,i.zero))=some (1,8,some<|.int .i64 0):=aO
def vD (n:Nat)(f:n<=1048576)(w):
  (Instr.makeSlice 27 (n:Int) (n:Int)).run Tz.prog w=.ok (.slice w n n) (w.alloc<|.cells (ai #[(0:Int)] n) 3):=by
 have a:=lY;cases c:Tz.prog.info? 3 with
 |none=>grind
 |some i=>
  rw[c]at a;simp at a;let⟨j,d,e⟩:=a;have:=run_make w 27 3 i _ (Tz.al Tryz.underlying27) c e .i64 .i64 n n ab ab gC ab;grind [Value.cells]
def nS (w:ac) n:aC (w.alloc<|.cells (ai #[(0:Int)] n) 3) w n (λ_=>0):=by
 refine⟨⟨_,(heap_alloc_new _ _),size_madeCells _ _⟩,λi a=>?_⟩;simp[ai,Nat.mod_one,a]
def aC.set (h:aC w b n g) k (j:k<n)(x:Int):aC (w.setCell ⟨b,k,none⟩ x) b n (λi=>if i=k then x else g i):=by
 let⟨⟨l,c,m⟩,d⟩:=h;have a:=heap_setCell_same _ _ k _ _ x c;refine⟨⟨_,a,cO⟩,λi f=>?_⟩;by_cases e:i=k
 .rw[cell_of_row _ _ _ _ _ _ a];grind
 rw[World.cell?_setCell_other _ _ _ _ LZ];simp only[if_neg e];exact d i f
def aC.congr {g'}(h:aC w b n g)(e:∀i,i<n->g i=g' i):aC w b n g':=
 ⟨h.1,λi a=>by rw[<-e i a];exact h.2 i a⟩
def aC.cellAt (h:aC w b n g) k (a:k<n):w.cell? ⟨b,k,none⟩=some (.int .i64<|g k):=by
 have:=h.2 k a;grind
def acI (w:ac)(a:Option Addr)(n:Nat)(g:Nat->Int):Prop:=n<=maxLen/\(n=0\/∃b off,a=some ⟨b,off,none⟩/\b<w/\aD w b off n g)/\∀i,i<n->(Lit.int .i64<|g i).wf
def aD.same (h:aD w b off n g)(e:w'.heap[b]?=w.heap[b]?):aD w' b off n g:=λi a=>(afH e).trans<|h i a
end
def ii {k a b}(h:a=b):aa (.int k a)=aa (.int k b):=by rw[h]
def FR {n a c}(h:jj n a c):a<=n/\n<=c:=by unfold jj at h;simpa using h
def E_ (x9:p:=by
  go_enter Tz.func165,Tryz.ntmps165
  go_wp2_with(go_at_call 162;refine(AL _ _).mono ?_;rintro e w' ⟨rfl,rfl⟩)
  all_goals go_ret
  simp_all [sP]):p:=x9
def FG (x y:Int)(w):
  ad Tz.prog 165 #[x,y] w λe w'=>e=aa (sP x y)/\w'=w:=by
 cases a:jj x 1 3 with
 |false=>
  exact E_
 |true=>
  cases c:jj y 1 3 with
  |false=>
   exact E_
  |true=>
   let⟨d,f⟩:=(FR a);let⟨h,i⟩:=(FR c);by_cases j:y<x
   .exact E_
   go_enter Tz.func165,Tryz.ntmps165
   go_wp2_with(go_at_call 162;refine(AL _ _).mono ?_;rintro e w' ⟨rfl,rfl⟩)
   all_goals go_ret
   all_goals exact⟨ii<|by grind [sP],rfl⟩
def qv (a b:Mv)(w):
  ad Tz.prog 140 #[.agg #[a.name,a.ax,a.aI,a.cE,a.late,a.prom],.agg #[b.name,b.ax,b.aI,b.cE,b.late,b.prom]] w λe w'=>e=aa (a.pO b)/\Below w w w':=by
 let⟨c,d⟩:=Ms a.aI b.aI;cases f:a.ax;all_goals
  go_enter Tz.func140,Tryz.ntmps140
  go_wp2_with(go_at_call 165;refine(FG _ _ _).mono ?_;rintro e w' ⟨rfl,rfl⟩)
  go_ret;exact⟨ii<|by grind [Mv.pO,TN],((afB _ _).alloc ab _).alloc aP _⟩
def qR (a b:Mv)(w):
  ad Tz.prog 109 #[.agg #[a.name,a.ax,a.aI,a.cE,a.late,a.prom],.agg #[b.name,b.ax,b.aI,b.cE,b.late,b.prom]] w λe w'=>e=aa (a.pO b)/\Below w w w':=by
 by_cases i:b.aI<a.aI
 .cases d:jj a.aI 1 3 with
  |false=>
   cases c:a.ax;all_goals
    go_enter Tz.func109,Tryz.ntmps109
    go_wp2_with(go_at_call 59;refine(gL _ _ _ _).mono ?_;rintro e w' ⟨rfl,rfl⟩)
    go_ret;exact⟨ii (by unfold Mv.pO rP;rw[c,d];simp),((afB _ _).alloc ab _).alloc aP _⟩
  |true=>
   let⟨j,k⟩:=FR d;cases f:jj b.aI 1 3 with
   |false=>
    cases c:a.ax;all_goals
     go_enter Tz.func109,Tryz.ntmps109
     go_wp2_with(go_at_call 59;refine(gL _ _ _ _).mono ?_;rintro e w' ⟨rfl,rfl⟩)
     go_ret;exact⟨ii (by unfold Mv.pO rP;rw[c,d,f];simp),((afB _ _).alloc ab _).alloc aP _⟩
   |true=>
    let⟨l,m⟩:=FR f;cases c:a.ax;all_goals
     go_enter Tz.func109,Tryz.ntmps109
     go_wp2_with(go_at_call 59;refine(gL _ _ _ _).mono ?_;rintro e w' ⟨rfl,rfl⟩)
     go_ret;exact⟨ii (by unfold Mv.pO rP;rw[c,d,f];simp[i];omega),((afB _ _).alloc ab _).alloc aP _⟩
 cases c:a.ax;all_goals
  go_enter Tz.func109,Tryz.ntmps109
  go_wp2_with(go_at_call 59;refine(gL _ _ _ _).mono ?_;rintro e w' ⟨rfl,rfl⟩)
  go_ret;exact⟨ii (by unfold Mv.pO rP;rw[c,decide_eq_false ab];simp),((afB _ _).alloc ab _).alloc aP _⟩
def D_ (x9:p:=by
  go_enter Tz.func104,Tryz.ntmps104
  go_wp2_with(go_at_call 138;refine(zD _ _ _ _ _ _ _ _).mono ?_;rintro e w1 ⟨rfl,bL⟩;let⟨ng,ue⟩:=mJ bL)
  all_goals go_ret
  all_goals exact⟨cY<|by grind [Mv.ga,AH],(qG (uG w _) bL).2⟩):p:=x9
def vW (m:Mv)(t:Int)(w):
  ad Tz.prog 104 #[.agg #[m.name,m.ax,m.aI,m.cE,m.late,m.prom],t] w λe w'=>e=aa (m.ga t)/\Below w w w':=by
 cases a:jj t m.cE m.late with
 |false=>
  exact D_
 |true=>
  by_cases c:(m.prom==-1)=true
  .exact D_
  have d:(m.prom==-1)=false:=cO;exact D_
def Gq (a b:Mv)(s t:Int)(w)(l:0<=s)(m:s<=10000)(d:0<=t)(f:t<=10000):
  ad Tz.prog 106 #[.agg #[a.name,a.ax,a.aI,a.cE,a.late,a.prom],.agg #[b.name,b.ax,b.aI,b.cE,b.late,b.prom],s,t] w λe w'=>e=aa (a.iJ b s t)/\Below w w w':=by
 by_cases h:t<s
 .go_enter Tz.func106,Tryz.ntmps106
  go_wp2_with(go_at_call 140;refine(qv b a _).mono ?_;rintro e i ⟨rfl,c⟩;let⟨j,k⟩:=mJ c)
  all_goals go_ret
  all_goals exact⟨cY (by unfold Mv.iJ Gp;rw[if_pos h];unfold Mv.pO;rfl),((((afB _ w).alloc ab _).alloc aP _).trans<|c.mono dj)⟩
 go_enter Tz.func106,Tryz.ntmps106
 go_wp2_with(go_at_call 140;refine(qv a b _).mono ?_;rintro e i ⟨rfl,c⟩;let⟨j,k⟩:=mJ c)
 all_goals go_ret
 all_goals exact⟨cY (by unfold Mv.iJ Gp;rw[if_neg ab];unfold Mv.pO;rfl),((((afB _ w).alloc ab _).alloc aP _).trans<|c.mono dj)⟩
def BY (a b:Mv)(s t:Int)(w)(o:0<=s)(q:s<=10000)(i:0<=t)(j:t<=10000):
  ad Tz.prog 83 #[.agg #[a.name,a.ax,a.aI,a.cE,a.late,a.prom],s,.agg #[b.name,b.ax,b.aI,b.cE,b.late,b.prom],t] w λe w'=>e=aa (!a.iJ b s t)/\Below w w w':=by
 have c:=kC a.ax a.aI b.ax b.aI s t;by_cases e:s=t
 .subst e;rw[if_pos rfl]at c;go_enter Tz.func83,Tryz.ntmps83
  go_wp2;go_ret;exact⟨cY c.symm,((afB _ w).alloc ab _).alloc aP _⟩
 rw[if_neg e]at c;have r:(s==t)=false:=cO;by_cases h:s<t
 .rw[if_pos h]at c;have f:Hid _:=c;go_enter Tz.func83,Tryz.ntmps83
  go_wp2_with(go_at_call 109;refine(qR a b _).mono ?_;rintro e k ⟨rfl,d⟩;let⟨l,m⟩:=mJ d)
  all_goals go_ret
  all_goals exact⟨cY f.out.symm,((((afB _ w).alloc ab _).alloc aP _).trans<|d.mono dj)⟩
 rw[if_neg h]at c;have f:Hid _:=c;go_enter Tz.func83,Tryz.ntmps83
 go_wp2_with(go_at_call 109;refine(qR b a _).mono ?_;rintro e k ⟨rfl,d⟩;let⟨l,m⟩:=mJ d)
 all_goals go_ret
 all_goals exact⟨cY f.out.symm,((((afB _ w).alloc (afK _) _).alloc aP _).trans<|d.mono dj)⟩
