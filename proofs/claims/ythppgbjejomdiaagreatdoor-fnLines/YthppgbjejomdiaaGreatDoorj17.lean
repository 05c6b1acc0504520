import Derived.Test.YthppgbjejomdiaaGreatDoorj10
import Derived.Test.YthppgbjejomdiaaGreatDoorj06
set_option linter.all false
set_option maxHeartbeats 400000
open Go renaming World->aa,Calls->ad,cell_of_row->aj,madeCells->ao
open Go.Ending renaming returned->ac
namespace Go.Proofs.YthppgbjejomdiaaGreatDoor
open RowKit
variable {B b n:Nat}{g:Nat->Int}{p:Prop}{w w':aa}
section
variable {off:Nat}
def aD.below (h:aD w b off n g)(c:Below B w w')(d:b<B):aD w' b off n g:=
 λi e=>(c.cell d).trans<|h i e
def aC (w:aa)(b n:Nat)(g:Nat->Int):Prop:=(∃c,w.heap[b]?=some (.cells c 3 (0,0))/\c.size=n)/\aD w b 0 n g
def aC.below (h:aC w b n g)(c:Below B w w')(d:b<B):aC w' b n g:=by let⟨⟨e,f,i⟩,j⟩:=h;exact⟨⟨e,(c.block _ d).trans f,i⟩,j.below c d⟩
def aC.lt (h:aC w b n g):b<w:=by let⟨⟨c,d,_⟩,_⟩:=h;grind
def ae1 (x9:p:=by let⟨⟨cs,h1,_⟩,_⟩:=h;exact frozen_of_row w _ j cs _ h1):p:=x9
def aC.frozen (h:aC w b n g) j:w.frozen? ⟨b,j,none⟩=false:=by let⟨⟨c,d,_⟩,_⟩:=h;exact frozen_of_row w _ j c _ d
def mh:(Tz.prog.info? 3).map (λi=>(i.size,i.bytes,i.zero))=some (1,8,some<|.int .i64 0):=aO
def vZ (n:Nat)(j:n<=1048576)(w): (Instr.makeSlice 40 (n:Int) (n:Int)).run Tz.prog w=.ok (.slice w n n) (w.alloc<|.cells (ao #[(0:Int)] n) 3):=by have c:=mh;rcases d:Tz.prog.info? 3 with _|i;grind;rw[d]at c;simp at c;let⟨k,e,f⟩:=c;have:=run_make w 40 3 i _ (Tz.al Tryz.underlying40) d f .i64 .i64 n n ab ab f7 ab;grind [Value.cells]
def n8 (w:aa) n:aC (w.alloc<|.cells (ao #[(0:Int)] n) 3) w n (λ_=>0):=by refine⟨⟨_,(heap_alloc_new _ _),size_madeCells _ _⟩,λi c=>?_⟩;simp[ao,Nat.mod_one,c]
def aC.set (h:aC w b n g) k (l:k<n)(x:Int):aC (w.setCell ⟨b,k,none⟩ x) b n (λi=>if i=k then x else g i):=by let⟨⟨m,d,o⟩,f⟩:=h;have c:=heap_setCell_same _ _ k _ _ x d;refine⟨⟨_,c,cQ⟩,λi j=>?_⟩;by_cases e:i=k;rw[aj _ _ _ _ _ _ c];grind;rw[World.cell?_setCell_other _ _ _ _ DZ];simp only[if_neg e];exact f i j
def aC.congr {g'}(h:aC w b n g)(e:∀i,i<n->g i=g' i):aC w b n g':=
 ⟨h.1,λi c=>by rw[<-e i c];exact h.2 i c⟩
def aC.cellAt (h:aC w b n g) k (c:k<n):w.cell? ⟨b,k,none⟩=some (.int .i64<|g k):=by have:=h.2 k c;grind
def adx (w:aa)(a:Option Addr)(n:Nat)(g:Nat->Int):Prop:=n<=maxLen/\(n=0\/∃b off,a=some ⟨b,off,none⟩/\b<w/\aD w b off n g)/\∀i,i<n->(Lit.int .i64<|g i).wf
def aD.same (h:aD w b off n g)(e:w'.heap[b]?=w.heap[b]?):aD w' b off n g:=λi c=>(agt e).trans<|h i c
end
def il {k a b}(h:a=b):ac (.int k a)=ac (.int k b):=by rw[h]
def Gm {n c d}(h:jr n c d):c<=n/\n<=d:=by unfold jr at h;simpa using h
def aaB (x9:p:=by
 go_enter Tz.func172,Tryz.ntmps172;go_wp2_with(go_at_call 169;refine(A4 _ _).mono ?_;rintro e w' ⟨rfl,rfl⟩)
 all_goals go_ret
 simp_all [td]):p:=x9
def F7 (x y:Int)(w): ad Tz.prog 172 #[x,y] w λe w'=>e=ac (td x y)/\w'=w:=by
 cases c:jr x 1 3;exact aaB;cases d:jr y 1 3;exact aaB;let⟨f,h⟩:=(Gm c);let⟨i,j⟩:=(Gm d);by_cases k:y<x;exact aaB;go_enter Tz.func172,Tryz.ntmps172;go_wp2_with(go_at_call 169;refine(A4 _ _).mono ?_;rintro e w' ⟨rfl,rfl⟩)
 all_goals go_ret
 all_goals exact⟨il<|by grind [td],rfl⟩
def qC (a b:Mv)(w): ad Tz.prog 144 #[.agg #[a.name,a.ax,a.aI,a.cj,a.late,a.prom],.agg #[b.name,b.ax,b.aI,b.cj,b.late,b.prom]] w λe w'=>e=ac (a.pY b)/\Below w w w':=by
 let⟨c,d⟩:=Nd a.aI b.aI;cases f:a.ax;all_goals
  go_enter Tz.func144,Tryz.ntmps144
  go_wp2_with(go_at_call 172;refine(F7 _ _ _).mono ?_;rintro e w' ⟨rfl,rfl⟩)
  go_ret;exact⟨il<|by grind [Mv.pY,Us],((agn _ _).alloc ab _).alloc aN _⟩
def qY (a b:Mv)(w): ad Tz.prog 147 #[.agg #[a.name,a.ax,a.aI,a.cj,a.late,a.prom],.agg #[b.name,b.ax,b.aI,b.cj,b.late,b.prom]] w λe w'=>e=ac (a.pY b)/\Below w w w':=by
 by_cases i:b.aI<a.aI
 .cases d:jr a.aI 1 3 with
  |false=>
   cases c:a.ax;all_goals
    go_enter Tz.func147,Tryz.ntmps147
    go_wp2_with(go_at_call 82;refine(gN _ _ _ _).mono ?_;rintro e w' ⟨rfl,rfl⟩)
    go_ret;exact⟨il (by unfold Mv.pY sd;rw[c,d];simp),((agn _ _).alloc ab _).alloc aN _⟩
  |true=>
   let⟨j,k⟩:=Gm d;cases f:jr b.aI 1 3 with
   |false=>
    cases c:a.ax;all_goals
     go_enter Tz.func147,Tryz.ntmps147
     go_wp2_with(go_at_call 82;refine(gN _ _ _ _).mono ?_;rintro e w' ⟨rfl,rfl⟩)
     go_ret;exact⟨il (by unfold Mv.pY sd;rw[c,d,f];simp),((agn _ _).alloc ab _).alloc aN _⟩
   |true=>
    let⟨l,m⟩:=Gm f;cases c:a.ax;all_goals
     go_enter Tz.func147,Tryz.ntmps147
     go_wp2_with(go_at_call 82;refine(gN _ _ _ _).mono ?_;rintro e w' ⟨rfl,rfl⟩)
     go_ret;exact⟨il (by unfold Mv.pY sd;rw[c,d,f];simp[i];omega),((agn _ _).alloc ab _).alloc aN _⟩
 cases c:a.ax;all_goals
  go_enter Tz.func147,Tryz.ntmps147
  go_wp2_with(go_at_call 82;refine(gN _ _ _ _).mono ?_;rintro e w' ⟨rfl,rfl⟩)
  go_ret;exact⟨il (by unfold Mv.pY sd;rw[c,decide_eq_false ab];simp),((agn _ _).alloc ab _).alloc aN _⟩
def aaz (x9:p:=by
 go_enter Tz.func103,Tryz.ntmps103;go_wp2_with(go_at_call 142;refine(Ab _ _ _ _ _ _ _ _).mono ?_;rintro e w1 ⟨rfl,bK⟩;let⟨nA,ux⟩:=mU bK)
 all_goals go_ret
 all_goals exact⟨de<|by grind [Mv.ge,A0],(qN (uV w _) bK).2⟩):p:=x9
def wD (m:Mv)(t:Int)(w): ad Tz.prog 103 #[.agg #[m.name,m.ax,m.aI,m.cj,m.late,m.prom],t] w λe w'=>e=ac (m.ge t)/\Below w w w':=by cases c:jr t m.cj m.late;exact aaz;by_cases d:(m.prom==-1)=true;exact aaz;have f:(m.prom==-1)=false:=cQ;exact aaz
def GR (a b:Mv)(s t:Int)(w)(l:0<=s)(m:s<=10000)(d:0<=t)(f:t<=10000): ad Tz.prog 105 #[.agg #[a.name,a.ax,a.aI,a.cj,a.late,a.prom],.agg #[b.name,b.ax,b.aI,b.cj,b.late,b.prom],s,t] w λe w'=>e=ac (a.iO b s t)/\Below w w w':=by
 by_cases h:t<s
 .go_enter Tz.func105,Tryz.ntmps105;go_wp2_with(go_at_call 144;refine(qC b a _).mono ?_;rintro e i ⟨rfl,c⟩;let⟨j,k⟩:=mU c)
  all_goals go_ret
  all_goals exact⟨de (by unfold Mv.iO GQ;rw[if_pos h];unfold Mv.pY;rfl),((((agn _ w).alloc ab _).alloc aN _).trans<|c.mono cY)⟩
 go_enter Tz.func105,Tryz.ntmps105;go_wp2_with(go_at_call 144;refine(qC a b _).mono ?_;rintro e i ⟨rfl,c⟩;let⟨j,k⟩:=mU c)
 all_goals go_ret
 all_goals exact⟨de (by unfold Mv.iO GQ;rw[if_neg ab];unfold Mv.pY;rfl),((((agn _ w).alloc ab _).alloc aN _).trans<|c.mono cY)⟩
def Cv (a b:Mv)(s t:Int)(w)(o:0<=s)(q:s<=10000)(i:0<=t)(j:t<=10000): ad Tz.prog 109 #[.agg #[a.name,a.ax,a.aI,a.cj,a.late,a.prom],s,.agg #[b.name,b.ax,b.aI,b.cj,b.late,b.prom],t] w λe w'=>e=ac (!a.iO b s t)/\Below w w w':=by
 have c:=kL a.ax a.aI b.ax b.aI s t;by_cases e:s=t
 .subst e;rw[if_pos rfl]at c;go_enter Tz.func109,Tryz.ntmps109;go_wp2;go_ret;exact⟨de c.symm,((agn _ w).alloc ab _).alloc aN _⟩
 rw[if_neg e]at c;have r:(s==t)=false:=cQ;by_cases h:s<t
 .rw[if_pos h]at c;have f:Hid _:=c;go_enter Tz.func109,Tryz.ntmps109;go_wp2_with(go_at_call 147;refine(qY a b _).mono ?_;rintro e k ⟨rfl,d⟩;let⟨l,m⟩:=mU d)
  all_goals go_ret
  all_goals exact⟨de f.out.symm,((((agn _ w).alloc ab _).alloc aN _).trans<|d.mono cY)⟩
 rw[if_neg h]at c;have f:Hid _:=c;go_enter Tz.func109,Tryz.ntmps109;go_wp2_with(go_at_call 147;refine(qY b a _).mono ?_;rintro e k ⟨rfl,d⟩;let⟨l,m⟩:=mU d)
 all_goals go_ret
 all_goals exact⟨de f.out.symm,((((agn _ w).alloc (agw _) _).alloc aN _).trans<|d.mono cY)⟩
section
variable {a:aa}
structure lp B (w w':aa):Prop where
 size:(w:Nat)<=w'
 block:∀k,k<(w:Nat)->k≠B->w'.heap[k]?=w.heap[k]?
def lp.refl B (w):lp B w w:=⟨agw _,λ_ _ _=>rfl⟩
def lp.trans {b c}(h:lp B a b)(k:lp B b c):lp B a c:=
 ⟨agz h.size k.size,λi e f=>(k.block i (agx e h.size) f).trans<|h.block i e f⟩
def lp.of (h:Below w w w'):lp B w w':=⟨h.size,λk c _=>h.block k c⟩
theorem lp.setCell (h:lp B a w) o v:lp B a (w.setCell ⟨B,o,none⟩ v):=
 ⟨by simpa using h.size,λk hk c=>(agp w _ v k f7).trans<|h.block k hk c⟩
def aC.but (h:aC w b n g)(e:lp B w w')(f:b≠B):aC w' b n g:=by have j:=h.lt;let⟨⟨k,c,l⟩,m⟩:=h;have d:=(e.block b j f).trans c;refine⟨⟨k,d,l⟩,λi o=>?_⟩;rw[aj _ _ _ _ _ _ d,<-aj w _ _ _ _ _ c];exact m i o
end
def aa7:Nat->Int->ByteArray->ByteArray
 |0,_,out=>out
 |n+1,k,out=>if 0<k then aa7 n (k/10) (strOfNums [48+k%10]++out)else out
def aci (k:Int):ByteArray:=if k<=0 then⟨#[109,48]⟩else⟨#[109]⟩++aa7 k.toNat k ⟨#[]⟩
