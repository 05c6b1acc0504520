import Derived.Test.YtlmcblcijndipaaGreatDoorj13
import Derived.Test.YtlmcblcijndipaaGreatDoorj07
import Derived.Test.YtlmcblcijndipaaGreatDoorj08
set_option maxHeartbeats 400000
namespace Go.Proofs.YtlmcblcijndipaaGreatDoor
section
open RowKit
variable {B b off n:Nat}{w w':World}{g:Nat->Int}
theorem aB.below (h:aB w b off n g)(hb:Below B w w')(hB:b<B):aB w' b off n g:=
 λi hi=>(hb.cell hB).trans (h i hi)
def aJ (w:World)(b n:Nat)(g:Nat->Int):Prop:=(∃cs,w.heap[b]?=some (.cells cs 3 (0,0))/\cs.size=n)/\aB w b 0 n g
theorem aJ.below (h:aJ w b n g)(hb:Below B w w')(hB:b<B):aJ w' b n g:=by
 obtain⟨⟨cs,h1,h2⟩,h3⟩:=h;exact⟨⟨cs,(hb.block _ hB).trans h1,h2⟩,h3.below hb hB⟩
theorem aJ.lt (h:aJ w b n g):b<w:=by
 obtain⟨⟨cs,h1,_⟩,_⟩:=h;rcases acu b w.heap.size with h|h
 .exact h
 .rw[Array.getElem?_eq_none h]at h1;cases h1
theorem aJ.frozen (h:aJ w b n g)(j:Nat):w.frozen? ⟨b,j,none⟩=false:=by
 obtain⟨⟨cs,h1,_⟩,_⟩:=h;exact frozen_of_row w _ j cs _ h1
theorem kN:(Tz.prog.info? 3).map (λi=>(i.size,i.bytes,i.zero))=some (1,8,some (.int .i64 0)):=bR
theorem tB (n:Nat)(hn:n<=1048576)(w:World):
  (Instr.makeSlice 27 (.int .i64 (n:Int)) (.int .i64 (n:Int))).run Tz.prog w=.ok (.slice w.heap.size n n) (w.alloc (.cells (madeCells #[.int .i64 0] n) 3)):=by
 have hi:=kN;cases hI:Tz.prog.info? 3 with
 |none=>rw[hI]at hi;simp at hi
 |some i=>
  rw[hI]at hi;simp only[Option.map_some,Option.some.injEq,Prod.mk.injEq]at hi;obtain⟨h6,VG,hz⟩:=hi;have:=run_make (P:=Tz.prog) w 27 3 i _ (Tz.az Tryz.underlying27) hI hz .i64 .i64 n n ab ab (by rw[VG];omega) ab;rw[h6]at this;simpa[Value.cells]using this
theorem mz (w:World)(n:Nat):aJ (w.alloc (.cells (madeCells #[.int .i64 0] n) 3)) w.heap.size n (λ_=>0):=by
 have hg:(w.alloc (.cells (madeCells #[.int .i64 0] n) 3)).heap[w.heap.size]?=some (.cells (madeCells #[.int .i64 0] n) 3 (0,0)):=heap_alloc_new _ _;refine⟨⟨_,hg,size_madeCells _ _⟩,λi hi=>?_⟩;rw[cell_of_row _ _ _ _ _ _ hg];simp[madeCells,Nat.mod_one,hi]
theorem aJ.set (h:aJ w b n g)(k:Nat)(hk:k<n)(x:Int):aJ (w.setCell ⟨b,k,none⟩ x) b n (λi=>if i=k then x else g i):=by
 obtain⟨⟨cs,h1,h2⟩,h3⟩:=h;have qi:=heap_setCell_same _ _ k _ _ x h1;refine⟨⟨_,qi,by simp[h2]⟩,λi hi=>?_⟩;by_cases e:i=k
 .subst e;rw[cell_of_row _ _ _ _ _ _ qi];simp[Array.getElem?_setIfInBounds]<;>omega
 .rw[World.cell?_setCell_other _ _ _ _ qf];simp only[if_neg e];exact h3 i hi
theorem aJ.congr {g':Nat->Int}(h:aJ w b n g)(e:∀i,i<n->g i=g' i):aJ w b n g':=
 ⟨h.1,λi hi=>by rw[<-e i hi];exact h.2 i hi⟩
theorem aJ.cellAt (h:aJ w b n g)(k:Nat)(hk:k<n):w.cell? ⟨b,k,none⟩=some (.int .i64 (g k)):=by
 have:=h.2 k hk;simpa using this
def ZT (w:World)(a:Option Addr)(n:Nat)(g:Nat->Int):Prop:=n<=maxLen/\(n=0\/∃b off,a=some ⟨b,off,none⟩/\b<w/\aB w b off n g)/\∀i,i<n->(Lit.int .i64 (g i)).wf=true
theorem aB.same (h:aB w b off n g)(e:w'.heap[b]?=w.heap[b]?):aB w' b off n g:=λi hi=>(ach (a:=⟨b,off+i,none⟩) e).trans (h i hi)
end
section
open RowKit
theorem eB {k:IntKind}{a b:Int}(h:a=b):Ending.returned (.int k a)=.returned (.int k b):=by rw[h]
theorem Cr {n lo hi:Int}(h:iu n lo hi=true):lo<=n/\n<=hi:=by unfold iu at h;simpa using h
theorem Cd (x y:Int)(w:World):
  Calls Tz.prog 138 #[x,y] w λe w'=>e=.returned (.int .i64 (nq x y))/\w'=w:=by
 cases hx:iu x 1 3 with
 |false=>
  go_enter Tz.func138,Tryz.ntmps138
  go_wp2_with(go_at_call 135;refine(pH _ _).mono ?_;rintro e w' ⟨rfl,rfl⟩)
  all_goals go_ret
  all_goals exact⟨eB (by unfold nq;rw[hx];rfl),rfl⟩
 |true=>
  have dB:=Cr hx;cases hy:iu y 1 3 with
  |false=>
   go_enter Tz.func138,Tryz.ntmps138
   go_wp2_with(go_at_call 135;refine(pH _ _).mono ?_;rintro e w' ⟨rfl,rfl⟩)
   all_goals go_ret
   all_goals exact⟨eB (by unfold nq;rw[hx,hy];rfl),rfl⟩
  |true=>
   have E8:=Cr hy;obtain⟨GS,Zs⟩:=dB;obtain⟨D0,E9⟩:=E8;by_cases aI:y<x
   .go_enter Tz.func138,Tryz.ntmps138
    go_wp2_with(go_at_call 135;refine(pH _ _).mono ?_;rintro e w' ⟨rfl,rfl⟩)
    all_goals go_ret
    all_goals exact⟨eB (by unfold nq;rw[hx,hy];simp[aI]),rfl⟩
   .go_enter Tz.func138,Tryz.ntmps138
    go_wp2_with(go_at_call 135;refine(pH _ _).mono ?_;rintro e w' ⟨rfl,rfl⟩)
    all_goals go_ret
    all_goals exact⟨eB (by unfold nq;rw[hx,hy];simp;omega),rfl⟩
theorem pc (a b:Mv)(w:World):
  Calls Tz.prog 109 #[.agg #[a.name,a.an,a.aD,a.ba,a.late,a.prom],.agg #[b.name,b.an,b.aD,b.ba,b.late,b.prom]] w λe w'=>e=.returned (.int .i64 (a.oj b))/\Below w w w':=by
 obtain⟨bF,cH⟩:=Iv a.aD b.aD;cases hl:a.an;all_goals
  go_enter Tz.func109,Tryz.ntmps109
  go_wp2_with(go_at_call 138;refine(Cd _ _ _).mono ?_;rintro e w' ⟨rfl,rfl⟩)
  go_ret;exact⟨eB (by unfold Mv.oj;rw[Ow,hl];simp<;>omega),((aca _ _).alloc (ack _) _).alloc aH _⟩
theorem pD (a b:Mv)(w:World):
  Calls Tz.prog 130 #[.agg #[a.name,a.an,a.aD,a.ba,a.late,a.prom],.agg #[b.name,b.an,b.aD,b.ba,b.late,b.prom]] w λe w'=>e=.returned (.int .i64 (a.oj b))/\Below w w w':=by
 by_cases aI:b.aD<a.aD
 .cases hx:iu a.aD 1 3 with
  |false=>
   cases hl:a.an;all_goals
    go_enter Tz.func130,Tryz.ntmps130
    go_wp2_with(go_at_call 70;refine(gJ _ _ _ _).mono ?_;rintro e w' ⟨rfl,rfl⟩)
    go_ret;exact⟨eB (by unfold Mv.oj oO;rw[hl,hx];simp),((aca _ _).alloc (ack _) _).alloc aH _⟩
  |true=>
   obtain⟨GS,Zs⟩:=Cr hx;cases hy:iu b.aD 1 3 with
   |false=>
    cases hl:a.an;all_goals
     go_enter Tz.func130,Tryz.ntmps130
     go_wp2_with(go_at_call 70;refine(gJ _ _ _ _).mono ?_;rintro e w' ⟨rfl,rfl⟩)
     go_ret;exact⟨eB (by unfold Mv.oj oO;rw[hl,hx,hy];simp),((aca _ _).alloc (ack _) _).alloc aH _⟩
   |true=>
    obtain⟨D0,E9⟩:=Cr hy;cases hl:a.an;all_goals
     go_enter Tz.func130,Tryz.ntmps130
     go_wp2_with(go_at_call 70;refine(gJ _ _ _ _).mono ?_;rintro e w' ⟨rfl,rfl⟩)
     go_ret;exact⟨eB (by unfold Mv.oj oO;rw[hl,hx,hy];simp[aI];omega),((aca _ _).alloc (ack _) _).alloc aH _⟩
 .cases hl:a.an;all_goals
   go_enter Tz.func130,Tryz.ntmps130
   go_wp2_with(go_at_call 70;refine(gJ _ _ _ _).mono ?_;rintro e w' ⟨rfl,rfl⟩)
   go_ret;exact⟨eB (by unfold Mv.oj oO;rw[hl,decide_eq_false (p:=b.aD<a.aD) ab];simp),((aca _ _).alloc (ack _) _).alloc aH _⟩
theorem tR (m:Mv)(t:Int)(w:World):
  Calls Tz.prog 76 #[.agg #[m.name,m.an,m.aD,m.ba,m.late,m.prom],t] w λe w'=>e=.returned (.bool (m.eV t))/\Below w w w':=by
 cases hi:iu t m.ba m.late with
 |false=>
  go_enter Tz.func76,Tryz.ntmps76
  go_wp2_with(go_at_call 107;refine(nv _ _ _ _ _ _ _ _).mono ?_;rintro e w1 ⟨rfl,bF⟩;obtain⟨kJ,uQ⟩:=jr bF)
  all_goals go_ret
  all_goals exact⟨bN (by unfold Mv.eV sZ;simp[hi]),(kQ (nG w _) bF).2⟩
 |true=>
  by_cases h1:(m.prom==-1)=true
  .go_enter Tz.func76,Tryz.ntmps76
   go_wp2_with(go_at_call 107;refine(nv _ _ _ _ _ _ _ _).mono ?_;rintro e w1 ⟨rfl,bF⟩;obtain⟨kJ,uQ⟩:=jr bF)
   all_goals go_ret
   all_goals exact⟨bN (by unfold Mv.eV sZ;simp[hi,h1]),(kQ (nG w _) bF).2⟩
  .have qi:(m.prom==-1)=false:=by simpa using h1
   clear h1;go_enter Tz.func76,Tryz.ntmps76
   go_wp2_with(go_at_call 107;refine(nv _ _ _ _ _ _ _ _).mono ?_;rintro e w1 ⟨rfl,bF⟩;obtain⟨kJ,uQ⟩:=jr bF)
   all_goals go_ret
   all_goals exact⟨bN (by unfold Mv.eV sZ;simp[hi,qi]),(kQ (nG w _) bF).2⟩
theorem CH (a b:Mv)(s t:Int)(w:World)(Nt:0<=s)(IB:s<=10000)(ht0:0<=t)(ht1:t<=10000):
  Calls Tz.prog 78 #[.agg #[a.name,a.an,a.aD,a.ba,a.late,a.prom],.agg #[b.name,b.an,b.aD,b.ba,b.late,b.prom],s,t] w λe w'=>e=.returned (.bool (a.gt b s t))/\Below w w w':=by
 by_cases h:t<s
 .go_enter Tz.func78,Tryz.ntmps78
  go_wp2_with(go_at_call 109;refine(pc b a _).mono ?_;rintro e w1 ⟨rfl,bF⟩;obtain⟨kJ,uQ⟩:=jr bF)
  all_goals go_ret
  all_goals exact⟨bN (by unfold Mv.gt yZ;rw[if_pos h];unfold Mv.oj;rfl),((((aca _ w).alloc (ack _) _).alloc aH _).trans (bF.mono cC))⟩
 .go_enter Tz.func78,Tryz.ntmps78
  go_wp2_with(go_at_call 109;refine(pc a b _).mono ?_;rintro e w1 ⟨rfl,bF⟩;obtain⟨kJ,uQ⟩:=jr bF)
  all_goals go_ret
  all_goals exact⟨bN (by unfold Mv.gt yZ;rw[if_neg ab];unfold Mv.oj;rfl),((((aca _ w).alloc (ack _) _).alloc aH _).trans (bF.mono cC))⟩
theorem yC (a b:Mv)(s t:Int)(w:World)(Nt:0<=s)(IB:s<=10000)(ht0:0<=t)(ht1:t<=10000):
  Calls Tz.prog 100 #[.agg #[a.name,a.an,a.aD,a.ba,a.late,a.prom],s,.agg #[b.name,b.an,b.aD,b.ba,b.late,b.prom],t] w λe w'=>e=.returned (.bool (!a.gt b s t))/\Below w w w':=by
 have hn:=lA a.an a.aD b.an b.aD s t;by_cases e:s=t
 .subst e;rw[if_pos rfl]at hn;go_enter Tz.func100,Tryz.ntmps100
  go_wp2;go_ret;exact⟨bN hn.symm,((aca _ w).alloc (ack _) _).alloc aH _⟩
 .rw[if_neg e]at hn;have e':(s==t)=false:=by simpa using e
  by_cases h:s<t
  .rw[if_pos h]at hn;have HN:Hid _:=hn;clear hn;go_enter Tz.func100,Tryz.ntmps100
   go_wp2_with(go_at_call 130;refine(pD a b _).mono ?_;rintro e w1 ⟨rfl,bF⟩;obtain⟨kJ,uQ⟩:=jr bF)
   all_goals go_ret
   all_goals exact⟨bN HN.out.symm,((((aca _ w).alloc (ack _) _).alloc aH _).trans (bF.mono cC))⟩
  .rw[if_neg h]at hn;have HN:Hid _:=hn;clear hn;go_enter Tz.func100,Tryz.ntmps100
   go_wp2_with(go_at_call 130;refine(pD b a _).mono ?_;rintro e w1 ⟨rfl,bF⟩;obtain⟨kJ,uQ⟩:=jr bF)
   all_goals go_ret
   all_goals exact⟨bN HN.out.symm,((((aca _ w).alloc (ack _) _).alloc aH _).trans (bF.mono cC))⟩
end
