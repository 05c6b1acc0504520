import Derived.Test.YtlmcblcijndipaaGreatM05
import Derived.Test.YtlmcblcijndipaaGreatM14
import Derived.Test.YtlmcblcijndipaaGreatM15
import Derived.Test.YtlmcblcijndipaaGreatM13
set_option maxHeartbeats 400000
namespace Go.Proofs.YtlmcblcijndipaaGreat
open Go.RowKit
theorem ak.below {B:Nat}{w w':World}{b off n:Nat}{g:Nat->Int}(h:ak w b off n g)(hb:Below B w w')(hB:b<B):ak w' b off n g:=
 λi hi=>(hb.cell hB).trans (h i hi)
def aq (w:World)(b n:Nat)(g:Nat->Int):Prop:=(∃cs,w.heap[b]?=some (.cells cs 3 (0,0))/\cs.size=n)/\ak w b 0 n g
theorem aq.below {B:Nat}{w w':World}{b n:Nat}{g:Nat->Int}(h:aq w b n g)(hb:Below B w w')(hB:b<B):aq w' b n g:=by
 obtain⟨⟨cs,h1,h2⟩,h3⟩:=h;exact⟨⟨cs,(hb.block _ hB).trans h1,h2⟩,h3.below hb hB⟩
theorem aq.lt {w:World}{b n:Nat}{g:Nat->Int}(h:aq w b n g):b<w.heap.size:=by
 obtain⟨⟨cs,h1,_⟩,_⟩:=h;rcases Nat.lt_or_ge b w.heap.size with h|h
 .exact h
 .rw[Array.getElem?_eq_none h]at h1;cases h1
theorem aq.frozen {w:World}{b n:Nat}{g:Nat->Int}(h:aq w b n g)(j:Nat):w.frozen? ⟨b,j,none⟩=false:=by
 obtain⟨⟨cs,h1,_⟩,_⟩:=h;exact frozen_of_row w _ j cs _ h1
theorem gA:(Tryz0.prog.info? 3).map (λi=>(i.size,i.bytes,i.zero))=some (1,8,some (.int .i64 0)):=by kernel_rfl
theorem ly (n:Nat)(hn:n<=1048576)(w:World):
  (Instr.makeSlice 26 (.int .i64 (n:Int)) (.int .i64 (n:Int))).run Tryz0.prog w=.ok (.slice (some ⟨w.heap.size,0,none⟩) n n) (w.alloc (.cells (madeCells #[.int .i64 0] n) 3)):=by
 have hi:=gA;cases hI:Tryz0.prog.info? 3 with
 |none=>rw[hI]at hi;simp at hi
 |some i=>
  rw[hI]at hi;simp only[Option.map_some,Option.some.injEq,Prod.mk.injEq]at hi;obtain⟨h6,h56,hz⟩:=hi;have:=run_make (P:=Tryz0.prog) w 26 3 i _ (Tryz0.tr_underlying Tryz.underlying26) hI hz .i64 .i64 n n (by omega) (by omega) (by rw[h56];omega) (by omega);rw[h6]at this;simpa[Value.cells]using this
theorem gB (w:World)(n:Nat):aq (w.alloc (.cells (madeCells #[.int .i64 0] n) 3)) w.heap.size n (λ_=>0):=by
 have hg:(w.alloc (.cells (madeCells #[.int .i64 0] n) 3)).heap[w.heap.size]?=some (.cells (madeCells #[.int .i64 0] n) 3 (0,0)):=heap_alloc_new _ _;refine⟨⟨_,hg,size_madeCells _ _⟩,λi hi=>?_⟩;rw[cell_of_row _ _ _ _ _ _ hg];simp[madeCells,Nat.mod_one,hi]
theorem aq.set {w:World}{b n:Nat}{g:Nat->Int}(h:aq w b n g)(k:Nat)(hk:k<n)(x:Int):aq (w.setCell ⟨b,k,none⟩ (.int .i64 x)) b n (λi=>if i=k then x else g i):=by
 obtain⟨⟨cs,h1,h2⟩,h3⟩:=h;have h1':=heap_setCell_same _ _ k _ _ (.int .i64 x) h1;refine⟨⟨_,h1',by simp[h2]⟩,λi hi=>?_⟩;by_cases e:i=k
 .subst e;rw[cell_of_row _ _ _ _ _ _ h1'];simp[Array.getElem?_setIfInBounds]<;>omega
 .rw[World.cell?_setCell_other _ _ _ _ (by simp<;>omega)];simp only[if_neg e];exact h3 i hi
theorem aq.congr {w:World}{b n:Nat}{g g':Nat->Int}(h:aq w b n g)(e:∀i,i<n->g i=g' i):aq w b n g':=
 ⟨h.1,λi hi=>by rw[<-e i hi];exact h.2 i hi⟩
theorem aq.cellAt {w:World}{b n:Nat}{g:Nat->Int}(h:aq w b n g)(k:Nat)(hk:k<n):w.cell? ⟨b,k,none⟩=some (.int .i64 (g k)):=by
 have:=h.2 k hk;simpa using this
def A2 (w:World)(a:Option Addr)(n:Nat)(g:Nat->Int):Prop:=n<=maxLen/\(n=0\/∃b off,a=some ⟨b,off,none⟩/\b<w.heap.size/\ak w b off n g)/\∀i,i<n->(Lit.int .i64 (g i)).wf=true
theorem ce {k:IntKind}{a b:Int}(h:a=b):Ending.returned (.int k a)=.returned (.int k b):=by rw[h]
theorem rt {n lo hi:Int}(h:dU n lo hi=true):lo<=n/\n<=hi:=by unfold dU at h;simpa using h
theorem ru (x y:Int)(w:World):
  Calls Tryz0.prog 116 #[.int .i64 x,.int .i64 y] w λe w'=>e=.returned (.int .i64 (ic x y))/\w'=w:=by
 cases hx:dU x 1 3 with
 |false=>
  go_enter Tryz0.func116,Tryz.ntmps116
  go_wp2_with(go_at_call 84;refine(iN _ _).mono ?_;rintro e w' ⟨rfl,rfl⟩)
  all_goals go_ret
  all_goals exact⟨ce (by unfold ic;rw[hx];rfl),rfl⟩
 |true=>
  have hx':=rt hx;cases hy:dU y 1 3 with
  |false=>
   go_enter Tryz0.func116,Tryz.ntmps116
   go_wp2_with(go_at_call 84;refine(iN _ _).mono ?_;rintro e w' ⟨rfl,rfl⟩)
   all_goals go_ret
   all_goals exact⟨ce (by unfold ic;rw[hx,hy];rfl),rfl⟩
  |true=>
   have hy':=rt hy;obtain⟨hx1,hx2⟩:=hx';obtain⟨hy1,hy2⟩:=hy';by_cases hlt:y<x
   .go_enter Tryz0.func116,Tryz.ntmps116
    go_wp2_with(go_at_call 84;refine(iN _ _).mono ?_;rintro e w' ⟨rfl,rfl⟩)
    all_goals go_ret
    all_goals exact⟨ce (by unfold ic;rw[hx,hy];simp[hlt]),rfl⟩
   .go_enter Tryz0.func116,Tryz.ntmps116
    go_wp2_with(go_at_call 84;refine(iN _ _).mono ?_;rintro e w' ⟨rfl,rfl⟩)
    all_goals go_ret
    all_goals exact⟨ce (by unfold ic;rw[hx,hy];simp;omega),rfl⟩
theorem iP (a b:Mv)(w:World):
  Calls Tryz0.prog 62 #[.agg #[.string a.name,.bool a.lands,.int .i64 a.wake,.int .i64 a.est,.int .i64 a.late,.int .i64 a.prom],.agg #[.string b.name,.bool b.lands,.int .i64 b.wake,.int .i64 b.est,.int .i64 b.late,.int .i64 b.prom]] w λe w'=>e=.returned (.int .i64 (a.gap b))/\Below w.heap.size w w':=by
 obtain⟨hb1,hb2⟩:=uY a.wake b.wake;cases hl:a.lands;all_goals
  go_enter Tryz0.func62,Tryz.ntmps62
  go_wp2_with(go_at_call 116;refine(ru _ _ _).mono ?_;rintro e w' ⟨rfl,rfl⟩)
  go_ret;exact⟨ce (by unfold Mv.gap;rw[yy,hl];simp<;>omega),((Below.refl _ _).alloc (Nat.le_refl _) _).alloc (by simp) _⟩
theorem iQ (a b:Mv)(w:World):
  Calls Tryz0.prog 114 #[.agg #[.string a.name,.bool a.lands,.int .i64 a.wake,.int .i64 a.est,.int .i64 a.late,.int .i64 a.prom],.agg #[.string b.name,.bool b.lands,.int .i64 b.wake,.int .i64 b.est,.int .i64 b.late,.int .i64 b.prom]] w λe w'=>e=.returned (.int .i64 (a.gap b))/\Below w.heap.size w w':=by
 by_cases hlt:b.wake<a.wake
 .cases hx:dU a.wake 1 3 with
  |false=>
   cases hl:a.lands;all_goals
    go_enter Tryz0.func114,Tryz.ntmps114
    go_wp2_with(go_at_call 27;refine(dC _ _ _ _).mono ?_;rintro e w' ⟨rfl,rfl⟩)
    go_ret;exact⟨ce (by unfold Mv.gap iO;rw[hl,hx];simp),((Below.refl _ _).alloc (Nat.le_refl _) _).alloc (by simp) _⟩
  |true=>
   obtain⟨hx1,hx2⟩:=rt hx;cases hy:dU b.wake 1 3 with
   |false=>
    cases hl:a.lands;all_goals
     go_enter Tryz0.func114,Tryz.ntmps114
     go_wp2_with(go_at_call 27;refine(dC _ _ _ _).mono ?_;rintro e w' ⟨rfl,rfl⟩)
     go_ret;exact⟨ce (by unfold Mv.gap iO;rw[hl,hx,hy];simp),((Below.refl _ _).alloc (Nat.le_refl _) _).alloc (by simp) _⟩
   |true=>
    obtain⟨hy1,hy2⟩:=rt hy;cases hl:a.lands;all_goals
     go_enter Tryz0.func114,Tryz.ntmps114
     go_wp2_with(go_at_call 27;refine(dC _ _ _ _).mono ?_;rintro e w' ⟨rfl,rfl⟩)
     go_ret;exact⟨ce (by unfold Mv.gap iO;rw[hl,hx,hy];simp[hlt];omega),((Below.refl _ _).alloc (Nat.le_refl _) _).alloc (by simp) _⟩
 .cases hl:a.lands;all_goals
   go_enter Tryz0.func114,Tryz.ntmps114
   go_wp2_with(go_at_call 27;refine(dC _ _ _ _).mono ?_;rintro e w' ⟨rfl,rfl⟩)
   go_ret;exact⟨ce (by unfold Mv.gap iO;rw[hl,decide_eq_false (p:=b.wake<a.wake) (by omega)];simp),((Below.refl _ _).alloc (Nat.le_refl _) _).alloc (by simp) _⟩
theorem lC (m:Mv)(t:Int)(w:World):
  Calls Tryz0.prog 30 #[.agg #[.string m.name,.bool m.lands,.int .i64 m.wake,.int .i64 m.est,.int .i64 m.late,.int .i64 m.prom],.int .i64 t] w λe w'=>e=.returned (.bool (m.suits t))/\Below w.heap.size w w':=by
 cases hi:dU t m.est m.late with
 |false=>
  go_enter Tryz0.func30,Tryz.ntmps30
  go_wp2_with(go_at_call 60;refine(g9 _ _ _ _ _ _ _ _).mono ?_;rintro e w1 ⟨rfl,hb1⟩;obtain⟨hc1,hf1⟩:=eV hb1)
  all_goals go_ret
  all_goals exact⟨aJ (by unfold Mv.suits ma;simp[hi]),(fL (hZ w _) hb1).2⟩
 |true=>
  by_cases h1:(m.prom==-1)=true
  .go_enter Tryz0.func30,Tryz.ntmps30
   go_wp2_with(go_at_call 60;refine(g9 _ _ _ _ _ _ _ _).mono ?_;rintro e w1 ⟨rfl,hb1⟩;obtain⟨hc1,hf1⟩:=eV hb1)
   all_goals go_ret
   all_goals exact⟨aJ (by unfold Mv.suits ma;simp[hi,h1]),(fL (hZ w _) hb1).2⟩
  .have h1':(m.prom==-1)=false:=by simpa using h1
   clear h1;go_enter Tryz0.func30,Tryz.ntmps30
   go_wp2_with(go_at_call 60;refine(g9 _ _ _ _ _ _ _ _).mono ?_;rintro e w1 ⟨rfl,hb1⟩;obtain⟨hc1,hf1⟩:=eV hb1)
   all_goals go_ret
   all_goals exact⟨aJ (by unfold Mv.suits ma;simp[hi,h1']),(fL (hZ w _) hb1).2⟩
theorem rz (a b:Mv)(s t:Int)(w:World)(hs0:0<=s)(hs1:s<=10000)(ht0:0<=t)(ht1:t<=10000):
  Calls Tryz0.prog 32 #[.agg #[.string a.name,.bool a.lands,.int .i64 a.wake,.int .i64 a.est,.int .i64 a.late,.int .i64 a.prom],.agg #[.string b.name,.bool b.lands,.int .i64 b.wake,.int .i64 b.est,.int .i64 b.late,.int .i64 b.prom],.int .i64 s,.int .i64 t] w λe w'=>e=.returned (.bool (a.near b s t))/\Below w.heap.size w w':=by
 by_cases h:t<s
 .go_enter Tryz0.func32,Tryz.ntmps32
  go_wp2_with(go_at_call 62;refine(iP b a _).mono ?_;rintro e w1 ⟨rfl,hb1⟩;obtain⟨hc1,hf1⟩:=eV hb1)
  all_goals go_ret
  all_goals exact⟨aJ (by unfold Mv.near rp;rw[if_pos h];unfold Mv.gap;rfl),((((Below.refl _ w).alloc (Nat.le_refl _) _).alloc (by simp) _).trans (hb1.mono (by simp;omega)))⟩
 .go_enter Tryz0.func32,Tryz.ntmps32
  go_wp2_with(go_at_call 62;refine(iP a b _).mono ?_;rintro e w1 ⟨rfl,hb1⟩;obtain⟨hc1,hf1⟩:=eV hb1)
  all_goals go_ret
  all_goals exact⟨aJ (by unfold Mv.near rp;rw[if_neg (by omega)];unfold Mv.gap;rfl),((((Below.refl _ w).alloc (Nat.le_refl _) _).alloc (by simp) _).trans (hb1.mono (by simp;omega)))⟩
theorem po (a b:Mv)(s t:Int)(w:World)(hs0:0<=s)(hs1:s<=10000)(ht0:0<=t)(ht1:t<=10000):
  Calls Tryz0.prog 79 #[.agg #[.string a.name,.bool a.lands,.int .i64 a.wake,.int .i64 a.est,.int .i64 a.late,.int .i64 a.prom],.int .i64 s,.agg #[.string b.name,.bool b.lands,.int .i64 b.wake,.int .i64 b.est,.int .i64 b.late,.int .i64 b.prom],.int .i64 t] w λe w'=>e=.returned (.bool (!a.near b s t))/\Below w.heap.size w w':=by
 have hn:=fW a.lands a.wake b.lands b.wake s t;by_cases e:s=t
 .subst e;rw[if_pos rfl]at hn;go_enter Tryz0.func79,Tryz.ntmps79
  go_wp2;go_ret;exact⟨aJ hn.symm,((Below.refl _ w).alloc (Nat.le_refl _) _).alloc (by simp) _⟩
 .rw[if_neg e]at hn;have e':(s==t)=false:=by simpa using e
  by_cases h:s<t
  .rw[if_pos h]at hn;have HN:Hid _:=hn;clear hn;go_enter Tryz0.func79,Tryz.ntmps79
   go_wp2_with(go_at_call 114;refine(iQ a b _).mono ?_;rintro e w1 ⟨rfl,hb1⟩;obtain⟨hc1,hf1⟩:=eV hb1)
   all_goals go_ret
   all_goals exact⟨aJ HN.out.symm,((((Below.refl _ w).alloc (Nat.le_refl _) _).alloc (by simp) _).trans (hb1.mono (by simp;omega)))⟩
  .rw[if_neg h]at hn;have HN:Hid _:=hn;clear hn;go_enter Tryz0.func79,Tryz.ntmps79
   go_wp2_with(go_at_call 114;refine(iQ b a _).mono ?_;rintro e w1 ⟨rfl,hb1⟩;obtain⟨hc1,hf1⟩:=eV hb1)
   all_goals go_ret
   all_goals exact⟨aJ HN.out.symm,((((Below.refl _ w).alloc (Nat.le_refl _) _).alloc (by simp) _).trans (hb1.mono (by simp;omega)))⟩
end Go.Proofs.YtlmcblcijndipaaGreat
