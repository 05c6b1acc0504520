import Derived.Test.YtlmcblcijndipabGreatDoorAd03
import Derived.Test.YtlmcblcijndipabGreatDoorAd13
import Derived.Test.YtlmcblcijndipabGreatDoorAd04
set_option maxHeartbeats 1000000
namespace Go.Proofs.YtlmcblcijndipabGreatDoor
open Go.RowKit
theorem bN {k:IntKind}{a b:Int}(h:a=b):Ending.returned (.int k a)=.returned (.int k b):=by rw[h]
theorem sO {n lo hi:Int}(h:dN n lo hi=true):lo<=n/\n<=hi:=by unfold dN at h;simpa using h
theorem sP (x y:Int)(w:World):
  Calls Tz.prog 180 #[.int .i64 x,.int .i64 y] w λe w'=>e=.returned (.int .i64 (ip x y))/\w'=w:=by
 cases hx:dN x 1 3 with
 |false=>
  go_enter Tz.func180,Tryz.ntmps180
  go_wp2_with(go_at_call 177;refine(iR _ _).mono ?_;rintro e w' ⟨rfl,rfl⟩)
  all_goals go_ret
  all_goals exact⟨bN (by unfold ip;rw[hx];rfl),rfl⟩
 |true=>
  have hx':=sO hx;cases hy:dN y 1 3 with
  |false=>
   go_enter Tz.func180,Tryz.ntmps180
   go_wp2_with(go_at_call 177;refine(iR _ _).mono ?_;rintro e w' ⟨rfl,rfl⟩)
   all_goals go_ret
   all_goals exact⟨bN (by unfold ip;rw[hx,hy];rfl),rfl⟩
  |true=>
   have hy':=sO hy;obtain⟨hx1,hx2⟩:=hx';obtain⟨hy1,hy2⟩:=hy';by_cases hlt:y<x
   .go_enter Tz.func180,Tryz.ntmps180
    go_wp2_with(go_at_call 177;refine(iR _ _).mono ?_;rintro e w' ⟨rfl,rfl⟩)
    all_goals go_ret
    all_goals exact⟨bN (by unfold ip;rw[hx,hy];simp[hlt]),rfl⟩
   .go_enter Tz.func180,Tryz.ntmps180
    go_wp2_with(go_at_call 177;refine(iR _ _).mono ?_;rintro e w' ⟨rfl,rfl⟩)
    all_goals go_ret
    all_goals exact⟨bN (by unfold ip;rw[hx,hy];simp;omega),rfl⟩
theorem iU (a b:Mv)(w:World):
  Calls Tz.prog 149 #[.agg #[.string a.name,.bool a.lands,.int .i64 a.wake,.int .i64 a.est,.int .i64 a.late,.int .i64 a.prom],.agg #[.string b.name,.bool b.lands,.int .i64 b.wake,.int .i64 b.est,.int .i64 b.late,.int .i64 b.prom]] w λe w'=>e=.returned (.int .i64 (a.gap b))/\Below w.heap.size w w':=by
 obtain⟨hb1,hb2⟩:=xu a.wake b.wake;cases hl:a.lands;all_goals
  go_enter Tz.func149,Tryz.ntmps149
  go_wp2_with(go_at_call 180;refine(sP _ _ _).mono ?_;rintro e w' ⟨rfl,rfl⟩)
  go_ret;exact⟨bN (by unfold Mv.gap;rw[AP,hl];simp<;>omega),((Gb _ _).alloc (Gm _) _).alloc (by simp) _⟩
theorem iV (a b:Mv)(w:World):
  Calls Tz.prog 107 #[.agg #[.string a.name,.bool a.lands,.int .i64 a.wake,.int .i64 a.est,.int .i64 a.late,.int .i64 a.prom],.agg #[.string b.name,.bool b.lands,.int .i64 b.wake,.int .i64 b.est,.int .i64 b.late,.int .i64 b.prom]] w λe w'=>e=.returned (.int .i64 (a.gap b))/\Below w.heap.size w w':=by
 by_cases hlt:b.wake<a.wake
 .cases hx:dN a.wake 1 3 with
  |false=>
   cases hl:a.lands;all_goals
    go_enter Tz.func107,Tryz.ntmps107
    go_wp2_with(go_at_call 59;refine(dQ _ _ _ _).mono ?_;rintro e w' ⟨rfl,rfl⟩)
    go_ret;exact⟨bN (by unfold Mv.gap iT;rw[hl,hx];simp),((Gb _ _).alloc (Gm _) _).alloc (by simp) _⟩
  |true=>
   obtain⟨hx1,hx2⟩:=sO hx;cases hy:dN b.wake 1 3 with
   |false=>
    cases hl:a.lands;all_goals
     go_enter Tz.func107,Tryz.ntmps107
     go_wp2_with(go_at_call 59;refine(dQ _ _ _ _).mono ?_;rintro e w' ⟨rfl,rfl⟩)
     go_ret;exact⟨bN (by unfold Mv.gap iT;rw[hl,hx,hy];simp),((Gb _ _).alloc (Gm _) _).alloc (by simp) _⟩
   |true=>
    obtain⟨hy1,hy2⟩:=sO hy;cases hl:a.lands;all_goals
     go_enter Tz.func107,Tryz.ntmps107
     go_wp2_with(go_at_call 59;refine(dQ _ _ _ _).mono ?_;rintro e w' ⟨rfl,rfl⟩)
     go_ret;exact⟨bN (by unfold Mv.gap iT;rw[hl,hx,hy];simp[hlt];omega),((Gb _ _).alloc (Gm _) _).alloc (by simp) _⟩
 .cases hl:a.lands;all_goals
   go_enter Tz.func107,Tryz.ntmps107
   go_wp2_with(go_at_call 59;refine(dQ _ _ _ _).mono ?_;rintro e w' ⟨rfl,rfl⟩)
   go_ret;exact⟨bN (by unfold Mv.gap iT;rw[hl,decide_eq_false (p:=b.wake<a.wake) (by omega)];simp),((Gb _ _).alloc (Gm _) _).alloc (by simp) _⟩
theorem lH (m:Mv)(t:Int)(w:World):
  Calls Tz.prog 128 #[.agg #[.string m.name,.bool m.lands,.int .i64 m.wake,.int .i64 m.est,.int .i64 m.late,.int .i64 m.prom],.int .i64 t] w λe w'=>e=.returned (.bool (m.suits t))/\Below w.heap.size w w':=by
 cases hi:dN t m.est m.late with
 |false=>
  go_enter Tz.func128,Tryz.ntmps128
  go_wp2_with(go_at_call 147;refine(im _ _ _ _ _ _ _ _).mono ?_;rintro e w1 ⟨rfl,hb1⟩;obtain⟨hc1,hf1⟩:=dE hb1)
  all_goals go_ret
  all_goals exact⟨aK (by unfold Mv.suits mE;simp[hi]),(fK (io w _) hb1).2⟩
 |true=>
  by_cases h1:(m.prom==-1)=true
  .go_enter Tz.func128,Tryz.ntmps128
   go_wp2_with(go_at_call 147;refine(im _ _ _ _ _ _ _ _).mono ?_;rintro e w1 ⟨rfl,hb1⟩;obtain⟨hc1,hf1⟩:=dE hb1)
   all_goals go_ret
   all_goals exact⟨aK (by unfold Mv.suits mE;simp[hi,h1]),(fK (io w _) hb1).2⟩
  .have h1':(m.prom==-1)=false:=by simpa using h1
   clear h1;go_enter Tz.func128,Tryz.ntmps128
   go_wp2_with(go_at_call 147;refine(im _ _ _ _ _ _ _ _).mono ?_;rintro e w1 ⟨rfl,hb1⟩;obtain⟨hc1,hf1⟩:=dE hb1)
   all_goals go_ret
   all_goals exact⟨aK (by unfold Mv.suits mE;simp[hi,h1']),(fK (io w _) hb1).2⟩
theorem sQ (a b:Mv)(s t:Int)(w:World)(hs0:0<=s)(hs1:s<=10000)(ht0:0<=t)(ht1:t<=10000):
  Calls Tz.prog 130 #[.agg #[.string a.name,.bool a.lands,.int .i64 a.wake,.int .i64 a.est,.int .i64 a.late,.int .i64 a.prom],.agg #[.string b.name,.bool b.lands,.int .i64 b.wake,.int .i64 b.est,.int .i64 b.late,.int .i64 b.prom],.int .i64 s,.int .i64 t] w λe w'=>e=.returned (.bool (a.near b s t))/\Below w.heap.size w w':=by
 by_cases h:t<s
 .go_enter Tz.func130,Tryz.ntmps130
  go_wp2_with(go_at_call 149;refine(iU b a _).mono ?_;rintro e w1 ⟨rfl,hb1⟩;obtain⟨hc1,hf1⟩:=dE hb1)
  all_goals go_ret
  all_goals exact⟨aK (by unfold Mv.near sL;rw[if_pos h];unfold Mv.gap;rfl),((((Gb _ w).alloc (Gm _) _).alloc (by simp) _).trans (hb1.mono (by simp;omega)))⟩
 .go_enter Tz.func130,Tryz.ntmps130
  go_wp2_with(go_at_call 149;refine(iU a b _).mono ?_;rintro e w1 ⟨rfl,hb1⟩;obtain⟨hc1,hf1⟩:=dE hb1)
  all_goals go_ret
  all_goals exact⟨aK (by unfold Mv.near sL;rw[if_neg (by omega)];unfold Mv.gap;rfl),((((Gb _ w).alloc (Gm _) _).alloc (by simp) _).trans (hb1.mono (by simp;omega)))⟩
theorem pR (a b:Mv)(s t:Int)(w:World)(hs0:0<=s)(hs1:s<=10000)(ht0:0<=t)(ht1:t<=10000):
  Calls Tz.prog 84 #[.agg #[.string a.name,.bool a.lands,.int .i64 a.wake,.int .i64 a.est,.int .i64 a.late,.int .i64 a.prom],.int .i64 s,.agg #[.string b.name,.bool b.lands,.int .i64 b.wake,.int .i64 b.est,.int .i64 b.late,.int .i64 b.prom],.int .i64 t] w λe w'=>e=.returned (.bool (!a.near b s t))/\Below w.heap.size w w':=by
 have hn:=gi a.lands a.wake b.lands b.wake s t;by_cases e:s=t
 .subst e;rw[if_pos rfl]at hn;go_enter Tz.func84,Tryz.ntmps84
  go_wp2;go_ret;exact⟨aK hn.symm,((Gb _ w).alloc (Gm _) _).alloc (by simp) _⟩
 .rw[if_neg e]at hn;have e':(s==t)=false:=by simpa using e
  by_cases h:s<t
  .rw[if_pos h]at hn;have HN:Hid _:=hn;clear hn;go_enter Tz.func84,Tryz.ntmps84
   go_wp2_with(go_at_call 107;refine(iV a b _).mono ?_;rintro e w1 ⟨rfl,hb1⟩;obtain⟨hc1,hf1⟩:=dE hb1)
   all_goals go_ret
   all_goals exact⟨aK HN.out.symm,((((Gb _ w).alloc (Gm _) _).alloc (by simp) _).trans (hb1.mono (by simp;omega)))⟩
  .rw[if_neg h]at hn;have HN:Hid _:=hn;clear hn;go_enter Tz.func84,Tryz.ntmps84
   go_wp2_with(go_at_call 107;refine(iV b a _).mono ?_;rintro e w1 ⟨rfl,hb1⟩;obtain⟨hc1,hf1⟩:=dE hb1)
   all_goals go_ret
   all_goals exact⟨aK HN.out.symm,((((Gb _ w).alloc (Gm _) _).alloc (by simp) _).trans (hb1.mono (by simp;omega)))⟩
theorem al.below {B:Nat}{w w':World}{b off n:Nat}{g:Nat->Int}(h:al w b off n g)(hb:Below B w w')(hB:b<B):al w' b off n g:=
 λi hi=>(hb.cell hB).trans (h i hi)
def an (w:World)(b n:Nat)(g:Nat->Int):Prop:=(∃cs,w.heap[b]?=some (.cells cs 3 (0,0))/\cs.size=n)/\al w b 0 n g
theorem an.below {B:Nat}{w w':World}{b n:Nat}{g:Nat->Int}(h:an w b n g)(hb:Below B w w')(hB:b<B):an w' b n g:=by
 obtain⟨⟨cs,h1,h2⟩,h3⟩:=h;exact⟨⟨cs,(hb.block _ hB).trans h1,h2⟩,h3.below hb hB⟩
theorem an.lt {w:World}{b n:Nat}{g:Nat->Int}(h:an w b n g):b<w.heap.size:=by
 obtain⟨⟨cs,h1,_⟩,_⟩:=h;rcases Gv b w.heap.size with h|h
 .exact h
 .rw[Array.getElem?_eq_none h]at h1;cases h1
theorem an.frozen {w:World}{b n:Nat}{g:Nat->Int}(h:an w b n g)(j:Nat):w.frozen? ⟨b,j,none⟩=false:=by
 obtain⟨⟨cs,h1,_⟩,_⟩:=h;exact frozen_of_row w _ j cs _ h1
theorem gI:(Tz.prog.info? 3).map (λi=>(i.size,i.bytes,i.zero))=some (1,8,some (.int .i64 0)):=by kernel_rfl
theorem gJ (n:Nat)(hn:n<=1048576)(w:World):
  (Instr.makeSlice 23 (.int .i64 (n:Int)) (.int .i64 (n:Int))).run Tz.prog w=.ok (.slice (some ⟨w.heap.size,0,none⟩) n n) (w.alloc (.cells (madeCells #[.int .i64 0] n) 3)):=by
 have hi:=gI;cases hI:Tz.prog.info? 3 with
 |none=>rw[hI]at hi;simp at hi
 |some i=>
  rw[hI]at hi;simp only[Option.map_some,Option.some.injEq,Prod.mk.injEq]at hi;obtain⟨h6,h56,hz⟩:=hi;have:=run_make (P:=Tz.prog) w 23 3 i _ (Tz.tr_underlying Tryz.underlying23) hI hz .i64 .i64 n n (by omega) (by omega) (by rw[h56];omega) (by omega);rw[h6]at this;simpa[Value.cells]using this
theorem eK (w:World)(n:Nat):an (w.alloc (.cells (madeCells #[.int .i64 0] n) 3)) w.heap.size n (λ_=>0):=by
 have hg:(w.alloc (.cells (madeCells #[.int .i64 0] n) 3)).heap[w.heap.size]?=some (.cells (madeCells #[.int .i64 0] n) 3 (0,0)):=heap_alloc_new _ _;refine⟨⟨_,hg,size_madeCells _ _⟩,λi hi=>?_⟩;rw[cell_of_row _ _ _ _ _ _ hg];simp[madeCells,Nat.mod_one,hi]
theorem an.set {w:World}{b n:Nat}{g:Nat->Int}(h:an w b n g)(k:Nat)(hk:k<n)(x:Int):an (w.setCell ⟨b,k,none⟩ (.int .i64 x)) b n (λi=>if i=k then x else g i):=by
 obtain⟨⟨cs,h1,h2⟩,h3⟩:=h;have h1':=heap_setCell_same _ _ k _ _ (.int .i64 x) h1;refine⟨⟨_,h1',by simp[h2]⟩,λi hi=>?_⟩;by_cases e:i=k
 .subst e;rw[cell_of_row _ _ _ _ _ _ h1'];simp[Array.getElem?_setIfInBounds]<;>omega
 .rw[World.cell?_setCell_other _ _ _ _ (by simp<;>omega)];simp only[if_neg e];exact h3 i hi
theorem an.congr {w:World}{b n:Nat}{g g':Nat->Int}(h:an w b n g)(e:∀i,i<n->g i=g' i):an w b n g':=
 ⟨h.1,λi hi=>by rw[<-e i hi];exact h.2 i hi⟩
theorem an.cellAt {w:World}{b n:Nat}{g:Nat->Int}(h:an w b n g)(k:Nat)(hk:k<n):w.cell? ⟨b,k,none⟩=some (.int .i64 (g k)):=by
 have:=h.2 k hk;simpa using this
theorem AQ (b off n cap:Nat)(g:Nat->Int)(w:World)(hn:n<=1048576)(hbs:b<w.heap.size)(hrow:al w b off n g):
  Calls Tz.prog 38 #[.slice (some ⟨b,off,none⟩) n cap] w λe w'=>e=.returned (.slice (some ⟨w.heap.size,0,none⟩) n n)/\an w' w.heap.size n g/\Below w.heap.size w w':=by
 have hmk:=gJ n hn;go_enter Tz.func38,Tryz.ntmps38
 go_wp2;go_loopw [4] (λi w'=>∃k:Nat,k<=n/\i=.int .i64 k/\an w' w.heap.size n (λi=>if i<k then g i else 0)/\Below w.heap.size w w') (λi _=>n-(intOf i).toNat)
 case atStart=>exact⟨0,Gs _,rfl,(eK w n).congr (λi hi=>by simp),(Gb _ _).alloc (Gm _) _⟩
 case round=>
  obtain⟨k,hk,rfl,hown,hB⟩:=hrel;by_cases hlt:k<n
  .have hc:=(hrow.below hB hbs) k hlt;have hd:=hown.cellAt k hlt;have hfz:=hown.frozen k;go_wp2;go_roundw
   case rel=>exact⟨k+1,by omega,by go_num,(hown.set k hlt (g k)).congr (λi hi=>by
    by_cases e:i=k
    .subst e;simp
    .simp only[if_neg e];by_cases h:i<k
     .rw[if_pos h,if_pos (by omega)]
     .rw[if_neg h,if_neg (by omega)]),hB.setCell (by simp) _⟩
   case measure=>simp[intOf];omega
  .go_wp2;go_ret;exact⟨rfl,hown.congr (λi hi=>by rw[if_pos (by omega)]),hB⟩
theorem yS (a:Option Addr)(cap:Nat)(g:Nat->Int)(w:World):
  Calls Tz.prog 38 #[.slice a 0 cap] w λe w'=>e=.returned (.slice (some ⟨w.heap.size,0,none⟩) 0 0)/\an w' w.heap.size 0 g/\Below w.heap.size w w':=by
 have hmk:∀w,(Instr.makeSlice 23 (.int .i64 0) (.int .i64 0)).run Tz.prog w=.ok (.slice (some ⟨w.heap.size,0,none⟩) 0 0) (w.alloc (.cells (madeCells #[.int .i64 0] 0) 3)):=gJ 0 (by omega);go_enter Tz.func38,Tryz.ntmps38
 go_wp2;go_loopw [4] (λi w'=>i=.int .i64 0/\an w' w.heap.size 0 g/\Below w.heap.size w w') (λ_ _=>0)
 case atStart=>exact⟨rfl,(eK w 0).congr (λi hi=>absurd hi (Gr _)),(Gb _ _).alloc (Gm _) _⟩
 case round=>
  obtain⟨rfl,hs,hB⟩:=hrel;go_wp2;go_ret;exact⟨rfl,hs,hB⟩
theorem yT (b off cap b' off' cap' n:Nat)(g:Nat->Int)(w:World)(hn:n<=1048576)(hbs:b<w.heap.size)(hrow:al w b off n g)(hbs':b'<w.heap.size)(hrow':al w b' off' n g):
  Calls Tz.prog 41 #[.slice (some ⟨b,off,none⟩) n cap,.slice (some ⟨b',off',none⟩) n cap'] w λe w'=>e=.returned (.bool true)/\Below w.heap.size w w':=by
 go_enter Tz.func41,Tryz.ntmps41
 go_wp2;go_loopw [5] (λi w'=>∃k:Nat,k<=n/\i=.int .i64 k/\Below w.heap.size w w') (λi _=>n-(intOf i).toNat)
 case atStart=>exact⟨0,Gs _,rfl,Gb _ _⟩
 case round=>
  obtain⟨k,hk,rfl,hB⟩:=hrel;by_cases hlt:k<n
  .have hr:=hrow.below hB hbs k hlt;have hr':=hrow'.below hB hbs' k hlt;have hlt':(k:Int)<n:=by omega
   have hne:=ay wr;have c0:=λx:ag wr=>x.cell hr
   have d0:=λx:ag wr=>x.cell hr'
   go_wp2;refine af (by kernel_rfl) (by kernel_rfl) ?_;repeat(go_big_quiet_step (fail))
   refine wpQuiet_nil (ai ?_);intro w1 hb1;go_wp2;go_roundw
   case rel=>exact⟨k+1,by omega,by go_num,hB.trans (hb1.mono hB.size)⟩
   case measure=>simp[intOf];omega
  .go_wp2;go_ret;exact⟨rfl,hB⟩
theorem nH (a a':Option Addr)(cap cap':Nat)(w:World):
  Calls Tz.prog 41 #[.slice a 0 cap,.slice a' 0 cap'] w λe w'=>e=.returned (.bool true)/\Below w.heap.size w w':=by
 go_enter Tz.func41,Tryz.ntmps41
 go_wp2;go_loopw [5] (λi w'=>i=.int .i64 0/\Below w.heap.size w w') (λ_ _=>0)
 case atStart=>exact⟨rfl,Gb _ _⟩
 case round=>
  obtain⟨rfl,hB⟩:=hrel;go_wp2;go_ret;exact⟨rfl,hB⟩
def cp (w:World)(a:Option Addr)(n:Nat)(g:Nat->Int):Prop:=n<=maxLen/\(n=0\/∃b off,a=some ⟨b,off,none⟩/\b<w.heap.size/\al w b off n g)/\∀i,i<n->(Lit.int .i64 (g i)).wf=true
theorem cp.below {w w':World}{a:Option Addr}{n:Nat}{g:Nat->Int}(h:cp w a n g)(hb:Below w.heap.size w w'):cp w' a n g:=by
 obtain⟨hn,hz|⟨b,off,rfl,hlt,hrow⟩,hf⟩:=h
 .exact⟨hn,.inl hz,hf⟩
 .exact⟨hn,.inr ⟨b,off,rfl,Gn hlt hb.size,hrow.below hb hlt⟩,hf⟩
theorem AR (a:Option Addr)(n cap:Nat)(g:Nat->Int)(w:World)(h:cp w a n g)(hn:n<=1048576):
  Calls Tz.prog 38 #[.slice a n cap] w λe w'=>e=.returned (.slice (some ⟨w.heap.size,0,none⟩) n n)/\an w' w.heap.size n g/\Below w.heap.size w w':=by
 obtain⟨_,hz|⟨b,off,rfl,hb,hrow⟩,hf⟩:=h
 .subst hz;exact yS a cap g w
 .exact AQ b off n cap g w hn hb hrow
theorem al.same {w w':World}{b off n:Nat}{g:Nat->Int}(h:al w b off n g)(e:w'.heap[b]?=w.heap[b]?):al w' b off n g:=λi hi=>(Gi (a:=⟨b,off+i,none⟩) e).trans (h i hi)
