import Derived.Test.YthppgbjejomdiaaGreatDoorj05
import Derived.Test.YthppgbjejomdiaaGreatDoorj09
import Derived.ProofKit
import Derived.WalkLawsBesides
import Derived.Deep.RegionHeld3
import Derived.Deep.RegionLaw
import Derived.Deep.Slices
set_option linter.all false
set_option maxHeartbeats 400000
set_option maxRecDepth 1000000
open Go renaming World->aa,Calls->aj,maxLen->ao,bodyPost_ret->au
open Go.Ending renaming returned->ad
open Go.RowKit renaming Below->ac
namespace Go.Proofs.YthppgbjejomdiaaGreatDoor
open RowKit
variable {B:Nat}{p:Prop}{W w w1:aa}
def de {a b:Bool}(h:a=b):ad a=ad b:=by rw[h]
def aaE (x9:p:=by go_wp2<;>go_ret<;>exact⟨de (by unfold jr;rw[Bool.eq_iff_iff];simp;omega),rfl⟩):p:=x9
def gN (n a c:Int)(w): aj Tz.prog 82 #[n,a,c] w λe w'=>e=ad (jr n a c)/\w'=w:=by go_enter Tz.func82,Tryz.ntmps82;exact aaE
def A4 (n:Int)(w): aj Tz.prog 169 #[n] w λe w'=>e=ad (jr n 1 3)/\w'=w:=by go_enter Tz.func169,Tryz.ntmps169;exact aaE
def RV (a b:Int)(w): aj Tz.prog 170 #[a,b] w λe w'=>e=ad (.bool<|jr a 0 b&&decide (b<=10000))/\w'=w:=by go_enter Tz.func170,Tryz.ntmps170;exact aaE
def AP r (w): aj Tz.prog 183 #[.int .i32 r] w λe w'=>e=ad (okB r)/\w'=w:=by go_enter Tz.func183,Tryz.ntmps183;go_wp2<;>go_ret<;>exact⟨de (by unfold okB;rw[Bool.eq_iff_iff];simp;omega),rfl⟩
def Hz (s:ByteArray)(w)(h:jr s.size 1 8=false): aj Tz.prog 84 #[s] w λe w'=>e=ad (jL s)/\w'=w:=by
 have a:jL s=false:=by unfold jr at h;exact if h1:1<=s.size then Ar f7 else xw h1
 go_enter Tz.func84,Tryz.ntmps84;go_wp2_with(go_at_call 82;refine(gN _ _ _ _).mono ?_;rintro e w' ⟨rfl,rfl⟩)
 go_ret;simp_all
def E6 (s:ByteArray)(w)(f:s.size<=ao)(j:jr s.size 1 8): aj Tz.prog 84 #[s] w λe w'=>e=ad (jL s)/\w'=w:=by
 unfold ao at f;have a:1<=s.size/\s.size<=8:=by have l:=j;grind [jr]
 go_enter Tz.func84,Tryz.ntmps84;go_wp2_with(go_at_call 82;refine(gN _ _ _ _).mono ?_;rintro e w' ⟨rfl,rfl⟩)
 go_loop [3,4] (λi _=>∃k:Nat,k<=s.size/\i=.int .i64 k/\NJ s k) (λi _=>s.size-(intOf i).toNat)
 exact⟨0,agB _,rfl,C9 s⟩;obtain⟨k,m,rfl,c⟩:=hrel;by_cases d:k<s.size
 .go_wp2;all_goals first
   |(go_round
     case rel=>exact⟨k+1,ab,cQ,C8 c d<|by grind [okB]⟩
     case measure=>simp[intOf];omega)
   |(go_ret
     exact⟨de (As d<|by unfold okB;simp at*;omega).symm,rfl⟩)
 go_wp2;go_ret;exact⟨de (C7 a.1 a.2<|by rw[show s.size=k by omega];exact c).symm,rfl⟩
def E5 (s:ByteArray)(w)(a:s.size<=ao):
  aj Tz.prog 84 #[s] w λe w'=>e=ad (jL s)/\w'=w:=if h:jr s.size 1 8=true then E6 s w a h else Hz s w I3
def sR (w:aa)(s) p:ac w w (w.iter s p):=
 (agn _ _).alloc (agw _) _
def EJ (s:ByteArray)(w:aa)(i:1<=s.size/\s.size<=8):
  aj Tz.prog 168 #[s] w λe w'=>e=ad (jL s)/\ac w w w':=by
 go_enter Tz.func168,Tryz.ntmps168
 go_wp2;go_loopw [4] (λ_ w'=>∃a:Nat,w'=w.iter s a/\a<=s.size/\NJ s a) (λ_ w'=>s.size-w'.iterPos w)
 .exact⟨0,rfl,agB _,C9 s⟩
 obtain⟨a,rfl,n,j⟩:=hrel;by_cases c:a<s.size
 .have f:∀d,(Instr.next (.pointer w) true d).run Tz.prog (w.iter s a)=_:=λd=>run_next_any w s a d c
  by_cases k:(s[a]'c).toNat<128
  .rw[(decode_ascii s a c k)]at f;by_cases l:okB ((s[a]'c).toNat:Int)=true
   .go_wp2_with(go_at_call 183;refine(AP _ _).mono ?_;rintro e w' ⟨rfl,rfl⟩)
    go_roundw
    .exact⟨a+1,rfl,ab,C8 j c l⟩
    simp;omega
   have m:okB ((s[a]'c).toNat:Int)=false:=cQ
   go_wp2_with(go_at_call 183;refine(AP _ _).mono ?_;rintro e w' ⟨rfl,rfl⟩)
   go_ret;exact⟨de (As c m).symm,sR _ _ _⟩
  have o:=decode_high s a c ab;have q:okB ((Utf8.decode s a).1:Int)=false:=Rl ab;go_wp2_with(go_at_call 183;refine(AP _ _).mono ?_;rintro e w' ⟨rfl,rfl⟩)
  go_ret;exact⟨de (As c<|Rl ab).symm,sR _ _ _⟩
 have f:∀d,(Instr.next (.pointer w) true d).run Tz.prog (w.iter s a)=_:=λd=>run_next_end w s a d c
 go_wp2;go_ret;exact⟨de (C7 i.1 i.2<|by rw[show s.size=a by omega];exact j).symm,sR _ _ _⟩
def adg (x9:p:=by go_enter Tz.func168,Tryz.ntmps168;go_wp2;go_ret;first|exact⟨de hn.symm,agn _ _⟩|exact⟨rfl,agn _ _⟩):p:=x9
def Gk (s:ByteArray)(w)(c:¬(1<=s.size/\s.size<=8)): aj Tz.prog 168 #[s] w λe w'=>e=ad (jL s)/\ac w w w':=by
 have hn:jL s=false:=by exact if a:1<=s.size then Ar ab else xw a
 by_cases a:1<=s.size;have d:8<s.size:=by omega
 exact adg;exact adg
def EI (s:ByteArray)(w):
  aj Tz.prog 168 #[s] w λe w'=>e=ad (jL s)/\ac w w w':=if hb:1<=s.size/\s.size<=8 then EJ s w hb else Gk s w hb
def Ab (s:ByteArray)(l:Bool)(a b c d t:Int)(w): aj Tz.prog 142 #[.agg #[s,l,a,b,c,d],t] w λe w'=>e=ad (jr t b c)/\ac w w w':=by go_enter Tz.func142,Tryz.ntmps142;go_wp2<;>go_ret<;>exact⟨de (by unfold jr;rw[Bool.eq_iff_iff];simp;omega),(agn _ _).alloc ab _⟩
def Hc (s:ByteArray)(l:Bool)(a b c d:Int)(w): aj Tz.prog 171 #[.agg #[s,l,a,b,c,d]] w λe w'=>e=ad (AB b c d)/\ac w w w':=by by_cases q:(d==-1)=true;(.go_enter Tz.func171,Tryz.ntmps171;go_wp2;go_ret;exact⟨de<|by grind [AB],(agn _ _).alloc ab _⟩);have f:(d==-1)=false:=cQ;go_enter Tz.func171,Tryz.ntmps171;(go_wp2_with(go_at_call 142;refine(Ab _ _ _ _ _ _ _ _).mono ?_;rintro e w' ⟨rfl,hb⟩));go_ret;exact⟨de<|by grind [AB],((agn _ _).alloc ab _).trans<|hb.mono aN⟩
def mU (c:ac W W w1):(∀b o,b<(W:Nat)->w1.cell? ⟨b,o,none⟩=W.cell? ⟨b,o,none⟩)/\(∀b o,b<(W:Nat)->w1.frozen? ⟨b,o,none⟩=W.frozen? ⟨b,o,none⟩):=
 ⟨λb o h=>c.cell (p:=⟨b,o,none⟩) h,λb o h=>c.frozen (p:=⟨b,o,none⟩) h⟩
def qN (h:(w:Nat)<W/\ac w w W)(hb:ac W W w1):(w:Nat)<w1/\ac w w w1:=
 ⟨agx h.1 hb.size,h.2.trans<|hb.mono<|agO h.1⟩
def uV (w:aa)(o):w<(w.alloc o).heap.size/\ac w w (w.alloc o):=⟨aN,(agn _ _).alloc (agw _) _⟩
def E4 (s:ByteArray)(l:Bool)(a b c d:Int)(w)(hs:s.size<=ao): aj Tz.prog 57 #[.agg #[s,l,a,b,c,d]] w λe w'=>e=ad (moveB s a b c d)/\ac w w w':=by
 go_enter Tz.func57,Tryz.ntmps57;go_wp2_with(first|(go_at_call 84;refine(E5 _ _ hs).mono ?_;rintro e w' ⟨rfl,rfl⟩)|(go_at_call 82;refine(gN _ _ _ _).mono ?_;rintro e w' ⟨rfl,rfl⟩))
 all_goals go_ret
 all_goals exact⟨de<|by grind [moveB,AB],(agn _ _).alloc (agw _) _⟩
def EH (s:ByteArray)(l:Bool)(a b c d:Int)(w): aj Tz.prog 141 #[.agg #[s,l,a,b,c,d]] w λe w'=>e=ad (moveB s a b c d)/\ac w w w':=by
 go_enter Tz.func141,Tryz.ntmps141;go_wp2_with(first|(go_at_call 168;refine(EI _ _).mono ?_;rintro e w1 ⟨rfl,f⟩;let⟨r,t⟩:=mU f)|(go_at_call 169;refine(A4 _ _).mono ?_;rintro e w' ⟨rfl,rfl⟩)|(go_at_call 170;refine(RV _ _ _).mono ?_;rintro e w' ⟨rfl,rfl⟩)|(go_at_call 171;refine(Hc _ _ _ _ _ _ _).mono ?_;rintro e u ⟨rfl,q⟩))
 all_goals go_ret
 all_goals refine⟨de<|by grind [moveB],?_⟩
 all_goals first
  |exact((agn _ _).alloc ab _).trans ((f.mono aN).trans<|q.mono (by have:=f.size;simp at this;omega))
  |exact((agn _ _).alloc ab _).trans<|f.mono aN
section
variable {b:Nat}{w':aa}
structure vF (w:aa)(b o)(m:Mv):Prop where
 c0:w.cell? ⟨b,o,none⟩=some (.string m.name)
 c1:w.cell? ⟨b,o+1,none⟩=some (.bool m.ax)
 c2:w.cell? ⟨b,o+2,none⟩=some (.int .i64 m.aI)
 c3:w.cell? ⟨b,o+3,none⟩=some (.int .i64 m.cj)
 c4:w.cell? ⟨b,o+4,none⟩=some (.int .i64 m.late)
 c5:w.cell? ⟨b,o+5,none⟩=some (.int .i64 m.prom)
def aM (w:aa)(b off n:Nat)(f:Nat->Mv):Prop:=∀i,i<n->vF w b (off+i*6) (f i)
def vF.below {o m}(h:vF w b o m)(c:ac B w w')(d:b<B):vF w' b o m:=
 ⟨(c.cell d).trans h.c0,(c.cell d).trans h.c1,(c.cell d).trans h.c2,(c.cell d).trans h.c3,(c.cell d).trans h.c4,(c.cell d).trans h.c5⟩
def aM.below {off n f}(h:aM w b off n f)(hb:ac B w w')(r:b<B):aM w' b off n f:=
 λi s=>(h i s).below hb r
end
section
variable {g:Nat}
def ol (w:aa)(g o:Nat)(m:Mv):World:=
 (((((w.setCell ⟨g,o,none⟩ m.name).setCell ⟨g,o+1,none⟩ m.ax).setCell ⟨g,o+2,none⟩ m.aI).setCell ⟨g,o+3,none⟩ m.cj).setCell ⟨g,o+4,none⟩ m.late).setCell ⟨g,o+5,none⟩ m.prom
def AR (w g o m cs t)(c:w.heap[g]?=some (.cells cs t (0,0)))(d:o+6<=cs.size):vF (ol w g o m) g o m:=by constructor<;>(unfold ol;rw[cell_of_row _ _ _ _ _ _ (heap_setCell_same _ _ (o+5) _ _ m.prom<|heap_setCell_same _ _ (o+4) _ _ m.late<|heap_setCell_same _ _ (o+3) _ _ m.cj<|heap_setCell_same _ _ (o+2) _ _ m.aI<|heap_setCell_same _ _ (o+1) _ _ m.ax<|heap_setCell_same _ _ o _ _ m.name c)];simp[Array.getElem?_setIfInBounds];omega)
def Hu {a}(h:ac B a w)(c:B<=g) o (m):ac B a (ol w g o m):=
 (((((h.setCell f7 _).setCell f7 _).setCell f7 _).setCell f7 _).setCell f7 _).setCell f7 _
def adB (w:aa)(b n:Nat):Prop:=∃a,w.heap[b]?=some (.cells a 30 (0,0))/\a.size=n*6
end
def bT (m:Mv)(a now:Int):Mv:=if a<now+4 then{m with prom:=a}else m
def YC (x9:p:=by repeat(first|exact agn _ _|refine agr ?_ DZ _|refine agq ?_ DZ _)):p:=x9
def uZ (m:Mv)(a now:Int)(w:aa)(d:0<=now)(f:now<=20000):
  aj Tz.prog 106 #[.agg #[m.name,m.ax,m.aI,m.cj,m.late,m.prom],a,now] w λe w'=>e=ad (.agg #[.string (bT m a now).name,.bool (bT m a now).ax,.int .i64 (bT m a now).aI,.int .i64 (bT m a now).cj,.int .i64 (bT m a now).late,.int .i64 (bT m a now).prom])/\ac w w w':=by
 have i:IntKind.i64.wrap (now+4)=now+4:=jh;by_cases h:a<now+4
 .have c:Hid (bT m a now={m with prom:=a}):=by
   have h:bT m a now={m with prom:=a}:=by unfold bT;grind
   exact h
  go_enter Tz.func106,Tryz.ntmps106
  go_wp2;refine au (v:=.agg #[m.name,m.ax,m.aI,m.cj,m.late,a]) (by simp[results,go_sem]) rfl ⟨by rw[c.out],?_⟩;exact YC
 have c:Hid (bT m a now=m):=by
  have h:bT m a now=m:=by unfold bT;grind
  exact h
 go_enter Tz.func106,Tryz.ntmps106
 go_wp2;refine au (v:=.agg #[m.name,m.ax,m.aI,m.cj,m.late,m.prom]) (by simp[results,Tryz.results106,go_sem]) rfl ⟨by rw[c.out],?_⟩;exact YC
