import Derived.Test.YtlmcblcijndipaaGreatM48
import Derived.Test.YtlmcblcijndipaaGreatM49
import Derived.Test.YtlmcblcijndipaaGreatM33
import Derived.Test.YtlmcblcijndipaaGreatM44
import Derived.Deep.RegionWith
set_option linter.unusedVariables false
set_option maxHeartbeats 4000000
set_option maxRecDepth 10000
namespace Go.Proofs.YtlmcblcijndipaaGreat
open Go Go.RowKit
theorem xD.fits {m:Mv}{s:ByteArray}(h:xD m s)(h8:s.size<=8):m.Fits:=by
 have g:=h.span;have k:=h.wake;have p:=h.prom;exact⟨by rw[h.name];unfold maxLen;omega,iA (by omega),iA (by omega),iA (by omega),iA (by omega)⟩
theorem tT (R:Nat)(p:Int)(b:Nat)(cs:Array Value)(w:World)(n₀:Nat)(h0:n₀<=R)(hr:Rd w R p)(hp:p<=1000000)(hbR:b≠R)(hb:w.heap[b]?=some (.cells cs 9 (0,0)))(hn:Be cs):
  Calls Tryz0.prog 82 #[.pointer (some ⟨R,0,none⟩),.slice (some ⟨b,0,none⟩) 6 6] w λe w'=>(∃s:ByteArray,e=.returned (.string s)/\s.size<=8)/\Rd w' R (p+1)/\dg R w w'/\Below n₀ w w':=by
 have H1:=aH R p 6 w n₀ h0 hr (by omega) (by omega) (by omega);have hl:b<w.heap.size:=(Array.getElem?_eq_some_iff.1 hb).1;go_enter Tryz0.func82,Tryz.ntmps82
 go_wp2_with(go_at_call 22;refine H1.mono ?_;clear H1;rintro e w1 ⟨⟨z,rfl,l1,u1⟩,r1,t1,b1⟩;obtain⟨k,rfl⟩:∃k:Nat,z=(k:Int):=⟨z.toNat,(by omega)⟩;obtain⟨s,hs,h8⟩:=hn k (by omega);have hc:w1.cell? ⟨b,k,none⟩=some (.string s):=(gO t1 hl hbR).trans ((cell_of_row _ _ _ _ _ _ hb).trans hs))
 go_ret;exact⟨⟨s,rfl,h8⟩,r1,t1,b1⟩
section
variable {w w':World}{lo R:Nat}{now shift:Int}{ao:Option Addr}{n c:Nat}{f:Nat->Mv}{bo:Option Addr}{d:Nat}{t:Nat->Int}
theorem iE.but (h:iE w lo now shift ao n c f bo d t)(hb:dg R w w')(hR:R<lo):iE w' lo now shift ao n c f bo d t:=h.same λb hb1 hb2=>hb.block b hb2 (by omega)
end
def zx (lo:Nat)(e:Ending)(w':World):Prop:=∃(now shift:Int) (ao:Option Addr) (n c:Nat) (f:Nat->Mv) (bo:Option Addr) (d:Nat) (t:Nat->Int),e=.returned (.agg #[.int .i64 now,.int .i64 shift,.slice ao n c,.slice bo n d])/\iE w' lo now shift ao n c f bo d t
structure Rs (R n₀:Nat)(w:World)(N M:Nat)(q:Int)(now shift:Int)(ao:Option Addr)(n c:Nat)(f:Nat->Mv)(bo:Option Addr)(d:Nat)(t:Nat->Int)(W:World):Prop where
 rd:Rd W R q
 but:dg R w W
 below:Below n₀ w W
 bx:ar W N now shift (.slice ao n c) (.slice bo n d)
 rs:ar W M 0 0 (.slice none 0 0) (.slice none 0 0)
 bok:iE W (R+1) now shift ao n c f bo d t
section
variable {R n₀ N M:Nat}{w W W':World}{q q':Int}{now shift:Int}{ao:Option Addr}{n c:Nat}{f:Nat->Mv}{bo:Option Addr}{d:Nat}{t:Nat->Int}
theorem Rs.to (h:Rs R n₀ w N M q now shift ao n c f bo d t W)(hN:R<N)(hM:R<M)(r:Rd W' R q')(b:dg R W W')(l:Below n₀ W W'):Rs R n₀ w N M q' now shift ao n c f bo d t W':=
 ⟨r,h.but.trans b,h.below.trans l,h.bx.same (b.block _ h.bx.lt (by omega)),h.rs.same (b.block _ h.rs.lt (by omega)),h.bok.but b (by omega)⟩
theorem Rs.grow (h:Rs R n₀ w N M q now shift ao n c f bo d t W)(h0:n₀<=R)(b:Below W.heap.size W W'):Rs R n₀ w N M q now shift ao n c f bo d t W':=by
 have hr:=h.rd.lt;exact⟨h.rd.below b,h.but.trans (dg.of b),h.below.trans (b.mono (by omega)),h.bx.same (b.block _ h.bx.lt),h.rs.same (b.block _ h.rs.lt),h.bok.below b⟩
theorem Rs.put (h:Rs R n₀ w N M q now shift ao n c f bo d t W)(h0:n₀<=R)(hR:R<w.heap.size)(hN:w.heap.size<=N)(hM:N≠M){now' shift':Int}{ao':Option Addr}{n' c':Nat}{f':Nat->Mv}{bo':Option Addr}{d':Nat}{t':Nat->Int}(hb:iE W (R+1) now' shift' ao' n' c' f' bo' d' t'):∃W',((((W.setCell ⟨N,0,none⟩ (.int .i64 now')).setCell ⟨N,1,none⟩ (.int .i64 shift')).setCell ⟨N,2,none⟩ (.slice ao' n' c')).setCell ⟨N,3,none⟩ (.slice bo' n' d'))=W'/\Rs R n₀ w N M q now' shift' ao' n' c' f' bo' d' t' W':=by
 obtain⟨W',e,k,hb',hz,hn⟩:=bg h.bx h.below (by omega) now' shift' ao' n' c' bo' n' d';refine⟨W',e,?_,⟨by rw[hz];exact h.but.size,λi hi hne=>(hn i (by omega)).trans (h.but.block i hi hne)⟩,hb',k,h.rs.same (hn _ (by omega)),?_⟩
 .rw[<-e];exact(((h.rd.set (by omega) _ _).set (by omega) _ _).set (by omega) _ _).set (by omega) _ _
 .refine⟨hb.now,hb.sh,hb.six,hb.ok,?_⟩;rcases hb.mem with hm|⟨b,b',h1,h2,o1,hd,o2⟩
  .exact .inl hm
  .refine .inr ⟨b,b',h1,h2,ai o1 (λB hB=>hn B (cW o1 h.bx (by decide) hB)),hd,o2.same (hn b' ?_)⟩;intro e';obtain⟨_,⟨cs,hc⟩,_⟩:=o2;have hx:=h.bx;unfold ar at hx;rw[<-e',hc]at hx;simp at hx
end
structure C2 (N:Nat)(sl:Value)(W:World):Prop where
 c2:W.cell? ⟨N,2,none⟩=some sl
def y7 (K:Act->World->Prop):Exit->Act->World->Prop
 |.normal=>K
 |_=>λ_ _=>False
theorem gi {P:Program}{Q:Exit->Act->World->Prop}{T:Code}:∀(ss:List Code) {a:Act} {w:World} (K:Act->World->Prop),aK P (y7 K) ss a w->(∀a w,K a w->T.wp P Q a w)->(chain ss T).wp P Q a w
 |[],a,w,K,h,hK=>hK a w h
 |s::ss,a,w,K,h,hK=>by
  refine wp_seq (Code.wp_mono (λe a' w' q=>?_) h);cases e with
  |normal=>exact gi ss K q hK
  |_=>exact q.elim
theorem iE.off {w w':World}{lo:Nat}{now shift:Int}{ao:Option Addr}{n c:Nat}{f:Nat->Mv}{bo:Option Addr}{d:Nat}{t:Nat->Int}{Y:Nat}{x0 x1:Int}{v u:Value}(h:iE w lo now shift ao n c f bo d t)(hy:ar w Y x0 x1 v u)(e:∀k,k≠Y->w'.heap[k]?=w.heap[k]?):iE w' lo now shift ao n c f bo d t:=by
 refine⟨h.now,h.sh,h.six,h.ok,?_⟩;rcases h.mem with hm|⟨b,b',h1,h2,o1,hd,o2⟩
 .exact .inl hm
 .refine .inr ⟨b,b',h1,h2,ai o1 (λB hB=>e B (cW o1 hy (by decide) hB)),hd,o2.same (e b' ?_)⟩;intro e';obtain⟨_,⟨cs,hc⟩,_⟩:=o2;unfold ar at hy;rw[<-e',hc]at hy;simp at hy
theorem Rs.fin {R n₀ N M:Nat}{w W:World}{q:Int}{now shift:Int}{ao:Option Addr}{n c:Nat}{f:Nat->Mv}{bo:Option Addr}{d:Nat}{t:Nat->Int}(h:Rs R n₀ w N M q now shift ao n c f bo d t W)(h0:n₀<=R)(hR:R<w.heap.size)(hM:w.heap.size<=M):∃W',((((W.setCell ⟨M,0,none⟩ (.int .i64 now)).setCell ⟨M,1,none⟩ (.int .i64 shift)).setCell ⟨M,2,none⟩ (.slice ao n c)).setCell ⟨M,3,none⟩ (.slice bo n d))=W'/\ar W' M now shift (.slice ao n c) (.slice bo n d)/\iE W' (R+1) now shift ao n c f bo d t/\Rd W' R q/\dg R w W'/\Below n₀ w W':=by
 obtain⟨W',e,k,hb',hz,hn⟩:=bg h.rs h.below (by omega) now shift ao n c bo n d;refine⟨W',e,k,h.bok.off h.rs hn,?_,⟨by rw[hz];exact h.but.size,λi hi hne=>(hn i (by omega)).trans (h.but.block i hi hne)⟩,hb'⟩;rw[<-e];exact(((h.rd.set (by omega) _ _).set (by omega) _ _).set (by omega) _ _).set (by omega) _ _
theorem vF (R:Nat)(p:Int)(now shift:Int)(ao:Option Addr)(n c:Nat)(f:Nat->Mv)(bo:Option Addr)(d:Nat)(t:Nat->Int)(w:World)(n₀:Nat)(h0:n₀<=R)(hr:Rd w R p)(hp:p<=600000)(hB:iE w (R+1) now shift ao n c f bo d t):
  Calls Tryz0.prog 130 #[.pointer (some ⟨R,0,none⟩),.agg #[.int .i64 now,.int .i64 shift,.slice ao n c,.slice bo n d]] w λe w'=>zx (R+1) e w'/\qF R p 20 n₀ w w':=by
 have hR:=hr.lt;have h6:=hB.six;have hnw:=hB.now;obtain⟨W0,hW0⟩:∃W,W=(w.alloc (.cells #[.int .i64 now,.int .i64 shift,.slice ao n c,.slice bo n d] 38)).alloc (.cells #[.int .i64 0,.int .i64 0,.slice none 0 0,.slice none 0 0] 38):=⟨_,rfl⟩;have b0:Below w.heap.size w W0:=by rw[hW0];exact((Below.refl _ w).alloc (Nat.le_refl _) _).alloc (by simp) _
 have hS:Rs R n₀ w w.heap.size (w.heap.size+1) p now shift ao n c f bo d t W0:=⟨hr.below b0,dg.of b0,b0.mono (by omega),by rw[hW0];exact(Below.heap_alloc _ _ _ (by simp)).trans (heap_alloc_new _ _),by rw[hW0];exact be _ _ _,hB.below b0⟩;have hz0:W0.heap.size=w.heap.size+1+1:=by rw[hW0];simp
 have HNM:=pK W0;rw[hz0,hW0]at HNM;go_enter Tryz0.func130,Tryz.ntmps130
 refine gi [_,_,_] (λa' w'=>∃(s:ByteArray) (q:Int),p<=q/\q<=p+3/\Rs R n₀ w w.heap.size (w.heap.size+1) q now shift ao n c f bo d t w'/\bX a' (λu=>#[.pointer (some ⟨R,0,none⟩),u 1,u 2,.pointer (some ⟨w.heap.size,0,none⟩),.pointer (some ⟨w.heap.size+1,0,none⟩),.string s,u 6,u 7,u 8,u 9,u 10,u 11,u 12,u 13,u 14,u 15,u 16,u 17,u 18,u 19,u 20,u 21,u 22,u 23,u 24,u 25,u 26,u 27,u 28,u 29,u 30,u 31,u 32,u 33,u 34,u 35,u 36,u 37,u 38,u 39,u 40,u 41,u 42,u 43,u 44,u 45,u 46,u 47,u 48,u 49,u 50,u 51,u 52,u 53,u 54,u 55,u 56,u 57,u 58,u 59,u 60,u 61,u 62,u 63,u 64,u 65,u 66,u 67,u 68,u 69,u 70,u 71,u 72,u 73,u 74,u 75,u 76,u 77,u 78,u 79,u 80,u 81,u 82,u 83,u 84,u 85,u 86,u 87,u 88,u 89,u 90,u 91])) ?_ ?_
 .simp only[aK];by_cases hn:n=0;focus
   subst hn;go_wp2_with(first
    |(go_at_call 80;refine HNM.mono ?_;clear HNM;rintro e w1 ⟨rfl,⟨cs,hcs,hnm⟩,b1⟩;have b1':Below W0.heap.size W0 w1:=(by rw[hz0,hW0];exact b1);have hS:=hS.grow h0 b1';have HOF:=tT R p (w.heap.size+1+1) cs w1 n₀ h0 hS.rd (by omega) (by omega) hcs hnm)
    |(go_at_call 82;refine HOF.mono ?_;clear HOF;rintro e w2 ⟨⟨s,rfl,h8⟩,r2,t2,b2⟩;have hS:=hS.to (by omega) (by omega) r2 t2 b2;obtain⟨y0,y1,y2,y3,y4⟩:=hS.bx.cells))
   exact⟨s,_,by omega,by omega,hS,rfl,rfl⟩
  have hn':(0:Int)<n:=by omega
  obtain⟨b,rfl,hbs,hrow⟩:=hB.srcM.pos (by omega);go_wp2_with(first
   |(go_at_call 80;refine HNM.mono ?_;clear HNM;rintro e w1 ⟨rfl,⟨cs,hcs,hnm⟩,b1⟩;have b1':Below W0.heap.size W0 w1:=(by rw[hz0,hW0];exact b1);have hS:=hS.grow h0 b1';have HOF:=tT R p (w.heap.size+1+1) cs w1 n₀ h0 hS.rd (by omega) (by omega) hcs hnm)
   |(go_at_call 82;refine HOF.mono ?_;clear HOF;rintro e w2 ⟨⟨s,rfl,h8⟩,r2,t2,b2⟩;have hS:=hS.to (by omega) (by omega) r2 t2 b2;obtain⟨y0,y1,y2,y3,y4⟩:=hS.bx.cells;have HP3:=aH R (p+1) 3 w2 n₀ h0 hS.rd (by omega) (by omega) (by omega))
   |(go_at_call 22;refine HP3.mono ?_;clear HP3;rintro e w3 ⟨⟨z3,rfl,l3,u3⟩,r3,t3,b3⟩;have hS:=hS.to (by omega) (by omega) r3 t3 b3;obtain⟨y0,y1,y2,y3,y4⟩:=hS.bx.cells))
  rotate_left
  .exact⟨s,_,by omega,by omega,hS,rfl,rfl⟩
  have hS:=hS.grow h0 (Below.refl _ _).drew;obtain⟨y0,y1,y2,y3,y4⟩:=hS.bx.cells;have HPN:=aH R (p+1+1) n w3.drew n₀ h0 hS.rd (by omega) (by omega) (by omega);have n1:w.heap.size≠R:=by omega
  refine wp_region_held_drew (S:=C2 w.heap.size (.slice (some ⟨b,0,none⟩) n c)) (by kernel_rfl) ⟨y2⟩ (λhHeld=>?_);refine aB (i:=0) (v:=(.pointer (some ⟨w.heap.size,2,none⟩))) 19 rfl rfl (by kernel_rfl) (by kernel_rfl) (by kernel_rfl) (λ_ _ _ h=>h) (Or.inl ⟨by rfl,λw' hSw=>by(obtain⟨s0⟩:=hSw;go_simp)⟩) hHeld ?_;simp only[Act.put,List.setIfInBounds_toArray,List.set_cons_zero,List.set_cons_succ];refine aB (i:=1) (v:=(.slice (some ⟨b,0,none⟩) n c)) 20 rfl rfl (by kernel_rfl) (by kernel_rfl) (by kernel_rfl) (λ_ _ _ h=>h) (Or.inl ⟨by rfl,λw' hSw=>by(obtain⟨s0⟩:=hSw;go_simp)⟩) hHeld ?_;simp only[Act.put,List.setIfInBounds_toArray,List.set_cons_zero,List.set_cons_succ];refine aB (i:=2) (v:=(.pointer (some ⟨R,0,none⟩))) 21 rfl rfl (by kernel_rfl) (by kernel_rfl) (by kernel_rfl) (λ_ _ _ h=>h) (Or.inl ⟨by rfl,λw' hSw=>by(obtain⟨s0⟩:=hSw;go_simp)⟩) hHeld ?_;simp only[Act.put,List.setIfInBounds_toArray,List.set_cons_zero,List.set_cons_succ];refine aB (i:=3) (v:=(.pointer (some ⟨w.heap.size,2,none⟩))) 22 rfl rfl (by kernel_rfl) (by kernel_rfl) (by kernel_rfl) (λ_ _ _ h=>h) (Or.inl ⟨by rfl,λw' hSw=>by(obtain⟨s0⟩:=hSw;go_simp)⟩) hHeld ?_;simp only[Act.put,List.setIfInBounds_toArray,List.set_cons_zero,List.set_cons_succ];refine aB (i:=4) (v:=(.slice (some ⟨b,0,none⟩) n c)) 23 rfl rfl (by kernel_rfl) (by kernel_rfl) (by kernel_rfl) (λ_ _ _ h=>h) (Or.inl ⟨by rfl,λw' hSw=>by(obtain⟨s0⟩:=hSw;go_simp)⟩) hHeld ?_;simp only[Act.put,List.setIfInBounds_toArray,List.set_cons_zero,List.set_cons_succ];refine aB (i:=5) (v:=(.int .i64 n)) 24 rfl rfl (by kernel_rfl) (by kernel_rfl) (by kernel_rfl) (λ_ _ _ h=>h) (Or.inl ⟨by rfl,λw' hSw=>by(obtain⟨s0⟩:=hSw;go_simp)⟩) hHeld ?_;simp only[Act.put,List.setIfInBounds_toArray,List.set_cons_zero,List.set_cons_succ];refine wpAnyH_ready (rs:=[6]) (by kernel_rfl) (by simp) ?_;refine AllReadyH.cons rfl (λK hK=>?_) AllReadyH.nil;go_wp2_with(go_at_call 22;refine HPN.mono ?_;clear HPN;rintro e w4 ⟨⟨z4,rfl,l4,u4⟩,r4,t4,b4⟩;obtain⟨k,rfl⟩:∃k:Nat,z4=(k:Int):=⟨z4.toNat,(by omega)⟩;have hS:=hS.to (by omega) (by omega) r4 t4 b4;obtain⟨y0,y1,y2,y3,y4⟩:=hS.bx.cells;obtain⟨bq,eq1,lq,rq⟩:=hS.bok.srcM.pos (by omega);obtain rfl:b=bq:=(by cases eq1;rfl);have c0:=(rq k (by omega)).c0;simp only[Nat.zero_add]at c0;have hkn:(k:Int)<n:=(by omega))
  refine hK.out _ _ ⟨y2⟩ (λhHeld=>?_);clear hK K;refine aB (i:=7) (v:=(.pointer (some ⟨b,k*6,none⟩))) 26 rfl rfl (by kernel_rfl) (by kernel_rfl) (by kernel_rfl) (λ_ _ _ h=>h) (Or.inl ⟨by rfl,λw' hSw=>by(obtain⟨s0⟩:=hSw;go_simp)⟩) hHeld ?_;simp only[Act.put,List.setIfInBounds_toArray,List.set_cons_zero,List.set_cons_succ];refine aB (i:=8) (v:=(.pointer (some ⟨b,k*6,none⟩))) 27 rfl rfl (by kernel_rfl) (by kernel_rfl) (by kernel_rfl) (λ_ _ _ h=>h) (Or.inl ⟨by rfl,λw' hSw=>by(obtain⟨s0⟩:=hSw;go_simp)⟩) hHeld ?_;simp only[Act.put,List.setIfInBounds_toArray,List.set_cons_zero,List.set_cons_succ];refine wpAnyH_ready (rs:=[9]) (by kernel_rfl) (by simp) ?_;refine AllReadyH.cons rfl (λK hK=>?_) AllReadyH.nil;go_simp
  refine hK.out _ _ ⟨y2⟩ (λhHeld=>?_);clear hK K;refine wpAnyH_ready (rs:=[10]) (by kernel_rfl) (by simp) ?_;refine AllReadyH.cons rfl (λK hK=>?_) AllReadyH.nil;go_simp
  refine hK.out _ _ ⟨y2⟩ (λhHeld=>?_);clear hK K;refine wpAnyH_done (by kernel_rfl) ?_ _;clear hHeld;go_wp2;exact⟨_,_,by omega,by omega,hS,rfl,rfl⟩
 clear hS HNM hz0 b0 hW0 hr;rintro a' w1 ⟨s,q,hq0,hq1,hS,hfr⟩;obtain⟨u,rfl⟩:=hfr.open;clear hfr;refine gi [_] (λa' w'=>∃(nw sf:Int) (ao2:Option Addr) (n2 c2:Nat) (f2:Nat->Mv) (bo2:Option Addr) (d2:Nat) (t2:Nat->Int) (q:Int),p<=q/\q<=p+20/\Rs R n₀ w w.heap.size (w.heap.size+1) q nw sf ao2 n2 c2 f2 bo2 d2 t2 w'/\bX a' (λu=>#[u 0,u 1,u 2,.pointer (some ⟨w.heap.size,0,none⟩),.pointer (some ⟨w.heap.size+1,0,none⟩),u 5,u 6,u 7,u 8,u 9,u 10,u 11,u 12,u 13,u 14,u 15,u 16,u 17,u 18,u 19,u 20,u 21,u 22,u 23,u 24,u 25,u 26,u 27,u 28,u 29,u 30,u 31,u 32,u 33,u 34,u 35,u 36,u 37,u 38,u 39,u 40,u 41,u 42,u 43,u 44,u 45,u 46,u 47,u 48,u 49,u 50,u 51,u 52,u 53,u 54,u 55,u 56,u 57,u 58,u 59,u 60,u 61,u 62,u 63,u 64,u 65,u 66,u 67,u 68,u 69,u 70,u 71,u 72,u 73,u 74,u 75,u 76,u 77,u 78,u 79,u 80,u 81,u 82,u 83,u 84,u 85,u 86,u 87,u 88,u 89,u 90,u 91])) ?_ ?_
 .simp only[aK];refine gi [_] (λa' w'=>∃z:Int,Rs R n₀ w w.heap.size (w.heap.size+1) (q+1) now shift ao n c f bo d t w'/\bX a' (λu=>#[.pointer (some ⟨R,0,none⟩),u 1,u 2,.pointer (some ⟨w.heap.size,0,none⟩),.pointer (some ⟨w.heap.size+1,0,none⟩),.string s,u 6,u 7,u 8,u 9,u 10,u 11,u 12,u 13,u 14,u 15,u 16,u 17,u 18,u 19,u 20,u 21,u 22,u 23,u 24,u 25,u 26,u 27,u 28,u 29,.int .i64 z,u 31,u 32,u 33,u 34,u 35,u 36,u 37,u 38,u 39,u 40,u 41,u 42,u 43,u 44,u 45,u 46,u 47,u 48,u 49,u 50,u 51,u 52,u 53,u 54,u 55,u 56,u 57,u 58,u 59,u 60,u 61,u 62,u 63,u 64,u 65,u 66,u 67,u 68,u 69,u 70,u 71,u 72,u 73,u 74,u 75,u 76,u 77,u 78,u 79,u 80,u 81,u 82,u 83,u 84,u 85,u 86,u 87,u 88,u 89,u 90,u 91])) ?_ ?_
  .simp only[aK];have H9:=aH R q 9 w1 n₀ h0 hS.rd (by omega) (by omega) (by omega);go_wp2_with(go_at_call 22;refine H9.mono ?_;clear H9;rintro e w2 ⟨⟨z,rfl,lz,uz⟩,r2,t2,b2⟩;have hS:=hS.to (by omega) (by omega) r2 t2 b2)
   exact⟨z,hS,rfl,rfl⟩
  clear hS u;rintro a' w2 ⟨z,hS,hfr⟩;obtain⟨u,rfl⟩:=hfr.open;clear hfr w1;refine wp_block ?_;refine gi [_] (λa' w'=>w'=w2/\∃bb:Bool,bX a' (λu=>#[.pointer (some ⟨R,0,none⟩),u 1,u 2,.pointer (some ⟨w.heap.size,0,none⟩),.pointer (some ⟨w.heap.size+1,0,none⟩),.string s,u 6,u 7,u 8,u 9,u 10,u 11,u 12,u 13,u 14,u 15,u 16,u 17,u 18,u 19,u 20,u 21,u 22,u 23,u 24,u 25,u 26,u 27,u 28,u 29,.int .i64 z,u 31,u 32,u 33,u 34,u 35,u 36,.bool bb,u 38,u 39,u 40,u 41,u 42,u 43,u 44,u 45,u 46,u 47,u 48,u 49,u 50,u 51,u 52,u 53,u 54,u 55,u 56,u 57,u 58,u 59,u 60,u 61,u 62,u 63,u 64,u 65,u 66,u 67,u 68,u 69,u 70,u 71,u 72,u 73,u 74,u 75,u 76,u 77,u 78,u 79,u 80,u 81,u 82,u 83,u 84,u 85,u 86,u 87,u 88,u 89,u 90,u 91])) ?_ ?_
  .simp only[aK];go_wp2;all_goals first|exact⟨rfl,_,rfl,rfl⟩|exact⟨rfl,true,rfl,rfl⟩|exact⟨rfl,false,rfl,rfl⟩
  rintro a' w' ⟨rfl,bb,hfr⟩;clear u;obtain⟨u,rfl⟩:=hfr.open;clear hfr;cases bb with
  |true=>
   refine wp_cond_true rfl ?_;have hS:=hS.grow h0 (Below.refl _ _).drew;obtain⟨y0,y1,y2,y3,y4⟩:=hS.bx.cells;have HNM:=pK w'.drew;have lz:=hS.rd.lt;go_region_with
    (first
    |(go_at_call 80;refine HNM.mono ?_;clear HNM;rintro e w3 ⟨rfl,⟨cs,hcs,hnm⟩,b3⟩;have hS3:=hS.grow h0 b3;obtain⟨y0,y1,y2,y3,y4⟩:=hS3.bx.cells;have HOF:=tT R (q+1) _ cs w3 n₀ h0 hS3.rd (by omega) (by omega) hcs hnm)
    |(go_at_call 82;refine HOF.mono ?_;clear HOF;rintro e w4 ⟨⟨s4,rfl,h84⟩,r4,t4,b4⟩;have hS4:=hS3.to (by omega) (by omega) r4 t4 b4;obtain⟨y0,y1,y2,y3,y4⟩:=hS4.bx.cells;have HMV:=tN R (q+1+1) s4 now w4 n₀ h0 hS4.rd (by omega) hnw.1 hnw.2)
    |(go_at_call 81;refine HMV.mono ?_;clear HMV;rintro e w5 ⟨⟨mm,rfl,hdr⟩,⟨q5,hq5,hq6,r5⟩,t5,b5⟩;have hS5:=hS4.to (by omega) (by omega) r5 t5 b5;obtain⟨y0,y1,y2,y3,y4⟩:=hS5.bx.cells;have HAD:=yX now shift ao n c f bo d t mm w5 hS5.bok (hdr.fits h84))
    |(go_at_call 148;refine HAD.mono ?_;clear HAD;rintro e w6 ⟨⟨nw,sf,ao2,n2,c2,f2,bo2,d2,t2,k2,rfl,hbok⟩,b6⟩;have hS6:=hS5.grow h0 b6;obtain⟨y0,y1,y2,y3,y4⟩:=hS6.bx.cells;obtain⟨W,eW,hS7⟩:=hS6.put h0 hR (Nat.le_refl _) (by omega) (hbok.mono (by have:=hS5.rd.lt;omega))))
   all_goals
    go_wp2;exact⟨nw,sf,ao2,n2,c2,f2,bo2,d2,t2,_,by omega,by omega,hS7,rfl,rfl⟩
  |false=>
   refine wp_cond_false rfl ?_;obtain⟨y0,y1,y2,y3,y4⟩:=hS.bx.cells;go_wp2_with(first
    |(go_at_call 149;refine(xF now shift ao n c f bo d t s _ hS.bok).mono ?_;rintro e w6 ⟨⟨nw,sf,ao2,n2,c2,f2,bo2,d2,t2,k2,rfl,hbok⟩,b6⟩;have hS6:=hS.grow h0 b6;obtain⟨y0,y1,y2,y3,y4⟩:=hS6.bx.cells;obtain⟨W,eW,hS7⟩:=hS6.put h0 hR (Nat.le_refl _) (by omega) (hbok.mono (by have:=hS.rd.lt;omega)))
    |(go_at_call 129;refine(sw now shift ao n c f bo d t _ hS.bok).mono ?_;rintro e w6 ⟨⟨nw,sf,ao2,n2,c2,f2,bo2,d2,t2,sa,sn,sc,k2,rfl,hbok⟩,b6⟩;have hS6:=hS.grow h0 b6;obtain⟨y0,y1,y2,y3,y4⟩:=hS6.bx.cells;obtain⟨W,eW,hS7⟩:=hS6.put h0 hR (Nat.le_refl _) (by omega) (hbok.mono (by have:=hS.rd.lt;omega))))
   all_goals first
    |exact⟨nw,sf,ao2,n2,c2,f2,bo2,d2,t2,_,by omega,by omega,hS7,rfl,rfl⟩
    |skip
   go_loopw [5,6] (λsv x W=>∃(k:Nat) (s:ByteArray),sv=.string s/\x=.int .i64 k/\k<=n/\Rs R n₀ w w.heap.size (w.heap.size+1) (q+1) now shift ao n c f bo d t W) (λ_ x _=>n-(intOf x).toNat)
   case atStart=>exact⟨0,s,rfl,rfl,Nat.zero_le _,hS⟩
   case round=>
    clear hS y0 y1 y2 y3 y4;obtain⟨k,s,rfl,rfl,hk,hS⟩:=hrel;obtain⟨y0,y1,y2,y3,y4⟩:=hS.bx.cells;by_cases hlt:k<n
    .have hlt':(k:Int)<n:=by omega
     obtain⟨b,rfl,lb,rb⟩:=hS.bok.srcM.pos (by omega);obtain⟨b',rfl,lb',rb'⟩:=hS.bok.srcI.pos (by omega);have tk:=rb' k hlt;simp only[Nat.zero_add]at tk;have hne:=ax wr;have x0:=λx:af wr=>x.cell y0
     have x3:=λx:af wr=>x.cell y3
     have y6:=λx:af wr=>x.cell tk
     cases htk:(t k==now)with
     |true=>
      go_wp2;refine ac (by kernel_rfl) (by kernel_rfl) ?_;repeat(go_big_quiet_step (fail))
      refine wpQuiet_nil (ag ?_);intro w3 hb3;have c0:=(rb.below hb3 lb k hlt).c0;simp only[Nat.zero_add]at c0;have hS3:=hS.grow h0 hb3;have lb3:=Nat.lt_of_lt_of_le lb hb3.size;clear hne x0 x3 y6 y0 y1 y2 y3 y4;obtain⟨y0,y1,y2,y3,y4⟩:=hS3.bx.cells;go_wp2;go_roundw
      case rel=>exact⟨k+1,_,rfl,by go_num,by omega,hS3⟩
      case measure=>simp[intOf];omega
     |false=>
      go_wp2;refine ac (by kernel_rfl) (by kernel_rfl) ?_;repeat(go_big_quiet_step (fail))
      refine wpQuiet_nil (ag ?_);intro w3 hb3;have hS3:=hS.grow h0 hb3;clear hne x0 x3 y6 y0 y1 y2 y3 y4;go_wp2;go_roundw
      case rel=>exact⟨k+1,s,rfl,by go_num,by omega,hS3⟩
      case measure=>simp[intOf];omega
    .have hlt':¬(k:Int)<n:=by omega
     go_wp2_with(go_at_call 150;refine(vD now shift ao n c f bo d t s _ hS.bok).mono ?_;rintro e w6 ⟨⟨nw,sf,ao2,n2,c2,f2,bo2,d2,t2,k2,rfl,hbok⟩,b6⟩;have hS6:=hS.grow h0 b6;obtain⟨y0,y1,y2,y3,y4⟩:=hS6.bx.cells;obtain⟨W,eW,hS7⟩:=hS6.put h0 hR (Nat.le_refl _) (by omega) (hbok.mono (by have:=hS.rd.lt;omega)))
     all_goals first|(exfalso;omega)|skip
     exact⟨nw,sf,ao2,n2,c2,f2,bo2,d2,t2,_,by omega,by omega,hS7,rfl,rfl⟩
 rintro a' w2 ⟨nw,sf,ao2,n2,c2,f2,bo2,d2,t2,q2,hq2,hq3,hS2,hfr⟩;clear u;obtain⟨u,rfl⟩:=hfr.open;clear hfr hS;obtain⟨y0,y1,y2,y3,y4⟩:=hS2.bx.cells;obtain⟨r0,r1,r2,r3,r4⟩:=hS2.rs.cells;go_wp2;obtain⟨W5,e5,k5,hbk5,hrd5,hbt5,hbl5⟩:=hS2.fin h0 hR (by omega);rw[e5];obtain⟨q0,q1,q2,q3,q4⟩:=k5.cells;exact bodyPost_ret (v:=.agg #[.int .i64 nw,.int .i64 sf,.slice ao2 n2 c2,.slice bo2 n2 d2]) (by simp[results,Tryz.f130,go_sem,q0,q1,q2,q3]) rfl ⟨⟨nw,sf,ao2,n2,c2,f2,bo2,d2,t2,rfl,hbk5⟩,⟨_,hq2,hq3,hrd5⟩,hbt5,hbl5⟩
theorem pM (w:World)(lo:Nat){now shift:Int}(h0:0<=now/\now<=10000)(h1:0<=shift/\shift<=6):iE w lo now shift none 0 0 (λ_=>lH) none 0 (λ_=>0):=⟨h0,h1,by omega,λi hi=>absurd hi (Nat.not_lt_zero _),.inl ⟨rfl,rfl,rfl,rfl,rfl⟩⟩
theorem Rs.now {R n₀ N M:Nat}{w W:World}{q:Int}{now shift:Int}{f:Nat->Mv}{t:Nat->Int}(h:Rs R n₀ w N M q now shift none 0 0 f none 0 t W)(h0:n₀<=R)(hR:R<w.heap.size)(hN:w.heap.size<=N)(hM:N≠M){x:Int}(hx:0<=x/\x<=10000):∃W',W.setCell ⟨N,0,none⟩ (.int .i64 x)=W'/\Rs R n₀ w N M q x shift none 0 0 (λ_=>lH) none 0 (λ_=>0) W':=by
 refine⟨_,rfl,h.rd.set (by omega) _ _,⟨by simpa using h.but.size,λi hi hne=>(Below.heap_setCell _ _ _ _ (by simp;omega)).trans (h.but.block i hi hne)⟩,h.below.setCell (by simp;omega) _,?_,h.rs.same (Below.heap_setCell _ _ _ _ (by simpa usingλe=>hM e.symm)),pM _ _ hx h.bok.sh⟩;have:=heap_setCell_same W N 0 _ _ (.int .i64 x) h.bx;simpa[ar]using this
theorem vG (R:Nat)(p:Int)(w:World)(n₀:Nat)(h0:n₀<=R)(hr:Rd w R p)(hp:p<=500000):
  Calls Tryz0.prog 73 #[.pointer (some ⟨R,0,none⟩)] w λe w'=>zx (R+1) e w'/\qF R p 400 n₀ w w':=by
 have hR:=hr.lt;obtain⟨W0,e0,k0,b0,z0⟩:=dN w 0 0 none 0 0 none 0 0;have hr0:=hr.below b0;go_enter Tryz0.func73,Tryz.ntmps73
 refine gi [_,_,_] (λa' w'=>∃(nw sf q:Int) (N:Nat),p<=q/\q<=p+4/\w.heap.size<N/\Rs R n₀ w N w.heap.size q nw sf none 0 0 (λ_=>lH) none 0 (λ_=>0) w'/\bX a' (λu=>#[.pointer (some ⟨R,0,none⟩),u 1,.pointer (some ⟨w.heap.size,0,none⟩),.pointer (some ⟨N,0,none⟩),u 4,u 5,u 6,u 7,u 8,u 9,u 10,u 11,u 12,u 13,u 14,u 15,u 16,u 17,u 18,u 19,u 20,u 21,u 22,u 23,u 24,u 25,u 26,u 27,u 28,u 29,u 30,u 31,u 32,u 33,u 34,u 35,u 36,u 37,u 38,u 39,u 40,u 41])) ?_ ?_
 .simp only[aK];have H1:=aH R p 3 W0 n₀ h0 hr0 (by omega) (by omega) (by omega);go_wp2_with(first
   |(go_at_call 22;refine H1.mono ?_;clear H1;rintro e w1 ⟨⟨z1,rfl,l1,u1⟩,r1,t1,b1⟩;have H2:=aH R (p+1) 4 w1 n₀ h0 r1 (by omega) (by omega) (by omega))
   |(go_at_call 22;refine H2.mono ?_;clear H2;rintro e w2 ⟨⟨z2,rfl,l2,u2⟩,r2,t2,b2⟩;obtain⟨W3,e3,k3,b3,z3⟩:=dN w2 z1 z2 none 0 0 none 0 0;have e3h:Hid (w2.alloc (.cells #[.int .i64 z1,.int .i64 z2,.slice none 0 0,.slice none 0 0] 38)=W3):=e3;clear e3;have T02:=((dg.of b0).trans t1).trans t2;have hz1:=t1.size;have hz2:=t2.size;have hS3:Rs R n₀ w w2.heap.size w.heap.size (p+1+1) z1 z2 none 0 0 (λ_=>lH) none 0 (λ_=>0) W3:=⟨r2.below b3,T02.trans (dg.of b3),(((b0.mono (by omega)).trans b1).trans b2).trans (b3.mono (by omega)),k3,k0.same ((b3.block _ (by omega)).trans ((t2.block _ (by omega) (by omega)).trans (t1.block _ (by omega) (by omega)))),pM _ _ (by omega) (by omega)⟩;have H3:=aH R (p+1+1) 30 W3 n₀ h0 hS3.rd (by omega) (by omega) (by omega);rw[<-e3h.out]at H3)
   |(go_at_call 22;refine H3.mono ?_;clear H3;rintro e w4 ⟨⟨z4,rfl,l4,u4⟩,r4,t4,b4⟩;rw[e3h.out]at t4 b4;have hS4:=hS3.to (by omega) (by omega) r4 t4 b4;obtain⟨y0,y1,y2,y3,y4⟩:=hS4.bx.cells;have H5:=aH R (p+1+1+1) 40 w4 n₀ h0 hS4.rd (by omega) (by omega) (by omega))
   |(go_at_call 22;refine H5.mono ?_;clear H5;rintro e w5 ⟨⟨z5,rfl,l5,u5⟩,r5,t5,b5⟩;have hS5:=hS4.to (by omega) (by omega) r5 t5 b5;obtain⟨y0,y1,y2,y3,y4⟩:=hS5.bx.cells;have hwr:IntKind.i64.wrap (10000-z5)=10000-z5:=(by rw[IntKind.wrap_i64];omega);obtain⟨W6,e6,hS6⟩:=hS5.now h0 hR (by omega) (by omega) (x:=10000-z5) (by omega)))
  all_goals first
   |exact⟨_,_,_,_,by omega,by omega,by omega,hS6,rfl,rfl⟩
   |exact⟨_,_,_,_,by omega,by omega,by omega,hS4,rfl,rfl⟩
 rintro a' w1 ⟨nw0,sf0,q0,N,hq0,hq1,hN,hS,hfr⟩;obtain⟨u,rfl⟩:=hfr.open;clear hfr;refine gi [_] (λa' w'=>∃(nw sf:Int) (ao2:Option Addr) (n2 c2:Nat) (f2:Nat->Mv) (bo2:Option Addr) (d2:Nat) (t2:Nat->Int) (q:Int),p<=q/\q<=p+400/\Rs R n₀ w N w.heap.size q nw sf ao2 n2 c2 f2 bo2 d2 t2 w'/\bX a' (λu=>#[u 0,u 1,.pointer (some ⟨w.heap.size,0,none⟩),.pointer (some ⟨N,0,none⟩),u 4,u 5,u 6,u 7,u 8,u 9,u 10,u 11,u 12,u 13,u 14,u 15,u 16,u 17,u 18,u 19,u 20,u 21,u 22,u 23,u 24,u 25,u 26,u 27,u 28,u 29,u 30,u 31,u 32,u 33,u 34,u 35,u 36,u 37,u 38,u 39,u 40,u 41])) ?_ ?_
 .simp only[aK];have H1:=aH R q0 14 w1 n₀ h0 hS.rd (by omega) (by omega) (by omega);go_wp2_with(go_at_call 22;refine H1.mono ?_;clear H1;rintro e w2 ⟨⟨z,rfl,lz,uz⟩,r2,t2,b2⟩;obtain⟨k,rfl⟩:∃k:Nat,z=(k:Int):=⟨z.toNat,(by omega)⟩)
  have hS2:=hS.to (by omega) (by omega) r2 t2 b2;clear hS;go_loopw [4] (λx W=>∃(k:Nat) (nw sf:Int) (ao2:Option Addr) (n2 c2:Nat) (f2:Nat->Mv) (bo2:Option Addr) (d2:Nat) (t2:Nat->Int) (q:Int),x=.int .i64 k/\k<=13/\p<=q/\q+22*k<=p+300/\Rs R n₀ w N w.heap.size q nw sf ao2 n2 c2 f2 bo2 d2 t2 W) (λx _=>(intOf x).toNat)
  case atStart=>exact⟨k,_,_,_,_,_,_,_,_,_,_,rfl,by omega,by omega,by omega,hS2⟩
  case round=>
   clear hS2;obtain⟨k,nw,sf,ao2,n2,c2,f2,bo2,d2,t2,q,rfl,hk,hq2,hq3,hS⟩:=hrel;obtain⟨y0,y1,y2,y3,y4⟩:=hS.bx.cells;have h6:=hS.bok.six;by_cases hk0:0<k
   .have hk':(0:Int)<k:=by omega
    have hwk:IntKind.i64.wrap ((k:Int)-1)=(k:Int)-1:=by rw[IntKind.wrap_i64];omega
    have HE:=λq' (h1:q<=q') (h2:q'<=q+1) W (hS':Rs R n₀ w N w.heap.size q' nw sf ao2 n2 c2 f2 bo2 d2 t2 W)=>vF R q' nw sf ao2 n2 c2 f2 bo2 d2 t2 W n₀ h0 hS'.rd (by omega) hS'.bok
    by_cases h4:4<n2;focus
     have h4':(4:Int)<n2:=by omega
     have H6:=aH R q 6 wr n₀ h0 hS.rd (by omega) (by omega) (by omega);go_wp2_with(first
      |(go_at_call 22;refine H6.mono ?_;clear H6;rintro e w3 ⟨⟨z3,rfl,l3,u3⟩,r3,t3,b3⟩;have hS3:=hS.to (by omega) (by omega) r3 t3 b3;obtain⟨y0,y1,y2,y3,y4⟩:=hS3.bx.cells)
      |(go_at_call 129;refine(sw nw sf ao2 n2 c2 f2 bo2 d2 t2 _ hS3.bok).mono ?_;rintro e w6 ⟨⟨nw3,sf3,ao3,n3,c3,f3,bo3,d3,t3',sa,sn,sc,k3,rfl,hbok⟩,b6⟩;have hS6:=hS3.grow h0 b6;obtain⟨y0,y1,y2,y3,y4⟩:=hS6.bx.cells;obtain⟨W,eW,hS7⟩:=hS6.put h0 hR (by omega) (by omega) (hbok.mono (by have:=hS3.rd.lt;omega)))
      |(go_at_call 130;refine(HE (q+1) (by omega) (by omega) _ hS3).mono ?_;rintro e w6 ⟨⟨nw3,sf3,ao3,n3,c3,f3,bo3,d3,t3',rfl,hbok⟩,⟨q6,hq6,hq7,r6⟩,t6,b6⟩;have hS6:=hS3.to (by omega) (by omega) r6 t6 b6;obtain⟨y0,y1,y2,y3,y4⟩:=hS6.bx.cells;obtain⟨W,eW,hS7⟩:=hS6.put h0 hR (by omega) (by omega) hbok))
    rotate_right;focus
     have h4':¬(4:Int)<n2:=by omega
     go_wp2_with(go_at_call 130;refine(HE q (by omega) (by omega) _ hS).mono ?_;rintro e w6 ⟨⟨nw3,sf3,ao3,n3,c3,f3,bo3,d3,t3',rfl,hbok⟩,⟨q6,hq6,hq7,r6⟩,t6,b6⟩;have hS6:=hS.to (by omega) (by omega) r6 t6 b6;obtain⟨y0,y1,y2,y3,y4⟩:=hS6.bx.cells;obtain⟨W,eW,hS7⟩:=hS6.put h0 hR (by omega) (by omega) hbok)
    all_goals first|(exfalso;omega)|skip
    all_goals
     go_roundw
     case rel=>exact⟨k-1,_,_,_,_,_,_,_,_,_,_,by first|(rw[hwk];congr 1;omega)|(congr 1;omega)|(simp;omega),by omega,by omega,by omega,hS7⟩
     case measure=>simp[intOf];omega
   .have hk':¬(0:Int)<k:=by omega
    go_wp2;all_goals first|(exfalso;omega)|skip
    exact⟨_,_,_,_,_,_,_,_,_,_,by omega,by omega,hS,rfl,rfl⟩
 rintro a' w2 ⟨nw,sf,ao2,n2,c2,f2,bo2,d2,t2,q2,hq2,hq3,hS2,hfr⟩;clear u hS;obtain⟨u,rfl⟩:=hfr.open;clear hfr;obtain⟨y0,y1,y2,y3,y4⟩:=hS2.bx.cells;obtain⟨r0,r1,r2,r3,r4⟩:=hS2.rs.cells;go_wp2;obtain⟨W5,e5,k5,hbk5,hrd5,hbt5,hbl5⟩:=hS2.fin h0 hR (by omega);rw[e5];obtain⟨q0',q1',q2',q3',q4'⟩:=k5.cells;exact bodyPost_ret (v:=.agg #[.int .i64 nw,.int .i64 sf,.slice ao2 n2 c2,.slice bo2 n2 d2]) (by simp[results,Tryz.f73,go_sem,q0',q1',q2',q3']) rfl ⟨⟨nw,sf,ao2,n2,c2,f2,bo2,d2,t2,rfl,hbk5⟩,⟨_,hq2,hq3,hrd5⟩,hbt5,hbl5⟩
end Go.Proofs.YtlmcblcijndipaaGreat
