import Derived.Test.YtlmcblcijndipaaGreatM47
import Derived.Test.YtlmcblcijndipaaGreatM46
import Derived.Test.YtlmcblcijndipaaGreatM33
set_option linter.unusedVariables false
set_option linter.unusedSimpArgs false
set_option maxHeartbeats 8000000
set_option maxRecDepth 10000
namespace Go.Proofs.YtlmcblcijndipaaGreat
open Go Go.RowKit
theorem qG {m:Mv}(h:m.ok=true):m.Fits:=by
 have b:=Mv.ok_bd h;exact⟨by have:=uD h;unfold maxLen;omega,iA (by omega),iA (by omega),iA (by omega),iA (by omega)⟩
theorem qH {m:Mv}(h:m.ok=true):Good m:=by
 have b:=Mv.ok_bd h;exact⟨uD h,b.2.2.2.2,⟨b.1,b.2.1,b.2.2.1⟩,by omega⟩
def gh (w:World)(lo b n:Nat)(t:Nat->Int):Prop:=lo<=b/\(∃cs,w.heap[b]?=some (.cells cs 3 (0,0)))/\ak w b 0 n t
theorem gh.of {w:World}{lo b n c:Nat}{t:Nat->Int}(h:w.ownsRow lo 3 1 (.slice (some ⟨b,0,none⟩) n c) n (dh t n)):gh w lo b n t:=by
 refine⟨?_,mI h rfl,sr h⟩;obtain⟨h1,h2|⟨g,cap',cur,h2,h3,h4⟩⟩:=h
 .exact absurd h2.1 (by simp)
 .simp at h2;omega
theorem gh.ofInts {w:World}{lo b n:Nat}{t:Nat->Int}(h:aq w b n t)(hl:lo<=b):gh w lo b n t:=by
 obtain⟨⟨cs,h1,h2⟩,h3⟩:=h;exact⟨hl,⟨cs,h1⟩,h3⟩
theorem gh.lt {w:World}{lo b n:Nat}{t:Nat->Int}(h:gh w lo b n t):b<w.heap.size:=by
 obtain⟨_,⟨cs,h1⟩,_⟩:=h;exact(Array.getElem?_eq_some_iff.1 h1).1
theorem gh.same {w w':World}{lo b n:Nat}{t:Nat->Int}(h:gh w lo b n t)(e:w'.heap[b]?=w.heap[b]?):gh w' lo b n t:=by
 obtain⟨h1,⟨cs,h2⟩,h3⟩:=h;exact⟨h1,⟨cs,e.trans h2⟩,λi hi=>(World.cell?_of_block (a:=⟨b,0+i,none⟩) e).trans (h3 i hi)⟩
structure iE (w:World)(lo:Nat)(now shift:Int)(ao:Option Addr)(n c:Nat)(f:Nat->Mv)(bo:Option Addr)(d:Nat)(t:Nat->Int):Prop where
 now:0<=now/\now<=10000
 sh:0<=shift/\shift<=6
 six:n<=6
 ok:∀i,i<n->(f i).ok=true
 mem:(ao=none/\bo=none/\n=0/\c=0/\d=0)\/∃b b',ao=some ⟨b,0,none⟩/\bo=some ⟨b',0,none⟩/\w.ownsRow lo 42 6 (.slice (some ⟨b,0,none⟩) n c) n (aS f n)/\n<=d/\gh w lo b' n t
section
variable {w w':World}{lo:Nat}{now shift:Int}{ao:Option Addr}{n c:Nat}{f:Nat->Mv}{bo:Option Addr}{d:Nat}{t:Nat->Int}
theorem cj {base:Nat}{e:TypeId}{size b m cap:Nat}{xs:List Value}(h:w.ownsRow base e size (.slice (some ⟨b,0,none⟩) m cap) m xs):base<=b/\b<w.heap.size/\m<=cap:=by
 obtain⟨h1,h2|⟨g,cap',cur,h2,h3,h4,h5⟩⟩:=h
 .exact absurd h2.1 (by simp)
 .simp at h2;obtain⟨rfl,rfl⟩:=h2;exact⟨h3,(Array.getElem?_eq_some_iff.1 h4).1,h5.1⟩
theorem iE.srcM (h:iE w lo now shift ao n c f bo d t):vu w ao n c f:=by
 rcases h.mem with⟨rfl,rfl,rfl,rfl,rfl⟩|⟨b,b',rfl,rfl,o1,hd,o2⟩
 .exact⟨λ_=>⟨rfl,rfl⟩,λad had=>by cases had⟩
 .exact⟨(λh=>nomatch h),λad had=>by cases had;exact⟨b,rfl,(cj o1).2.1,bI o1⟩⟩
theorem iE.srcI (h:iE w lo now shift ao n c f bo d t):xw w bo n d t:=by
 rcases h.mem with⟨rfl,rfl,rfl,rfl,rfl⟩|⟨b,b',rfl,rfl,o1,hd,o2⟩
 .exact⟨λ_=>⟨rfl,rfl⟩,λad had=>by cases had⟩
 .exact⟨(λh=>nomatch h),λad had=>by cases had;exact⟨b',rfl,o2.lt,o2.2.2⟩⟩
theorem iE.same (h:iE w lo now shift ao n c f bo d t)(e:∀b,lo<=b->b<w.heap.size->w'.heap[b]?=w.heap[b]?):iE w' lo now shift ao n c f bo d t:=by
 refine⟨h.now,h.sh,h.six,h.ok,?_⟩;rcases h.mem with hm|⟨b,b',h1,h2,o1,hd,o2⟩
 .exact .inl hm
 .exact .inr ⟨b,b',h1,h2,ai o1 (λB hB=>e B (o1.lt B hB).1 (o1.lt B hB).2),hd,o2.same (e b' o2.1 o2.lt)⟩
theorem iE.below (h:iE w lo now shift ao n c f bo d t)(hb:Below w.heap.size w w'):iE w' lo now shift ao n c f bo d t:=h.same λb _ hl=>hb.block b hl
theorem iE.mono (h:iE w lo now shift ao n c f bo d t){lo':Nat}(hl:lo'<=lo):iE w lo' now shift ao n c f bo d t:=by
 refine⟨h.now,h.sh,h.six,h.ok,?_⟩;rcases h.mem with hm|⟨b,b',h1,h2,o1,hd,o2⟩
 .exact .inl hm
 .exact .inr ⟨b,b',h1,h2,aU o1 hl,hd,Nat.le_trans hl o2.1,o2.2⟩
theorem vB (h0:0<=now/\now<=10000)(h1:0<=shift/\shift<=6):bc now shift f 0 t 0=true:=
 lG (im.mpr h0) (im.mpr h1) ((fB (by simp[ap])).mpr (nA f t)) (by simp[iz])
theorem iE.book (h:iE w lo now shift ao n c f bo d t):
  Calls Tryz0.prog 18 #[.agg #[.int .i64 now,.int .i64 shift,.slice ao n c,.slice bo n d]] w λe w'=>e=.returned (.bool (bc now shift f n t n))/\Below w.heap.size w w':=by
 rcases h.mem with⟨rfl,rfl,rfl,rfl,rfl⟩|⟨b,b',rfl,rfl,o1,hd,o2⟩
 .rw[vB h.now h.sh];exact iu now shift w h.now h.sh
 .exact iq now shift b 0 n c f b' 0 n d t w (by have:=h.six;omega) (by have:=h.six;unfold maxLen;omega) (cj o1).2.1 (bI o1) (λi hi=>qG (h.ok i hi)) o2.lt o2.2.2
end
def Ev (w:World)(e:Ending)(w':World):Prop:=∃(now shift:Int) (ao:Option Addr) (n c:Nat) (f:Nat->Mv) (bo:Option Addr) (d:Nat) (t:Nat->Int) (k:Int),e=.returned (.tuple #[.agg #[.int .i64 now,.int .i64 shift,.slice ao n c,.slice bo n d],.int .i64 k])/\iE w' w.heap.size now shift ao n c f bo d t
theorem qI (w:World)(lo:Nat):iE w lo 0 0 none 0 0 (λ_=>lH) none 0 (λ_=>0):=⟨by omega,by omega,by omega,λi hi=>absurd hi (Nat.not_lt_zero _),.inl ⟨rfl,rfl,rfl,rfl,rfl⟩⟩
theorem dN (w:World)(x0 x1:Int)(x2:Option Addr)(l2 c2:Nat)(x3:Option Addr)(l3 c3:Nat):∃W,w.alloc (.cells #[.int .i64 x0,.int .i64 x1,.slice x2 l2 c2,.slice x3 l3 c3] 38)=W/\ar W w.heap.size x0 x1 (.slice x2 l2 c2) (.slice x3 l3 c3)/\Below w.heap.size w W/\W.heap.size=w.heap.size+1:=
 ⟨_,rfl,heap_alloc_new w _,(Below.refl _ w).alloc (Nat.le_refl _) _,by simp⟩
theorem bg {w W:World}{N R:Nat}{y0 y1:Int}{y2 y3:Value}(hr:ar W R y0 y1 y2 y3)(hb:Below N w W)(hR:N<=R)(x0 x1:Int)(x2:Option Addr)(l2 c2:Nat)(x3:Option Addr)(l3 c3:Nat):∃W',((((W.setCell ⟨R,0,none⟩ (.int .i64 x0)).setCell ⟨R,1,none⟩ (.int .i64 x1)).setCell ⟨R,2,none⟩ (.slice x2 l2 c2)).setCell ⟨R,3,none⟩ (.slice x3 l3 c3))=W'/\ar W' R x0 x1 (.slice x2 l2 c2) (.slice x3 l3 c3)/\Below N w W'/\W'.heap.size=W.heap.size/\∀k,k≠R->W'.heap[k]?=W.heap[k]?:=by
 refine⟨_,rfl,?_,(((hb.setCell hR _).setCell hR _).setCell hR _).setCell hR _,by simp,λk hk=>?_⟩
 .rw[kH hr];exact setRow_heap _ _ _ _ _ _ hr
 .rw[Below.heap_setCell _ _ _ _ (by simpa using hk),Below.heap_setCell _ _ _ _ (by simpa using hk),Below.heap_setCell _ _ _ _ (by simpa using hk),Below.heap_setCell _ _ _ _ (by simpa using hk)]
theorem pL {w:World}{b n k:Nat}{f:Nat->Mv}(h:aw w b 0 n f)(hk:k<=n):aw w b (k*6) (n-k) (λj=>f (k+j)):=λi hi=>by
 have:=h (k+i) (by omega);rw[show 0+(k+i)*6=k*6+i*6 by omega]at this;exact this
theorem jt {w:World}{b n k:Nat}{f:Nat->Mv}(h:aw w b 0 n f)(hk:k<=n):aw w b 0 k f:=λi hi=>h i (by omega)
theorem oK (b n cap k:Nat)(f:Nat->Mv)(w:World)(hn:n<=6)(hk:k<n)(hcap:n<=cap)(hbs:b<w.heap.size)(hrow:aw w b 0 n f):
  Calls Tryz0.prog 154 #[.slice (some ⟨b,0,none⟩) n cap,.int .i64 k] w λe w'=>(∃B c,e=.returned (.slice (some ⟨B,0,none⟩) (n-1) c)/\w'.ownsRow w.heap.size 42 6 (.slice (some ⟨B,0,none⟩) (n-1) c) (n-1) (aS (fg f k) (n-1)))/\Below w.heap.size w w':=by
 obtain⟨iM,hI,hz0,hz1,hz2⟩:=ep;have hkc:(k:Int)<=cap:=by omega
 have hk0:(0:Int)<=(k:Int)+1:=by omega
 have hk1:(k:Int)+1<=n:=by omega
 have hk2:(k:Int)+1<=cap:=by omega
 have hwr:IntKind.i64.wrap ((k:Int)+1)=(k:Int)+1:=by rw[IntKind.wrap_i64];omega
 have bA:Below w.heap.size w (w.alloc (.cells #[] 42)).drew:=((Below.refl _ w).alloc (Nat.le_refl _) _).drew;have o1:(w.alloc (.cells #[] 42)).drew.ownsRow w.heap.size 42 6 (.slice (some ⟨w.heap.size,0,none⟩) 0 0) 0 []:=kZ (Nat.le_refl _);have hC:∀W,Below w.heap.size w W->∀ad,(if cap=k+1 then some (⟨b,0,none⟩:Addr)else some ⟨b,(k+1)*6,none⟩)=some ad->∀j u,(aS (λj=>f (k+1+j)) (n-(k+1)))[j]?=some u->W.cell? (ad.add j)=some u:=λW hW ad had=>by
  split at had
  .have:n-(k+1)=0:=by omega
   rw[this];intro j u h;simp[aS]at h
  .cases had;exact cE ((pL hrow (by omega)).below hW hbs)
 go_enter Tryz0.func154,Tryz.ntmps154
 go_wp2;go_region_law (first
  |(refine aD rfl (.tmp 5) (.tmp 8) 23 rfl 42 iM _ 6 56 aG hI hz0 hz1 hz2 rfl (by decide) w.heap.size (.slice (some ⟨w.heap.size,0,none⟩) 0 0) 0 [] (by rfl) o1 (by intro h;cases h) (some ⟨b,0,none⟩) k cap (aS f k) (by rfl) (bH f k) (by intro h;cases h) (λad had=>by cases had;exact cE ((jt hrow (by omega)).below bA hbs)) (da f k) (by unfold maxLen;omega) (by omega) bA.size ?_;intro v2 w2 ho2 hs2 hg2;simp only[Nat.zero_add,List.nil_append]at ho2;have B2:Below w.heap.size w w2:=bA.grown hg2 bA.size (λq hq=>by simp[Value.ownBlock]at hq;omega);clear hg2)
  |(refine aD rfl (.tmp 9) (.tmp 13) 23 rfl 42 iM _ 6 56 aG hI hz0 hz1 hz2 rfl (by decide) w.heap.size v2 k (aS f k) (by rfl) ho2 hs2 (if cap=k+1 then some (⟨b,0,none⟩:Addr)else some ⟨b,(k+1)*6,none⟩) (n-(k+1)) (cap-(k+1)) (aS (λj=>f (k+1+j)) (n-(k+1))) (by rfl) (bH _ _) (by split<;>(intro h;cases h)) (hC _ B2) (da _ _) (by unfold maxLen;omega) (by omega) B2.size ?_;intro v3 w3 ho3 hs3 hg3;rw[xB f k n hk,show k+(n-(k+1))=n-1 by omega]at ho3;have B3:Below w.heap.size w w3:=B2.grown hg3 B2.size (λq hq=>(ho2.lt q hq).1);obtain⟨b3,c3,rfl⟩:=je ho3 hs3;clear hg3 B2 ho2))
 go_wp2;all_goals
  go_ret;exact⟨⟨b3,c3,rfl,ho3⟩,B3⟩
theorem aP.keep {w w':World}{b:Nat}{m:Mv}(h:aP w b m)(e:w'.heap[b]?=w.heap[b]?):aP w' b m:=e.trans h
structure Bf (B:Nat)(m:Mv)(W:World):Prop where
 c0:W.cell? ⟨B,0,none⟩=some (.string m.name)
 c1:W.cell? ⟨B,1,none⟩=some (.bool m.lands)
 c2:W.cell? ⟨B,2,none⟩=some (.int .i64 m.wake)
 c3:W.cell? ⟨B,3,none⟩=some (.int .i64 m.est)
 c4:W.cell? ⟨B,4,none⟩=some (.int .i64 m.late)
 c5:W.cell? ⟨B,5,none⟩=some (.int .i64 m.prom)
theorem fh {W:World}{B:Nat}{m:Mv}(h:aP W B m):Bf B m W:=by
 obtain⟨c0,c1,c2,c3,c4,c5⟩:=h.at_;exact⟨c0,c1,c2,c3,c4,c5⟩
structure Pu (w:World)(m:Mv)(v:Value)(n:Nat)(xs:List Value)(o:Option Nat)(W:World):Prop where
 below:Below w.heap.size w W
 own:W.ownsRow w.heap.size 42 6 v n xs
 one:∀Y,o=some Y->W.heap[Y]?=some (.cells m.cells 42 (0,0))
section
variable {w:World}{m:Mv}{v:Value}{n:Nat}{xs:List Value}{o:Option Nat}{W:World}
theorem Pu.at_ {B:Nat}(h:Pu w m v n xs o W)(hm:aP w B m)(hB:B<w.heap.size):Bf B m W:=fh (hm.keep (h.below.block B hB))
theorem Pu.newE (h:Pu w m v n xs o W):Pu w m (.slice (some ⟨W.heap.size,0,none⟩) 0 0) 0 [] o (W.alloc (.cells #[] 42)):=
 ⟨h.below.alloc h.below.size _,kZ h.below.size,λY hY=>(Below.heap_alloc _ _ _ (Array.getElem?_eq_some_iff.1 (h.one Y hY)).1).trans (h.one Y hY)⟩
theorem Pu.newX (h:Pu w m v n xs o W):Pu w m v n xs (some W.heap.size) (W.alloc (.cells #[.string m.name,.bool m.lands,.int .i64 m.wake,.int .i64 m.est,.int .i64 m.late,.int .i64 m.prom] 42)):=
 ⟨h.below.alloc h.below.size _,ai h.own (λB hB=>Below.heap_alloc _ _ _ (h.own.lt B hB).2),λY hY=>by cases hY;exact heap_alloc_new W _⟩
theorem Pu.app (h:Pu w m v n xs o W){v':Value}{n':Nat}{x':List Value}{W':World}(ho:W'.ownsRow w.heap.size 42 6 v' n' x')(g:W.grownBy W' v.ownBlock)(hs:∀Y,o=some Y->v.ownBlock≠some Y):Pu w m v' n' x' o W':=
 ⟨h.below.grown g h.below.size (λq hq=>(h.own.lt q hq).1),ho,λY hY=>(g.block Y (Array.getElem?_eq_some_iff.1 (h.one Y hY)).1 (λe=>hs Y hY e.symm)).trans (h.one Y hY)⟩
theorem Pu.app2 (h:Pu w m v n xs o W){v':Value}{n':Nat}{x':List Value}{W':World}(ho:W'.ownsRow w.heap.size 42 6 v' n' x')(g:W.grownBy W' v.ownBlock):Pu w m v' n' x' none W':=
 ⟨h.below.grown g h.below.size (λq hq=>(h.own.lt q hq).1),ho,λY hY=>by cases hY⟩
end
def yV (f:Nat->Mv)(n:Nat)(m:Mv)(w:World)(e:Ending)(w':World):Prop:=∃B c k,e=.returned (.slice (some ⟨B,0,none⟩) (n+1) c)/\k<=n/\(∀j,j<k->aW (f j).name m.name=true)/\(k<n->aW (f k).name m.name=false)/\w'.ownsRow w.heap.size 42 6 (.slice (some ⟨B,0,none⟩) (n+1) c) (n+1) (aS (ge f k m) (n+1))
theorem vC (b n cap:Nat)(f:Nat->Mv)(m:Mv)(w:World)(hn:n<=6)(hcap:n<=cap)(hbs:b<w.heap.size)(hrow:aw w b 0 n f):
  Calls Tryz0.prog 153 #[.slice (some ⟨b,0,none⟩) n cap,.agg #[.string m.name,.bool m.lands,.int .i64 m.wake,.int .i64 m.est,.int .i64 m.late,.int .i64 m.prom]] w λe w'=>yV f n m w e w'/\Below w.heap.size w w':=by
 obtain⟨iM,hI,hz0,hz1,hz2⟩:=ep;have bA:Below w.heap.size w (w.alloc (.cells #[.string m.name,.bool m.lands,.int .i64 m.wake,.int .i64 m.est,.int .i64 m.late,.int .i64 m.prom] 42)):=(Below.refl _ w).alloc (Nat.le_refl _) _;have mA:aP (w.alloc (.cells #[.string m.name,.bool m.lands,.int .i64 m.wake,.int .i64 m.est,.int .i64 m.late,.int .i64 m.prom] 42)) w.heap.size m:=heap_alloc_new _ _;go_enter Tryz0.func153,Tryz.ntmps153
 go_wp2;go_loopw [5] (λx W=>∃k:Nat,x=.int .i64 k/\k<=n/\Below w.heap.size w W/\aP W w.heap.size m/\∀j,j<k->aW (f j).name m.name=true) (λx _=>n-(intOf x).toNat)
 case atStart=>exact⟨0,rfl,Nat.zero_le _,bA,mA,λj hj=>absurd hj (Nat.not_lt_zero _)⟩
 case round=>
  clear bA mA;obtain⟨k,rfl,hk,hB,hm,hls⟩:=hrel;have lb:=Nat.lt_of_lt_of_le hbs hB.size;have lm:w.heap.size<wr.heap.size:=(Array.getElem?_eq_some_iff.1 hm).1;have hne:=ax wr;have x1:=λx:af wr=>x.cell (fh hm).c0
  by_cases hgo:k<n/\aW (f k).name m.name=true
  .obtain⟨hlt,hL⟩:=hgo;have hlt':(k:Int)<n:=by omega
   have hL':Op.bytesLess (f k).name.toList m.name.toList=true:=hL;have c0:=(hrow.below hB hbs k hlt).c0;simp only[Nat.zero_add]at c0;have x0:=λx:af wr=>x.cell c0
   go_wp2;refine ac (by kernel_rfl) (by kernel_rfl) ?_;repeat(go_big_quiet_step (fail))
   refine wpQuiet_nil (ag ?_);intro w2 hb2;go_wp2;all_goals first|(exfalso;omega)|skip
   go_roundw
   case rel=>exact⟨k+1,by go_num,by omega,hB.trans (hb2.mono hB.size),hm.keep (hb2.block _ lm),λj hj=>by
    by_cases e:j=k
    .subst e;exact hL
    .exact hls j (by omega)⟩
   case measure=>simp[intOf];omega
  have hst:k<n->aW (f k).name m.name=false:=λh=>by
   cases hL:aW (f k).name m.name with
   |false=>rfl
   |true=>exact absurd ⟨h,hL⟩ hgo
  by_cases hlt:k<n;focus
   have hlt':(k:Int)<n:=by omega
   have hL':Op.bytesLess (f k).name.toList m.name.toList=false:=hst hlt;have c0:=(hrow.below hB hbs k hlt).c0;simp only[Nat.zero_add]at c0;have x0:=λx:af wr=>x.cell c0
   go_wp2;refine ac (by kernel_rfl) (by kernel_rfl) ?_;repeat(go_big_quiet_step (fail))
   refine wpQuiet_nil (ag ?_);intro w2 hb2;go_wp2;all_goals first|(exfalso;omega)|skip
  rotate_left;focus
   have hlt':¬(k:Int)<n:=by omega
   have hz:decide (k<n)=false:=by simpa using hlt
   go_wp2;refine ac (by kernel_rfl) (by kernel_rfl) ?_;repeat(go_big_quiet_step (fail))
   refine wpQuiet_nil (ag ?_);intro w2 hb2;go_wp2;all_goals first|(exfalso;omega)|skip
  all_goals
   have hB2:Below w.heap.size w w2.drew:=(hB.trans (hb2.mono hB.size)).drew;have hmv:aP w2.drew w.heap.size m:=hm.keep (hb2.block _ lm);have row2:aw w2.drew b 0 n f:=hrow.below hB2 hbs;have lb2:b<w2.drew.heap.size:=Nat.lt_of_lt_of_le hbs hB2.size;have hlt0:w.heap.size<w2.drew.heap.size:=(Array.getElem?_eq_some_iff.1 hmv).1;refine wp_region_held_drew (S:=Bf w.heap.size m) (by kernel_rfl) (fh hmv) (λhHeld=>?_);revert hHeld hB2 hmv row2 lb2 hlt0;generalize w2.drew=w3;intro hB2 hmv row2 lb2 hlt0 hHeld;have hkc:(k:Int)<=cap:=by omega
   have hk0:(0:Int)<=k:=by omega
   have hkn:(k:Int)<=n:=by omega
   have hCl:∀W,Below w3.heap.size w3 W->∀ad,(if cap=k then some (⟨b,0,none⟩:Addr)else some ⟨b,k*6,none⟩)=some ad->∀j u,(aS (λj=>f (k+j)) (n-k))[j]?=some u->W.cell? (ad.add j)=some u:=λW hW ad had=>by
    split at had
    .have:n-k=0:=by omega
     rw[this];intro j u h;simp[aS]at h
    .cases had;exact cE ((pL row2 hk).below hW lb2)
   have hC:Pu w3 m (.slice none 0 0) 0 [] none w3:=⟨Below.refl _ _,⟨rfl,.inl ⟨rfl,rfl⟩⟩,λY hY=>by cases hY⟩;refine aB (i:=1) (v:=.slice (some ⟨b,0,none⟩) n cap) 23 rfl rfl (by kernel_rfl) (by kernel_rfl) (by kernel_rfl) (λ_ _ _ h=>h) (Or.inl ⟨by rfl,λw' hSw=>by(obtain⟨s0,s1,s2,s3,s4,s5⟩:=hSw;go_simp)⟩) hHeld ?_;simp only[Act.put,List.setIfInBounds_toArray,List.set_cons_zero,List.set_cons_succ];refine aB (i:=2) (v:=.int .i64 (k:Int)) 24 rfl rfl (by kernel_rfl) (by kernel_rfl) (by kernel_rfl) (λ_ _ _ h=>h) (Or.inl ⟨by rfl,λw' hSw=>by(obtain⟨s0,s1,s2,s3,s4,s5⟩:=hSw;go_simp)⟩) hHeld ?_;simp only[Act.put,List.setIfInBounds_toArray,List.set_cons_zero,List.set_cons_succ];refine aB (i:=3) (v:=.slice (some ⟨b,0,none⟩) k cap) 25 rfl rfl (by kernel_rfl) (by kernel_rfl) (by kernel_rfl) (λ_ _ _ h=>h) (Or.inl ⟨by rfl,λw' hSw=>by(obtain⟨s0,s1,s2,s3,s4,s5⟩:=hSw;go_simp)⟩) hHeld ?_;simp only[Act.put,List.setIfInBounds_toArray,List.set_cons_zero,List.set_cons_succ];refine aB (i:=5) (v:=.agg #[.string m.name,.bool m.lands,.int .i64 m.wake,.int .i64 m.est,.int .i64 m.late,.int .i64 m.prom]) 27 rfl rfl (by kernel_rfl) (by kernel_rfl) (by kernel_rfl) (λ_ _ _ h=>h) (Or.inl ⟨by rfl,λw' hSw=>by(obtain⟨s0,s1,s2,s3,s4,s5⟩:=hSw;go_simp)⟩) hHeld ?_;simp only[Act.put,List.setIfInBounds_toArray,List.set_cons_zero,List.set_cons_succ];refine aB (i:=8) (v:=.slice (some ⟨b,0,none⟩) n cap) 30 rfl rfl (by kernel_rfl) (by kernel_rfl) (by kernel_rfl) (λ_ _ _ h=>h) (Or.inl ⟨by rfl,λw' hSw=>by(obtain⟨s0,s1,s2,s3,s4,s5⟩:=hSw;go_simp)⟩) hHeld ?_;simp only[Act.put,List.setIfInBounds_toArray,List.set_cons_zero,List.set_cons_succ];refine aB (i:=9) (v:=.int .i64 (k:Int)) 31 rfl rfl (by kernel_rfl) (by kernel_rfl) (by kernel_rfl) (λ_ _ _ h=>h) (Or.inl ⟨by rfl,λw' hSw=>by(obtain⟨s0,s1,s2,s3,s4,s5⟩:=hSw;go_simp)⟩) hHeld ?_;simp only[Act.put,List.setIfInBounds_toArray,List.set_cons_zero,List.set_cons_succ];refine aB (i:=10) (v:=.slice (if cap=k then some ⟨b,0,none⟩else some ⟨b,k*6,none⟩) (n-k) (cap-k)) 32 rfl rfl (by kernel_rfl) (by kernel_rfl) (by kernel_rfl) (λ_ _ _ h=>h) (Or.inl ⟨by rfl,λw' hSw=>by(obtain⟨s0,s1,s2,s3,s4,s5⟩:=hSw;go_simp)⟩) hHeld ?_;simp only[Act.put,List.setIfInBounds_toArray,List.set_cons_zero,List.set_cons_succ];refine wpAnyH_ready (rs:=[0,6]) (by kernel_rfl) (by simp) ?_;refine AllReadyH.cons rfl (λK hK=>?_) (AllReadyH.cons rfl (λK hK=>?_) AllReadyH.nil);focus
    go_simp
    have hC:=hC.newE;try simp only[World.size_alloc,World.size_drew]at hC
    refine hK.out _ _ (hC.at_ hmv hlt0) (λhHeld=>?_);clear hK K;refine wpAnyH_ready (rs:=[4,6]) (by kernel_rfl) (by simp) ?_;refine AllReadyH.cons rfl (λK hK=>?_) (AllReadyH.cons rfl (λK hK=>?_) AllReadyH.nil);focus
     refine aD rfl (.tmp 22) (.tmp 25) 23 rfl 42 iM _ 6 56 aG hI hz0 hz1 hz2 rfl (by decide) w3.heap.size _ 0 [] (by rfl) hC.own (by intro h;cases h) (some ⟨b,0,none⟩) k cap (aS f k) (by rfl) (bH f k) (by intro h;cases h) (λad had=>by cases had;exact cE ((jt row2 hk).below hC.below lb2)) (da f k) (by unfold maxLen;omega) (by omega) hC.below.size ?_;intro v4 w4 ho4 hs4 hg4;simp only[Nat.zero_add,List.nil_append]at ho4;have hC:=hC.app ho4 hg4 (by intro Y hY;cases hY);clear ho4 hg4;refine hK.out _ _ (hC.at_ hmv hlt0) (λhHeld=>?_);clear hK K;refine wpAnyH_ready (rs:=[6]) (by kernel_rfl) (by simp) ?_;refine AllReadyH.cons rfl (λK hK=>?_) AllReadyH.nil;go_simp
     have hC:=hC.newX;try simp only[World.size_alloc,World.size_drew]at hC
     refine hK.out _ _ (hC.at_ hmv hlt0) (λhHeld=>?_);clear hK K;refine wpAnyH_ready (rs:=[7]) (by kernel_rfl) (by simp) ?_;refine AllReadyH.cons rfl (λK hK=>?_) AllReadyH.nil;refine aD rfl (.tmp 26) (.tmp 28) 23 rfl 42 iM _ 6 56 aG hI hz0 hz1 hz2 rfl (by decide) w3.heap.size v4 k (aS f k) (by rfl) hC.own hs4 (some ⟨_,0,none⟩) 1 1 m.cells.toList (by rfl) rfl (by intro h;cases h) (λad had=>by cases had;exact oF (hC.one _ rfl)) (eh m) (by unfold maxLen;omega) (by omega) hC.below.size ?_;intro v5 w5 ho5 hs5 hg5;have hC:=hC.app2 ho5 hg5;clear ho5 hg5;refine hK.out _ _ (hC.at_ hmv hlt0) (λhHeld=>?_);clear hK K
    rotate_left;focus
     go_simp
     have hC:=hC.newX;try simp only[World.size_alloc,World.size_drew]at hC
     refine hK.out _ _ (hC.at_ hmv hlt0) (λhHeld=>?_);clear hK K;refine wpAnyH_ready (rs:=[4]) (by kernel_rfl) (by simp) ?_;refine AllReadyH.cons rfl (λK hK=>?_) AllReadyH.nil;refine aD rfl (.tmp 22) (.tmp 25) 23 rfl 42 iM _ 6 56 aG hI hz0 hz1 hz2 rfl (by decide) w3.heap.size _ 0 [] (by rfl) hC.own (by intro h;cases h) (some ⟨b,0,none⟩) k cap (aS f k) (by rfl) (bH f k) (by intro h;cases h) (λad had=>by cases had;exact cE ((jt row2 hk).below hC.below lb2)) (da f k) (by unfold maxLen;omega) (by omega) hC.below.size ?_;intro v4 w4 ho4 hs4 hg4;simp only[Nat.zero_add,List.nil_append]at ho4;have hC:=hC.app ho4 hg4 (by intro Y hY;cases hY;simp[Value.ownBlock]);clear ho4 hg4;refine hK.out _ _ (hC.at_ hmv hlt0) (λhHeld=>?_);clear hK K;refine wpAnyH_ready (rs:=[7]) (by kernel_rfl) (by simp) ?_;refine AllReadyH.cons rfl (λK hK=>?_) AllReadyH.nil;refine aD rfl (.tmp 26) (.tmp 28) 23 rfl 42 iM _ 6 56 aG hI hz0 hz1 hz2 rfl (by decide) w3.heap.size v4 k (aS f k) (by rfl) hC.own hs4 (some ⟨_,0,none⟩) 1 1 m.cells.toList (by rfl) rfl (by intro h;cases h) (λad had=>by cases had;exact oF (hC.one _ rfl)) (eh m) (by unfold maxLen;omega) (by omega) hC.below.size ?_;intro v5 w5 ho5 hs5 hg5;have hC:=hC.app2 ho5 hg5;clear ho5 hg5;refine hK.out _ _ (hC.at_ hmv hlt0) (λhHeld=>?_);clear hK K
   rotate_left 2;focus
    go_simp
    have hC:=hC.newX;try simp only[World.size_alloc,World.size_drew]at hC
    refine hK.out _ _ (hC.at_ hmv hlt0) (λhHeld=>?_);clear hK K;refine wpAnyH_ready (rs:=[0]) (by kernel_rfl) (by simp) ?_;refine AllReadyH.cons rfl (λK hK=>?_) AllReadyH.nil;go_simp
    have hC:=hC.newE;try simp only[World.size_alloc,World.size_drew]at hC
    refine hK.out _ _ (hC.at_ hmv hlt0) (λhHeld=>?_);clear hK K;refine wpAnyH_ready (rs:=[4]) (by kernel_rfl) (by simp) ?_;refine AllReadyH.cons rfl (λK hK=>?_) AllReadyH.nil;refine aD rfl (.tmp 22) (.tmp 25) 23 rfl 42 iM _ 6 56 aG hI hz0 hz1 hz2 rfl (by decide) w3.heap.size _ 0 [] (by rfl) hC.own (by intro h;cases h) (some ⟨b,0,none⟩) k cap (aS f k) (by rfl) (bH f k) (by intro h;cases h) (λad had=>by cases had;exact cE ((jt row2 hk).below hC.below lb2)) (da f k) (by unfold maxLen;omega) (by omega) hC.below.size ?_;intro v4 w4 ho4 hs4 hg4;simp only[Nat.zero_add,List.nil_append]at ho4;have hC:=hC.app ho4 hg4 (by intro Y hY;cases hY;simp[Value.ownBlock]);clear ho4 hg4;refine hK.out _ _ (hC.at_ hmv hlt0) (λhHeld=>?_);clear hK K;refine wpAnyH_ready (rs:=[7]) (by kernel_rfl) (by simp) ?_;refine AllReadyH.cons rfl (λK hK=>?_) AllReadyH.nil;refine aD rfl (.tmp 26) (.tmp 28) 23 rfl 42 iM _ 6 56 aG hI hz0 hz1 hz2 rfl (by decide) w3.heap.size v4 k (aS f k) (by rfl) hC.own hs4 (some ⟨_,0,none⟩) 1 1 m.cells.toList (by rfl) rfl (by intro h;cases h) (λad had=>by cases had;exact oF (hC.one _ rfl)) (eh m) (by unfold maxLen;omega) (by omega) hC.below.size ?_;intro v5 w5 ho5 hs5 hg5;have hC:=hC.app2 ho5 hg5;clear ho5 hg5;refine hK.out _ _ (hC.at_ hmv hlt0) (λhHeld=>?_);clear hK K
   all_goals
    refine wpAnyH_ready (rs:=[11]) (by kernel_rfl) (by simp) ?_;refine AllReadyH.cons rfl (λK hK=>?_) AllReadyH.nil;refine aD rfl (.tmp 29) (.tmp 32) 23 rfl 42 iM _ 6 56 aG hI hz0 hz1 hz2 rfl (by decide) w3.heap.size v5 (k+1) (aS f k++m.cells.toList) (by rfl) hC.own hs5 (if cap=k then some ⟨b,0,none⟩else some ⟨b,k*6,none⟩) (n-k) (cap-k) (aS (λj=>f (k+j)) (n-k)) (by rfl) (bH _ _) (by split<;>(intro h;cases h)) (hCl _ hC.below) (da _ _) (by unfold maxLen;omega) (by omega) hC.below.size ?_;intro v6 w6 ho6 hs6 hg6;rw[xA f k n m hk,show k+1+(n-k)=n+1 by omega]at ho6;have B6:Below w3.heap.size w3 w6:=hC.below.grown hg6 hC.below.size (λq hq=>(hC.own.lt q hq).1);obtain⟨b6,c6,rfl⟩:=je ho6 hs6;refine hK.out _ _ (fh (aP.keep hmv (B6.block _ hlt0))) (λhHeld=>?_);clear hK K;refine wpAnyH_ready (rs:=[12]) (by kernel_rfl) (by simp) ?_;refine AllReadyH.cons rfl (λK hK=>?_) AllReadyH.nil;go_simp
    refine hK.out _ _ (fh (aP.keep hmv (B6.block _ hlt0))) (λhHeld=>?_);clear hK K;refine wpAnyH_done (by kernel_rfl) ?_ _;clear hHeld;go_wp2;all_goals go_ret
    all_goals exact⟨⟨b6,c6,k,rfl,hk,hls,hst,aU ho6 hB2.size⟩,hB2.trans (B6.mono hB2.size)⟩
theorem tO (P:Nat->Bool):∀n,∃k,k<=n/\(∀j,j<k->P j=true)/\(k<n->P k=false)
 |0=>⟨0,Nat.le_refl _,λj hj=>absurd hj (Nat.not_lt_zero _),λh=>absurd h (Nat.not_lt_zero _)⟩
 |n+1=>by
  obtain⟨k,h1,h2,h3⟩:=tO P n;by_cases hk:k<n
  .exact⟨k,by omega,h2,λ_=>h3 hk⟩
  .have hkn:k=n:=by omega
   subst hkn;cases hp:P k with
   |false=>exact⟨k,by omega,h2,λ_=>hp⟩
   |true=>exact⟨k+1,by omega,λj hj=>by
     by_cases e:j=k
     .subst e;exact hp
     .exact h2 j (by omega),λh=>absurd h (Nat.lt_irrefl _)⟩
theorem yW {P:Nat->Bool}{n k k':Nat}(h1:k<=n)(h2:∀j,j<k->P j=true)(h3:k<n->P k=false)(g1:k'<=n)(g2:∀j,j<k'->P j=true)(g3:k'<n->P k'=false):k=k':=by
 rcases Nat.lt_trichotomy k k' with h|h|h
 .have a:=g2 k h;have b:=h3 (by omega);rw[a]at b;cases b
 .exact h
 .have a:=h2 k' h;have b:=g3 (by omega);rw[a]at b;cases b
theorem er.no {f:Nat->Mv}{n:Nat}{name:ByteArray}{k:Int}(h:∀j,j<n->bG (f j).name name=false)(hk:er f n name k):k=-1:=by
 rcases hk with⟨h1,_⟩|⟨j,h1,h2,h3,_⟩
 .exact h1
 .rw[h j h2]at h3;cases h3
theorem er.yes {f:Nat->Mv}{n:Nat}{name:ByteArray}{k:Int}{J:Nat}(hJ:J<n)(h1:bG (f J).name name=true)(h2:∀j,j<J->bG (f j).name name=false)(hk:er f n name k):k=J:=by
 rcases hk with⟨_,h⟩|⟨j,rfl,h3,h4,h5⟩
 .rw[h J hJ]at h1;cases h1
 .rcases Nat.lt_trichotomy j J with h|h|h
  .rw[h2 j h]at h4;cases h4
  .rw[h]
  .rw[h5 J h]at h1;cases h1
theorem xE (f:Nat->Mv)(n:Nat)(name:ByteArray):(∃J,J<n/\bG (f J).name name=true/\∀j,j<J->bG (f j).name name=false)\/∀j,j<n->bG (f j).name name=false:=by
 obtain⟨k,h1,h2,h3⟩:=tO (λj=>!bG (f j).name name) n;simp only[Bool.not_eq_true',Bool.not_eq_false']at h2 h3;by_cases h:k<n
 .exact .inl ⟨k,h,h3 h,h2⟩
 .exact .inr λj hj=>h2 j (by omega)
theorem cW {W:World}{base:Nat}{e:TypeId}{size:Nat}{v:Value}{n:Nat}{xs:List Value}{Y:Nat}{x0 x1:Int}{y u:Value}(h:W.ownsRow base e size v n xs)(hy:ar W Y x0 x1 y u)(hne:e≠38){B:Nat}(hB:v.ownBlock=some B):B≠Y:=λq=>by
 obtain⟨cs,h1⟩:=mI h hB;subst q;unfold ar at hy;rw[h1]at hy;simp at hy;exact hne hy.2
theorem tP {w W:World}{N Y:Nat}{x0 x1:Int}{v u:Value}(h:ar W Y x0 x1 v u)(hb:Below N w W)(hY:N<=Y)(v':Value):∃W',W.setCell ⟨Y,2,none⟩ v'=W'/\ar W' Y x0 x1 v' u/\Below N w W'/\W'.heap.size=W.heap.size/\∀k,k≠Y->W'.heap[k]?=W.heap[k]?:=by
 refine⟨_,rfl,?_,hb.setCell hY _,by simp,λk hk=>Below.heap_setCell _ _ _ _ (by simpa using hk)⟩;have:=heap_setCell_same W Y 2 _ _ v' h;simpa[ar]using this
theorem mJ {w W:World}{N Y:Nat}{x0 x1:Int}{v u:Value}(h:ar W Y x0 x1 v u)(hb:Below N w W)(hY:N<=Y)(v':Value):∃W',W.setCell ⟨Y,3,none⟩ v'=W'/\ar W' Y x0 x1 v v'/\Below N w W'/\W'.heap.size=W.heap.size/\∀k,k≠Y->W'.heap[k]?=W.heap[k]?:=by
 refine⟨_,rfl,?_,hb.setCell hY _,by simp,λk hk=>Below.heap_setCell _ _ _ _ (by simpa using hk)⟩;have:=heap_setCell_same W Y 3 _ _ v' h;simpa[ar]using this
structure Ad (w:World)(now shift:Int)(ao:Option Addr)(n c:Nat)(bo:Option Addr)(d R X Bx cx Bi ci:Nat)(f:Nat->Mv)(t:Nat->Int)(W:World):Prop where
 below:Below w.heap.size w W
 bk:ar W w.heap.size now shift (.slice ao n c) (.slice bo n d)
 rs:ar W R 0 0 (.slice none 0 0) (.slice none 0 0)
 hR:w.heap.size<R
 x:ar W X now shift (.slice (some ⟨Bx,0,none⟩) n cx) (.slice (some ⟨Bi,0,none⟩) n ci)
 hX:R<X
 om:W.ownsRow (R+1) 42 6 (.slice (some ⟨Bx,0,none⟩) n cx) n (aS f n)
 oi:W.ownsRow (R+1) 3 1 (.slice (some ⟨Bi,0,none⟩) n ci) n (dh t n)
section
variable {w:World}{now shift:Int}{ao:Option Addr}{n c:Nat}{bo:Option Addr}{d R X Bx cx Bi ci:Nat}{f:Nat->Mv}{t:Nat->Int}{W W':World}
theorem Ad.grow (h:Ad w now shift ao n c bo d R X Bx cx Bi ci f t W)(b:Below W.heap.size W W'):Ad w now shift ao n c bo d R X Bx cx Bi ci f t W':=
 ⟨h.below.trans (b.mono h.below.size),h.bk.same (b.block _ h.bk.lt),h.rs.same (b.block _ h.rs.lt),h.hR,h.x.same (b.block _ h.x.lt),h.hX,ai h.om (λB hB=>b.block B (h.om.lt B hB).2),ai h.oi (λB hB=>b.block B (h.oi.lt B hB).2)⟩
theorem Ad.set (h:Ad w now shift ao n c bo d R X Bx cx Bi ci f t W){Y:Nat}{x0 x1:Int}{y u:Value}(hy:ar W Y x0 x1 y u)(hY:X<Y)(hb:Below w.heap.size w W')(e:∀k,k≠Y->W'.heap[k]?=W.heap[k]?):Ad w now shift ao n c bo d R X Bx cx Bi ci f t W':=by
 have h1:=h.hR;have h2:=h.hX;exact⟨hb,h.bk.same (e _ (by omega)),h.rs.same (e _ (by omega)),h.hR,h.x.same (e _ (by omega)),h.hX,ai h.om (λB hB=>e B (cW h.om hy (by decide) hB)),ai h.oi (λB hB=>e B (cW h.oi hy (by decide) hB))⟩
theorem Ad.ev (h:Ad w now shift ao n c bo d R X Bx cx Bi ci f t W)(hn0:0<=now/\now<=10000)(hs0:0<=shift/\shift<=6)(h6:n<=6)(hok:∀i,i<n->(f i).ok=true)(e:∀k,k≠R->W'.heap[k]?=W.heap[k]?)(k:Int):Ev w (.returned (.tuple #[.agg #[.int .i64 now,.int .i64 shift,.slice (some ⟨Bx,0,none⟩) n cx,.slice (some ⟨Bi,0,none⟩) n ci],.int .i64 k])) W':=by
 have h1:=h.hR;exact⟨now,shift,_,n,cx,f,_,ci,t,k,rfl,hn0,hs0,h6,hok,.inr ⟨Bx,Bi,rfl,rfl,aU (ai h.om (λB hB=>e B (by have:=(h.om.lt B hB).1;omega))) (by omega),(cj h.oi).2.2,gh.of (aU (ai h.oi (λB hB=>e B (by have:=(h.oi.lt B hB).1;omega))) (by omega))⟩⟩
end
theorem yX {lo:Nat}(now shift:Int)(ao:Option Addr)(n c:Nat)(f:Nat->Mv)(bo:Option Addr)(d:Nat)(t:Nat->Int)(m:Mv)(w:World)(hB:iE w lo now shift ao n c f bo d t)(hf:m.Fits):
  Calls Tryz0.prog 148 #[.agg #[.int .i64 now,.int .i64 shift,.slice ao n c,.slice bo n d],.agg #[.string m.name,.bool m.lands,.int .i64 m.wake,.int .i64 m.est,.int .i64 m.late,.int .i64 m.prom]] w λe w'=>Ev w e w'/\Below w.heap.size w w':=by
 obtain⟨W0,hW0⟩:∃W,W=((w.alloc (.cells #[.int .i64 now,.int .i64 shift,.slice ao n c,.slice bo n d] 38)).alloc (.cells #[.string m.name,.bool m.lands,.int .i64 m.wake,.int .i64 m.est,.int .i64 m.late,.int .i64 m.prom] 42)).alloc (.cells #[.int .i64 0,.int .i64 0,.slice none 0 0,.slice none 0 0] 38):=⟨_,rfl⟩;have b0:Below w.heap.size w W0:=by rw[hW0];exact(((Below.refl _ w).alloc (Nat.le_refl _) _).alloc (by simp) _).alloc (by simp;omega) _
 have bk0:ar W0 w.heap.size now shift (.slice ao n c) (.slice bo n d):=by rw[hW0];exact(Below.heap_alloc _ _ _ (by simp;omega)).trans ((Below.heap_alloc _ _ _ (by simp)).trans (heap_alloc_new _ _))
 have mv0:aP W0 (w.heap.size+1) m:=by rw[hW0];exact(Below.heap_alloc _ _ _ (by simp)).trans (be _ _ _)
 have rs0:ar W0 (w.heap.size+1+1) 0 0 (.slice none 0 0) (.slice none 0 0):=by
  rw[hW0];have:=be (w.alloc (.cells #[.int .i64 now,.int .i64 shift,.slice ao n c,.slice bo n d] 38)) (.cells #[.string m.name,.bool m.lands,.int .i64 m.wake,.int .i64 m.est,.int .i64 m.late,.int .i64 m.prom] 42) (.cells #[.int .i64 0,.int .i64 0,.slice none 0 0,.slice none 0 0] 38);rw[World.size_alloc]at this;exact this
 have hz0:W0.heap.size=w.heap.size+3:=by rw[hW0];simp
 have HB:=(hB.below b0).book;have h6:=hB.six;have hnw:=hB.now;have hsh:=hB.sh;have hoks:=hB.ok;cases hb:bc now shift f n t n with
 |false=>
  rw[hb,hW0]at HB;go_enter Tryz0.func148,Tryz.ntmps148
  go_wp2_with(go_at_call 18;refine HB.mono ?_;clear HB;rintro e w1 ⟨rfl,b1⟩;rw[<-hW0]at b1;have r1:=rs0.same (b1.block _ rs0.lt);obtain⟨y0,y1,y2,y3,y4⟩:=r1.cells)
  obtain⟨W5,e5,k5,hb5,hz5,hn5⟩:=bg r1 (b0.trans (b1.mono b0.size)) (by omega) 0 0 none 0 0 none 0 0;rw[e5];obtain⟨q0,q1,q2,q3,q4⟩:=k5.cells;refine bodyPost_ret (v:=.tuple #[.agg #[.int .i64 0,.int .i64 0,.slice none 0 0,.slice none 0 0],.int .i64 1]) ?_ rfl ⟨⟨0,0,none,0,0,_,none,0,_,1,rfl,qI _ _⟩,hb5⟩;simp[results,Tryz.f148,go_sem,q0,q1,q2,q3]
 |true=>
  obtain⟨hm,-,hfit⟩:=dD hb;obtain⟨K,hK1,hK2,hK3⟩:=tO (λj=>aW (f j).name m.name) n;rw[hb,hW0]at HB;have HC1:=λW (hW:Below w.heap.size w W)=>cU now shift ao n c f bo n d t W (by omega) (by omega) (hB.below hW).srcM (hB.below hW).srcI
  have HC2:=HC1;have HM:=λW=>nH hf W
  have HA:=λW (hW:Below w.heap.size w W)=>oe now shift ao n c f bo n d m.name W h6 (hB.below hW).srcM
  have HP:=λB c W (h1:n<=c) (h2:B<W.heap.size) (h3:aw W B 0 n f)=>vC B n c f m W h6 h1 h2 h3
  have hgo:∀(P:Prop),(∀kc:Int,kc=2->m.ok=false->P)->(∀kc:Int,kc=2->m.ok=true->¬m.prom<0->P)->(∀kc:Int,kc=3->m.ok=true->m.prom<0->(∀k,er f n m.name k->0<=k)->P)->(∀kc:Int,kc=4->m.ok=true->m.prom<0->(∀k,er f n m.name k->k<0)->¬n<6->P)->(m.ok=true->m.prom<0->(∀j,j<n->bG (f j).name m.name=false)->(∀k,er f n m.name k->k<0)->n<6->P)->P:=λP a1 a2 a3 a4 a5=>by
   cases hok:m.ok with
   |false=>exact a1 2 rfl hok
   |true=>
    by_cases hp:m.prom<0
    .rcases xE f n m.name with⟨J,hJ,hat,hJ2⟩|hat
     .exact a3 3 rfl hok hp (λk hk=>by have:=hk.yes hJ hat hJ2;omega)
     .have AT:∀k,er f n m.name k->k<0:=λk hk=>by have:=hk.no hat;omega
      by_cases h:n<6
      .exact a5 hok hp hat AT h
      .exact a4 4 rfl hok hp AT h
    .exact a2 2 rfl hok hp
  clear hb;refine hgo _ (λkc hc hok=>?_) (λkc hc hok hp=>?_) (λkc hc hok hp AT=>?_) (λkc hc hok hp AT hlt=>?_) (λhok hp hat AT hlt=>?_);all_goals clear hgo
  rotate_right;focus
   have hF:=vv hm hlt hK1 hok hK2 hK3 hat;have hoF:∀i,i<n+1->(ge f K m i).ok=true:=λi hi=>aE hF i hi
   have HPL:=λB c W (h2:B<W.heap.size) (h3:aw W B 0 (n+1) (ge f K m))=>j9 B (n+1) c (ge f K m) now shift W (by omega) hoF hnw.1 (by omega) hsh.1 hsh.2 (λhr=>mo hF (by omega) hr) h2 h3
   rcases hpl:eD (ge f K m) (n+1) now shift with _|T;focus
    rw[hpl]at HPL;have HN:=HPL;clear HPL;obtain⟨kc,hc⟩:∃kc:Int,kc=5:=⟨_,rfl⟩
   rotate_left;focus
    rw[hpl]at HPL;have HS:=HPL;clear HPL;have HSU:=λB c b' c' W (h2:B<W.heap.size) (h3:aw W B 0 (n+1) (ge f K m)) (h4:b'<W.heap.size) (h5:ak W b' 0 (n+1) T)=>ir now shift B (n+1) c (ge f K m) b' (n+1) c' T W (by omega) (by unfold maxLen;omega) h2 h3 (λi hi=>qG (hoF i hi)) h4 h5
    have HC3:=λB c b' c' W (h2:B<W.heap.size) (h3:aw W B 0 (n+1) (ge f K m)) (h4:b'<W.heap.size) (h5:ak W b' 0 (n+1) T)=>cU now shift (some ⟨B,0,none⟩) (n+1) c (ge f K m) (some ⟨b',0,none⟩) (n+1) c' T W (by omega) (by omega) ⟨(λh=>nomatch h),λad had=>by cases had;exact⟨B,rfl,h2,h3⟩⟩ ⟨(λh=>nomatch h),λad had=>by cases had;exact⟨b',rfl,h4,h5⟩⟩
    obtain⟨sb,hsb⟩:∃sb,eG now shift (ge f K m) (n+1) T (n+1)=sb:=⟨_,rfl⟩;rw[hsb]at HSU;clear hsb;cases sb;focus
     obtain⟨kc,hc⟩:∃kc:Int,kc=6:=⟨_,rfl⟩
    rotate_left;focus
     have hdone:True:=trivial
  all_goals
   rw[hok]at HM;go_enter Tryz0.func148,Tryz.ntmps148
   go_wp2_with(first
    |(go_at_call 18;refine HB.mono ?_;clear HB;rintro e w1 ⟨rfl,b1⟩;rw[<-hW0]at b1;have B1:=b0.trans (b1.mono b0.size);have bk:=bk0.same (b1.block _ bk0.lt);have mv:=mv0.keep (b1.block _ (by omega));have rs:=rs0.same (b1.block _ rs0.lt);obtain⟨y0,y1,y2,y3,y4⟩:=bk.cells)
    |(go_at_call 131;refine(HC1 _ B1).mono ?_;clear HC1;rintro e w2 ⟨⟨Bx,cx,Bi,ci,rfl,oM,oI⟩,b2⟩;have z2:=b2.size;have z1:=b1.size;have bk:=bk.same (b2.block _ (by omega));have rs:=rs.same (b2.block _ (by omega));obtain⟨W3,e3,k3,b3,z3⟩:=dN w2 now shift (some ⟨Bx,0,none⟩) n cx (some ⟨Bi,0,none⟩) n ci;have hA:Ad w now shift ao n c bo d (w.heap.size+1+1) w2.heap.size Bx cx Bi ci f t W3:=⟨(B1.trans (b2.mono B1.size)).trans (b3.mono (by omega)),bk.same (b3.block _ (by omega)),rs.same (b3.block _ (by omega)),by omega,k3,by omega,aU (ai oM (λB hB=>b3.block B (oM.lt B hB).2)) (by omega),aU (ai oI (λB hB=>b3.block B (oI.lt B hB).2)) (by omega)⟩;have mv:=(mv.keep (b2.block _ (by omega))).keep (b3.block _ (by omega));obtain⟨s0,s1,s2,s3,s4,s5⟩:=fh mv;clear oM oI bk rs)
    |(go_at_call 54;refine(HM W3).mono ?_;clear HM;rintro e w4 ⟨rfl,b4⟩;have z4:=b4.size;have mv:=mv.keep (b4.block _ (by omega));have hA:=hA.grow b4;obtain⟨y0,y1,y2,y3,y4⟩:=hA.bk.cells;obtain⟨s0,s1,s2,s3,s4,s5⟩:=fh mv;obtain⟨x0,x1,x2,x3,x4⟩:=hA.x.cells;obtain⟨r0,r1,r2,r3,r4⟩:=hA.rs.cells)
    |(go_at_call 152;refine(HA _ hA.below).mono ?_;clear HA;rintro e w5 ⟨⟨kk,rfl,hkk⟩,b5⟩;have z5:=b5.size;have mv:=mv.keep (b5.block _ (by omega));have hA:=hA.grow b5;obtain⟨y0,y1,y2,y3,y4⟩:=hA.bk.cells;obtain⟨s0,s1,s2,s3,s4,s5⟩:=fh mv;obtain⟨x0,x1,x2,x3,x4⟩:=hA.x.cells;obtain⟨r0,r1,r2,r3,r4⟩:=hA.rs.cells;have hkn:=AT kk hkk)
    |(go_at_call 131;refine(HC2 _ hA.below).mono ?_;clear HC2;rintro e w6 ⟨⟨By,cy,Bz,cz,rfl,oY,oZ⟩,b6⟩;have z6:=b6.size;obtain⟨W7,e7,k7,b7,z7⟩:=dN w6 now shift (some ⟨By,0,none⟩) n cy (some ⟨Bz,0,none⟩) n cz;have hA:=(hA.grow b6).grow b7;have mv:=(mv.keep (b6.block _ (by omega))).keep (b7.block _ (by omega));have oY:=ai oY (λB hB=>b7.block B (oY.lt B hB).2);obtain⟨y0,y1,y2,y3,y4⟩:=hA.bk.cells;obtain⟨s0,s1,s2,s3,s4,s5⟩:=fh mv;obtain⟨p0,p1,p2,p3,p4⟩:=k7.cells)
    |(go_at_call 153;refine(HP By cy W7 (cj oY).2.2 (cj oY).2.1 (bI oY)).mono ?_;clear HP;rintro e w8 ⟨⟨B8,c8,k8,rfl,g1,g2,g3,o8⟩,b8⟩;obtain rfl:=yW hK1 hK2 hK3 g1 g2 g3;have z8:=b8.size;have hA:=hA.grow b8;have y8:=k7.same (b8.block _ k7.lt);have l8:=y8.lt;obtain⟨p0,p1,p2,p3,p4⟩:=y8.cells;obtain⟨W9,e9,y9,hb9,z9,h9⟩:=tP y8 hA.below (by have:=hA.hR;have:=hA.hX;omega) (.slice (some ⟨B8,0,none⟩) (n+1) c8);have hA:=hA.set y8 (by omega) hb9 h9;have o9:=ai o8 (λB hB=>h9 B (cW o8 y8 (by decide) hB));obtain⟨y0,y1,y2,y3,y4⟩:=hA.bk.cells;obtain⟨p0,p1,p2,p3,p4⟩:=y9.cells)
    |(go_at_call 78;refine(HN B8 c8 W9 (cj o9).2.1 (bI o9)).mono ?_;clear HN;rintro e w10 ⟨⟨a10,c10,rfl⟩,b10⟩;have hA:=hA.grow b10;obtain⟨x0,x1,x2,x3,x4⟩:=hA.x.cells;obtain⟨r0,r1,r2,r3,r4⟩:=hA.rs.cells)
    |(go_at_call 78;refine(HS B8 c8 W9 (cj o9).2.1 (bI o9)).mono ?_;clear HS;rintro e w10 ⟨⟨BT,cT,hBT,rfl,oT,_⟩,b10⟩;have hA:=hA.grow b10;have y10:=y9.same (b10.block _ y9.lt);obtain⟨p0,p1,p2,p3,p4⟩:=y10.cells;obtain⟨W11,e11,y11,hb11,z11,h11⟩:=mJ y10 hA.below (by have:=hA.hR;have:=hA.hX;omega) (.slice (some ⟨BT,0,none⟩) (n+1) cT);have hA:=hA.set y10 (by omega) hb11 h11;have o10:=ai o9 (λB hB=>b10.block B (o9.lt B hB).2);have o11:=ai o10 (λB hB=>h11 B (cW o10 y10 (by decide) hB));have oT:=du oT (h11 BT (by omega));obtain⟨p0,p1,p2,p3,p4⟩:=y11.cells)
    |(go_at_call 16;refine(HSU B8 c8 BT cT W11 (cj o11).2.1 (bI o11) oT.lt oT.2).mono ?_;clear HSU;rintro e w12 ⟨rfl,b12⟩;have hA:=hA.grow b12;have y12:=y11.same (b12.block _ y11.lt);have o12:=ai o11 (λB hB=>b12.block B (o11.lt B hB).2);have oT:=du oT (b12.block _ oT.lt);obtain⟨p0,p1,p2,p3,p4⟩:=y12.cells;obtain⟨x0,x1,x2,x3,x4⟩:=hA.x.cells;obtain⟨r0,r1,r2,r3,r4⟩:=hA.rs.cells)
    |(go_at_call 131;refine(HC3 B8 c8 BT cT w12 (cj o12).2.1 (bI o12) oT.lt oT.2).mono ?_;clear HC3;rintro e w13 ⟨⟨Bq,cq,Bv,cv,rfl,oQ,oV⟩,b13⟩;have z13:=hA.x.lt;have hA:=hA.grow b13;obtain⟨r0,r1,r2,r3,r4⟩:=hA.rs.cells))
   all_goals first|(exfalso;omega)|skip
   all_goals first
    |(obtain⟨W5,e5,k5,hb5,hz5,hn5⟩:=bg hA.rs hA.below (by omega) now shift (some ⟨Bq,0,none⟩) (n+1) cq (some ⟨Bv,0,none⟩) (n+1) cv;rw[e5];obtain⟨q0,q1,q2,q3,q4⟩:=k5.cells;have hhR:=hA.hX;refine bodyPost_ret (v:=.tuple #[.agg #[.int .i64 now,.int .i64 shift,.slice (some ⟨Bq,0,none⟩) (n+1) cq,.slice (some ⟨Bv,0,none⟩) (n+1) cv],.int .i64 0]) (by simp[results,Tryz.f148,go_sem,q0,q1,q2,q3]) rfl ⟨⟨now,shift,_,n+1,cq,_,_,cv,T,0,rfl,hnw,hsh,by omega,hoF,.inr ⟨Bq,Bv,rfl,rfl,aU (ai oQ (λB hB=>hn5 B (by have:=(oQ.lt B hB).1;omega))) (by omega),(cj oV).2.2,gh.of (aU (ai oV (λB hB=>hn5 B (by have:=(oV.lt B hB).1;omega))) (by omega))⟩⟩,hb5⟩)
    |(obtain⟨W5,e5,k5,hb5,hz5,hn5⟩:=bg hA.rs hA.below (by omega) now shift (some ⟨Bx,0,none⟩) n cx (some ⟨Bi,0,none⟩) n ci;rw[e5];obtain⟨q0,q1,q2,q3,q4⟩:=k5.cells;exact bodyPost_ret (v:=.tuple #[.agg #[.int .i64 now,.int .i64 shift,.slice (some ⟨Bx,0,none⟩) n cx,.slice (some ⟨Bi,0,none⟩) n ci],.int .i64 kc]) (by simp[results,Tryz.f148,go_sem,q0,q1,q2,q3,hc]) rfl ⟨hA.ev hnw hsh h6 hoks hn5 kc,hb5⟩)
    |trace_state
end Go.Proofs.YtlmcblcijndipaaGreat
