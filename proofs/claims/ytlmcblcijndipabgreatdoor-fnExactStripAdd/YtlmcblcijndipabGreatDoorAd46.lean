import Derived.Test.YtlmcblcijndipabGreatDoorAd44
import Derived.Test.YtlmcblcijndipabGreatDoorAd35
set_option linter.unusedVariables false
set_option linter.unusedSimpArgs false
set_option linter.unusedSectionVars false
set_option maxHeartbeats 8000000
set_option maxRecDepth 10000
namespace Go.Proofs.YtlmcblcijndipabGreatDoor
section
open Go Go.RowKit
theorem dL.keep {w w':World}{b:Nat}{m:Mv}(h:dL w b m)(e:w'.heap[b]?=w.heap[b]?):dL w' b m:=e.trans h
structure DD (B:Nat)(m:Mv)(W:World):Prop where
 c0:W.cell? ⟨B,0,none⟩=some (.string m.name)
 c1:W.cell? ⟨B,1,none⟩=some (.bool m.lands)
 c2:W.cell? ⟨B,2,none⟩=some (.int .i64 m.wake)
 c3:W.cell? ⟨B,3,none⟩=some (.int .i64 m.est)
 c4:W.cell? ⟨B,4,none⟩=some (.int .i64 m.late)
 c5:W.cell? ⟨B,5,none⟩=some (.int .i64 m.prom)
theorem fx {W:World}{B:Nat}{m:Mv}(h:dL W B m):DD B m W:=by
 obtain⟨c0,c1,c2,c3,c4,c5⟩:=h.at_;exact⟨c0,c1,c2,c3,c4,c5⟩
structure Pu (w:World)(m:Mv)(v:Value)(n:Nat)(xs:List Value)(o:Option Nat)(W:World):Prop where
 below:Below w.heap.size w W
 own:W.ownsRow w.heap.size 36 6 v n xs
 one:∀Y,o=some Y->W.heap[Y]?=some (.cells m.cells 36 (0,0))
section
variable {w:World}{m:Mv}{v:Value}{n:Nat}{xs:List Value}{o:Option Nat}{W:World}
theorem Pu.at_ {B:Nat}(h:Pu w m v n xs o W)(hm:dL w B m)(hB:B<w.heap.size):DD B m W:=fx (hm.keep (h.below.block B hB))
theorem Pu.newE (h:Pu w m v n xs o W):Pu w m (.slice (some ⟨W.heap.size,0,none⟩) 0 0) 0 [] o (W.alloc (.cells #[] 36)):=
 ⟨h.below.alloc h.below.size _,pc h.below.size,λY hY=>(Gc _ _ _ (Gp.1 (h.one Y hY)).1).trans (h.one Y hY)⟩
theorem Pu.newX (h:Pu w m v n xs o W):Pu w m v n xs (some W.heap.size) (W.alloc (.cells #[.string m.name,.bool m.lands,.int .i64 m.wake,.int .i64 m.est,.int .i64 m.late,.int .i64 m.prom] 36)):=
 ⟨h.below.alloc h.below.size _,bf h.own (λB hB=>Gc _ _ _ (h.own.lt B hB).2),λY hY=>by cases hY;exact heap_alloc_new W _⟩
theorem Pu.app (h:Pu w m v n xs o W){v':Value}{n':Nat}{x':List Value}{W':World}(ho:W'.ownsRow w.heap.size 36 6 v' n' x')(g:W.grownBy W' v.ownBlock)(hs:∀Y,o=some Y->v.ownBlock≠some Y):Pu w m v' n' x' o W':=
 ⟨h.below.grown g h.below.size (λq hq=>(h.own.lt q hq).1),ho,λY hY=>(g.block Y (Gp.1 (h.one Y hY)).1 (λe=>hs Y hY e.symm)).trans (h.one Y hY)⟩
theorem Pu.app2 (h:Pu w m v n xs o W){v':Value}{n':Nat}{x':List Value}{W':World}(ho:W'.ownsRow w.heap.size 36 6 v' n' x')(g:W.grownBy W' v.ownBlock):Pu w m v' n' x' none W':=
 ⟨h.below.grown g h.below.size (λq hq=>(h.own.lt q hq).1),ho,λY hY=>by cases hY⟩
end
def Cj (f:Nat->Mv)(n:Nat)(m:Mv)(w:World)(e:Ending)(w':World):Prop:=∃B c k,e=.returned (.slice (some ⟨B,0,none⟩) (n+1) c)/\k<=n/\(∀j,j<k->aO (f j).name m.name=true)/\(k<n->aO (f k).name m.name=false)/\w'.ownsRow w.heap.size 36 6 (.slice (some ⟨B,0,none⟩) (n+1) c) (n+1) (aG (bz f k m) (n+1))
theorem yE (b n cap:Nat)(f:Nat->Mv)(m:Mv)(w:World)(hn:n<=6)(hcap:n<=cap)(hbs:b<w.heap.size)(hrow:ak w b 0 n f):
  Calls Tz.prog 34 #[.slice (some ⟨b,0,none⟩) n cap,.agg #[.string m.name,.bool m.lands,.int .i64 m.wake,.int .i64 m.est,.int .i64 m.late,.int .i64 m.prom]] w λe w'=>Cj f n m w e w'/\Below w.heap.size w w':=by
 obtain⟨iM,hI,hz0,hz1,hz2⟩:=dh;have bA:Below w.heap.size w (w.alloc (.cells #[.string m.name,.bool m.lands,.int .i64 m.wake,.int .i64 m.est,.int .i64 m.late,.int .i64 m.prom] 36)):=(Gb _ w).alloc (Gm _) _;have mA:dL (w.alloc (.cells #[.string m.name,.bool m.lands,.int .i64 m.wake,.int .i64 m.est,.int .i64 m.late,.int .i64 m.prom] 36)) w.heap.size m:=heap_alloc_new _ _;go_enter Tz.func34,Tryz.ntmps34
 go_wp2;go_loopw [5] (λx W=>∃k:Nat,x=.int .i64 k/\k<=n/\Below w.heap.size w W/\dL W w.heap.size m/\∀j,j<k->aO (f j).name m.name=true) (λx _=>n-(intOf x).toNat)
 case atStart=>exact⟨0,rfl,Gs _,bA,mA,λj hj=>absurd hj (Gr _)⟩
 case round=>
  clear bA mA;obtain⟨k,rfl,hk,hB,hm,hls⟩:=hrel;have lb:=Gn hbs hB.size;have lm:w.heap.size<wr.heap.size:=(Gp.1 hm).1;have hne:=ay wr;have x1:=λx:ag wr=>x.cell (fx hm).c0
  by_cases hgo:k<n/\aO (f k).name m.name=true
  .obtain⟨hlt,hL⟩:=hgo;have hlt':(k:Int)<n:=by omega
   have hL':Op.bytesLess (f k).name.toList m.name.toList=true:=hL;have c0:=(hrow.below hB hbs k hlt).c0;simp only[Nat.zero_add]at c0;have x0:=λx:ag wr=>x.cell c0
   go_wp2;refine af (by kernel_rfl) (by kernel_rfl) ?_;repeat(go_big_quiet_step (fail))
   refine wpQuiet_nil (ai ?_);intro w2 hb2;go_wp2;all_goals first|(exfalso;omega)|skip
   go_roundw
   case rel=>exact⟨k+1,by go_num,by omega,hB.trans (hb2.mono hB.size),hm.keep (hb2.block _ lm),λj hj=>by
    by_cases e:j=k
    .subst e;exact hL
    .exact hls j (by omega)⟩
   case measure=>simp[intOf];omega
  have hst:k<n->aO (f k).name m.name=false:=λh=>by
   cases hL:aO (f k).name m.name with
   |false=>rfl
   |true=>exact absurd ⟨h,hL⟩ hgo
  by_cases hlt:k<n;focus
   have hlt':(k:Int)<n:=by omega
   have hL':Op.bytesLess (f k).name.toList m.name.toList=false:=hst hlt;have c0:=(hrow.below hB hbs k hlt).c0;simp only[Nat.zero_add]at c0;have x0:=λx:ag wr=>x.cell c0
   go_wp2;refine af (by kernel_rfl) (by kernel_rfl) ?_;repeat(go_big_quiet_step (fail))
   refine wpQuiet_nil (ai ?_);intro w2 hb2;go_wp2;all_goals first|(exfalso;omega)|skip
  rotate_left;focus
   have hlt':¬(k:Int)<n:=by omega
   have hz:decide (k<n)=false:=by simpa using hlt
   go_wp2;refine af (by kernel_rfl) (by kernel_rfl) ?_;repeat(go_big_quiet_step (fail))
   refine wpQuiet_nil (ai ?_);intro w2 hb2;go_wp2;all_goals first|(exfalso;omega)|skip
  all_goals
   have hB2:Below w.heap.size w w2.drew:=(hB.trans (hb2.mono hB.size)).drew;have hmv:dL w2.drew w.heap.size m:=hm.keep (hb2.block _ lm);have row2:ak w2.drew b 0 n f:=hrow.below hB2 hbs;have lb2:b<w2.drew.heap.size:=Gn hbs hB2.size;have hlt0:w.heap.size<w2.drew.heap.size:=(Gp.1 hmv).1;refine wp_region_held_drew (S:=DD w.heap.size m) (by kernel_rfl) (fx hmv) (λhHeld=>?_);revert hHeld hB2 hmv row2 lb2 hlt0;generalize w2.drew=w3;intro hB2 hmv row2 lb2 hlt0 hHeld;have hkc:(k:Int)<=cap:=by omega
   have hk0:(0:Int)<=k:=by omega
   have hkn:(k:Int)<=n:=by omega
   have hCl:∀W,Below w3.heap.size w3 W->∀ad,(if cap=k then some (⟨b,0,none⟩:Addr)else some ⟨b,k*6,none⟩)=some ad->∀j u,(aG (λj=>f (k+j)) (n-k))[j]?=some u->W.cell? (ad.add j)=some u:=λW hW ad had=>by
    split at had
    .have:n-k=0:=by omega
     rw[this];intro j u h;simp[aG]at h
    .cases had;exact cm ((lJ row2 hk).below hW lb2)
   have hC:Pu w3 m (.slice none 0 0) 0 [] none w3:=⟨Gb _ _,⟨rfl,.inl ⟨rfl,rfl⟩⟩,λY hY=>by cases hY⟩;refine aJ 1 (.slice (some ⟨b,0,none⟩) n cap) 23 rfl (λw' hSw=>by(obtain⟨s0,s1,s2,s3,s4,s5⟩:=hSw;go_simp)) hHeld ?_;refine aJ 2 (.int .i64 (k:Int)) 24 rfl (λw' hSw=>by(obtain⟨s0,s1,s2,s3,s4,s5⟩:=hSw;go_simp)) hHeld ?_;refine aJ 3 (.slice (some ⟨b,0,none⟩) k cap) 25 rfl (λw' hSw=>by(obtain⟨s0,s1,s2,s3,s4,s5⟩:=hSw;go_simp)) hHeld ?_;refine aJ 5 (.agg #[.string m.name,.bool m.lands,.int .i64 m.wake,.int .i64 m.est,.int .i64 m.late,.int .i64 m.prom]) 27 rfl (λw' hSw=>by(obtain⟨s0,s1,s2,s3,s4,s5⟩:=hSw;go_simp)) hHeld ?_;refine aJ 8 (.slice (some ⟨b,0,none⟩) n cap) 30 rfl (λw' hSw=>by(obtain⟨s0,s1,s2,s3,s4,s5⟩:=hSw;go_simp)) hHeld ?_;refine aJ 9 (.int .i64 (k:Int)) 31 rfl (λw' hSw=>by(obtain⟨s0,s1,s2,s3,s4,s5⟩:=hSw;go_simp)) hHeld ?_;refine aJ 10 (.slice (if cap=k then some ⟨b,0,none⟩else some ⟨b,k*6,none⟩) (n-k) (cap-k)) 32 rfl (λw' hSw=>by(obtain⟨s0,s1,s2,s3,s4,s5⟩:=hSw;go_simp)) hHeld ?_;refine AK 0 6 rfl rfl (λK hK=>?_) (λK hK=>?_);focus
    go_simp
    have hC:=hC.newE;try simp only[World.size_alloc,World.size_drew]at hC
    refine hK.out _ _ (hC.at_ hmv hlt0) (λhHeld=>?_);clear hK K;refine AK 4 6 rfl rfl (λK hK=>?_) (λK hK=>?_);focus
     refine aP rfl (.tmp 22) (.tmp 25) 30 rfl 36 iM _ 6 56 aC hI hz0 hz1 hz2 rfl (by decide) w3.heap.size _ 0 [] (by rfl) hC.own (by intro h;cases h) (some ⟨b,0,none⟩) k cap (aG f k) (by rfl) (aU f k) (by intro h;cases h) (λad had=>by cases had;exact cm ((mo row2 hk).below hC.below lb2)) (cV f k) (by unfold maxLen;omega) (by omega) hC.below.size ?_;intro v4 w4 ho4 hs4 hg4;simp only[Nat.zero_add,List.nil_append]at ho4;have hC:=hC.app ho4 hg4 (by intro Y hY;cases hY);clear ho4 hg4;refine hK.out _ _ (hC.at_ hmv hlt0) (λhHeld=>?_);clear hK K;refine fD 6 rfl (λK hK=>?_);go_simp
     have hC:=hC.newX;try simp only[World.size_alloc,World.size_drew]at hC
     refine hK.out _ _ (hC.at_ hmv hlt0) (λhHeld=>?_);clear hK K;refine fD 7 rfl (λK hK=>?_);refine aP rfl (.tmp 26) (.tmp 28) 30 rfl 36 iM _ 6 56 aC hI hz0 hz1 hz2 rfl (by decide) w3.heap.size v4 k (aG f k) (by rfl) hC.own hs4 (some ⟨_,0,none⟩) 1 1 m.cells.toList (by rfl) rfl (by intro h;cases h) (λad had=>by cases had;exact o0 (hC.one _ rfl)) (dA m) (by unfold maxLen;omega) (by omega) hC.below.size ?_;intro v5 w5 ho5 hs5 hg5;have hC:=hC.app2 ho5 hg5;clear ho5 hg5;refine hK.out _ _ (hC.at_ hmv hlt0) (λhHeld=>?_);clear hK K
    rotate_left;focus
     go_simp
     have hC:=hC.newX;try simp only[World.size_alloc,World.size_drew]at hC
     refine hK.out _ _ (hC.at_ hmv hlt0) (λhHeld=>?_);clear hK K;refine fD 4 rfl (λK hK=>?_);refine aP rfl (.tmp 22) (.tmp 25) 30 rfl 36 iM _ 6 56 aC hI hz0 hz1 hz2 rfl (by decide) w3.heap.size _ 0 [] (by rfl) hC.own (by intro h;cases h) (some ⟨b,0,none⟩) k cap (aG f k) (by rfl) (aU f k) (by intro h;cases h) (λad had=>by cases had;exact cm ((mo row2 hk).below hC.below lb2)) (cV f k) (by unfold maxLen;omega) (by omega) hC.below.size ?_;intro v4 w4 ho4 hs4 hg4;simp only[Nat.zero_add,List.nil_append]at ho4;have hC:=hC.app ho4 hg4 (by intro Y hY;cases hY;simp[Value.ownBlock]);clear ho4 hg4;refine hK.out _ _ (hC.at_ hmv hlt0) (λhHeld=>?_);clear hK K;refine fD 7 rfl (λK hK=>?_);refine aP rfl (.tmp 26) (.tmp 28) 30 rfl 36 iM _ 6 56 aC hI hz0 hz1 hz2 rfl (by decide) w3.heap.size v4 k (aG f k) (by rfl) hC.own hs4 (some ⟨_,0,none⟩) 1 1 m.cells.toList (by rfl) rfl (by intro h;cases h) (λad had=>by cases had;exact o0 (hC.one _ rfl)) (dA m) (by unfold maxLen;omega) (by omega) hC.below.size ?_;intro v5 w5 ho5 hs5 hg5;have hC:=hC.app2 ho5 hg5;clear ho5 hg5;refine hK.out _ _ (hC.at_ hmv hlt0) (λhHeld=>?_);clear hK K
   rotate_left 2;focus
    go_simp
    have hC:=hC.newX;try simp only[World.size_alloc,World.size_drew]at hC
    refine hK.out _ _ (hC.at_ hmv hlt0) (λhHeld=>?_);clear hK K;refine fD 0 rfl (λK hK=>?_);go_simp
    have hC:=hC.newE;try simp only[World.size_alloc,World.size_drew]at hC
    refine hK.out _ _ (hC.at_ hmv hlt0) (λhHeld=>?_);clear hK K;refine fD 4 rfl (λK hK=>?_);refine aP rfl (.tmp 22) (.tmp 25) 30 rfl 36 iM _ 6 56 aC hI hz0 hz1 hz2 rfl (by decide) w3.heap.size _ 0 [] (by rfl) hC.own (by intro h;cases h) (some ⟨b,0,none⟩) k cap (aG f k) (by rfl) (aU f k) (by intro h;cases h) (λad had=>by cases had;exact cm ((mo row2 hk).below hC.below lb2)) (cV f k) (by unfold maxLen;omega) (by omega) hC.below.size ?_;intro v4 w4 ho4 hs4 hg4;simp only[Nat.zero_add,List.nil_append]at ho4;have hC:=hC.app ho4 hg4 (by intro Y hY;cases hY;simp[Value.ownBlock]);clear ho4 hg4;refine hK.out _ _ (hC.at_ hmv hlt0) (λhHeld=>?_);clear hK K;refine fD 7 rfl (λK hK=>?_);refine aP rfl (.tmp 26) (.tmp 28) 30 rfl 36 iM _ 6 56 aC hI hz0 hz1 hz2 rfl (by decide) w3.heap.size v4 k (aG f k) (by rfl) hC.own hs4 (some ⟨_,0,none⟩) 1 1 m.cells.toList (by rfl) rfl (by intro h;cases h) (λad had=>by cases had;exact o0 (hC.one _ rfl)) (dA m) (by unfold maxLen;omega) (by omega) hC.below.size ?_;intro v5 w5 ho5 hs5 hg5;have hC:=hC.app2 ho5 hg5;clear ho5 hg5;refine hK.out _ _ (hC.at_ hmv hlt0) (λhHeld=>?_);clear hK K
   all_goals
    refine fD 11 rfl (λK hK=>?_);refine aP rfl (.tmp 29) (.tmp 32) 30 rfl 36 iM _ 6 56 aC hI hz0 hz1 hz2 rfl (by decide) w3.heap.size v5 (k+1) (aG f k++m.cells.toList) (by rfl) hC.own hs5 (if cap=k then some ⟨b,0,none⟩else some ⟨b,k*6,none⟩) (n-k) (cap-k) (aG (λj=>f (k+j)) (n-k)) (by rfl) (aU _ _) (by split<;>(intro h;cases h)) (hCl _ hC.below) (cV _ _) (by unfold maxLen;omega) (by omega) hC.below.size ?_;intro v6 w6 ho6 hs6 hg6;rw[pg f k n m hk,show k+1+(n-k)=n+1 by omega]at ho6;have B6:Below w3.heap.size w3 w6:=hC.below.grown hg6 hC.below.size (λq hq=>(hC.own.lt q hq).1);obtain⟨b6,c6,rfl⟩:=lD ho6 hs6;refine hK.out _ _ (fx (dL.keep hmv (B6.block _ hlt0))) (λhHeld=>?_);clear hK K;refine fD 12 rfl (λK hK=>?_);go_simp
    refine hK.out _ _ (fx (dL.keep hmv (B6.block _ hlt0))) (λhHeld=>?_);clear hK K;refine wpAnyH_done (by kernel_rfl) ?_ _;clear hHeld;go_wp2;all_goals go_ret
    all_goals exact⟨⟨b6,c6,k,rfl,hk,hls,hst,eB ho6 hB2.size⟩,hB2.trans (B6.mono hB2.size)⟩
end
section
open Go Go.Conc Go.RowKit
theorem dp.bl {w w':World}{a:Option Addr}{n cap N:Nat}{f:Nat->Mv}(h:dp w a n cap f)(hN:w.heap.size<=N)(hb:Bl N w w'):dp w' a n cap f:=by
 obtain⟨h1,hz|⟨b,off,rfl,hlt,hr⟩,hf⟩:=h
 .exact⟨h1,.inl hz,hf⟩
 .exact⟨h1,.inr ⟨b,off,rfl,Gn hlt hb.size,aI hr (hb.block b (by omega))⟩,hf⟩
def cX (w:World)(b:Nat)(now shift:Int)(v u:Value):Prop:=w.heap[b]?=some (.cells #[.int .i64 now,.int .i64 shift,v,u] 25 (0,0))
theorem cX.lt {w:World}{b:Nat}{now shift:Int}{v u:Value}(h:cX w b now shift v u):b<w.heap.size:=(Gp.1 h).1
theorem cX.same {w w':World}{b:Nat}{now shift:Int}{v u:Value}(h:cX w b now shift v u)(e:w'.heap[b]?=w.heap[b]?):cX w' b now shift v u:=e.trans h
theorem cX.cells {w:World}{b:Nat}{now shift:Int}{v u:Value}(h:cX w b now shift v u):w.cell? ⟨b,0,none⟩=some (.int .i64 now)/\w.cell? ⟨b,1,none⟩=some (.int .i64 shift)/\w.cell? ⟨b,2,none⟩=some v/\w.cell? ⟨b,3,none⟩=some u:=by
 unfold cX at h;refine⟨?_,?_,?_,?_⟩<;>simp[World.cell?,h]
theorem cp.bl {w w':World}{a:Option Addr}{n N:Nat}{t:Nat->Int}(h:cp w a n t)(hN:w.heap.size<=N)(hb:Bl N w w'):cp w' a n t:=by
 obtain⟨h1,hz|⟨b,off,rfl,hlt,hr⟩,hf⟩:=h
 .exact⟨h1,.inl hz,hf⟩
 .exact⟨h1,.inr ⟨b,off,rfl,Gn hlt hb.size,λi hi=>by have:=hr i hi;simp only[World.cell?,hb.block b (by omega)]at this⊢;exact this⟩,hf⟩
section
variable [Gl]{ok:Ctx}{c:Frame}{Q:Value->World->Prop}
theorem ap.sureOp (E:bG Tz.prog ok c Dr24)(hSu:ok.inn 91=true)(hRo:ok.inn 112=true)(hPl:ok.inn 132=true)(hSB:ok.inn 151=true)(hbt:ok.inn 181=false){fb:Frame}{a:Act}{k:List Item}{cs:List Frame}{V:World}(hb:ok.inn fb.fn=true){ops:Array Oper}{i:Nat}{r:List Nat}{o:Oper}(ho:ops[i]?=some o)(hw:Region.wanted o (yielded ops a.tmps)=true)
  {b n cap b' m cap':Nat}{f:Nat->Mv}{t:Nat->Int}{now shift:Int}(hx:∀w,(execOp a.eval o).run Tz.prog w=.ok (.enter 91 #[.agg #[.int .i64 now,.int .i64 shift,.slice (some ⟨b,0,none⟩) n cap,.slice (some ⟨b',0,none⟩) m cap']]) w)
  (hn:n<=1048576)(hm1:m<=maxLen)(hbs:b<V.heap.size)(hrow:ak V b 0 n f)(hbs':b'<V.heap.size)(hrow':al V b' 0 m t)
  (hcont:∀V',Bl V.heap.size V V'->ap Tz.prog ok c Dr24 Q ⟨fb.at (a.put o.dst (.bool (dz now shift f n t m))) (.inRegion ops r::k),cs,V'⟩):ap Tz.prog ok c Dr24 Q ⟨fb.at a (.inRegion ops (i::r)::k),cs,V⟩:=
 ap.enterOp E ho hw hSu hx (BQ E hSu hRo hPl hSB hbt (r0:=fb.at a (.inRegion ops (i::r)::k)) hb hn hm1 hbs hrow hbs' hrow' (λV' hv=>by rw[cD ho];exact hcont V' hv))
end
end
section
open Go Go.RowKit
inductive DF (f:Nat->Mv)(n:Nat)(t:Nat->Int)(m:Nat)(now shift:Int)(q:Mv)(N:Nat)(V':World):Value->Value->Value->Value->Int->Prop
 |bad:aV now shift f n t m=false->DF f n t m now shift q N V' (.int .i64 0) (.int .i64 0) (.slice none 0 0) (.slice none 0 0) 1
 |no {cd:Int} {v u:Value}:aV now shift f n t m=true->nj f n now shift q=.no cd->V'.ownsRow N 36 6 v n (aG f n)->V'.ownsRow N 3 1 u m (dR t m)->DF f n t m now shift q N V' (.int .i64 now) (.int .i64 shift) v u cd
 |yes {p:Nat} {T:Nat->Int} {B c B' c':Nat}:aV now shift f n t m=true->nj f n now shift q=.yes p T->N<=B->N<=B'->pa V' B (n+1) (bz f p q)->kJ V' B' (n+1) T->DF f n t m now shift q N V' (.int .i64 now) (.int .i64 shift) (.slice (some ⟨B,0,none⟩) (n+1) c) (.slice (some ⟨B',0,none⟩) (n+1) c') 0
theorem uo (now shift:Int)(b n c:Nat)(f:Nat->Mv)(b' m d:Nat)(t:Nat->Int)(q:Mv)(w:World)(hn1:n<=1048576)(hm1:m<=1048576)(hbs:b<w.heap.size)(hrow:ak w b 0 n f)(hF:∀i,i<n->(f i).Fits)(hbs':b'<w.heap.size)(hrow':al w b' 0 m t)(hf:q.Fits):
  Calls Tz.prog 10 #[.agg #[.int .i64 now,.int .i64 shift,.slice (some ⟨b,0,none⟩) n c,.slice (some ⟨b',0,none⟩) m d],.agg #[.string q.name,.bool q.lands,.int .i64 q.wake,.int .i64 q.est,.int .i64 q.late,.int .i64 q.prom]] w λe w'=>(∃x0 x1 x2 x3 cd,e=.returned (.tuple #[.agg #[x0,x1,x2,x3],.int .i64 cd])/\DF f n t m now shift q w.heap.size w' x0 x1 x2 x3 cd)/\Below w.heap.size w w':=by
 obtain⟨W0,hW0⟩:∃W,W=((w.alloc (.cells #[.int .i64 now,.int .i64 shift,.slice (some ⟨b,0,none⟩) n c,.slice (some ⟨b',0,none⟩) m d] 32)).alloc (.cells #[.string q.name,.bool q.lands,.int .i64 q.wake,.int .i64 q.est,.int .i64 q.late,.int .i64 q.prom] 36)).alloc (.cells #[.int .i64 0,.int .i64 0,.slice none 0 0,.slice none 0 0] 32):=⟨_,rfl⟩;have b0:Below w.heap.size w W0:=by rw[hW0];exact(((Gb _ w).alloc (Gm _) _).alloc (by simp) _).alloc (by simp;omega) _
 have bk0:ar W0 w.heap.size now shift (.slice (some ⟨b,0,none⟩) n c) (.slice (some ⟨b',0,none⟩) m d):=by rw[hW0];exact(Gc _ _ _ (by simp;omega)).trans ((Gc _ _ _ (by simp)).trans (heap_alloc_new _ _))
 have mv0:dL W0 (w.heap.size+1) q:=by rw[hW0];exact(Gc _ _ _ (by simp)).trans (bj _ _ _)
 have rs0:ar W0 (w.heap.size+1+1) 0 0 (.slice none 0 0) (.slice none 0 0):=by
  rw[hW0];have:=bj (w.alloc (.cells #[.int .i64 now,.int .i64 shift,.slice (some ⟨b,0,none⟩) n c,.slice (some ⟨b',0,none⟩) m d] 32)) (.cells #[.string q.name,.bool q.lands,.int .i64 q.wake,.int .i64 q.est,.int .i64 q.late,.int .i64 q.prom] 36) (.cells #[.int .i64 0,.int .i64 0,.slice none 0 0,.slice none 0 0] 32);rw[Gg]at this;exact this
 have hz0:W0.heap.size=w.heap.size+3:=by rw[hW0];simp
 have HB:=ly now shift b 0 n c f b' 0 m d t W0 hn1 (by unfold maxLen;omega) (Gn hbs b0.size) (hrow.below b0 hbs) hF (Gn hbs' b0.size) (hrow'.below b0 hbs');cases hb:aV now shift f n t m with
 |false=>
  rw[hb,hW0]at HB;go_enter Tz.func10,Tryz.ntmps10
  go_wp2_with(go_at_call 30;refine HB.mono ?_;clear HB;rintro e w1 ⟨rfl,b1⟩;rw[<-hW0]at b1;have r1:=rs0.same (b1.block _ rs0.lt);obtain⟨y0,y1,y2,y3,y4⟩:=r1.cells)
  obtain⟨W5,e5,k5,hb5,hz5,hn5⟩:=sj r1 (b0.trans (b1.mono b0.size)) (by omega) 0 0 none 0 0 none 0 0;rw[e5];obtain⟨q0,q1,q2,q3,q4⟩:=k5.cells;refine bodyPost_ret (v:=.tuple #[.agg #[.int .i64 0,.int .i64 0,.slice none 0 0,.slice none 0 0],.int .i64 1]) ?_ rfl ⟨⟨_,_,_,_,_,rfl,.bad hb⟩,hb5⟩;simp[results,Tryz.f10,go_sem,q0,q1,q2,q3]
 |true=>
  obtain⟨hm,hmn,hfit⟩:=fZ hb;have hmn2:=hmn.symm;clear hmn;subst hmn2;have h6:=aN hm;have hbH:Hid _:=hb;have hnw:=pm hb;have hsh:=vG hb;obtain⟨K,hK1,hK2,hK3⟩:=mn (λj=>aO (f j).name q.name) n;have hKP:=sw hK1 hK2 hK3;rw[hb,hW0]at HB;have HC1:=λW (hW:Below w.heap.size w W)=>pd now shift (some ⟨b,0,none⟩) n c f (some ⟨b',0,none⟩) n d t W (by omega) (by omega) ⟨(λh=>nomatch h),λad had=>by cases had;exact⟨b,rfl,Gn hbs hW.size,hrow.below hW hbs⟩⟩ ⟨(λh=>nomatch h),λad had=>by cases had;exact⟨b',rfl,Gn hbs' hW.size,hrow'.below hW hbs'⟩⟩
  have HC2:=HC1;have HM:=λW=>ox hf W
  have HA:=λW (hW:Below w.heap.size w W)=>Aq now shift (some ⟨b,0,none⟩) n c f (some ⟨b',0,none⟩) n d q.name W h6 ⟨(λh=>nomatch h),λad had=>by cases had;exact⟨b,rfl,Gn hbs hW.size,hrow.below hW hbs⟩⟩
  have HP:=λB c W (h1:n<=c) (h2:B<W.heap.size) (h3:ak W B 0 n f)=>yE B n c f q W h6 h1 h2 h3
  have hgo:∀(P:Prop),(∀kc:Int,kc=2->Hid (nj f n now shift q=.no kc)->q.ok=false->P)->(∀kc:Int,kc=2->Hid (nj f n now shift q=.no kc)->q.ok=true->¬q.prom<0->P)->(∀kc:Int,kc=3->Hid (nj f n now shift q=.no kc)->q.ok=true->q.prom<0->(∀k,f7 f n q.name k->0<=k)->P)->(∀kc:Int,kc=4->Hid (nj f n now shift q=.no kc)->q.ok=true->q.prom<0->(∀k,f7 f n q.name k->k<0)->¬n<6->P)->(q.ok=true->q.prom<0->(∀j,j<n->aX (f j).name q.name=false)->(∀k,f7 f n q.name k->k<0)->n<6->P)->P:=λP a1 a2 a3 a4 a5=>by
   cases hok:q.ok with
   |false=>exact a1 2 rfl (mt (wX (.inl hok))) hok
   |true=>
    by_cases hp:q.prom<0
    .rcases CJ f n q.name with⟨J,hJ,hat,hJ2⟩|hat
     .exact a3 3 rfl (mt (CK hok hp ⟨J,hJ,hat⟩)) hok hp (λk hk=>by have:=hk.yes hJ hat hJ2;omega)
     .have AT:∀k,f7 f n q.name k->k<0:=λk hk=>by have:=hk.no hat;omega
      by_cases h:n<6
      .exact a5 hok hp hat AT h
      .exact a4 4 rfl (mt (CL hok hp hat h)) hok hp AT h
    .exact a2 2 rfl (mt (wX (.inr hp))) hok hp
  clear hb;refine hgo _ (λkc hc HD hok=>?_) (λkc hc HD hok hp=>?_) (λkc hc HD hok hp AT=>?_) (λkc hc HD hok hp AT hlt=>?_) (λhok hp hat AT hlt=>?_);all_goals clear hgo
  rotate_right;focus
   have hF:=qG hm hlt hK1 hok hK2 hK3 hat;have hoF:∀i,i<n+1->(bz f K q i).ok=true:=λi hi=>aS hF i hi
   have HPL:=λB c W (h2:B<W.heap.size) (h3:ak W B 0 (n+1) (bz f K q))=>pb B (n+1) c (bz f K q) now shift W (by omega) hoF hnw.1 (by omega) hsh.1 hsh.2 (λhr=>ud hF (by omega) hr) h2 h3
   rcases hpl:eA (bz f K q) (n+1) now shift with _|T;focus
    rw[hpl]at HPL;have HN:=HPL;clear HPL;obtain⟨kc,hc⟩:∃kc:Int,kc=5:=⟨_,rfl⟩;have HD:Hid (nj f n now shift q=.no kc):=(show nj f n now shift q=.no kc by rw[hc];exact mt (by rw[Aw hok hp hat hlt hKP,hpl]))
   rotate_left;focus
    rw[hpl]at HPL;have HS:=HPL;clear HPL;have HSU:=λB c b' c' W (h2:B<W.heap.size) (h3:ak W B 0 (n+1) (bz f K q)) (h4:b'<W.heap.size) (h5:al W b' 0 (n+1) T)=>sd now shift B (n+1) c (bz f K q) b' (n+1) c' T W (by omega) (by unfold maxLen;omega) h2 h3 (λi hi=>Cb (hoF i hi)) h4 h5
    have HC3:=λB c b' c' W (h2:B<W.heap.size) (h3:ak W B 0 (n+1) (bz f K q)) (h4:b'<W.heap.size) (h5:al W b' 0 (n+1) T)=>pd now shift (some ⟨B,0,none⟩) (n+1) c (bz f K q) (some ⟨b',0,none⟩) (n+1) c' T W (by omega) (by omega) ⟨(λh=>nomatch h),λad had=>by cases had;exact⟨B,rfl,h2,h3⟩⟩ ⟨(λh=>nomatch h),λad had=>by cases had;exact⟨b',rfl,h4,h5⟩⟩
    have hap:sx f n now shift q=.yes K T:=by rw[Aw hok hp hat hlt hKP,hpl]
    rcases hsb:dz now shift (bz f K q) (n+1) T (n+1)with _|_;focus
     rw[hsb]at HSU;obtain⟨kc,hc⟩:∃kc:Int,kc=6:=⟨_,rfl⟩;have HD:Hid (nj f n now shift q=.no kc):=(show nj f n now shift q=.no kc by rw[hc];exact CN hap hsb);clear hsb hap
    rotate_left;focus
     rw[hsb]at HSU;have HD:Hid (nj f n now shift q=.yes K T):=CO hap hsb;clear hsb hap
  all_goals clear hKP
  all_goals try clear hpl
  all_goals
   rw[hok]at HM;go_enter Tz.func10,Tryz.ntmps10
   go_wp2_with(first
    |(go_at_call 30;refine HB.mono ?_;clear HB;rintro e w1 ⟨rfl,b1⟩;rw[<-hW0]at b1;have B1:=b0.trans (b1.mono b0.size);have bk:=bk0.same (b1.block _ bk0.lt);have mv:=mv0.keep (b1.block _ (by omega));have rs:=rs0.same (b1.block _ rs0.lt);obtain⟨y0,y1,y2,y3,y4⟩:=bk.cells)
    |(go_at_call 31;refine(HC1 _ B1).mono ?_;clear HC1;rintro e w2 ⟨⟨Bx,cx,Bi,ci,rfl,oM,oI⟩,b2⟩;have z2:=b2.size;have z1:=b1.size;have bk:=bk.same (b2.block _ (by omega));have rs:=rs.same (b2.block _ (by omega));obtain⟨W3,e3,k3,b3,z3⟩:=CI w2 now shift (some ⟨Bx,0,none⟩) n cx (some ⟨Bi,0,none⟩) n ci;have hA:Ad w now shift (some ⟨b,0,none⟩) n c (some ⟨b',0,none⟩) d (w.heap.size+1+1) w2.heap.size Bx cx Bi ci f t W3:=⟨(B1.trans (b2.mono B1.size)).trans (b3.mono (by omega)),bk.same (b3.block _ (by omega)),rs.same (b3.block _ (by omega)),by omega,k3,by omega,eB (bf oM (λB hB=>b3.block B (oM.lt B hB).2)) (by omega),eB (bf oI (λB hB=>b3.block B (oI.lt B hB).2)) (by omega)⟩;have mv:=(mv.keep (b2.block _ (by omega))).keep (b3.block _ (by omega));obtain⟨s0,s1,s2,s3,s4,s5⟩:=fx mv;clear oM oI bk rs)
    |(go_at_call 32;refine(HM W3).mono ?_;clear HM;rintro e w4 ⟨rfl,b4⟩;have z4:=b4.size;have mv:=mv.keep (b4.block _ (by omega));have hA:=hA.grow b4;obtain⟨y0,y1,y2,y3,y4⟩:=hA.bk.cells;obtain⟨s0,s1,s2,s3,s4,s5⟩:=fx mv;obtain⟨x0,x1,x2,x3,x4⟩:=hA.x.cells;obtain⟨r0,r1,r2,r3,r4⟩:=hA.rs.cells)
    |(go_at_call 33;refine(HA _ hA.below).mono ?_;clear HA;rintro e w5 ⟨⟨kk,rfl,hkk⟩,b5⟩;have z5:=b5.size;have mv:=mv.keep (b5.block _ (by omega));have hA:=hA.grow b5;obtain⟨y0,y1,y2,y3,y4⟩:=hA.bk.cells;obtain⟨s0,s1,s2,s3,s4,s5⟩:=fx mv;obtain⟨x0,x1,x2,x3,x4⟩:=hA.x.cells;obtain⟨r0,r1,r2,r3,r4⟩:=hA.rs.cells;have hkn:=AT kk hkk)
    |(go_at_call 31;refine(HC2 _ hA.below).mono ?_;clear HC2;rintro e w6 ⟨⟨By,cy,Bz,cz,rfl,oY,oZ⟩,b6⟩;have z6:=b6.size;obtain⟨W7,e7,k7,b7,z7⟩:=CI w6 now shift (some ⟨By,0,none⟩) n cy (some ⟨Bz,0,none⟩) n cz;have hA:=(hA.grow b6).grow b7;have mv:=(mv.keep (b6.block _ (by omega))).keep (b7.block _ (by omega));have oY:=bf oY (λB hB=>b7.block B (oY.lt B hB).2);obtain⟨y0,y1,y2,y3,y4⟩:=hA.bk.cells;obtain⟨s0,s1,s2,s3,s4,s5⟩:=fx mv;obtain⟨p0,p1,p2,p3,p4⟩:=k7.cells)
    |(go_at_call 34;refine(HP By cy W7 (mm oY).2.2 (mm oY).2.1 (dg oY)).mono ?_;clear HP;rintro e w8 ⟨⟨B8,c8,k8,rfl,g1,g2,g3,o8⟩,b8⟩;obtain rfl:=wV hK1 hK2 hK3 g1 g2 g3;have z8:=b8.size;have hA:=hA.grow b8;have y8:=k7.same (b8.block _ k7.lt);have l8:=y8.lt;obtain⟨p0,p1,p2,p3,p4⟩:=y8.cells;obtain⟨W9,e9,y9,hb9,z9,h9⟩:=DB y8 hA.below (by have:=hA.hR;have:=hA.hX;omega) (.slice (some ⟨B8,0,none⟩) (n+1) c8);have hA:=hA.set y8 (by omega) hb9 h9;have o9:=bf o8 (λB hB=>h9 B (so o8 y8 (by decide) hB));obtain⟨y0,y1,y2,y3,y4⟩:=hA.bk.cells;obtain⟨p0,p1,p2,p3,p4⟩:=y9.cells)
    |(go_at_call 35;refine(HN B8 c8 W9 (mm o9).2.1 (dg o9)).mono ?_;clear HN;rintro e w10 ⟨⟨a10,c10,rfl⟩,b10⟩;have hA:=hA.grow b10;obtain⟨x0,x1,x2,x3,x4⟩:=hA.x.cells;obtain⟨r0,r1,r2,r3,r4⟩:=hA.rs.cells)
    |(go_at_call 35;refine(HS B8 c8 W9 (mm o9).2.1 (dg o9)).mono ?_;clear HS;rintro e w10 ⟨⟨BT,cT,hBT,rfl,oT,_⟩,b10⟩;have hA:=hA.grow b10;have y10:=y9.same (b10.block _ y9.lt);obtain⟨p0,p1,p2,p3,p4⟩:=y10.cells;obtain⟨W11,e11,y11,hb11,z11,h11⟩:=Ca y10 hA.below (by have:=hA.hR;have:=hA.hX;omega) (.slice (some ⟨BT,0,none⟩) (n+1) cT);have hA:=hA.set y10 (by omega) hb11 h11;have o10:=bf o9 (λB hB=>b10.block B (o9.lt B hB).2);have o11:=bf o10 (λB hB=>h11 B (so o10 y10 (by decide) hB));have oT:=ml oT (h11 BT (by omega));obtain⟨p0,p1,p2,p3,p4⟩:=y11.cells)
    |(go_at_call 36;refine(HSU B8 c8 BT cT W11 (mm o11).2.1 (dg o11) oT.lt oT.2).mono ?_;clear HSU;rintro e w12 ⟨rfl,b12⟩;have hA:=hA.grow b12;have y12:=y11.same (b12.block _ y11.lt);have o12:=bf o11 (λB hB=>b12.block B (o11.lt B hB).2);have oT:=ml oT (b12.block _ oT.lt);obtain⟨p0,p1,p2,p3,p4⟩:=y12.cells;obtain⟨x0,x1,x2,x3,x4⟩:=hA.x.cells;obtain⟨r0,r1,r2,r3,r4⟩:=hA.rs.cells)
    |(go_at_call 31;refine(HC3 B8 c8 BT cT w12 (mm o12).2.1 (dg o12) oT.lt oT.2).mono ?_;clear HC3;rintro e w13 ⟨⟨Bq,cq,Bv,cv,rfl,oQ,oV⟩,b13⟩;have z13:=hA.x.lt;have hA:=hA.grow b13;obtain⟨r0,r1,r2,r3,r4⟩:=hA.rs.cells))
   all_goals first|(exfalso;omega)|skip
   all_goals first
    |(obtain⟨W5,e5,k5,hb5,hz5,hn5⟩:=sj hA.rs hA.below (by omega) now shift (some ⟨Bq,0,none⟩) (n+1) cq (some ⟨Bv,0,none⟩) (n+1) cv;rw[e5];obtain⟨q0,q1,q2,q3,q4⟩:=k5.cells;have hhR:=hA.hX;have hhS:=hA.hR;refine bodyPost_ret (v:=.tuple #[.agg #[.int .i64 now,.int .i64 shift,.slice (some ⟨Bq,0,none⟩) (n+1) cq,.slice (some ⟨Bv,0,none⟩) (n+1) cv],.int .i64 0]) (by simp[results,Tryz.f10,go_sem,q0,q1,q2,q3]) rfl ⟨⟨_,_,_,_,_,rfl,.yes hbH.out HD.out (by have:=(oQ.lt Bq rfl).1;omega) (by have:=(oV.lt Bv rfl).1;omega) (rX (bf oQ (λB hB=>hn5 B (by have:=(oQ.lt B hB).1;omega)))) (yr (bf oV (λB hB=>hn5 B (by have:=(oV.lt B hB).1;omega))))⟩,hb5⟩)
    |(obtain⟨W5,e5,k5,hb5,hz5,hn5⟩:=sj hA.rs hA.below (by omega) now shift (some ⟨Bx,0,none⟩) n cx (some ⟨Bi,0,none⟩) n ci;rw[e5];obtain⟨q0,q1,q2,q3,q4⟩:=k5.cells;have hhR:=hA.hX;have hhS:=hA.hR;exact bodyPost_ret (v:=.tuple #[.agg #[.int .i64 now,.int .i64 shift,.slice (some ⟨Bx,0,none⟩) n cx,.slice (some ⟨Bi,0,none⟩) n ci],.int .i64 kc]) (by simp[results,Tryz.f10,go_sem,q0,q1,q2,q3,hc]) rfl ⟨⟨_,_,_,_,_,rfl,.no hbH.out HD.out (eB (bf hA.om (λB hB=>hn5 B (by have:=(hA.om.lt B hB).1;omega))) (by omega)) (eB (bf hA.oi (λB hB=>hn5 B (by have:=(hA.oi.lt B hB).1;omega))) (by omega))⟩,hb5⟩)
structure jQ (w:World)(s e B:Nat)(x y:Int)(v u:Value)(n:Nat)(f:Nat->Mv)(m:Nat)(t:Nat->Int):Prop where
 rows:∃lo hi,s<=lo/\lo<=hi/\hi<=e/\(B<lo\/hi<=B)/\cP w lo hi v n f/\cO w lo hi u m t
 sB:s<=B
 Be:B<e
 ew:e<=w.heap.size
 box:ar w B x y v u
section
variable {w w':World}{s e B:Nat}{x y:Int}{v u:Value}{n:Nat}{f:Nat->Mv}{m:Nat}{t:Nat->Int}
theorem jQ.keep (h:jQ w s e B x y v u n f m t)(hz:w.heap.size<=w'.heap.size)(ee:∀k,s<=k->k<e->w'.heap[k]?=w.heap[k]?):jQ w' s e B x y v u n f m t:=by
 obtain⟨⟨lo,hi,h1,h2,h3,h4,h5,h6⟩,h7,h8,h9,h10⟩:=h;exact⟨⟨lo,hi,h1,h2,h3,h4,h5.keep hz (λ_ k _ a b _=>ee k (by omega) (by omega)),h6.keep hz (λ_ k _ a b _=>ee k (by omega) (by omega))⟩,h7,h8,by omega,h10.same (ee B h7 h8)⟩
theorem jQ.bl (h:jQ w s e B x y v u n f m t)(hb:Bl w.heap.size w w'):jQ w' s e B x y v u n f m t:=h.keep hb.size λk _ hk=>hb.block k (by have:=h.ew;omega)
theorem jQ.bel (h:jQ w s e B x y v u n f m t)(hb:Below w.heap.size w w'):jQ w' s e B x y v u n f m t:=h.keep hb.size λk _ hk=>hb.block k (by have:=h.ew;omega)
theorem jQ.mid {a b:Nat}(h:jQ w s e B x y v u n f m t)(hm:Av a b w w')(hd:e<=a\/b<=s):jQ w' s e B x y v u n f m t:=h.keep hm.size λk h1 h2=>hm.block k (by have:=h.ew;omega) (by omega)
theorem jQ.eq {s' e' B':Nat}{v' u':Value}(h:jQ w s e B x y v u n f m t)(h':jQ w s' e' B' x y v' u' n f m t)(hn:n<=1048576)(hm:m<=1048576):
  Calls Tz.prog 14 #[yD x y v u,yD x y v' u'] w λe w'=>e=.returned (.bool true)/\Below w.heap.size w w':=by
 obtain⟨⟨lo,hi,h1,h2,h3,h4,h5,h6⟩,h7,h8,h9,h10⟩:=h;obtain⟨⟨lo',hi',g1,g2,g3,g4,g5,g6⟩,g7,g8,g9,g10⟩:=h';exact uh x y hn hm h5 g5 h6 g6 (by omega) (by omega)
theorem jQ.eqM (h:jQ w s e B x y v u n f m t){lo' hi':Nat}{v' u':Value}(hn:n<=1048576)(hm:m<=1048576)(g5:cP w lo' hi' v' n f)(g6:cO w lo' hi' u' m t)(gh:hi'<=w.heap.size):
  Calls Tz.prog 14 #[yD x y v u,yD x y v' u'] w λe w'=>e=.returned (.bool true)/\Below w.heap.size w w':=by
 obtain⟨⟨lo,hi,h1,h2,h3,h4,h5,h6⟩,h7,h8,h9,h10⟩:=h;exact uh x y hn hm h5 g5 h6 g6 (by omega) gh
theorem jQ.mark (h:jQ w s e B x y v u n f m t)(hn:n<=1048576)(hm:m<=1048576):
  Calls Tz.prog 15 #[yD x y v u,.int .i64 1] w λen w'=>en=.returned (.int .i64 (1+n*6+m))/\jQ w' s e B x y v u n (gb 1) m (λi=>1+n*6+i)/\Av s e w w':=by
 obtain⟨⟨lo,hi,h1,h2,h3,h4,h5,h6⟩,h7,h8,h9,h10⟩:=h;refine(uq x y 1 hn hm (by omega) (by omega) h5 h6 h2 (by omega)).mono ?_;rintro en w' ⟨a1,a2,a3,a4,_⟩;have:=a4.size;exact⟨a1,⟨⟨lo,hi,h1,h2,h3,h4,a2,a3⟩,h7,h8,by omega,h10.same (a4.block B (by omega) h4)⟩,a4.size,λk hk hd=>a4.block k hk (by omega),a4.below.mono h1⟩
theorem jQ.held (h:jQ w s e B x y v u n (gb 1) m (λi=>1+n*6+i))(hn:n<=1048576)(hm:m<=1048576):
  Calls Tz.prog 16 #[yD x y v u,.int .i64 1] w λe w'=>e=.returned (.int .i64 (1+n*6+m))/\Below w.heap.size w w':=by
 obtain⟨⟨lo,hi,h1,h2,h3,h4,h5,h6⟩,h7,h8,h9,h10⟩:=h;exact vN x y 1 hn hm (by omega) (by omega) h5 h6 (by omega)
theorem jQ.new {lo:Nat}(h1:cP w lo w.heap.size v n f)(h2:cO w lo w.heap.size u m t)(hl:lo<=w.heap.size):jQ (w.alloc (.cells #[.int .i64 x,.int .i64 y,v,u] 32)) lo (w.heap.size+1) w.heap.size x y v u n f m t:=
 have b:=(Gb _ w).alloc (Gm _) (.cells #[.int .i64 x,.int .i64 y,v,u] 32)
 ⟨⟨lo,w.heap.size,Gm _,hl,by omega,.inr (Gm _),h1.below b (Gm _),h2.below b (Gm _)⟩,hl,by omega,by simp,heap_alloc_new _ _⟩
theorem jQ.put {lo:Nat}{y0 y1 y2 y3:Value}(h1:cP w lo w.heap.size v n f)(h2:cO w lo w.heap.size u m t)(hs:s<=B)(hB:B<lo)(hl:lo<=w.heap.size)(hb:w.heap[B]?=some (.cells #[y0,y1,y2,y3] 32 (0,0))):jQ (w.setRow B #[.int .i64 x,.int .i64 y,v,u]) s w.heap.size B x y v u n f m t:=by
 have z:(w.setRow B #[.int .i64 x,.int .i64 y,v,u]).heap.size=w.heap.size:=setRow_size ..;exact⟨⟨lo,w.heap.size,by omega,hl,Gm _,.inl hB,h1.keep (by omega) (λ_ k _ a _ _=>setRow_other _ _ _ _ (by omega)),h2.keep (by omega) (λ_ k _ a _ _=>setRow_other _ _ _ _ (by omega))⟩,hs,by omega,by omega,setRow_heap _ _ _ _ _ _ hb⟩
end
end
