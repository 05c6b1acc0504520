import Derived.Test.YtlmcblcijndipaaGreatM45
import Derived.Test.YtlmcblcijndipaaGreatM36
set_option linter.unusedVariables false
set_option linter.unusedSectionVars false
set_option maxHeartbeats 4000000
set_option maxRecDepth 100000
namespace Go.Proofs.YtlmcblcijndipaaGreat
open Go Go.Conc Go.RowKit
noncomputable def eG (now shift:Int)(f:Nat->Mv)(n:Nat)(t:Nat->Int)(m:Nat):Bool:=bc now shift f n t m&&@decide (pD f n t) (Classical.propDecidable _)
theorem oa {now shift:Int}{f:Nat->Mv}{n m:Nat}{t:Nat->Int}(h:bc now shift f n t m=false):eG now shift f n t m=false:=by unfold eG;rw[h];rfl
theorem lJ {now shift:Int}{f:Nat->Mv}{n m:Nat}{t:Nat->Int}(h:bc now shift f n t m=true)(hs:pD f n t):eG now shift f n t m=true:=by unfold eG;rw[h];simpa using hs
theorem lK {now shift:Int}{f:Nat->Mv}{n m:Nat}{t:Nat->Int}(hs:¬pD f n t):eG now shift f n t m=false:=by unfold eG;simp[hs]
theorem dD {now shift:Int}{f:Nat->Mv}{n m:Nat}{t:Nat->Int}(h:bc now shift f n t m=true):ap f n=true/\m=n/\cZ f t n:=by
 cases hf:ca f n t m with
 |false=>rw[jY hf]at h;cases h
 |true=>exact jZ hf
section
variable [Gl]{ok:Ctx}{c:Frame}{Q:Value->World->Prop}
theorem az.loopInd {P₀:Program}{Dr:FuncId->Array Value->World->(Value->World->Prop)->Prop}(E:dm P₀ ok c Dr){b:Frame}{X:Code}{k:List Item}{cs:List Frame}(hb:ok.inn b.fn=true)(Inv:Nat->Act->World->Prop)
  (step:∀j a W,Inv j a W->(∀i,i<j->∀a' W',Inv i a' W'->az P₀ ok c Dr Q ⟨b.at a' (.inLoop X::k),cs,W'⟩)->az P₀ ok c Dr Q ⟨b.at a (.code X::.inLoop X::k),cs,W⟩):
  ∀j a W,Inv j a W->az P₀ ok c Dr Q ⟨b.at a (.code X::.inLoop X::k),cs,W⟩:=by
 intro j;induction j using Nat.strongRecOn with
 |ind j ih=>intro a W h;exact step j a W h λi hi a' W' h'=>az.inLoop E hb (ih i hi a' W' h')
theorem az.roundOp (E:dm Tryz0.prog ok c Dr24)(hRo:ok.inn 40=true)(hPl:ok.inn 76=true)(hSB:ok.inn 6=true)(hbt:ok.inn 24=false){fb:Frame}{a:Act}{k:List Item}{cs:List Frame}{V:World}(hb:ok.inn fb.fn=true){ops:Array Oper}{i:Nat}{r:List Nat}{o:Oper}(ho:ops[i]?=some o)(hw:Region.wanted o (yielded ops a.tmps)=true)
  {b n cap b' cap' p:Nat}{f:Nat->Mv}{t:Nat->Int}{now shift:Int}(hx:∀w,(execOp a.eval o).run Tryz0.prog w=.ok (.enter 40 #[.agg #[.int .i64 now,.int .i64 shift,.slice (some ⟨b,0,none⟩) n cap,.slice (some ⟨b',0,none⟩) n cap'],.int .i64 p]) w)
  (hm:ap f n=true)(hf:cZ f t n)(hp:p<n)(hbs:b<V.heap.size)(hrow:aw V b 0 n f)(hbs':b'<V.heap.size)(hrow':ak V b' 0 n t)
  (hcont:∀v V',pI f n t p shift V v V'->az Tryz0.prog ok c Dr24 Q ⟨fb.at (a.put o.dst v) (.inRegion ops r::k),cs,V'⟩):az Tryz0.prog ok c Dr24 Q ⟨fb.at a (.inRegion ops (i::r)::k),cs,V⟩:=
 az.enterOp E ho hw hRo hx (xv E hRo hPl hSB hbt (r0:=fb.at a (.inRegion ops (i::r)::k)) hb hm hf hp hbs hrow hbs' hrow' (λv V' hv=>by rw[fO ho];exact hcont v V' hv))
theorem yN (E:dm Tryz0.prog ok c Dr24)(hSu:ok.inn 15=true)(hRo:ok.inn 40=true)(hPl:ok.inn 76=true)(hSB:ok.inn 6=true)(hbt:ok.inn 24=false){r0:Frame}{cs:List Frame}{V:World}(hr0:ok.inn r0.fn=true)
  {b n cap b' m cap':Nat}{f:Nat->Mv}{t:Nat->Int}{now shift:Int}(hn:n<=1048576)(hm1:m<=maxLen)(hbs:b<V.heap.size)(hrow:aw V b 0 n f)(hbs':b'<V.heap.size)(hrow':ak V b' 0 m t)
  (hcont:∀V',Bl V.heap.size V V'->az Tryz0.prog ok c Dr24 Q ⟨r0.finish (.bool (eG now shift f n t m)),cs,V'⟩):
  az Tryz0.prog ok c Dr24 Q ⟨Frame.enter Tryz0.prog 15 #[.agg #[.int .i64 now,.int .i64 shift,.slice (some ⟨b,0,none⟩) n cap,.slice (some ⟨b',0,none⟩) m cap']] .normal,r0::cs,V⟩:=by
 have hE:=enter_at (P:=Tryz0.prog) #[.agg #[.int .i64 now,.int .i64 shift,.slice (some ⟨b,0,none⟩) n cap,.slice (some ⟨b',0,none⟩) m cap']] Tryz0.func15 rfl;simp only[Tryz.ntmps15,List.size_toArray,List.length_cons,List.length_nil,Nat.reduceAdd,Nat.reduceSub,Array.replicate_succ,Array.replicate_zero,List.push_toArray,List.append_toArray,List.nil_append,List.cons_append]at hE;rw[hE];clear hE;have htop:∀(x:Bool) (a':Act) (w':World) (todo:List Item),(x=eG now shift f n t m/\Bl V.heap.size V w'/\a'.defers=[]/\a'.tmps[2]?=some (.bool x))->az Tryz0.prog ok c Dr24 Q ⟨{(base 15).at a' todo with mode:=.returning},r0::cs,w'⟩:=by
  rintro x a' w' todo ⟨rfl,h1,h2,h3⟩;refine az.leave E hr0 (v:=.bool (eG now shift f n t m)) (λτ d=>⟨rfl,h2,rfl,_,Tryz0.func15,?_⟩) (hcont _ h1);have:=results_tmp (fn:=Tryz.f15) rfl a'.tmps Tryz0.prog (re w' τ d);rw[fu h3]at this;exact this
 refine az.chainM E hSu [_,_] _ (λa' w'=>bc now shift f n t m=true/\Bl V.heap.size V w'/\∃B1,V.heap.size<=B1/\ar w' B1 now shift (.slice (some ⟨b,0,none⟩) n cap) (.slice (some ⟨b',0,none⟩) m cap')/\bX a' (λu=>#[u 0,.pointer (some ⟨B1,0,none⟩),u 2,u 3,u 4,u 5,u 6,u 7,u 8,u 9,u 10,u 11,u 12,u 13,u 14,u 15,u 16,u 17,u 18,u 19,u 20,u 21,u 22,u 23,u 24,u 25,u 26,u 27,u 28,u 29])) (λa' w'=>false=eG now shift f n t m/\Bl V.heap.size V w'/\a'.defers=[]/\a'.tmps[2]?=some (.bool false)) ?_ ?_ (λa' w' todo hh=>htop false a' w' todo hh)
 .intro τ d;have bA:Below (re V τ d).heap.size (re V τ d) ((re V τ d).alloc (.cells #[.int .i64 now,.int .i64 shift,.slice (some ⟨b,0,none⟩) n cap,.slice (some ⟨b',0,none⟩) m cap'] 38)):=(Below.refl _ _).alloc (Nat.le_refl _) _;have hbk:ar ((re V τ d).alloc (.cells #[.int .i64 now,.int .i64 shift,.slice (some ⟨b,0,none⟩) n cap,.slice (some ⟨b',0,none⟩) m cap'] 38)) V.heap.size now shift (.slice (some ⟨b,0,none⟩) n cap) (.slice (some ⟨b',0,none⟩) m cap'):=heap_alloc_new (re V τ d) _;have H1:=kX now shift b 0 n cap f b' 0 m cap' t _ hn hm1 (Nat.lt_of_lt_of_le hbs bA.size) ((aZ (w':=re V τ d) hrow rfl).below bA hbs) (Nat.lt_of_lt_of_le hbs' bA.size) (ak.below (w:=re V τ d) (λi hi=>hrow' i hi) bA hbs');clear htop hcont hrow hrow';simp only[aK];cases hb:bc now shift f n t m with
  |false=>
   rw[hb]at H1;have hno:=oa hb;go_wp2_with(go_at_call 17;refine H1.mono ?_;clear H1;rintro e w1 ⟨rfl,b1⟩)
   have hbl:Bl V.heap.size V w1:=Bl.ofR (bA.trans (b1.mono bA.size));first
    |exact⟨hno.symm,hbl,rfl,rfl⟩
    |exact⟨hno,hbl⟩
    |exact⟨hno,hbl,rfl⟩
    |exact⟨hno.symm,hbl⟩
  |true=>
   rw[hb]at H1;go_wp2_with(go_at_call 17;refine H1.mono ?_;clear H1;rintro e w1 ⟨rfl,b1⟩)
   have hbl:Bl V.heap.size V w1:=Bl.ofR (bA.trans (b1.mono bA.size));have hbk1:=hbk.same (b1.block _ hbk.lt);first
    |exact⟨hbl,V.heap.size,Nat.le_refl _,hbk1,rfl,rfl⟩
    |exact⟨rfl,hbl,V.heap.size,Nat.le_refl _,hbk1,rfl,rfl⟩
    |exact⟨trivial,hbl,V.heap.size,Nat.le_refl _,hbk1,rfl,rfl⟩
 rintro a' w1 ⟨hbook,hb1,B1,hB1,bk1,hfr⟩;obtain⟨u,rfl⟩:=hfr.open;clear hfr;obtain⟨hm,hmn,hf⟩:=dD hbook;replace hmn:=hmn.symm;subst hmn;have h6:=aR hm;have hz1:=hb1.size;refine az.seq E hSu ?_;refine az.chain E hSu [_] _ (λa' w'=>(∃τ d,w'=re w1 τ d)/\∃k:Nat,k=0/\bX a' (λu=>#[u 0,.pointer (some ⟨B1,0,none⟩),u 2,u 3,u 4,u 5,u 6,u 7,u 8,u 9,u 10,.slice (some ⟨b,0,none⟩) n cap,.int .i64 n,.int .i64 k,u 14,u 15,u 16,u 17,u 18,u 19,u 20,u 21,u 22,u 23,u 24,u 25,u 26,u 27,u 28,u 29])) (λ_ _=>False) ?_ ?_ (λ_ _ _ hh=>hh.elim)
 .intro τ d;have bk0:ar (re w1 τ d) B1 now shift (.slice (some ⟨b,0,none⟩) n cap) (.slice (some ⟨b',0,none⟩) n cap'):=bk1;obtain⟨y0,y1,y2,y3,y4⟩:=bk0.cells;clear htop hcont;simp only[aK];go_wp2;left;exact⟨by first|rfl|trivial,⟨τ,d,rfl⟩,0,rfl,rfl,rfl⟩
 rintro a' w' ⟨⟨τ1,d1,rfl⟩,k,rfl,hfr⟩;refine az.block E hSu (az.loop E hSu ?_);refine az.loopInd E hSu (λj a' w'=>∃k:Nat,k+j=n/\Bl w1.heap.size w1 w'/\(∀p,p<k->(f p).lands=true->(bd f n t p).isSome=true)/\bX a' (λu=>#[u 0,.pointer (some ⟨B1,0,none⟩),u 2,u 3,u 4,u 5,u 6,u 7,u 8,u 9,u 10,.slice (some ⟨b,0,none⟩) n cap,.int .i64 n,.int .i64 k,u 14,u 15,u 16,u 17,u 18,u 19,u 20,u 21,u 22,u 23,u 24,u 25,u 26,u 27,u 28,u 29])) ?_ n a' _ ⟨0,by omega,⟨Nat.le_refl _,λ_ _=>rfl⟩,λp hp=>absurd hp (Nat.not_lt_zero _),hfr⟩;clear hfr u a';rintro j a' W ⟨k,hkj,hbW,hall,hfr⟩ IH;obtain⟨u,rfl⟩:=hfr.open;clear hfr;have hzW:=hbW.size;have bkW:ar W B1 now shift (.slice (some ⟨b,0,none⟩) n cap) (.slice (some ⟨b',0,none⟩) n cap'):=bk1.same (hbW.block B1 bk1.lt);have rowW:aw W b 0 n f:=aZ (aZ hrow (hb1.block b hbs)) (hbW.block b (by omega));have rowW':ak W b' 0 n t:=λi hi=>by
  have e:=(hbW.block b' (by omega)).trans (hb1.block b' hbs');have:=hrow' i hi;simp only[World.cell?,e]at this⊢;exact this
 have hbVW:Bl V.heap.size V W:=hb1.trans hbW hz1;refine az.chain E hSu [_] _ (λa' w'=>(∃τ d,w'=re W τ d)/\bX a' (λu=>#[u 0,.pointer (some ⟨B1,0,none⟩),u 2,u 3,u 4,u 5,u 6,u 7,u 8,u 9,u 10,.slice (some ⟨b,0,none⟩) n cap,.int .i64 n,.int .i64 k,.bool (decide (k<n)),u 15,u 16,u 17,u 18,u 19,u 20,u 21,u 22,u 23,u 24,u 25,u 26,u 27,u 28,u 29])) (λ_ _=>False) ?_ ?_ (λ_ _ _ hh=>hh.elim)
 .intro τ d;clear htop hcont IH;simp only[aK];go_wp2;left;exact⟨by first|rfl|trivial,⟨τ,d,rfl⟩,rfl,rfl⟩
 rintro a' w' ⟨⟨τ2,d2,rfl⟩,hfr⟩;clear u;obtain⟨u,rfl⟩:=hfr.open;clear hfr;refine az.seq E hSu (az.cond E hSu (t:=decide (k<n)) rfl ?_);by_cases hlt:k<n
 .rw[if_pos (by simpa using hlt)];refine az.skip E hSu (az.seq E hSu (az.block E hSu ?_));have hl1:b<W.heap.size:=by omega
  have hl1':b'<W.heap.size:=by omega
  have hB1W:B1<W.heap.size:=bkW.lt;refine az.chain E hSu [_] _ (λa' w'=>Bl W.heap.size W w'/\∃B4,w'.heap[B4]?=some (.cells (f k).cells 42 (0,0))/\bX a' (λu=>#[u 0,.pointer (some ⟨B1,0,none⟩),u 2,.int .i64 k,.pointer (some ⟨B4,0,none⟩),u 5,u 6,u 7,u 8,u 9,u 10,.slice (some ⟨b,0,none⟩) n cap,.int .i64 n,.int .i64 k,u 14,u 15,u 16,u 17,u 18,u 19,u 20,u 21,u 22,u 23,u 24,u 25,u 26,u 27,u 28,u 29])) (λ_ _=>False) ?_ ?_ (λ_ _ _ hh=>hh.elim)
  .intro τ d;obtain⟨c0,c1,c2,c3,c4,c5⟩:=(aZ (w':=re (re W τ2 d2) τ d) rowW rfl) k hlt;simp only[Nat.zero_add]at c0 c1 c2 c3 c4 c5;have hlt':(k:Int)<n:=by omega
   clear htop hcont IH;simp only[aK];go_wp2;left;refine⟨by first|rfl|trivial,⟨by simp[re],λq hq=>?_⟩,W.heap.size,?_,rfl,rfl⟩
   .exact(Below.heap_alloc _ _ _ (by simpa[re]using hq)).trans rfl
   .exact heap_alloc_new (re (re W τ2 d2) τ d) _
  rintro a' w2 ⟨hb2,B4,hbx,hfr⟩;clear u;obtain⟨u,rfl⟩:=hfr.open;clear hfr;have hz2:=hb2.size;refine az.seq E hSu ?_;refine az.chain E hSu [_] _ (λa' w'=>(∃τ d,w'=re w2 τ d)/\bX a' (λu=>#[u 0,.pointer (some ⟨B1,0,none⟩),u 2,.int .i64 k,u 4,u 5,u 6,u 7,u 8,u 9,u 10,.slice (some ⟨b,0,none⟩) n cap,.int .i64 n,.int .i64 k,u 14,u 15,u 16,u 17,u 18,u 19,.bool (!(f k).lands),u 21,u 22,u 23,u 24,u 25,u 26,u 27,u 28,u 29])) (λ_ _=>False) ?_ ?_ (λ_ _ _ hh=>hh.elim)
  .intro τ d;obtain⟨z0,z1,z2,z3,z4,z5⟩:=yM (w:=re w2 τ d) hbx;clear htop hcont IH;simp only[aK];go_wp2;left;exact⟨by first|rfl|trivial,⟨τ,d,rfl⟩,rfl,rfl⟩
  rintro a' w' ⟨⟨τ3,d3,rfl⟩,hfr⟩;clear u;obtain⟨u,rfl⟩:=hfr.open;clear hfr;refine az.cond E hSu (t:=!(f k).lands) rfl ?_;by_cases hla:(f k).lands=true
  .rw[if_neg (by rw[hla];simp)];refine az.skip E hSu (az.seq E hSu (az.region E hSu ?_));rw[bJ];have bk2:ar w2 B1 now shift (.slice (some ⟨b,0,none⟩) n cap) (.slice (some ⟨b',0,none⟩) n cap'):=bkW.same (hb2.block B1 hB1W);refine az.opsFrom E hSu 0 2 (by simp) (λa' w'=>(∃τ d,w'=re w2 τ d)/\bX a' (λu=>#[u 0,.pointer (some ⟨B1,0,none⟩),u 2,.int .i64 k,u 4,u 5,u 6,u 7,u 8,u 9,u 10,.slice (some ⟨b,0,none⟩) n cap,.int .i64 n,.int .i64 k,u 14,u 15,u 16,u 17,u 18,u 19,u 20,u 21,.agg #[.int .i64 now,.int .i64 shift,.slice (some ⟨b,0,none⟩) n cap,.slice (some ⟨b',0,none⟩) n cap'],.int .i64 k,u 24,u 25,u 26,u 27,u 28,u 29])) ?_ ?_
   .intro τ d;have bk0:ar (re (re w2 τ3 d3) τ d) B1 now shift (.slice (some ⟨b,0,none⟩) n cap) (.slice (some ⟨b',0,none⟩) n cap'):=bk2;obtain⟨y0,y1,y2,y3,y4⟩:=bk0.cells;clear htop hcont IH;simp only[List.drop_zero,List.take_succ_cons,List.take_zero];go_wp2;exact⟨⟨τ,d,rfl⟩,rfl,rfl⟩
   rintro a' w' ⟨⟨τ4,d4,rfl⟩,hfr⟩;clear u;obtain⟨u,rfl⟩:=hfr.open;clear hfr;refine az.roundOp E hRo hPl hSB hbt hSu (i:=2) rfl rfl (b:=b) (n:=n) (cap:=cap) (b':=b') (cap':=cap') (p:=k) (f:=f) (t:=t) (now:=now) (shift:=shift) (λw=>by simp[execOp,resolve,invoke,Act.eval,go_sem]) hm hf hlt (by show b<w2.heap.size;omega) (aZ (aZ rowW (hb2.block b hl1)) rfl) (by show b'<w2.heap.size;omega) (λi hi=>by
    have e:=hb2.block b' hl1';have:=rowW' i hi;simp only[World.cell?,re,e]at this⊢;exact this) ?_
   intro v V3 hpost;obtain⟨⟨x0,x1,x2,l2,c2,x3,l3,c3,rfl,_⟩,hb3'⟩:=hpost;have hb3:Bl w2.heap.size w2 V3:=⟨hb3'.size,hb3'.block⟩;clear hb3';have hz3:=hb3.size;have hbW3:Bl W.heap.size W V3:=hb2.trans hb3 hz2;obtain⟨br,hbr⟩:∃br,(bd f n t k).isSome=br:=⟨_,rfl⟩;rw[hbr];refine az.opsFrom E hSu 3 6 (by simp) (λa' w'=>Bl W.heap.size W w'/\bX a' (λu=>#[u 0,.pointer (some ⟨B1,0,none⟩),u 2,u 3,u 4,u 5,.bool br,u 7,u 8,u 9,u 10,.slice (some ⟨b,0,none⟩) n cap,.int .i64 n,.int .i64 k,u 14,u 15,u 16,u 17,u 18,u 19,u 20,u 21,u 22,u 23,u 24,u 25,u 26,u 27,u 28,u 29])) ?_ ?_
   .intro τ d;clear htop hcont IH;simp only[List.drop_succ_cons,List.drop_zero,List.take_succ_cons,List.take_zero,Act.put];go_wp2;refine⟨⟨by have:=hbW3.size;simp[re];omega,λq hq=>?_⟩,rfl,rfl⟩;exact(Below.heap_alloc _ _ _ (by have:=hbW3.size;simp[re];omega)).trans (hbW3.block q hq)
   rintro a' w5 ⟨hb5,hfr⟩;clear u;obtain⟨u,rfl⟩:=hfr.open;clear hfr;refine az.regionEnd E hSu ?_;refine az.chain E hSu [_] _ (λa' w'=>(∃τ d,w'=re w5 τ d)/\bX a' (λu=>#[u 0,.pointer (some ⟨B1,0,none⟩),u 2,u 3,u 4,u 5,u 6,u 7,u 8,u 9,u 10,.slice (some ⟨b,0,none⟩) n cap,.int .i64 n,.int .i64 k,u 14,u 15,u 16,u 17,u 18,u 19,u 20,u 21,u 22,u 23,u 24,u 25,u 26,u 27,.bool (!br),u 29])) (λ_ _=>False) ?_ ?_ (λ_ _ _ hh=>hh.elim)
   .intro τ d;clear htop hcont IH;simp only[aK];go_wp2;left;exact⟨by first|rfl|trivial,⟨τ,d,rfl⟩,rfl,rfl⟩
   rintro a' w' ⟨⟨τ6,d6,rfl⟩,hfr⟩;clear u;obtain⟨u,rfl⟩:=hfr.open;clear hfr;refine az.cond E hSu (t:=!br) rfl ?_;cases br with
   |false=>
    rw[if_pos (show(!false)=true from rfl)];have hnot:¬pD f n t:=λh=>by have:=h k hlt hla;rw[hbr]at this;cases this
    have hno:=lK (now:=now) (shift:=shift) (m:=n) hnot;have hbV5:Bl V.heap.size V w5:=hbVW.trans hb5 (by omega);refine az.last E hSu [_] (λa' w'=>false=eG now shift f n t n/\Bl V.heap.size V w'/\a'.defers=[]/\a'.tmps[2]?=some (.bool false)) ?_ (λa' w' todo hh=>htop false a' w' todo hh);intro τ d;clear htop hcont IH;simp only[aK];go_wp2;left;exact⟨by first|rfl|trivial,hno.symm,⟨hbV5.size,hbV5.block⟩,by first|rfl|trivial,by first|rfl|simp⟩
   |true=>
    rw[if_neg (show¬(!true)=true by simp)];refine az.skip E hSu (az.inBlock E hSu ?_);refine az.region E hSu ?_;rw[bJ];refine az.opsFrom E hSu 0 2 (by simp) (λa' w'=>(∃τ d,w'=re w5 τ d)/\∃k':Nat,k'=k+1/\bX a' (λu=>#[u 0,.pointer (some ⟨B1,0,none⟩),u 2,u 3,u 4,u 5,u 6,u 7,u 8,u 9,u 10,.slice (some ⟨b,0,none⟩) n cap,.int .i64 n,.int .i64 (k':Nat),u 14,u 15,u 16,u 17,u 18,u 19,u 20,u 21,u 22,u 23,u 24,u 25,u 26,u 27,u 28,u 29])) ?_ ?_
    .intro τ d;have hwr:IntKind.i64.wrap ((k:Int)+1)=(k:Int)+1:=by rw[IntKind.wrap_i64];omega
     clear htop hcont IH;simp only[List.drop_zero,List.take_succ_cons,List.take_zero];go_wp2;first|exact⟨⟨τ,d,rfl⟩,k+1,rfl,rfl,by simp⟩|exact⟨⟨τ,d,rfl⟩,rfl,by simp⟩|exact⟨⟨τ,d,rfl⟩,rfl,rfl⟩
    rintro a' w' ⟨⟨τ7,d7,rfl⟩,k',rfl,hfr⟩;refine az.regionEnd E hSu (IH (j-1) (by omega) _ _ ⟨k+1,by omega,?_,λp hp hl=>?_,hfr⟩)
    .exact⟨Nat.le_trans hzW hb5.size,λq hq=>(hb5.block q (by omega)).trans (hbW.block q hq)⟩
    .by_cases e:p=k
     .subst e;exact hbr
     .exact hall p (by omega) hl
  .rw[if_pos (by simpa using hla)];refine az.exit E hSu (k':=_) rfl ?_;refine az.region E hSu ?_;rw[bJ];refine az.opsFrom E hSu 0 2 (by simp) (λa' w'=>(∃τ d,w'=re w2 τ d)/\∃k':Nat,k'=k+1/\bX a' (λu=>#[u 0,.pointer (some ⟨B1,0,none⟩),u 2,u 3,u 4,u 5,u 6,u 7,u 8,u 9,u 10,.slice (some ⟨b,0,none⟩) n cap,.int .i64 n,.int .i64 (k':Nat),u 14,u 15,u 16,u 17,u 18,u 19,u 20,u 21,u 22,u 23,u 24,u 25,u 26,u 27,u 28,u 29])) ?_ ?_
   .intro τ d;have hwr:IntKind.i64.wrap ((k:Int)+1)=(k:Int)+1:=by rw[IntKind.wrap_i64];omega
    clear htop hcont IH;simp only[List.drop_zero,List.take_succ_cons,List.take_zero];go_wp2;first|exact⟨⟨τ,d,rfl⟩,k+1,rfl,rfl,by simp⟩|exact⟨⟨τ,d,rfl⟩,rfl,by simp⟩|exact⟨⟨τ,d,rfl⟩,rfl,rfl⟩
   rintro a' w' ⟨⟨τ7,d7,rfl⟩,k',rfl,hfr⟩;refine az.regionEnd E hSu (IH (j-1) (by omega) _ _ ⟨k+1,by omega,?_,λp hp hl=>?_,hfr⟩)
   .exact⟨Nat.le_trans hzW hz2,λq hq=>(hb2.block q (by omega)).trans (hbW.block q hq)⟩
   .by_cases e:p=k
    .subst e;exact absurd hl hla
    .exact hall p (by omega) hl
 .rw[if_neg (by simpa using hlt)];refine az.exit E hSu (k':=[.code _]) rfl ?_;have hsure:pD f n t:=λp hp=>hall p (by omega)
  have hyes:=lJ hbook hsure;refine az.last E hSu [_] (λa' w'=>true=eG now shift f n t n/\Bl V.heap.size V w'/\a'.defers=[]/\a'.tmps[2]?=some (.bool true)) ?_ (λa' w' todo hh=>htop true a' w' todo hh);intro τ d;clear htop hcont IH;simp only[aK];go_wp2;left;exact⟨by first|rfl|trivial,hyes.symm,⟨hbVW.size,hbVW.block⟩,by first|rfl|trivial,by first|rfl|simp⟩
end
end Go.Proofs.YtlmcblcijndipaaGreat
namespace Go.Proofs.YtlmcblcijndipaaGreat
open Go Go.RowKit
def pJ (r:Option (Nat->Int))(e:Ending):Prop:=∃(x0 x1:Int) (x2:Option Addr) (l2 c2:Nat) (x3:Option Addr) (l3 c3:Nat),e=.returned (.tuple #[.agg #[.int .i64 x0,.int .i64 x1,.slice x2 l2 c2,.slice x3 l3 c3],.bool r.isSome])
def jr (f:Nat->Mv)(n:Nat)(t:Nat->Int)(p:Nat)(shift:Int)(r:Option (Nat->Int))(w:World)(e:Ending)(w':World):Prop:=
 match r with
 |none=>e=.returned (.tuple #[.agg #[.int .i64 0,.int .i64 0,.slice none 0 0,.slice none 0 0],.bool false])
 |some T=>∃BN cN BT cT,e=.returned (.tuple #[.agg #[.int .i64 (t p),.int .i64 shift,.slice (some ⟨BN,0,none⟩) (ah f t p n).length cN,.slice (some ⟨BT,0,none⟩) (ah f t p n).length cT],.bool true])/\BN<w'.heap.size/\aw w' BN 0 (ah f t p n).length (eR (ah f t p n))/\aq w' BT (ah f t p n).length T
theorem jr.says {f:Nat->Mv}{n:Nat}{t:Nat->Int}{p:Nat}{shift:Int}{r:Option (Nat->Int)}{w:World}{e:Ending}{w':World}(h:jr f n t p shift r w e w'):pJ r e:=by
 cases r with
 |none=>exact⟨0,0,none,0,0,none,0,0,h⟩
 |some T=>obtain⟨BN,cN,BT,cT,h,_⟩:=h;exact⟨_,_,_,_,_,_,_,_,h⟩
theorem du {w w':World}{b n:Nat}{g:Nat->Int}(h:aq w b n g)(e:w'.heap[b]?=w.heap[b]?):aq w' b n g:=by
 obtain⟨⟨cs,h1,h2⟩,h3⟩:=h;exact⟨⟨cs,e.trans h1,h2⟩,λi hi=>(World.cell?_of_block (a:=⟨b,0+i,none⟩) e).trans (h3 i hi)⟩
theorem fC (w:World)(B:Nat)(x0 x1:Int)(x2:Option Addr)(l2 c2:Nat)(x3:Option Addr)(l3 c3:Nat)(h:w.heap[B]?=some (.cells #[.int .i64 x0,.int .i64 x1,.slice x2 l2 c2,.slice x3 l3 c3] 38 (0,0))):w.cell? ⟨B,0,none⟩=some (.int .i64 x0)/\w.cell? ⟨B,1,none⟩=some (.int .i64 x1)/\w.cell? ⟨B,2,none⟩=some (.slice x2 l2 c2)/\w.cell? ⟨B,3,none⟩=some (.slice x3 l3 c3):=by
 refine⟨?_,?_,?_,?_⟩<;>simp[World.cell?,h]
theorem kY (b n cap b' cap' p:Nat)(f:Nat->Mv)(t:Nat->Int)(now shift:Int)(w:World)(hm:ap f n=true)(hf:cZ f t n)(hp:p<n)(hbs:b<w.heap.size)(hrow:aw w b 0 n f)(hbs':b'<w.heap.size)(hrow':ak w b' 0 n t):
  Calls Tryz0.prog 41 #[.agg #[.int .i64 now,.int .i64 shift,.slice (some ⟨b,0,none⟩) n cap,.slice (some ⟨b',0,none⟩) n cap'],.int .i64 p] w λe w'=>jr f n t p shift (bd f n t p) w e w'/\Below w.heap.size w w':=by
 have h6:=aR hm;have hokp:=Mv.ok_bd (aE hm p hp);have hsp:=cY (hf.1 p hp);obtain⟨wB,hwB⟩:∃W,W=(w.alloc (.cells #[.int .i64 now,.int .i64 shift,.slice (some ⟨b,0,none⟩) n cap,.slice (some ⟨b',0,none⟩) n cap'] 38)).alloc (.cells #[.int .i64 0,.int .i64 0,.slice none 0 0,.slice none 0 0] 38):=⟨_,rfl⟩;have hbB:Below w.heap.size w wB:=by rw[hwB];exact((Below.refl _ w).alloc (Nat.le_refl _) _).alloc (by simp) _
 have hrs:ar wB (w.heap.size+1) 0 0 (.slice none 0 0) (.slice none 0 0):=by rw[hwB];exact be _ _ _
 have H1:=tL b n cap b' cap' p f t now shift wB hm hf hp (Nat.lt_of_lt_of_le hbs hbB.size) (hrow.below hbB hbs) (Nat.lt_of_lt_of_le hbs' hbB.size) (hrow'.below hbB hbs');rw[hwB]at H1;go_enter Tryz0.func41,Tryz.ntmps41
 by_cases hle:t p+6<=(f p).late
 .have hR:bd f n t p=eD (eR (ah f t p n)) (ah f t p n).length (t p) 6:=by unfold bd;rw[if_pos hle]
  have hpos:=jq (f:=f) (t:=t) (p:=p) hp;have hlen:=dr f t p n;have HP:=λ(BN cN:Nat) (W:World) (hlt:BN<W.heap.size) (hr:aw W BN 0 (ah f t p n).length (eR (ah f t p n)))=>j9 BN (ah f t p n).length cN (eR (ah f t p n)) (t p) 6 W (by omega) (λi hi=>j0 hm hf hp hle hi) (by omega) (by omega) (by omega) (by omega) (λhr=>sd hm hf hp hle hr) hlt hr
  rw[hR];clear hR;cases hP:eD (eR (ah f t p n)) (ah f t p n).length (t p) 6 with
  |none=>
   rw[hP]at HP;go_wp2_with(first
    |(go_at_call 77;refine H1.mono ?_;clear H1;rintro e w1 ⟨l1,b1⟩;rw[<-hwB]at b1 l1;unfold gK at l1;rw[if_pos hle]at l1;obtain⟨BN,cN,rfl,hBN,hlN,rN⟩:=l1;have r1:=hrs.same (b1.block _ hrs.lt);obtain⟨y0,y1,y2,y3,y4⟩:=r1.cells;have l41:=r1.lt;have hb1:=hbB.trans (b1.mono hbB.size))
    |(go_at_call 78;refine(HP _ _ _ (by simp;omega) (rN.below ((Below.refl _ _).alloc (Nat.le_refl _) _) hlN)).mono ?_;clear HP;rintro e w2 ⟨⟨a2,c2,rfl⟩,b2⟩;have hb2:=((Below.refl _ w1).alloc (Nat.le_refl _) _).trans (b2.mono (by simp));have r2:=r1.same (hb2.block _ r1.lt);obtain⟨z0,z1,z2,z3,z4⟩:=r2.cells;have l42:=r2.lt))
   rw[kH r2];have hs5:=setRow_heap w2 (w.heap.size+1) _ #[.int .i64 0,.int .i64 0,.slice none 0 0,.slice none 0 0] _ _ r2;have hb5:=below_setRow (hb1.trans (hb2.mono hb1.size)) (by omega:w.heap.size<=w.heap.size+1) #[.int .i64 0,.int .i64 0,.slice none 0 0,.slice none 0 0];revert hs5 hb5;generalize w2.setRow (w.heap.size+1) #[.int .i64 0,.int .i64 0,.slice none 0 0,.slice none 0 0]=W5;intro hs5 hb5;obtain⟨q0,q1,q2,q3⟩:=fC W5 _ 0 0 none 0 0 none 0 0 hs5;refine bodyPost_ret (v:=.tuple #[.agg #[.int .i64 0,.int .i64 0,.slice none 0 0,.slice none 0 0],.bool false]) ?_ rfl ⟨rfl,hb5⟩;simp[results,Tryz.f41,go_sem,q0,q1,q2,q3]
  |some T=>
   rw[hP]at HP;go_wp2_with(first
    |(go_at_call 77;refine H1.mono ?_;clear H1;rintro e w1 ⟨l1,b1⟩;rw[<-hwB]at b1 l1;unfold gK at l1;rw[if_pos hle]at l1;obtain⟨BN,cN,rfl,hBN,hlN,rN⟩:=l1;have r1:=hrs.same (b1.block _ hrs.lt);obtain⟨y0,y1,y2,y3,y4⟩:=r1.cells;have l41:=r1.lt;have hb1:=hbB.trans (b1.mono hbB.size))
    |(go_at_call 78;refine(HP _ _ _ (by simp;omega) (rN.below ((Below.refl _ _).alloc (Nat.le_refl _) _) hlN)).mono ?_;clear HP;rintro e w2 ⟨⟨BT,c2,hBT,rfl,oT,_⟩,b2⟩;have hb2:=((Below.refl _ w1).alloc (Nat.le_refl _) _).trans (b2.mono (by simp));have r2:=r1.same (hb2.block _ r1.lt);obtain⟨z0,z1,z2,z3,z4⟩:=r2.cells;have l42:=r2.lt;have x2:ar w2 w1.heap.size (t p) shift (.slice (some ⟨BN,0,none⟩) (ah f t p n).length cN) (.slice none 0 0):=(b2.block _ (by simp)).trans (heap_alloc_new _ _);obtain⟨v0,v1,v2,v3,v4⟩:=x2.cells;have l12:=x2.lt;have hne:w.heap.size+1≠w1.heap.size:=Nat.ne_of_lt l41;have hne':=hne.symm))
   have hs:∀k,k≠w1.heap.size->(w2.setCell ⟨w1.heap.size,3,none⟩ (.slice (some ⟨BT,0,none⟩) (ah f t p n).length c2)).heap[k]?=w2.heap[k]?:=λk hk=>Below.heap_setCell _ _ _ k hk
   have hbS:=(hb1.trans (hb2.mono hb1.size)).setCell (p:=⟨w1.heap.size,3,none⟩) hb1.size (.slice (some ⟨BT,0,none⟩) (ah f t p n).length c2);have hz3e:(w2.setCell ⟨w1.heap.size,3,none⟩ (.slice (some ⟨BT,0,none⟩) (ah f t p n).length c2)).heap.size=w2.heap.size:=by simp
   revert hs hbS hz3e;generalize w2.setCell ⟨w1.heap.size,3,none⟩ (.slice (some ⟨BT,0,none⟩) (ah f t p n).length c2)=w3;intro hs hbS hz3e;have r3:=r2.same (hs _ hne);have hz3:w3.heap.size=w2.heap.size:=hz3e;have hBN2:=hb2.block BN hlN;have hlow:w.heap.size+2<=BN:=by rw[hwB]at hBN;simpa using hBN
   have hltN:=Nat.lt_of_lt_of_le hlN hb2.size;have hT1:w1.heap.size+1<=BT:=by simpa using hBT
   have hltT:=oT.lt;rw[kH r3];have hs5:=setRow_heap w3 (w.heap.size+1) _ #[.int .i64 (t p),.int .i64 shift,.slice (some ⟨BN,0,none⟩) (ah f t p n).length cN,.slice (some ⟨BT,0,none⟩) (ah f t p n).length c2] _ _ r3;have hb5:=below_setRow hbS (by omega:w.heap.size<=w.heap.size+1) #[.int .i64 (t p),.int .i64 shift,.slice (some ⟨BN,0,none⟩) (ah f t p n).length cN,.slice (some ⟨BT,0,none⟩) (ah f t p n).length c2];have hz5:(w3.setRow (w.heap.size+1) #[.int .i64 (t p),.int .i64 shift,.slice (some ⟨BN,0,none⟩) (ah f t p n).length cN,.slice (some ⟨BT,0,none⟩) (ah f t p n).length c2]).heap.size=w3.heap.size:=setRow_size _ _ _;have hn5:∀k,k≠w.heap.size+1->(w3.setRow (w.heap.size+1) #[.int .i64 (t p),.int .i64 shift,.slice (some ⟨BN,0,none⟩) (ah f t p n).length cN,.slice (some ⟨BT,0,none⟩) (ah f t p n).length c2]).heap[k]?=w3.heap[k]?:=λk hk=>setRow_other _ _ _ _ hk
   revert hs5 hb5 hz5 hn5;generalize w3.setRow (w.heap.size+1) #[.int .i64 (t p),.int .i64 shift,.slice (some ⟨BN,0,none⟩) (ah f t p n).length cN,.slice (some ⟨BT,0,none⟩) (ah f t p n).length c2]=W5;intro hs5 hb5 hz5 hn5;obtain⟨q0,q1,q2,q3⟩:=fC W5 _ _ _ _ _ _ _ _ _ hs5;refine bodyPost_ret (v:=.tuple #[.agg #[.int .i64 (t p),.int .i64 shift,.slice (some ⟨BN,0,none⟩) (ah f t p n).length cN,.slice (some ⟨BT,0,none⟩) (ah f t p n).length c2],.bool true]) ?_ rfl ⟨⟨BN,cN,BT,c2,rfl,by omega,aZ rN ((hn5 BN (by omega)).trans ((hs BN (by omega)).trans hBN2)),du oT ((hn5 BT (by omega)).trans (hs BT (by omega)))⟩,hb5⟩;simp[results,Tryz.f41,go_sem,q0,q1,q2,q3]
 .have hR:bd f n t p=none:=by unfold bd;rw[if_neg hle]
  rw[hR];clear hR;go_wp2_with(go_at_call 77;refine H1.mono ?_;clear H1;rintro e w1 ⟨l1,b1⟩;rw[<-hwB]at b1 l1;unfold gK at l1;rw[if_neg hle]at l1;subst l1;have r1:=hrs.same (b1.block _ hrs.lt);obtain⟨y0,y1,y2,y3,y4⟩:=r1.cells;have l41:=r1.lt;have hb1:=hbB.trans (b1.mono hbB.size))
  rw[kH r1];have hs5:=setRow_heap w1 (w.heap.size+1) _ #[.int .i64 0,.int .i64 0,.slice none 0 0,.slice none 0 0] _ _ r1;have hb5:=below_setRow hb1 (by omega:w.heap.size<=w.heap.size+1) #[.int .i64 0,.int .i64 0,.slice none 0 0,.slice none 0 0];have hz5:(w1.setRow (w.heap.size+1) #[.int .i64 0,.int .i64 0,.slice none 0 0,.slice none 0 0]).heap.size=w1.heap.size:=setRow_size _ _ _;revert hs5 hb5 hz5;generalize w1.setRow (w.heap.size+1) #[.int .i64 0,.int .i64 0,.slice none 0 0,.slice none 0 0]=W5;intro hs5 hb5 hz5;have hs6:=λo=>(Below.heap_alloc W5 o (w.heap.size+1) (by omega)).trans hs5
  have hb6:=λo=>hb5.alloc (o:=o) hb5.size
  have q0:=λo=>(fC (W5.alloc o) _ 0 0 none 0 0 none 0 0 (hs6 o)).1
  have q1:=λo=>(fC (W5.alloc o) _ 0 0 none 0 0 none 0 0 (hs6 o)).2.1
  have q2:=λo=>(fC (W5.alloc o) _ 0 0 none 0 0 none 0 0 (hs6 o)).2.2.1
  have q3:=λo=>(fC (W5.alloc o) _ 0 0 none 0 0 none 0 0 (hs6 o)).2.2.2
  refine bodyPost_ret (v:=.tuple #[.agg #[.int .i64 0,.int .i64 0,.slice none 0 0,.slice none 0 0],.bool false]) ?_ rfl ⟨rfl,hb6 _⟩;simp[results,Tryz.f41,go_sem,q0,q1,q2,q3]
theorem so (b n cap b' cap' p:Nat)(f:Nat->Mv)(t:Nat->Int)(now shift:Int)(w:World)(hm:ap f n=true)(hf:cZ f t n)(hp:p<n)(hbs:b<w.heap.size)(hrow:aw w b 0 n f)(hbs':b'<w.heap.size)(hrow':ak w b' 0 n t):
  Calls Tryz0.prog 41 #[.agg #[.int .i64 now,.int .i64 shift,.slice (some ⟨b,0,none⟩) n cap,.slice (some ⟨b',0,none⟩) n cap'],.int .i64 p] w λe w'=>pJ (bd f n t p) e/\Below w.heap.size w w':=
 (kY b n cap b' cap' p f t now shift w hm hf hp hbs hrow hbs' hrow').mono λe w' h=>⟨h.1.says,h.2⟩
theorem ir (now shift:Int)(b n cap:Nat)(f:Nat->Mv)(b' m cap':Nat)(t:Nat->Int)(w:World)(hn:n<=1048576)(hm1:m<=maxLen)(hbs:b<w.heap.size)(hrow:aw w b 0 n f)(hfit:∀i,i<n->(f i).Fits)(hbs':b'<w.heap.size)(hrow':ak w b' 0 m t):
  Calls Tryz0.prog 16 #[.agg #[.int .i64 now,.int .i64 shift,.slice (some ⟨b,0,none⟩) n cap,.slice (some ⟨b',0,none⟩) m cap']] w λe w'=>e=.returned (.bool (eG now shift f n t m))/\Below w.heap.size w w':=by
 obtain⟨wB,hwB⟩:∃W,W=w.alloc (.cells #[.int .i64 now,.int .i64 shift,.slice (some ⟨b,0,none⟩) n cap,.slice (some ⟨b',0,none⟩) m cap'] 38):=⟨_,rfl⟩;have hbB:Below w.heap.size w wB:=by rw[hwB];exact(Below.refl _ w).alloc (Nat.le_refl _) _
 have hbk:ar wB w.heap.size now shift (.slice (some ⟨b,0,none⟩) n cap) (.slice (some ⟨b',0,none⟩) m cap'):=by rw[hwB];exact heap_alloc_new _ _
 have H1:=iq now shift b 0 n cap f b' 0 m cap' t wB hn hm1 (Nat.lt_of_lt_of_le hbs hbB.size) (hrow.below hbB hbs) hfit (Nat.lt_of_lt_of_le hbs' hbB.size) (hrow'.below hbB hbs');rw[hwB]at H1;go_enter Tryz0.func16,Tryz.ntmps16
 cases hb:bc now shift f n t m with
 |false=>
  rw[hb]at H1;rw[oa hb];go_wp2_with(go_at_call 18;refine H1.mono ?_;clear H1;rintro e w1 ⟨rfl,b1⟩;rw[<-hwB]at b1)
  go_ret;exact⟨rfl,hbB.trans (b1.mono hbB.size)⟩
 |true=>
  obtain⟨hm,hmn,hf⟩:=dD hb;replace hmn:=hmn.symm;subst hmn;have h6:=aR hm;rw[hb]at H1;have HB:Hid (bc now shift f n t n=true):=hb;clear hb;go_wp2_with(go_at_call 18;refine H1.mono ?_;clear H1;rintro e w1 ⟨rfl,b1⟩;rw[<-hwB]at b1)
  have hb1:=hbB.trans (b1.mono hbB.size);have bk1:=hbk.same (b1.block _ hbk.lt);clear b1 hbk hbB hwB;go_loopw [3,4,5] (λx _ _ W=>∃k:Nat,x=.int .i64 k/\k<=n/\Below w.heap.size w W/\ar W w.heap.size now shift (.slice (some ⟨b,0,none⟩) n cap) (.slice (some ⟨b',0,none⟩) n cap')/\∀p,p<k->(f p).lands=true->(bd f n t p).isSome=true) (λx _ _ _=>n-(intOf x).toNat)
  case atStart=>exact⟨0,rfl,Nat.zero_le _,hb1,bk1,λp hp=>absurd hp (Nat.not_lt_zero _)⟩
  case round=>
   clear hb1 bk1;obtain⟨k,rfl,hk,hBr,bkr,hall⟩:=hrel;obtain⟨y0,y1,y2,y3,y4⟩:=bkr.cells;have lb1:=bkr.lt;by_cases hlt:k<n
   .have hlt':(k:Int)<n:=by omega
    have lbr:=Nat.lt_of_lt_of_le hbs hBr.size;have lbr':=Nat.lt_of_lt_of_le hbs' hBr.size;have H2:=so b n cap b' cap' k f t now shift wr hm hf hlt lbr (hrow.below hBr hbs) lbr' (hrow'.below hBr hbs');have FACTS:∀w2,Below wr.heap.size wr w2->ar w2 w.heap.size now shift (.slice (some ⟨b,0,none⟩) n cap) (.slice (some ⟨b',0,none⟩) n cap')/\w2.cell? ⟨b,k*6+1,none⟩=some (.bool (f k).lands)/\b<w2.heap.size:=λw2 hb=>by
     have h:=((hrow.below hBr hbs).below hb lbr k hlt).c1;rw[Nat.zero_add]at h;exact⟨bkr.same (hb.block _ lb1),h,Nat.lt_of_lt_of_le lbr hb.size⟩
    cases hr:bd f n t k with
    |none=>
     cases hla:(f k).lands with
     |false=>
      go_wp2_with(go_at_call 41;refine H2.mono ?_;clear H2;rintro e w2 ⟨⟨x0,x1,x2,l2,c2,x3,l3,c3,rfl⟩,b2⟩;obtain⟨bk2,d1,lb2'⟩:=FACTS w2 b2;rw[hla]at d1;obtain⟨z0,z1,z2,z3,z4⟩:=bk2.cells;have lk2:=bk2.lt;rw[hr])
      all_goals first|(exfalso;omega)|skip
      go_roundw
      case rel=>exact⟨k+1,by go_num,by omega,(hBr.trans (b2.mono hBr.size)).alloc (by have:=hBr.size;have:=b2.size;omega) _,bk2.same (Below.heap_alloc _ _ _ lk2),λp hp hl=>by
       by_cases e:p=k
       .subst e;rw[hla]at hl;cases hl
       .exact hall p (by omega) hl⟩
      case measure=>simp[intOf];omega
     |true=>
      have hno:eG now shift f n t n=false:=lK (λh=>by have:=h k hlt hla;rw[hr]at this;cases this);go_wp2_with(go_at_call 41;refine H2.mono ?_;clear H2;rintro e w2 ⟨⟨x0,x1,x2,l2,c2,x3,l3,c3,rfl⟩,b2⟩;obtain⟨bk2,d1,lb2'⟩:=FACTS w2 b2;rw[hla]at d1;obtain⟨z0,z1,z2,z3,z4⟩:=bk2.cells;have lk2:=bk2.lt;rw[hr])
      all_goals first|(exfalso;omega)|skip
      go_ret;exact⟨by first|rfl|(rw[hno];rfl)|rw[hno],(hBr.trans (b2.mono hBr.size)).alloc (by have:=hBr.size;have:=b2.size;omega) _⟩
    |some T=>
     cases hla:(f k).lands with
     |false=>
      go_wp2_with(go_at_call 41;refine H2.mono ?_;clear H2;rintro e w2 ⟨⟨x0,x1,x2,l2,c2,x3,l3,c3,rfl⟩,b2⟩;obtain⟨bk2,d1,lb2'⟩:=FACTS w2 b2;rw[hla]at d1;obtain⟨z0,z1,z2,z3,z4⟩:=bk2.cells;have lk2:=bk2.lt;rw[hr])
      all_goals first|(exfalso;omega)|skip
      go_roundw
      case rel=>exact⟨k+1,by go_num,by omega,(hBr.trans (b2.mono hBr.size)).alloc (by have:=hBr.size;have:=b2.size;omega) _,bk2.same (Below.heap_alloc _ _ _ lk2),λp hp hl=>by
       by_cases e:p=k
       .subst e;rw[hr];rfl
       .exact hall p (by omega) hl⟩
      case measure=>simp[intOf];omega
     |true=>
      go_wp2_with(go_at_call 41;refine H2.mono ?_;clear H2;rintro e w2 ⟨⟨x0,x1,x2,l2,c2,x3,l3,c3,rfl⟩,b2⟩;obtain⟨bk2,d1,lb2'⟩:=FACTS w2 b2;rw[hla]at d1;obtain⟨z0,z1,z2,z3,z4⟩:=bk2.cells;have lk2:=bk2.lt;rw[hr])
      all_goals first|(exfalso;omega)|skip
      go_roundw
      case rel=>exact⟨k+1,by go_num,by omega,(hBr.trans (b2.mono hBr.size)).alloc (by have:=hBr.size;have:=b2.size;omega) _,bk2.same (Below.heap_alloc _ _ _ lk2),λp hp hl=>by
       by_cases e:p=k
       .subst e;rw[hr];rfl
       .exact hall p (by omega) hl⟩
      case measure=>simp[intOf];omega
   .have hlt':¬(k:Int)<n:=by omega
    have hyes:eG now shift f n t n=true:=lJ HB.out (λp hp=>hall p (by omega));go_wp2;all_goals first|(exfalso;omega)|skip
    go_ret;exact⟨by first|rfl|(rw[hyes];rfl)|rw[hyes],hBr⟩
end Go.Proofs.YtlmcblcijndipaaGreat
namespace Go.Proofs.YtlmcblcijndipaaGreat
open Go.RowKit Go.Shelf
attribute [local go_sem] Oper.semAt_some
set_option linter.unusedVariables false
theorem oH (w:World):Calls Tryz0.prog 26 #[.slice none 0 0] w λe w'=>e=.returned (.bool true)/\Below w.heap.size w w':=by
 go_enter Tryz0.func26,Tryz.ntmps26
 go_wp2;go_loopw [3] (λi w'=>i=.int .i64 0/\Below w.heap.size w w') (λ_ _=>0)
 case atStart=>exact⟨rfl,Below.refl _ _⟩
 case round=>
  obtain⟨rfl,hB⟩:=hrel;go_wp2;go_ret;exact⟨rfl,hB⟩
theorem oJ (w:World):Calls Tryz0.prog 23 #[.slice none 0 0] w λe w'=>e=.returned (.bool true)/\Below w.heap.size w w':=by
 go_enter Tryz0.func23,Tryz.ntmps23
 go_wp2;go_loopw [10] (λi w'=>i=.int .i64 0/\Below w.heap.size w w') (λ_ _=>0)
 case atStart=>exact⟨rfl,Below.refl _ _⟩
 case round=>
  obtain⟨rfl,hB⟩:=hrel;go_wp2;go_ret;exact⟨rfl,hB⟩
theorem qB (w:World):Calls Tryz0.prog 42 #[.slice none 0 0,.slice none 0 0] w λe w'=>e=.returned (.bool true)/\Below w.heap.size w w':=by
 have H1:=oH w;go_enter Tryz0.func42,Tryz.ntmps42
 go_wp2_with(go_at_call 26;refine H1.mono ?_;clear H1;rintro e w1 ⟨rfl,b1⟩)
 go_loopw [5] (λi w'=>i=.int .i64 0/\Below w.heap.size w w') (λ_ _=>0)
 case atStart=>exact⟨rfl,b1⟩
 case round=>
  obtain⟨rfl,hB⟩:=hrel;go_wp2;go_ret;exact⟨rfl,hB⟩
theorem qC (w:World):Calls Tryz0.prog 10 #[.slice none 0 0,.slice none 0 0] w λe w'=>e=.returned (.bool true)/\Below w.heap.size w w':=by
 have hB0:∀o1 o2 o3,Below w.heap.size w (((w.alloc o1).alloc o2).alloc o3):=λo1 o2 o3=>(((Below.refl _ w).alloc (Nat.le_refl _) _).alloc (by simp) _).alloc (by simp;omega) _
 refine(callsIn_wide (n:=9)).1 ?_;refine callsIn_of_wp_marks Tryz0.func10 rfl trivial ?_ rfl;simp only[Tryz.ntmps10,List.size_toArray,List.length_cons,List.length_nil,Nat.reduceAdd,Nat.reduceSub,Array.replicate_succ,Array.replicate_zero,List.push_toArray,List.append_toArray,List.nil_append,List.cons_append];gi_wp2_with (refine⟨trivial,?_⟩;gi_at_call 23;refine(callsIn_wide.2 (oJ _)).mono ?_;rintro e w1 ⟨rfl,hb1⟩;obtain⟨hc1,hf1⟩:=eV hb1)
 have hz:=hb1.size;simp at hz;have hB1:Below w.heap.size w w1:=(hB0 _ _ _).trans (hb1.mono (hB0 _ _ _).size);have l0:w1.cell? ⟨w.heap.size,0,none⟩=some (.slice none 0 0):=by rw[hc1 w.heap.size 0 (by simp;omega)];simp[go_sem]
 have l1:w1.cell? ⟨w.heap.size+1,0,none⟩=some (.slice none 0 0):=by rw[hc1 (w.heap.size+1) 0 (by simp)];simp[go_sem]
 have l2:w1.cell? ⟨w.heap.size+1+1,0,none⟩=some (.bool false):=by rw[hc1 (w.heap.size+1+1) 0 (by simp)];simp[go_sem]
 have l3:w1.frozen? ⟨w.heap.size+1+1,0,none⟩=false:=by rw[hf1 (w.heap.size+1+1) 0 (by simp)];simp[go_sem]
 clear hc1 hf1 hb1;gi_loopw [21] (λi wr=>i=.int .i64 0/\Below w1.heap.size w1 wr) (λ_ _=>0)
 case atStart=>exact⟨rfl,Below.refl _ _⟩
 case round=>
  obtain⟨rfl,hB⟩:=hrel;have hBr:Below w.heap.size w wr:=hB1.trans (hB.mono hB1.size);have hzr:w1.heap.size<=wr.heap.size:=hB.size;have m0:wr.cell? ⟨w.heap.size,0,none⟩=some (.slice none 0 0):=(hB.cell (p:=⟨w.heap.size,0,none⟩) (by simp;omega)).trans l0;have m1:wr.cell? ⟨w.heap.size+1,0,none⟩=some (.slice none 0 0):=(hB.cell (p:=⟨w.heap.size+1,0,none⟩) (by simp;omega)).trans l1;have m2:wr.cell? ⟨w.heap.size+1+1,0,none⟩=some (.bool false):=(hB.cell (p:=⟨w.heap.size+1+1,0,none⟩) (by simp;omega)).trans l2;have m3:wr.frozen? ⟨w.heap.size+1+1,0,none⟩=false:=(hB.frozen (p:=⟨w.heap.size+1+1,0,none⟩) (by simp;omega)).trans l3;gi_wp2_with (refine⟨trivial,?_⟩;gi_at_call 31;refine(callsIn_wide.2 (pu _ _)).mono ?_;rintro e w' ⟨rfl,rfl⟩)
  obtain⟨WL,hWL⟩:∃WL,wr.alloc (.cells #[.int .i64 0] 3)=WL:=⟨_,rfl⟩;have hL:Below wr.heap.size wr WL:=hWL▸(Below.refl _ _).alloc (Nat.le_refl _) _;have hzL:WL.heap.size=wr.heap.size+1:=by rw[<-hWL];simp
  have hcL:WL.cell? ⟨wr.heap.size,0,none⟩=some (.int .i64 ((0:Nat):Int)):=by rw[<-hWL];simp
  rw[hWL];clear hWL;have hBL:Below w.heap.size w WL:=hBr.trans (hL.mono hBr.size);have p2:=(hL.cell (p:=⟨w.heap.size+1+1,0,none⟩) (by simp;omega)).trans m2;have p3:=(hL.frozen (p:=⟨w.heap.size+1+1,0,none⟩) (by simp;omega)).trans m3;refine wpIn_rangeFunc_ownG rfl (by omega) (gf:=61) (lb:=#[.pointer (some ⟨wr.heap.size,0,none⟩)]) rfl trivial (enters_of Tryz0.func61 (by kernel_rfl) rfl)
   (me _ wr.heap.size WL.heap.size 0 WL (by omega) (by omega) (Nat.le_refl _) hcL) belowK_t (belowK_b (Nat.le_refl _)) (Below.refl _ _) (λ_=>rfl)
   (λpre W=>Below WL.heap.size WL W)
   (λc pre W=>False)
   (ownFrom_below (Nat.le_refl _) (Nat.le_refl _))
   (λc=>ownFrom_pure _ (λ_=>False))
   (Below.refl _ _)
   ?a1 ?assign ?body ?done ?stop
  case assign=>
   intro l x W K hK;gi_wp2
   exact hK
  case body=>
   rintro l pre ⟨⟨i,j⟩,hij,hjn⟩ W hBW _;exact absurd hjn (Nat.not_lt_zero _)
  case done=>
   rintro D xs W hD hS hBW hK;have hBw:Below w.heap.size w W:=hBL.trans (hBW.mono hBL.size);have hzW:=hBW.size;have p2W:=(hBW.cell (p:=⟨w.heap.size+1+1,0,none⟩) (by simp;omega)).trans p2;have p3W:=(hBW.frozen (p:=⟨w.heap.size+1+1,0,none⟩) (by simp;omega)).trans p3;gi_wp2
   have hK':=(KeepsOthers.setCell W ⟨w.heap.size+1+1,0,none⟩ (.bool true)).same D _ hK rfl;refine⟨by simp,.inl ⟨_,_,rfl,run_takeDeferred hK',?_⟩⟩;have hc5:=cell_kept (World.cell?_setCell_same' W ⟨w.heap.size+1+1,0,none⟩ (.bool true) (by rw[p2W];rfl)) (grownBy_putObj' _ D (.deferred none)) (λr e=>by cases e;exact⟨_,hK',rfl⟩);refine⟨.bool true,?_,rfl,(hBw.setCell (p:=⟨w.heap.size+1+1,0,none⟩) (by simp;omega) _).trans (belowK_b (w:=w) (Nat.le_refl _) _ D _ _ (by omega) hK' rfl rfl)⟩;simp[results,Tryz.f10,go_sem,hc5]
  case stop=>
   rintro D c pre W hD _ hF hK;exact hF.elim
theorem iu (now shift:Int)(w:World)(h0:0<=now/\now<=10000)(h1:0<=shift/\shift<=6):Calls Tryz0.prog 18 #[.agg #[.int .i64 now,.int .i64 shift,.slice none 0 0,.slice none 0 0]] w λe w'=>e=.returned (.bool true)/\Below w.heap.size w w':=by
 have bA:=f8 w now shift none 0 0 none 0 0;have hA:=kW w now shift none 0 0 none 0 0;have H1:=qB (si w now shift none 0 0 none 0 0);have e1:dU now 0 10000=true:=im.mpr h0;have e2:dU shift 0 6=true:=im.mpr h1;go_enter Tryz0.func18,Tryz.ntmps18
 go_wp2_with(first|(go_at_call 27;refine(dC _ _ _ _).mono ?_;rintro e w' ⟨rfl,rfl⟩)|(go_at_call 42;refine H1.mono ?_;clear H1;rintro e w1 ⟨rfl,b1⟩))
 have hB1:Below w.heap.size w w1:=bA.trans (b1.mono bA.size);have hA1:=hA.below b1 (by simp);have hz1:w.heap.size<w1.heap.size:=Nat.lt_of_lt_of_le (by simp) b1.size;clear hA b1;go_loopw [3] (λx wr=>x=.int .i64 0/\Below w1.heap.size w1 wr) (λ_ _=>0)
 case atStart=>exact⟨rfl,Below.refl _ _⟩
 case round=>
  obtain⟨rfl,hB⟩:=hrel;obtain⟨a0,a1,a2,a3⟩:=hA1.below hB hz1;go_wp2;go_ret;exact⟨rfl,hB1.trans (hB.mono hB1.size)⟩
theorem ld (now shift:Int)(w:World)(h0:0<=now/\now<=10000)(h1:0<=shift/\shift<=6):Calls Tryz0.prog 17 #[.agg #[.int .i64 now,.int .i64 shift,.slice none 0 0,.slice none 0 0]] w λe w'=>e=.returned (.bool true)/\Below w.heap.size w w':=by
 have bA:=f8 w now shift none 0 0 none 0 0;have hA:=kW w now shift none 0 0 none 0 0;have H1:=qC (si w now shift none 0 0 none 0 0);obtain⟨p0,p1⟩:=h0;obtain⟨p2,p3⟩:=h1;have q0:¬now<0:=by omega
 have q1:¬10000<now:=by omega
 have q2:¬shift<0:=by omega
 have q3:¬6<shift:=by omega
 go_enter Tryz0.func17,Tryz.ntmps17
 go_wp2_with(go_at_call 10;refine H1.mono ?_;clear H1;rintro e w1 ⟨rfl,b1⟩;have hA1:=hA.below b1 (by simp);have hz1:w.heap.size<w1.heap.size:=Nat.lt_of_lt_of_le (by simp) b1.size;obtain⟨a0,a1,a2,a3⟩:=hA1)
 have hB1:Below w.heap.size w w1:=bA.trans (b1.mono bA.size);clear hA b1;go_loopw [32] (λx wr=>x=.int .i64 0/\Below w1.heap.size w1 wr) (λ_ _=>0)
 case atStart=>exact⟨rfl,Below.refl _ _⟩
 case round=>
  obtain⟨rfl,hB⟩:=hrel;go_wp2;go_ret;exact⟨rfl,hB1.trans (hB.mono hB1.size)⟩
theorem qD (now shift:Int)(w:World)(h0:0<=now/\now<=10000)(h1:0<=shift/\shift<=6):Calls Tryz0.prog 16 #[.agg #[.int .i64 now,.int .i64 shift,.slice none 0 0,.slice none 0 0]] w λe w'=>e=.returned (.bool true)/\Below w.heap.size w w':=by
 have hbB:Below w.heap.size w (w.alloc (.cells #[.int .i64 now,.int .i64 shift,.slice none 0 0,.slice none 0 0] 38)):=(Below.refl _ w).alloc (Nat.le_refl _) _;have hbk:ar (w.alloc (.cells #[.int .i64 now,.int .i64 shift,.slice none 0 0,.slice none 0 0] 38)) w.heap.size now shift (.slice none 0 0) (.slice none 0 0):=heap_alloc_new _ _;have H1:=iu now shift (w.alloc (.cells #[.int .i64 now,.int .i64 shift,.slice none 0 0,.slice none 0 0] 38)) h0 h1;go_enter Tryz0.func16,Tryz.ntmps16
 go_wp2_with(go_at_call 18;refine H1.mono ?_;clear H1;rintro e w1 ⟨rfl,b1⟩)
 have hb1:=hbB.trans (b1.mono hbB.size);have bk1:=hbk.same (b1.block _ hbk.lt);clear b1 hbk hbB;go_loopw [3,4,5] (λx _ _ W=>x=.int .i64 0/\Below w.heap.size w W/\ar W w.heap.size now shift (.slice none 0 0) (.slice none 0 0)) (λ_ _ _ _=>0)
 case atStart=>exact⟨rfl,hb1,bk1⟩
 case round=>
  obtain⟨rfl,hBr,bkr⟩:=hrel;obtain⟨y0,y1,y2,y3,y4⟩:=bkr.cells;go_wp2;go_ret;exact⟨rfl,hBr⟩
theorem qE (now shift:Int)(w:World)(h0:0<=now/\now<=10000)(h1:0<=shift/\shift<=6):Calls Tryz0.prog 15 #[.agg #[.int .i64 now,.int .i64 shift,.slice none 0 0,.slice none 0 0]] w λe w'=>e=.returned (.bool true)/\Below w.heap.size w w':=by
 have hbB:Below w.heap.size w (w.alloc (.cells #[.int .i64 now,.int .i64 shift,.slice none 0 0,.slice none 0 0] 38)):=(Below.refl _ w).alloc (Nat.le_refl _) _;have hbk:ar (w.alloc (.cells #[.int .i64 now,.int .i64 shift,.slice none 0 0,.slice none 0 0] 38)) w.heap.size now shift (.slice none 0 0) (.slice none 0 0):=heap_alloc_new _ _;have H1:=ld now shift (w.alloc (.cells #[.int .i64 now,.int .i64 shift,.slice none 0 0,.slice none 0 0] 38)) h0 h1;go_enter Tryz0.func15,Tryz.ntmps15
 go_wp2_with(go_at_call 17;refine H1.mono ?_;clear H1;rintro e w1 ⟨rfl,b1⟩;have bk1:=hbk.same (b1.block _ hbk.lt);obtain⟨y0,y1,y2,y3,y4⟩:=bk1.cells)
 have hb1:=hbB.trans (b1.mono hbB.size);go_loopw [13] (λx W=>x=.int .i64 0/\Below w.heap.size w W) (λ_ _=>0)
 case atStart=>exact⟨rfl,hb1⟩
 case round=>
  obtain⟨rfl,hBr⟩:=hrel;go_wp2;go_ret;exact⟨rfl,hBr⟩
end Go.Proofs.YtlmcblcijndipaaGreat
