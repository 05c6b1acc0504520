import Derived.Test.YtlmcblcijndipabGreatDoorDr41
import Derived.Test.YtlmcblcijndipabGreatDoorDr24
set_option linter.unusedVariables false
set_option linter.unusedSectionVars false
set_option maxHeartbeats 4000000
set_option maxRecDepth 100000
namespace Go.Proofs.YtlmcblcijndipabGreatDoor
section
open Go Go.Conc Go.RowKit
noncomputable def dY (now shift:Int)(f:Nat->Mv)(n:Nat)(t:Nat->Int)(m:Nat):Bool:=aO now shift f n t m&&@decide (sU f n t) (Classical.propDecidable _)
theorem s8 {now shift:Int}{f:Nat->Mv}{n m:Nat}{t:Nat->Int}(h:aO now shift f n t m=false):dY now shift f n t m=false:=by unfold dY;rw[h];rfl
theorem pX {now shift:Int}{f:Nat->Mv}{n m:Nat}{t:Nat->Int}(h:aO now shift f n t m=true)(hs:sU f n t):dY now shift f n t m=true:=by unfold dY;rw[h];simpa using hs
theorem pY {now shift:Int}{f:Nat->Mv}{n m:Nat}{t:Nat->Int}(hs:¬sU f n t):dY now shift f n t m=false:=by unfold dY;simp[hs]
theorem io {now shift:Int}{f:Nat->Mv}{n m:Nat}{t:Nat->Int}(h:aO now shift f n t m=true):aq f n=true/\m=n/\dL f t n:=by
 cases hf:bN f n t m with
 |false=>rw[kg hf]at h;cases h
 |true=>exact kh hf
section
variable [Gl]{ok:Ctx}{c:Frame}{Q:Value->World->Prop}
theorem ar.loopInd {P₀:Program}{Dr:FuncId->Array Value->World->(Value->World->Prop)->Prop}(E:cE P₀ ok c Dr){b:Frame}{X:Code}{k:List Item}{cs:List Frame}(hb:ok.inn b.fn=true)(Inv:Nat->Act->World->Prop)
  (step:∀j a W,Inv j a W->(∀i,i<j->∀a' W',Inv i a' W'->ar P₀ ok c Dr Q ⟨b.at a' (.inLoop X::k),cs,W'⟩)->ar P₀ ok c Dr Q ⟨b.at a (.code X::.inLoop X::k),cs,W⟩):
  ∀j a W,Inv j a W->ar P₀ ok c Dr Q ⟨b.at a (.code X::.inLoop X::k),cs,W⟩:=by
 intro j;induction j using Nat.strongRecOn with
 |ind j ih=>intro a W h;exact step j a W h λi hi a' W' h'=>ar.inLoop E hb (ih i hi a' W' h')
theorem ar.roundOp (E:cE Tryz0.prog ok c Dr24)(hRo:ok.inn 112=true)(hPl:ok.inn 132=true)(hSB:ok.inn 151=true)(hbt:ok.inn 181=false){fb:Frame}{a:Act}{k:List Item}{cs:List Frame}{V:World}(hb:ok.inn fb.fn=true){ops:Array Oper}{i:Nat}{r:List Nat}{o:Oper}(ho:ops[i]?=some o)(hw:Region.wanted o (yielded ops a.tmps)=true)
  {b n cap b' cap' p:Nat}{f:Nat->Mv}{t:Nat->Int}{now shift:Int}(hx:∀w,(execOp a.eval o).run Tryz0.prog w=.ok (.enter 112 #[.agg #[.int .i64 now,.int .i64 shift,.slice (some ⟨b,0,none⟩) n cap,.slice (some ⟨b',0,none⟩) n cap'],.int .i64 p]) w)
  (hm:aq f n=true)(hf:dL f t n)(hp:p<n)(hbs:b<V.heap.size)(hrow:al V b 0 n f)(hbs':b'<V.heap.size)(hrow':ag V b' 0 n t)
  (hcont:∀v V',pW f n t p shift V v V'->ar Tryz0.prog ok c Dr24 Q ⟨fb.at (a.put o.dst v) (.inRegion ops r::k),cs,V'⟩):ar Tryz0.prog ok c Dr24 Q ⟨fb.at a (.inRegion ops (i::r)::k),cs,V⟩:=
 ar.enterOp E ho hw hRo hx (y7 E hRo hPl hSB hbt (r0:=fb.at a (.inRegion ops (i::r)::k)) hb hm hf hp hbs hrow hbs' hrow' (λv V' hv=>by rw[c9 ho];exact hcont v V' hv))
theorem Aq (E:cE Tryz0.prog ok c Dr24)(hSu:ok.inn 91=true)(hRo:ok.inn 112=true)(hPl:ok.inn 132=true)(hSB:ok.inn 151=true)(hbt:ok.inn 181=false){r0:Frame}{cs:List Frame}{V:World}(hr0:ok.inn r0.fn=true)
  {b n cap b' m cap':Nat}{f:Nat->Mv}{t:Nat->Int}{now shift:Int}(hn:n<=1048576)(hm1:m<=maxLen)(hbs:b<V.heap.size)(hrow:al V b 0 n f)(hbs':b'<V.heap.size)(hrow':ag V b' 0 m t)
  (hcont:∀V',Bl V.heap.size V V'->ar Tryz0.prog ok c Dr24 Q ⟨r0.finish (.bool (dY now shift f n t m)),cs,V'⟩):
  ar Tryz0.prog ok c Dr24 Q ⟨Frame.enter Tryz0.prog 91 #[.agg #[.int .i64 now,.int .i64 shift,.slice (some ⟨b,0,none⟩) n cap,.slice (some ⟨b',0,none⟩) m cap']] .normal,r0::cs,V⟩:=by
 have hE:=enter_at (P:=Tryz0.prog) #[.agg #[.int .i64 now,.int .i64 shift,.slice (some ⟨b,0,none⟩) n cap,.slice (some ⟨b',0,none⟩) m cap']] Tryz0.func91 rfl;simp only[Tryz.ntmps91,List.size_toArray,List.length_cons,List.length_nil,Nat.reduceAdd,Nat.reduceSub,Array.replicate_succ,Array.replicate_zero,List.push_toArray,List.append_toArray,List.nil_append,List.cons_append]at hE;rw[hE];clear hE;have htop:∀(x:Bool) (a':Act) (w':World) (todo:List Item),(x=dY now shift f n t m/\Bl V.heap.size V w'/\a'.defers=[]/\a'.tmps[2]?=some (.bool x))->ar Tryz0.prog ok c Dr24 Q ⟨{(base 91).at a' todo with mode:=.returning},r0::cs,w'⟩:=by
  rintro x a' w' todo ⟨rfl,h1,h2,h3⟩;refine ar.leave E hr0 (v:=.bool (dY now shift f n t m)) (λτ d=>⟨rfl,h2,rfl,_,Tryz0.func91,?_⟩) (hcont _ h1);have:=results_tmp (fn:=Tryz.f91) rfl a'.tmps Tryz0.prog (re w' τ d);rw[fY h3]at this;exact this
 refine ar.chainM E hSu [_,_] _ (λa' w'=>aO now shift f n t m=true/\Bl V.heap.size V w'/\∃B1,V.heap.size<=B1/\am w' B1 now shift (.slice (some ⟨b,0,none⟩) n cap) (.slice (some ⟨b',0,none⟩) m cap')/\aW a' (λu=>#[u 0,.pointer (some ⟨B1,0,none⟩),u 2,u 3,u 4,u 5,u 6,u 7,u 8,u 9,u 10,u 11,u 12,u 13,u 14,u 15,u 16,u 17,u 18,u 19,u 20,u 21,u 22,u 23,u 24,u 25,u 26,u 27,u 28,u 29])) (λa' w'=>false=dY now shift f n t m/\Bl V.heap.size V w'/\a'.defers=[]/\a'.tmps[2]?=some (.bool false)) ?_ ?_ (λa' w' todo hh=>htop false a' w' todo hh)
 .intro τ d;have bA:Below (re V τ d).heap.size (re V τ d) ((re V τ d).alloc (.cells #[.int .i64 now,.int .i64 shift,.slice (some ⟨b,0,none⟩) n cap,.slice (some ⟨b',0,none⟩) m cap'] 32)):=(Below.refl _ _).alloc (Nat.le_refl _) _;have hbk:am ((re V τ d).alloc (.cells #[.int .i64 now,.int .i64 shift,.slice (some ⟨b,0,none⟩) n cap,.slice (some ⟨b',0,none⟩) m cap'] 32)) V.heap.size now shift (.slice (some ⟨b,0,none⟩) n cap) (.slice (some ⟨b',0,none⟩) m cap'):=heap_alloc_new (re V τ d) _;have H1:=kW now shift b 0 n cap f b' 0 m cap' t _ hn hm1 (Nat.lt_of_lt_of_le hbs bA.size) ((aK (w':=re V τ d) hrow rfl).below bA hbs) (Nat.lt_of_lt_of_le hbs' bA.size) (ag.below (w:=re V τ d) (λi hi=>hrow' i hi) bA hbs');clear htop hcont hrow hrow';simp only[aB];cases hb:aO now shift f n t m with
  |false=>
   rw[hb]at H1;have hno:=s8 hb;go_wp2_with(go_at_call 90;refine H1.mono ?_;clear H1;rintro e w1 ⟨rfl,b1⟩)
   have hbl:Bl V.heap.size V w1:=Bl.ofR (bA.trans (b1.mono bA.size));first
    |exact⟨hno.symm,hbl,rfl,rfl⟩
    |exact⟨hno,hbl⟩
    |exact⟨hno,hbl,rfl⟩
    |exact⟨hno.symm,hbl⟩
  |true=>
   rw[hb]at H1;go_wp2_with(go_at_call 90;refine H1.mono ?_;clear H1;rintro e w1 ⟨rfl,b1⟩)
   have hbl:Bl V.heap.size V w1:=Bl.ofR (bA.trans (b1.mono bA.size));have hbk1:=hbk.same (b1.block _ hbk.lt);first
    |exact⟨hbl,V.heap.size,Nat.le_refl _,hbk1,rfl,rfl⟩
    |exact⟨rfl,hbl,V.heap.size,Nat.le_refl _,hbk1,rfl,rfl⟩
    |exact⟨trivial,hbl,V.heap.size,Nat.le_refl _,hbk1,rfl,rfl⟩
 rintro a' w1 ⟨hbook,hb1,B1,hB1,bk1,hfr⟩;obtain⟨u,rfl⟩:=hfr.open;clear hfr;obtain⟨hm,hmn,hf⟩:=io hbook;replace hmn:=hmn.symm;subst hmn;have h6:=aF hm;have hz1:=hb1.size;refine ar.seq E hSu ?_;refine ar.chain E hSu [_] _ (λa' w'=>(∃τ d,w'=re w1 τ d)/\∃k:Nat,k=0/\aW a' (λu=>#[u 0,.pointer (some ⟨B1,0,none⟩),u 2,u 3,u 4,u 5,u 6,u 7,u 8,u 9,u 10,.slice (some ⟨b,0,none⟩) n cap,.int .i64 n,.int .i64 k,u 14,u 15,u 16,u 17,u 18,u 19,u 20,u 21,u 22,u 23,u 24,u 25,u 26,u 27,u 28,u 29])) (λ_ _=>False) ?_ ?_ (λ_ _ _ hh=>hh.elim)
 .intro τ d;have bk0:am (re w1 τ d) B1 now shift (.slice (some ⟨b,0,none⟩) n cap) (.slice (some ⟨b',0,none⟩) n cap'):=bk1;obtain⟨y0,y1,y2,y3,y4⟩:=bk0.cells;clear htop hcont;simp only[aB];go_wp2;left;exact⟨by first|rfl|trivial,⟨τ,d,rfl⟩,0,rfl,rfl,rfl⟩
 rintro a' w' ⟨⟨τ1,d1,rfl⟩,k,rfl,hfr⟩;refine ar.block E hSu (ar.loop E hSu ?_);refine ar.loopInd E hSu (λj a' w'=>∃k:Nat,k+j=n/\Bl w1.heap.size w1 w'/\(∀p,p<k->(f p).lands=true->(cP f n t p).isSome=true)/\aW a' (λu=>#[u 0,.pointer (some ⟨B1,0,none⟩),u 2,u 3,u 4,u 5,u 6,u 7,u 8,u 9,u 10,.slice (some ⟨b,0,none⟩) n cap,.int .i64 n,.int .i64 k,u 14,u 15,u 16,u 17,u 18,u 19,u 20,u 21,u 22,u 23,u 24,u 25,u 26,u 27,u 28,u 29])) ?_ n a' _ ⟨0,by omega,⟨Nat.le_refl _,λ_ _=>rfl⟩,λp hp=>absurd hp (Nat.not_lt_zero _),hfr⟩;clear hfr u a';rintro j a' W ⟨k,hkj,hbW,hall,hfr⟩ IH;obtain⟨u,rfl⟩:=hfr.open;clear hfr;have hzW:=hbW.size;have bkW:am W B1 now shift (.slice (some ⟨b,0,none⟩) n cap) (.slice (some ⟨b',0,none⟩) n cap'):=bk1.same (hbW.block B1 bk1.lt);have rowW:al W b 0 n f:=aK (aK hrow (hb1.block b hbs)) (hbW.block b (by omega));have rowW':ag W b' 0 n t:=λi hi=>by
  have e:=(hbW.block b' (by omega)).trans (hb1.block b' hbs');have:=hrow' i hi;simp only[World.cell?,e]at this⊢;exact this
 have hbVW:Bl V.heap.size V W:=hb1.trans hbW hz1;refine ar.chain E hSu [_] _ (λa' w'=>(∃τ d,w'=re W τ d)/\aW a' (λu=>#[u 0,.pointer (some ⟨B1,0,none⟩),u 2,u 3,u 4,u 5,u 6,u 7,u 8,u 9,u 10,.slice (some ⟨b,0,none⟩) n cap,.int .i64 n,.int .i64 k,.bool (decide (k<n)),u 15,u 16,u 17,u 18,u 19,u 20,u 21,u 22,u 23,u 24,u 25,u 26,u 27,u 28,u 29])) (λ_ _=>False) ?_ ?_ (λ_ _ _ hh=>hh.elim)
 .intro τ d;clear htop hcont IH;simp only[aB];go_wp2;left;exact⟨by first|rfl|trivial,⟨τ,d,rfl⟩,rfl,rfl⟩
 rintro a' w' ⟨⟨τ2,d2,rfl⟩,hfr⟩;clear u;obtain⟨u,rfl⟩:=hfr.open;clear hfr;refine ar.seq E hSu (ar.cond E hSu (t:=decide (k<n)) rfl ?_);by_cases hlt:k<n
 .rw[if_pos (by simpa using hlt)];refine ar.skip E hSu (ar.seq E hSu (ar.block E hSu ?_));have hl1:b<W.heap.size:=by omega
  have hl1':b'<W.heap.size:=by omega
  have hB1W:B1<W.heap.size:=bkW.lt;refine ar.chain E hSu [_] _ (λa' w'=>Bl W.heap.size W w'/\∃B4,w'.heap[B4]?=some (.cells (f k).cells 36 (0,0))/\aW a' (λu=>#[u 0,.pointer (some ⟨B1,0,none⟩),u 2,.int .i64 k,.pointer (some ⟨B4,0,none⟩),u 5,u 6,u 7,u 8,u 9,u 10,.slice (some ⟨b,0,none⟩) n cap,.int .i64 n,.int .i64 k,u 14,u 15,u 16,u 17,u 18,u 19,u 20,u 21,u 22,u 23,u 24,u 25,u 26,u 27,u 28,u 29])) (λ_ _=>False) ?_ ?_ (λ_ _ _ hh=>hh.elim)
  .intro τ d;obtain⟨c0,c1,c2,c3,c4,c5⟩:=(aK (w':=re (re W τ2 d2) τ d) rowW rfl) k hlt;simp only[Nat.zero_add]at c0 c1 c2 c3 c4 c5;have hlt':(k:Int)<n:=by omega
   clear htop hcont IH;simp only[aB];go_wp2;left;refine⟨by first|rfl|trivial,⟨by simp[re],λq hq=>?_⟩,W.heap.size,?_,rfl,rfl⟩
   .exact(Below.heap_alloc _ _ _ (by simpa[re]using hq)).trans rfl
   .exact heap_alloc_new (re (re W τ2 d2) τ d) _
  rintro a' w2 ⟨hb2,B4,hbx,hfr⟩;clear u;obtain⟨u,rfl⟩:=hfr.open;clear hfr;have hz2:=hb2.size;refine ar.seq E hSu ?_;refine ar.chain E hSu [_] _ (λa' w'=>(∃τ d,w'=re w2 τ d)/\aW a' (λu=>#[u 0,.pointer (some ⟨B1,0,none⟩),u 2,.int .i64 k,u 4,u 5,u 6,u 7,u 8,u 9,u 10,.slice (some ⟨b,0,none⟩) n cap,.int .i64 n,.int .i64 k,u 14,u 15,u 16,u 17,u 18,u 19,.bool (!(f k).lands),u 21,u 22,u 23,u 24,u 25,u 26,u 27,u 28,u 29])) (λ_ _=>False) ?_ ?_ (λ_ _ _ hh=>hh.elim)
  .intro τ d;obtain⟨z0,z1,z2,z3,z4,z5⟩:=Ap (w:=re w2 τ d) hbx;clear htop hcont IH;simp only[aB];go_wp2;left;exact⟨by first|rfl|trivial,⟨τ,d,rfl⟩,rfl,rfl⟩
  rintro a' w' ⟨⟨τ3,d3,rfl⟩,hfr⟩;clear u;obtain⟨u,rfl⟩:=hfr.open;clear hfr;refine ar.cond E hSu (t:=!(f k).lands) rfl ?_;by_cases hla:(f k).lands=true
  .rw[if_neg (by rw[hla];simp)];refine ar.skip E hSu (ar.seq E hSu (ar.region E hSu ?_));rw[aY];have bk2:am w2 B1 now shift (.slice (some ⟨b,0,none⟩) n cap) (.slice (some ⟨b',0,none⟩) n cap'):=bkW.same (hb2.block B1 hB1W);refine ar.opsFrom E hSu 0 2 (by simp) (λa' w'=>(∃τ d,w'=re w2 τ d)/\aW a' (λu=>#[u 0,.pointer (some ⟨B1,0,none⟩),u 2,.int .i64 k,u 4,u 5,u 6,u 7,u 8,u 9,u 10,.slice (some ⟨b,0,none⟩) n cap,.int .i64 n,.int .i64 k,u 14,u 15,u 16,u 17,u 18,u 19,u 20,u 21,.agg #[.int .i64 now,.int .i64 shift,.slice (some ⟨b,0,none⟩) n cap,.slice (some ⟨b',0,none⟩) n cap'],.int .i64 k,u 24,u 25,u 26,u 27,u 28,u 29])) ?_ ?_
   .intro τ d;have bk0:am (re (re w2 τ3 d3) τ d) B1 now shift (.slice (some ⟨b,0,none⟩) n cap) (.slice (some ⟨b',0,none⟩) n cap'):=bk2;obtain⟨y0,y1,y2,y3,y4⟩:=bk0.cells;clear htop hcont IH;simp only[List.drop_zero,List.take_succ_cons,List.take_zero];go_wp2;exact⟨⟨τ,d,rfl⟩,rfl,rfl⟩
   rintro a' w' ⟨⟨τ4,d4,rfl⟩,hfr⟩;clear u;obtain⟨u,rfl⟩:=hfr.open;clear hfr;refine ar.roundOp E hRo hPl hSB hbt hSu (i:=2) rfl rfl (b:=b) (n:=n) (cap:=cap) (b':=b') (cap':=cap') (p:=k) (f:=f) (t:=t) (now:=now) (shift:=shift) (λw=>by simp[execOp,resolve,invoke,Act.eval,go_sem]) hm hf hlt (by show b<w2.heap.size;omega) (aK (aK rowW (hb2.block b hl1)) rfl) (by show b'<w2.heap.size;omega) (λi hi=>by
    have e:=hb2.block b' hl1';have:=rowW' i hi;simp only[World.cell?,re,e]at this⊢;exact this) ?_
   intro v V3 hpost;obtain⟨⟨x0,x1,x2,l2,c2,x3,l3,c3,rfl,_⟩,hb3'⟩:=hpost;have hb3:Bl w2.heap.size w2 V3:=⟨hb3'.size,hb3'.block⟩;clear hb3';have hz3:=hb3.size;have hbW3:Bl W.heap.size W V3:=hb2.trans hb3 hz2;obtain⟨br,hbr⟩:∃br,(cP f n t k).isSome=br:=⟨_,rfl⟩;rw[hbr];refine ar.opsFrom E hSu 3 6 (by simp) (λa' w'=>Bl W.heap.size W w'/\aW a' (λu=>#[u 0,.pointer (some ⟨B1,0,none⟩),u 2,u 3,u 4,u 5,.bool br,u 7,u 8,u 9,u 10,.slice (some ⟨b,0,none⟩) n cap,.int .i64 n,.int .i64 k,u 14,u 15,u 16,u 17,u 18,u 19,u 20,u 21,u 22,u 23,u 24,u 25,u 26,u 27,u 28,u 29])) ?_ ?_
   .intro τ d;clear htop hcont IH;simp only[List.drop_succ_cons,List.drop_zero,List.take_succ_cons,List.take_zero,Act.put];go_wp2;refine⟨⟨by have:=hbW3.size;simp[re];omega,λq hq=>?_⟩,rfl,rfl⟩;exact(Below.heap_alloc _ _ _ (by have:=hbW3.size;simp[re];omega)).trans (hbW3.block q hq)
   rintro a' w5 ⟨hb5,hfr⟩;clear u;obtain⟨u,rfl⟩:=hfr.open;clear hfr;refine ar.regionEnd E hSu ?_;refine ar.chain E hSu [_] _ (λa' w'=>(∃τ d,w'=re w5 τ d)/\aW a' (λu=>#[u 0,.pointer (some ⟨B1,0,none⟩),u 2,u 3,u 4,u 5,u 6,u 7,u 8,u 9,u 10,.slice (some ⟨b,0,none⟩) n cap,.int .i64 n,.int .i64 k,u 14,u 15,u 16,u 17,u 18,u 19,u 20,u 21,u 22,u 23,u 24,u 25,u 26,u 27,.bool (!br),u 29])) (λ_ _=>False) ?_ ?_ (λ_ _ _ hh=>hh.elim)
   .intro τ d;clear htop hcont IH;simp only[aB];go_wp2;left;exact⟨by first|rfl|trivial,⟨τ,d,rfl⟩,rfl,rfl⟩
   rintro a' w' ⟨⟨τ6,d6,rfl⟩,hfr⟩;clear u;obtain⟨u,rfl⟩:=hfr.open;clear hfr;refine ar.cond E hSu (t:=!br) rfl ?_;cases br with
   |false=>
    rw[if_pos (show(!false)=true from rfl)];have hnot:¬sU f n t:=λh=>by have:=h k hlt hla;rw[hbr]at this;cases this
    have hno:=pY (now:=now) (shift:=shift) (m:=n) hnot;have hbV5:Bl V.heap.size V w5:=hbVW.trans hb5 (by omega);refine ar.last E hSu [_] (λa' w'=>false=dY now shift f n t n/\Bl V.heap.size V w'/\a'.defers=[]/\a'.tmps[2]?=some (.bool false)) ?_ (λa' w' todo hh=>htop false a' w' todo hh);intro τ d;clear htop hcont IH;simp only[aB];go_wp2;left;exact⟨by first|rfl|trivial,hno.symm,⟨hbV5.size,hbV5.block⟩,by first|rfl|trivial,by first|rfl|simp⟩
   |true=>
    rw[if_neg (show¬(!true)=true by simp)];refine ar.skip E hSu (ar.inBlock E hSu ?_);refine ar.region E hSu ?_;rw[aY];refine ar.opsFrom E hSu 0 2 (by simp) (λa' w'=>(∃τ d,w'=re w5 τ d)/\∃k':Nat,k'=k+1/\aW a' (λu=>#[u 0,.pointer (some ⟨B1,0,none⟩),u 2,u 3,u 4,u 5,u 6,u 7,u 8,u 9,u 10,.slice (some ⟨b,0,none⟩) n cap,.int .i64 n,.int .i64 (k':Nat),u 14,u 15,u 16,u 17,u 18,u 19,u 20,u 21,u 22,u 23,u 24,u 25,u 26,u 27,u 28,u 29])) ?_ ?_
    .intro τ d;have hwr:IntKind.i64.wrap ((k:Int)+1)=(k:Int)+1:=by rw[IntKind.wrap_i64];omega
     clear htop hcont IH;simp only[List.drop_zero,List.take_succ_cons,List.take_zero];go_wp2;first|exact⟨⟨τ,d,rfl⟩,k+1,rfl,rfl,by simp⟩|exact⟨⟨τ,d,rfl⟩,rfl,by simp⟩|exact⟨⟨τ,d,rfl⟩,rfl,rfl⟩
    rintro a' w' ⟨⟨τ7,d7,rfl⟩,k',rfl,hfr⟩;refine ar.regionEnd E hSu (IH (j-1) (by omega) _ _ ⟨k+1,by omega,?_,λp hp hl=>?_,hfr⟩)
    .exact⟨Nat.le_trans hzW hb5.size,λq hq=>(hb5.block q (by omega)).trans (hbW.block q hq)⟩
    .by_cases e:p=k
     .subst e;exact hbr
     .exact hall p (by omega) hl
  .rw[if_pos (by simpa using hla)];refine ar.exit E hSu (k':=_) rfl ?_;refine ar.region E hSu ?_;rw[aY];refine ar.opsFrom E hSu 0 2 (by simp) (λa' w'=>(∃τ d,w'=re w2 τ d)/\∃k':Nat,k'=k+1/\aW a' (λu=>#[u 0,.pointer (some ⟨B1,0,none⟩),u 2,u 3,u 4,u 5,u 6,u 7,u 8,u 9,u 10,.slice (some ⟨b,0,none⟩) n cap,.int .i64 n,.int .i64 (k':Nat),u 14,u 15,u 16,u 17,u 18,u 19,u 20,u 21,u 22,u 23,u 24,u 25,u 26,u 27,u 28,u 29])) ?_ ?_
   .intro τ d;have hwr:IntKind.i64.wrap ((k:Int)+1)=(k:Int)+1:=by rw[IntKind.wrap_i64];omega
    clear htop hcont IH;simp only[List.drop_zero,List.take_succ_cons,List.take_zero];go_wp2;first|exact⟨⟨τ,d,rfl⟩,k+1,rfl,rfl,by simp⟩|exact⟨⟨τ,d,rfl⟩,rfl,by simp⟩|exact⟨⟨τ,d,rfl⟩,rfl,rfl⟩
   rintro a' w' ⟨⟨τ7,d7,rfl⟩,k',rfl,hfr⟩;refine ar.regionEnd E hSu (IH (j-1) (by omega) _ _ ⟨k+1,by omega,?_,λp hp hl=>?_,hfr⟩)
   .exact⟨Nat.le_trans hzW hz2,λq hq=>(hb2.block q (by omega)).trans (hbW.block q hq)⟩
   .by_cases e:p=k
    .subst e;exact absurd hl hla
    .exact hall p (by omega) hl
 .rw[if_neg (by simpa using hlt)];refine ar.exit E hSu (k':=[.code _]) rfl ?_;have hsure:sU f n t:=λp hp=>hall p (by omega)
  have hyes:=pX hbook hsure;refine ar.last E hSu [_] (λa' w'=>true=dY now shift f n t n/\Bl V.heap.size V w'/\a'.defers=[]/\a'.tmps[2]?=some (.bool true)) ?_ (λa' w' todo hh=>htop true a' w' todo hh);intro τ d;clear htop hcont IH;simp only[aB];go_wp2;left;exact⟨by first|rfl|trivial,hyes.symm,⟨hbVW.size,hbVW.block⟩,by first|rfl|trivial,by first|rfl|simp⟩
end
end
section
open Go Go.RowKit
def pZ (r:Option (Nat->Int))(e:Ending):Prop:=∃(x0 x1:Int) (x2:Option Addr) (l2 c2:Nat) (x3:Option Addr) (l3 c3:Nat),e=.returned (.tuple #[.agg #[.int .i64 x0,.int .i64 x1,.slice x2 l2 c2,.slice x3 l3 c3],.bool r.isSome])
def lI (f:Nat->Mv)(n:Nat)(t:Nat->Int)(p:Nat)(shift:Int)(r:Option (Nat->Int))(w:World)(e:Ending)(w':World):Prop:=
 match r with
 |none=>e=.returned (.tuple #[.agg #[.int .i64 0,.int .i64 0,.slice none 0 0,.slice none 0 0],.bool false])
 |some T=>∃BN cN BT cT,e=.returned (.tuple #[.agg #[.int .i64 (t p),.int .i64 shift,.slice (some ⟨BN,0,none⟩) (ap f t p n).length cN,.slice (some ⟨BT,0,none⟩) (ap f t p n).length cT],.bool true])/\BN<w'.heap.size/\al w' BN 0 (ap f t p n).length (jg (ap f t p n))/\aj w' BT (ap f t p n).length T
theorem lI.says {f:Nat->Mv}{n:Nat}{t:Nat->Int}{p:Nat}{shift:Int}{r:Option (Nat->Int)}{w:World}{e:Ending}{w':World}(h:lI f n t p shift r w e w'):pZ r e:=by
 cases r with
 |none=>exact⟨0,0,none,0,0,none,0,0,h⟩
 |some T=>obtain⟨BN,cN,BT,cT,h,_⟩:=h;exact⟨_,_,_,_,_,_,_,_,h⟩
theorem fp {w w':World}{b n:Nat}{g:Nat->Int}(h:aj w b n g)(e:w'.heap[b]?=w.heap[b]?):aj w' b n g:=by
 obtain⟨⟨cs,h1,h2⟩,h3⟩:=h;exact⟨⟨cs,e.trans h1,h2⟩,λi hi=>(World.cell?_of_block (a:=⟨b,0+i,none⟩) e).trans (h3 i hi)⟩
theorem fq (w:World)(B:Nat)(x0 x1:Int)(x2:Option Addr)(l2 c2:Nat)(x3:Option Addr)(l3 c3:Nat)(h:w.heap[B]?=some (.cells #[.int .i64 x0,.int .i64 x1,.slice x2 l2 c2,.slice x3 l3 c3] 32 (0,0))):w.cell? ⟨B,0,none⟩=some (.int .i64 x0)/\w.cell? ⟨B,1,none⟩=some (.int .i64 x1)/\w.cell? ⟨B,2,none⟩=some (.slice x2 l2 c2)/\w.cell? ⟨B,3,none⟩=some (.slice x3 l3 c3):=by
 refine⟨?_,?_,?_,?_⟩<;>simp[World.cell?,h]
theorem rh (b n cap b' cap' p:Nat)(f:Nat->Mv)(t:Nat->Int)(now shift:Int)(w:World)(hm:aq f n=true)(hf:dL f t n)(hp:p<n)(hbs:b<w.heap.size)(hrow:al w b 0 n f)(hbs':b'<w.heap.size)(hrow':ag w b' 0 n t):
  Calls Tryz0.prog 48 #[.agg #[.int .i64 now,.int .i64 shift,.slice (some ⟨b,0,none⟩) n cap,.slice (some ⟨b',0,none⟩) n cap'],.int .i64 p] w λe w'=>lI f n t p shift (cP f n t p) w e w'/\Below w.heap.size w w':=by
 have h6:=aF hm;have hokp:=Mv.ok_bd (aG hm p hp);have hsp:=eK (hf.1 p hp);obtain⟨wB,hwB⟩:∃W,W=(w.alloc (.cells #[.int .i64 now,.int .i64 shift,.slice (some ⟨b,0,none⟩) n cap,.slice (some ⟨b',0,none⟩) n cap'] 32)).alloc (.cells #[.int .i64 0,.int .i64 0,.slice none 0 0,.slice none 0 0] 32):=⟨_,rfl⟩;have hbB:Below w.heap.size w wB:=by rw[hwB];exact((Below.refl _ w).alloc (Nat.le_refl _) _).alloc (by simp) _
 have hrs:am wB (w.heap.size+1) 0 0 (.slice none 0 0) (.slice none 0 0):=by rw[hwB];exact cI _ _ _
 have H1:=uA b n cap b' cap' p f t now shift wB hm hf hp (Nat.lt_of_lt_of_le hbs hbB.size) (hrow.below hbB hbs) (Nat.lt_of_lt_of_le hbs' hbB.size) (hrow'.below hbB hbs');rw[hwB]at H1;go_enter Tryz0.func48,Tryz.ntmps48
 by_cases hle:t p+6<=(f p).late
 .have hR:cP f n t p=er (jg (ap f t p n)) (ap f t p n).length (t p) 6:=by unfold cP;rw[if_pos hle]
  have hpos:=jy (f:=f) (t:=t) (p:=p) hp;have hlen:=fm f t p n;have HP:=λ(BN cN:Nat) (W:World) (hlt:BN<W.heap.size) (hr:al W BN 0 (ap f t p n).length (jg (ap f t p n)))=>ol BN (ap f t p n).length cN (jg (ap f t p n)) (t p) 6 W (by omega) (λi hi=>ob hm hf hp hle hi) (by omega) (by omega) (by omega) (by omega) (λhr=>sX hm hf hp hle hr) hlt hr
  rw[hR];clear hR;cases hP:er (jg (ap f t p n)) (ap f t p n).length (t p) 6 with
  |none=>
   rw[hP]at HP;go_wp2_with(first
    |(go_at_call 68;refine H1.mono ?_;clear H1;rintro e w1 ⟨l1,b1⟩;rw[<-hwB]at b1 l1;unfold gK at l1;rw[if_pos hle]at l1;obtain⟨BN,cN,rfl,hBN,hlN,rN⟩:=l1;have r1:=hrs.same (b1.block _ hrs.lt);obtain⟨y0,y1,y2,y3,y4⟩:=r1.cells;have l41:=r1.lt;have hb1:=hbB.trans (b1.mono hbB.size))
    |(go_at_call 35;refine(HP _ _ _ (by simp;omega) (rN.below ((Below.refl _ _).alloc (Nat.le_refl _) _) hlN)).mono ?_;clear HP;rintro e w2 ⟨⟨a2,c2,rfl⟩,b2⟩;have hb2:=((Below.refl _ w1).alloc (Nat.le_refl _) _).trans (b2.mono (by simp));have r2:=r1.same (hb2.block _ r1.lt);obtain⟨z0,z1,z2,z3,z4⟩:=r2.cells;have l42:=r2.lt))
   rw[eO r2];have hs5:=setRow_heap w2 (w.heap.size+1) _ #[.int .i64 0,.int .i64 0,.slice none 0 0,.slice none 0 0] _ _ r2;have hb5:=below_setRow (hb1.trans (hb2.mono hb1.size)) (by omega:w.heap.size<=w.heap.size+1) #[.int .i64 0,.int .i64 0,.slice none 0 0,.slice none 0 0];revert hs5 hb5;generalize w2.setRow (w.heap.size+1) #[.int .i64 0,.int .i64 0,.slice none 0 0,.slice none 0 0]=W5;intro hs5 hb5;obtain⟨q0,q1,q2,q3⟩:=fq W5 _ 0 0 none 0 0 none 0 0 hs5;refine bodyPost_ret (v:=.tuple #[.agg #[.int .i64 0,.int .i64 0,.slice none 0 0,.slice none 0 0],.bool false]) ?_ rfl ⟨rfl,hb5⟩;simp[results,Tryz.f48,go_sem,q0,q1,q2,q3]
  |some T=>
   rw[hP]at HP;go_wp2_with(first
    |(go_at_call 68;refine H1.mono ?_;clear H1;rintro e w1 ⟨l1,b1⟩;rw[<-hwB]at b1 l1;unfold gK at l1;rw[if_pos hle]at l1;obtain⟨BN,cN,rfl,hBN,hlN,rN⟩:=l1;have r1:=hrs.same (b1.block _ hrs.lt);obtain⟨y0,y1,y2,y3,y4⟩:=r1.cells;have l41:=r1.lt;have hb1:=hbB.trans (b1.mono hbB.size))
    |(go_at_call 35;refine(HP _ _ _ (by simp;omega) (rN.below ((Below.refl _ _).alloc (Nat.le_refl _) _) hlN)).mono ?_;clear HP;rintro e w2 ⟨⟨BT,c2,hBT,rfl,oT,_⟩,b2⟩;have hb2:=((Below.refl _ w1).alloc (Nat.le_refl _) _).trans (b2.mono (by simp));have r2:=r1.same (hb2.block _ r1.lt);obtain⟨z0,z1,z2,z3,z4⟩:=r2.cells;have l42:=r2.lt;have x2:am w2 w1.heap.size (t p) shift (.slice (some ⟨BN,0,none⟩) (ap f t p n).length cN) (.slice none 0 0):=(b2.block _ (by simp)).trans (heap_alloc_new _ _);obtain⟨v0,v1,v2,v3,v4⟩:=x2.cells;have l12:=x2.lt;have hne:w.heap.size+1≠w1.heap.size:=Nat.ne_of_lt l41;have hne':=hne.symm))
   have hs:∀k,k≠w1.heap.size->(w2.setCell ⟨w1.heap.size,3,none⟩ (.slice (some ⟨BT,0,none⟩) (ap f t p n).length c2)).heap[k]?=w2.heap[k]?:=λk hk=>Below.heap_setCell _ _ _ k hk
   have hbS:=(hb1.trans (hb2.mono hb1.size)).setCell (p:=⟨w1.heap.size,3,none⟩) hb1.size (.slice (some ⟨BT,0,none⟩) (ap f t p n).length c2);have hz3e:(w2.setCell ⟨w1.heap.size,3,none⟩ (.slice (some ⟨BT,0,none⟩) (ap f t p n).length c2)).heap.size=w2.heap.size:=by simp
   revert hs hbS hz3e;generalize w2.setCell ⟨w1.heap.size,3,none⟩ (.slice (some ⟨BT,0,none⟩) (ap f t p n).length c2)=w3;intro hs hbS hz3e;have r3:=r2.same (hs _ hne);have hz3:w3.heap.size=w2.heap.size:=hz3e;have hBN2:=hb2.block BN hlN;have hlow:w.heap.size+2<=BN:=by rw[hwB]at hBN;simpa using hBN
   have hltN:=Nat.lt_of_lt_of_le hlN hb2.size;have hT1:w1.heap.size+1<=BT:=by simpa using hBT
   have hltT:=oT.lt;rw[eO r3];have hs5:=setRow_heap w3 (w.heap.size+1) _ #[.int .i64 (t p),.int .i64 shift,.slice (some ⟨BN,0,none⟩) (ap f t p n).length cN,.slice (some ⟨BT,0,none⟩) (ap f t p n).length c2] _ _ r3;have hb5:=below_setRow hbS (by omega:w.heap.size<=w.heap.size+1) #[.int .i64 (t p),.int .i64 shift,.slice (some ⟨BN,0,none⟩) (ap f t p n).length cN,.slice (some ⟨BT,0,none⟩) (ap f t p n).length c2];have hz5:(w3.setRow (w.heap.size+1) #[.int .i64 (t p),.int .i64 shift,.slice (some ⟨BN,0,none⟩) (ap f t p n).length cN,.slice (some ⟨BT,0,none⟩) (ap f t p n).length c2]).heap.size=w3.heap.size:=setRow_size _ _ _;have hn5:∀k,k≠w.heap.size+1->(w3.setRow (w.heap.size+1) #[.int .i64 (t p),.int .i64 shift,.slice (some ⟨BN,0,none⟩) (ap f t p n).length cN,.slice (some ⟨BT,0,none⟩) (ap f t p n).length c2]).heap[k]?=w3.heap[k]?:=λk hk=>setRow_other _ _ _ _ hk
   revert hs5 hb5 hz5 hn5;generalize w3.setRow (w.heap.size+1) #[.int .i64 (t p),.int .i64 shift,.slice (some ⟨BN,0,none⟩) (ap f t p n).length cN,.slice (some ⟨BT,0,none⟩) (ap f t p n).length c2]=W5;intro hs5 hb5 hz5 hn5;obtain⟨q0,q1,q2,q3⟩:=fq W5 _ _ _ _ _ _ _ _ _ hs5;refine bodyPost_ret (v:=.tuple #[.agg #[.int .i64 (t p),.int .i64 shift,.slice (some ⟨BN,0,none⟩) (ap f t p n).length cN,.slice (some ⟨BT,0,none⟩) (ap f t p n).length c2],.bool true]) ?_ rfl ⟨⟨BN,cN,BT,c2,rfl,by omega,aK rN ((hn5 BN (by omega)).trans ((hs BN (by omega)).trans hBN2)),fp oT ((hn5 BT (by omega)).trans (hs BT (by omega)))⟩,hb5⟩;simp[results,Tryz.f48,go_sem,q0,q1,q2,q3]
 .have hR:cP f n t p=none:=by unfold cP;rw[if_neg hle]
  rw[hR];clear hR;go_wp2_with(go_at_call 68;refine H1.mono ?_;clear H1;rintro e w1 ⟨l1,b1⟩;rw[<-hwB]at b1 l1;unfold gK at l1;rw[if_neg hle]at l1;subst l1;have r1:=hrs.same (b1.block _ hrs.lt);obtain⟨y0,y1,y2,y3,y4⟩:=r1.cells;have l41:=r1.lt;have hb1:=hbB.trans (b1.mono hbB.size))
  rw[eO r1];have hs5:=setRow_heap w1 (w.heap.size+1) _ #[.int .i64 0,.int .i64 0,.slice none 0 0,.slice none 0 0] _ _ r1;have hb5:=below_setRow hb1 (by omega:w.heap.size<=w.heap.size+1) #[.int .i64 0,.int .i64 0,.slice none 0 0,.slice none 0 0];have hz5:(w1.setRow (w.heap.size+1) #[.int .i64 0,.int .i64 0,.slice none 0 0,.slice none 0 0]).heap.size=w1.heap.size:=setRow_size _ _ _;revert hs5 hb5 hz5;generalize w1.setRow (w.heap.size+1) #[.int .i64 0,.int .i64 0,.slice none 0 0,.slice none 0 0]=W5;intro hs5 hb5 hz5;have hs6:=λo=>(Below.heap_alloc W5 o (w.heap.size+1) (by omega)).trans hs5
  have hb6:=λo=>hb5.alloc (o:=o) hb5.size
  have q0:=λo=>(fq (W5.alloc o) _ 0 0 none 0 0 none 0 0 (hs6 o)).1
  have q1:=λo=>(fq (W5.alloc o) _ 0 0 none 0 0 none 0 0 (hs6 o)).2.1
  have q2:=λo=>(fq (W5.alloc o) _ 0 0 none 0 0 none 0 0 (hs6 o)).2.2.1
  have q3:=λo=>(fq (W5.alloc o) _ 0 0 none 0 0 none 0 0 (hs6 o)).2.2.2
  refine bodyPost_ret (v:=.tuple #[.agg #[.int .i64 0,.int .i64 0,.slice none 0 0,.slice none 0 0],.bool false]) ?_ rfl ⟨rfl,hb6 _⟩;simp[results,Tryz.f48,go_sem,q0,q1,q2,q3]
theorem s9 (b n cap b' cap' p:Nat)(f:Nat->Mv)(t:Nat->Int)(now shift:Int)(w:World)(hm:aq f n=true)(hf:dL f t n)(hp:p<n)(hbs:b<w.heap.size)(hrow:al w b 0 n f)(hbs':b'<w.heap.size)(hrow':ag w b' 0 n t):
  Calls Tryz0.prog 48 #[.agg #[.int .i64 now,.int .i64 shift,.slice (some ⟨b,0,none⟩) n cap,.slice (some ⟨b',0,none⟩) n cap'],.int .i64 p] w λe w'=>pZ (cP f n t p) e/\Below w.heap.size w w':=
 (rh b n cap b' cap' p f t now shift w hm hf hp hbs hrow hbs' hrow').mono λe w' h=>⟨h.1.says,h.2⟩
theorem ri (now shift:Int)(b n cap:Nat)(f:Nat->Mv)(b' m cap':Nat)(t:Nat->Int)(w:World)(hn:n<=1048576)(hm1:m<=maxLen)(hbs:b<w.heap.size)(hrow:al w b 0 n f)(hfit:∀i,i<n->(f i).Fits)(hbs':b'<w.heap.size)(hrow':ag w b' 0 m t):
  Calls Tryz0.prog 36 #[.agg #[.int .i64 now,.int .i64 shift,.slice (some ⟨b,0,none⟩) n cap,.slice (some ⟨b',0,none⟩) m cap']] w λe w'=>e=.returned (.bool (dY now shift f n t m))/\Below w.heap.size w w':=by
 obtain⟨wB,hwB⟩:∃W,W=w.alloc (.cells #[.int .i64 now,.int .i64 shift,.slice (some ⟨b,0,none⟩) n cap,.slice (some ⟨b',0,none⟩) m cap'] 32):=⟨_,rfl⟩;have hbB:Below w.heap.size w wB:=by rw[hwB];exact(Below.refl _ w).alloc (Nat.le_refl _) _
 have hbk:am wB w.heap.size now shift (.slice (some ⟨b,0,none⟩) n cap) (.slice (some ⟨b',0,none⟩) m cap'):=by rw[hwB];exact heap_alloc_new _ _
 have H1:=kV now shift b 0 n cap f b' 0 m cap' t wB hn hm1 (Nat.lt_of_lt_of_le hbs hbB.size) (hrow.below hbB hbs) hfit (Nat.lt_of_lt_of_le hbs' hbB.size) (hrow'.below hbB hbs');rw[hwB]at H1;go_enter Tryz0.func36,Tryz.ntmps36
 cases hb:aO now shift f n t m with
 |false=>
  rw[hb]at H1;rw[s8 hb];go_wp2_with(go_at_call 30;refine H1.mono ?_;clear H1;rintro e w1 ⟨rfl,b1⟩;rw[<-hwB]at b1)
  go_ret;exact⟨rfl,hbB.trans (b1.mono hbB.size)⟩
 |true=>
  obtain⟨hm,hmn,hf⟩:=io hb;replace hmn:=hmn.symm;subst hmn;have h6:=aF hm;rw[hb]at H1;have HB:Hid (aO now shift f n t n=true):=hb;clear hb;go_wp2_with(go_at_call 30;refine H1.mono ?_;clear H1;rintro e w1 ⟨rfl,b1⟩;rw[<-hwB]at b1)
  have hb1:=hbB.trans (b1.mono hbB.size);have bk1:=hbk.same (b1.block _ hbk.lt);clear b1 hbk hbB hwB;go_loopw [3,4,5] (λx _ _ W=>∃k:Nat,x=.int .i64 k/\k<=n/\Below w.heap.size w W/\am W w.heap.size now shift (.slice (some ⟨b,0,none⟩) n cap) (.slice (some ⟨b',0,none⟩) n cap')/\∀p,p<k->(f p).lands=true->(cP f n t p).isSome=true) (λx _ _ _=>n-(intOf x).toNat)
  case atStart=>exact⟨0,rfl,Nat.zero_le _,hb1,bk1,λp hp=>absurd hp (Nat.not_lt_zero _)⟩
  case round=>
   clear hb1 bk1;obtain⟨k,rfl,hk,hBr,bkr,hall⟩:=hrel;obtain⟨y0,y1,y2,y3,y4⟩:=bkr.cells;have lb1:=bkr.lt;by_cases hlt:k<n
   .have hlt':(k:Int)<n:=by omega
    have lbr:=Nat.lt_of_lt_of_le hbs hBr.size;have lbr':=Nat.lt_of_lt_of_le hbs' hBr.size;have H2:=s9 b n cap b' cap' k f t now shift wr hm hf hlt lbr (hrow.below hBr hbs) lbr' (hrow'.below hBr hbs');have FACTS:∀w2,Below wr.heap.size wr w2->am w2 w.heap.size now shift (.slice (some ⟨b,0,none⟩) n cap) (.slice (some ⟨b',0,none⟩) n cap')/\w2.cell? ⟨b,k*6+1,none⟩=some (.bool (f k).lands)/\b<w2.heap.size:=λw2 hb=>by
     have h:=((hrow.below hBr hbs).below hb lbr k hlt).c1;rw[Nat.zero_add]at h;exact⟨bkr.same (hb.block _ lb1),h,Nat.lt_of_lt_of_le lbr hb.size⟩
    cases hr:cP f n t k with
    |none=>
     cases hla:(f k).lands with
     |false=>
      go_wp2_with(go_at_call 48;refine H2.mono ?_;clear H2;rintro e w2 ⟨⟨x0,x1,x2,l2,c2,x3,l3,c3,rfl⟩,b2⟩;obtain⟨bk2,d1,lb2'⟩:=FACTS w2 b2;rw[hla]at d1;obtain⟨z0,z1,z2,z3,z4⟩:=bk2.cells;have lk2:=bk2.lt;rw[hr])
      all_goals first|(exfalso;omega)|skip
      go_roundw
      case rel=>exact⟨k+1,by go_num,by omega,(hBr.trans (b2.mono hBr.size)).alloc (by have:=hBr.size;have:=b2.size;omega) _,bk2.same (Below.heap_alloc _ _ _ lk2),λp hp hl=>by
       by_cases e:p=k
       .subst e;rw[hla]at hl;cases hl
       .exact hall p (by omega) hl⟩
      case measure=>simp[intOf];omega
     |true=>
      have hno:dY now shift f n t n=false:=pY (λh=>by have:=h k hlt hla;rw[hr]at this;cases this);go_wp2_with(go_at_call 48;refine H2.mono ?_;clear H2;rintro e w2 ⟨⟨x0,x1,x2,l2,c2,x3,l3,c3,rfl⟩,b2⟩;obtain⟨bk2,d1,lb2'⟩:=FACTS w2 b2;rw[hla]at d1;obtain⟨z0,z1,z2,z3,z4⟩:=bk2.cells;have lk2:=bk2.lt;rw[hr])
      all_goals first|(exfalso;omega)|skip
      go_ret;exact⟨by first|rfl|(rw[hno];rfl)|rw[hno],(hBr.trans (b2.mono hBr.size)).alloc (by have:=hBr.size;have:=b2.size;omega) _⟩
    |some T=>
     cases hla:(f k).lands with
     |false=>
      go_wp2_with(go_at_call 48;refine H2.mono ?_;clear H2;rintro e w2 ⟨⟨x0,x1,x2,l2,c2,x3,l3,c3,rfl⟩,b2⟩;obtain⟨bk2,d1,lb2'⟩:=FACTS w2 b2;rw[hla]at d1;obtain⟨z0,z1,z2,z3,z4⟩:=bk2.cells;have lk2:=bk2.lt;rw[hr])
      all_goals first|(exfalso;omega)|skip
      go_roundw
      case rel=>exact⟨k+1,by go_num,by omega,(hBr.trans (b2.mono hBr.size)).alloc (by have:=hBr.size;have:=b2.size;omega) _,bk2.same (Below.heap_alloc _ _ _ lk2),λp hp hl=>by
       by_cases e:p=k
       .subst e;rw[hr];rfl
       .exact hall p (by omega) hl⟩
      case measure=>simp[intOf];omega
     |true=>
      go_wp2_with(go_at_call 48;refine H2.mono ?_;clear H2;rintro e w2 ⟨⟨x0,x1,x2,l2,c2,x3,l3,c3,rfl⟩,b2⟩;obtain⟨bk2,d1,lb2'⟩:=FACTS w2 b2;rw[hla]at d1;obtain⟨z0,z1,z2,z3,z4⟩:=bk2.cells;have lk2:=bk2.lt;rw[hr])
      all_goals first|(exfalso;omega)|skip
      go_roundw
      case rel=>exact⟨k+1,by go_num,by omega,(hBr.trans (b2.mono hBr.size)).alloc (by have:=hBr.size;have:=b2.size;omega) _,bk2.same (Below.heap_alloc _ _ _ lk2),λp hp hl=>by
       by_cases e:p=k
       .subst e;rw[hr];rfl
       .exact hall p (by omega) hl⟩
      case measure=>simp[intOf];omega
   .have hlt':¬(k:Int)<n:=by omega
    have hyes:dY now shift f n t n=true:=pX HB.out (λp hp=>hall p (by omega));go_wp2;all_goals first|(exfalso;omega)|skip
    go_ret;exact⟨by first|rfl|(rw[hyes];rfl)|rw[hyes],hBr⟩
end
end Go.Proofs.YtlmcblcijndipabGreatDoor
