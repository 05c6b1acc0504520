import Derived.Test.YtlmcblcijndipabGreatDoorAd42
set_option linter.unusedVariables false
set_option linter.unusedSectionVars false
set_option maxHeartbeats 4000000
set_option maxRecDepth 100000
namespace Go.Proofs.YtlmcblcijndipabGreatDoor
section
open Go Go.Conc Go.RowKit
noncomputable def dz (now shift:Int)(f:Nat->Mv)(n:Nat)(t:Nat->Int)(m:Nat):Bool:=aV now shift f n t m&&@decide (tW f n t) (Classical.propDecidable _)
theorem ua {now shift:Int}{f:Nat->Mv}{n m:Nat}{t:Nat->Int}(h:aV now shift f n t m=false):dz now shift f n t m=false:=by unfold dz;rw[h];rfl
theorem qC {now shift:Int}{f:Nat->Mv}{n m:Nat}{t:Nat->Int}(h:aV now shift f n t m=true)(hs:tW f n t):dz now shift f n t m=true:=by unfold dz;rw[h];simpa using hs
theorem qD {now shift:Int}{f:Nat->Mv}{n m:Nat}{t:Nat->Int}(hs:¬tW f n t):dz now shift f n t m=false:=by unfold dz;simp[hs]
theorem fZ {now shift:Int}{f:Nat->Mv}{n m:Nat}{t:Nat->Int}(h:aV now shift f n t m=true):aw f n=true/\m=n/\dU f t n:=by
 cases hf:bL f n t m with
 |false=>rw[kD hf]at h;cases h
 |true=>exact kE hf
section
variable [Gl]{ok:Ctx}{c:Frame}{Q:Value->World->Prop}
theorem ap.loopInd {P0:Program}{Dr:FuncId->Array Value->World->(Value->World->Prop)->Prop}(E:bG P0 ok c Dr){b:Frame}{X:Code}{k:List Item}{cs:List Frame}(hb:ok.inn b.fn=true)(Inv:Nat->Act->World->Prop)
  (step:∀j a W,Inv j a W->(∀i,i<j->∀a' W',Inv i a' W'->ap P0 ok c Dr Q ⟨b.at a' (.inLoop X::k),cs,W'⟩)->ap P0 ok c Dr Q ⟨b.at a (.code X::.inLoop X::k),cs,W⟩):
  ∀j a W,Inv j a W->ap P0 ok c Dr Q ⟨b.at a (.code X::.inLoop X::k),cs,W⟩:=by
 intro j;induction j using Nat.strongRecOn with
 |ind j ih=>intro a W h;exact step j a W h λi hi a' W' h'=>ap.inLoop E hb (ih i hi a' W' h')
theorem ap.roundOp (E:bG Tz.prog ok c Dr24)(hRo:ok.inn 112=true)(hPl:ok.inn 132=true)(hSB:ok.inn 151=true)(hbt:ok.inn 181=false){fb:Frame}{a:Act}{k:List Item}{cs:List Frame}{V:World}(hb:ok.inn fb.fn=true){ops:Array Oper}{i:Nat}{r:List Nat}{o:Oper}(ho:ops[i]?=some o)(hw:Region.wanted o (yielded ops a.tmps)=true)
  {b n cap b' cap' p:Nat}{f:Nat->Mv}{t:Nat->Int}{now shift:Int}(hx:∀w,(execOp a.eval o).run Tz.prog w=.ok (.enter 112 #[.agg #[.int .i64 now,.int .i64 shift,.slice (some ⟨b,0,none⟩) n cap,.slice (some ⟨b',0,none⟩) n cap'],.int .i64 p]) w)
  (hm:aw f n=true)(hf:dU f t n)(hp:p<n)(hbs:b<V.heap.size)(hrow:ak V b 0 n f)(hbs':b'<V.heap.size)(hrow':al V b' 0 n t)
  (hcont:∀v V',qB f n t p shift V v V'->ap Tz.prog ok c Dr24 Q ⟨fb.at (a.put o.dst v) (.inRegion ops r::k),cs,V'⟩):ap Tz.prog ok c Dr24 Q ⟨fb.at a (.inRegion ops (i::r)::k),cs,V⟩:=
 ap.enterOp E ho hw hRo hx (Am E hRo hPl hSB hbt (r0:=fb.at a (.inRegion ops (i::r)::k)) hb hm hf hp hbs hrow hbs' hrow' (λv V' hv=>by rw[cD ho];exact hcont v V' hv))
theorem BQ (E:bG Tz.prog ok c Dr24)(hSu:ok.inn 91=true)(hRo:ok.inn 112=true)(hPl:ok.inn 132=true)(hSB:ok.inn 151=true)(hbt:ok.inn 181=false){r0:Frame}{cs:List Frame}{V:World}(hr0:ok.inn r0.fn=true)
  {b n cap b' m cap':Nat}{f:Nat->Mv}{t:Nat->Int}{now shift:Int}(hn:n<=1048576)(hm1:m<=maxLen)(hbs:b<V.heap.size)(hrow:ak V b 0 n f)(hbs':b'<V.heap.size)(hrow':al V b' 0 m t)
  (hcont:∀V',Bl V.heap.size V V'->ap Tz.prog ok c Dr24 Q ⟨r0.finish (.bool (dz now shift f n t m)),cs,V'⟩):
  ap Tz.prog ok c Dr24 Q ⟨Frame.enter Tz.prog 91 #[.agg #[.int .i64 now,.int .i64 shift,.slice (some ⟨b,0,none⟩) n cap,.slice (some ⟨b',0,none⟩) m cap']] .normal,r0::cs,V⟩:=by
 have hE:=enter_at (P:=Tz.prog) #[.agg #[.int .i64 now,.int .i64 shift,.slice (some ⟨b,0,none⟩) n cap,.slice (some ⟨b',0,none⟩) m cap']] Tz.func91 rfl;simp only[Tryz.ntmps91,List.size_toArray,List.length_cons,List.length_nil,Nat.reduceAdd,Nat.reduceSub,Array.replicate_succ,Array.replicate_zero,List.push_toArray,List.append_toArray,List.nil_append,List.cons_append]at hE;rw[hE];clear hE;have htop:∀(x:Bool) (a':Act) (w':World) (todo:List Item),(x=dz now shift f n t m/\Bl V.heap.size V w'/\a'.defers=[]/\a'.tmps[2]?=some (.bool x))->ap Tz.prog ok c Dr24 Q ⟨{(base 91).at a' todo with mode:=.returning},r0::cs,w'⟩:=by
  rintro x a' w' todo ⟨rfl,h1,h2,h3⟩;refine ap.leave E hr0 (v:=.bool (dz now shift f n t m)) (λτ d=>⟨rfl,h2,rfl,_,Tz.func91,?_⟩) (hcont _ h1);have:=results_tmp (fn:=Tryz.f91) rfl a'.tmps Tz.prog (re w' τ d);rw[fC h3]at this;exact this
 refine ap.chainM E hSu [_,_] _ (λa' w'=>aV now shift f n t m=true/\Bl V.heap.size V w'/\∃B1,V.heap.size<=B1/\ar w' B1 now shift (.slice (some ⟨b,0,none⟩) n cap) (.slice (some ⟨b',0,none⟩) m cap')/\aZ a' (λu=>#[u 0,.pointer (some ⟨B1,0,none⟩),u 2,u 3,u 4,u 5,u 6,u 7,u 8,u 9,u 10,u 11,u 12,u 13,u 14,u 15,u 16,u 17,u 18,u 19,u 20,u 21,u 22,u 23,u 24,u 25,u 26,u 27,u 28,u 29])) (λa' w'=>false=dz now shift f n t m/\Bl V.heap.size V w'/\a'.defers=[]/\a'.tmps[2]?=some (.bool false)) ?_ ?_ (λa' w' todo hh=>htop false a' w' todo hh)
 .intro τ d;have bA:Below (re V τ d).heap.size (re V τ d) ((re V τ d).alloc (.cells #[.int .i64 now,.int .i64 shift,.slice (some ⟨b,0,none⟩) n cap,.slice (some ⟨b',0,none⟩) m cap'] 32)):=(Gb _ _).alloc (Gm _) _;have hbk:ar ((re V τ d).alloc (.cells #[.int .i64 now,.int .i64 shift,.slice (some ⟨b,0,none⟩) n cap,.slice (some ⟨b',0,none⟩) m cap'] 32)) V.heap.size now shift (.slice (some ⟨b,0,none⟩) n cap) (.slice (some ⟨b',0,none⟩) m cap'):=heap_alloc_new (re V τ d) _;have H1:=lA now shift b 0 n cap f b' 0 m cap' t _ hn hm1 (Gn hbs bA.size) ((aI (w':=re V τ d) hrow rfl).below bA hbs) (Gn hbs' bA.size) (al.below (w:=re V τ d) (λi hi=>hrow' i hi) bA hbs');clear htop hcont hrow hrow';simp only[aD];cases hb:aV now shift f n t m with
  |false=>
   rw[hb]at H1;have hno:=ua hb;go_wp2_with(go_at_call 90;refine H1.mono ?_;clear H1;rintro e w1 ⟨rfl,b1⟩)
   have hbl:Bl V.heap.size V w1:=Bl.ofR (bA.trans (b1.mono bA.size));first
    |exact⟨hno.symm,hbl,rfl,rfl⟩
    |exact⟨hno,hbl⟩
    |exact⟨hno,hbl,rfl⟩
    |exact⟨hno.symm,hbl⟩
  |true=>
   rw[hb]at H1;go_wp2_with(go_at_call 90;refine H1.mono ?_;clear H1;rintro e w1 ⟨rfl,b1⟩)
   have hbl:Bl V.heap.size V w1:=Bl.ofR (bA.trans (b1.mono bA.size));have hbk1:=hbk.same (b1.block _ hbk.lt);first
    |exact⟨hbl,V.heap.size,Gm _,hbk1,rfl,rfl⟩
    |exact⟨rfl,hbl,V.heap.size,Gm _,hbk1,rfl,rfl⟩
    |exact⟨trivial,hbl,V.heap.size,Gm _,hbk1,rfl,rfl⟩
 rintro a' w1 ⟨hbook,hb1,B1,hB1,bk1,hfr⟩;obtain⟨u,rfl⟩:=hfr.open;clear hfr;obtain⟨hm,hmn,hf⟩:=fZ hbook;replace hmn:=hmn.symm;subst hmn;have h6:=aN hm;have hz1:=hb1.size;refine ap.seq E hSu ?_;refine ap.chain E hSu [_] _ (λa' w'=>(∃τ d,w'=re w1 τ d)/\∃k:Nat,k=0/\aZ a' (λu=>#[u 0,.pointer (some ⟨B1,0,none⟩),u 2,u 3,u 4,u 5,u 6,u 7,u 8,u 9,u 10,.slice (some ⟨b,0,none⟩) n cap,.int .i64 n,.int .i64 k,u 14,u 15,u 16,u 17,u 18,u 19,u 20,u 21,u 22,u 23,u 24,u 25,u 26,u 27,u 28,u 29])) (λ_ _=>False) ?_ ?_ (λ_ _ _ hh=>hh.elim)
 .intro τ d;have bk0:ar (re w1 τ d) B1 now shift (.slice (some ⟨b,0,none⟩) n cap) (.slice (some ⟨b',0,none⟩) n cap'):=bk1;obtain⟨y0,y1,y2,y3,y4⟩:=bk0.cells;clear htop hcont;simp only[aD];go_wp2;left;exact⟨by first|rfl|trivial,⟨τ,d,rfl⟩,0,rfl,rfl,rfl⟩
 rintro a' w' ⟨⟨τ1,d1,rfl⟩,k,rfl,hfr⟩;refine ap.block E hSu (ap.loop E hSu ?_);refine ap.loopInd E hSu (λj a' w'=>∃k:Nat,k+j=n/\Bl w1.heap.size w1 w'/\(∀p,p<k->(f p).lands=true->(da f n t p).isSome=true)/\aZ a' (λu=>#[u 0,.pointer (some ⟨B1,0,none⟩),u 2,u 3,u 4,u 5,u 6,u 7,u 8,u 9,u 10,.slice (some ⟨b,0,none⟩) n cap,.int .i64 n,.int .i64 k,u 14,u 15,u 16,u 17,u 18,u 19,u 20,u 21,u 22,u 23,u 24,u 25,u 26,u 27,u 28,u 29])) ?_ n a' _ ⟨0,by omega,⟨Gm _,λ_ _=>rfl⟩,λp hp=>absurd hp (Gr _),hfr⟩;clear hfr u a';rintro j a' W ⟨k,hkj,hbW,hall,hfr⟩ IH;obtain⟨u,rfl⟩:=hfr.open;clear hfr;have hzW:=hbW.size;have bkW:ar W B1 now shift (.slice (some ⟨b,0,none⟩) n cap) (.slice (some ⟨b',0,none⟩) n cap'):=bk1.same (hbW.block B1 bk1.lt);have rowW:ak W b 0 n f:=aI (aI hrow (hb1.block b hbs)) (hbW.block b (by omega));have rowW':al W b' 0 n t:=λi hi=>by
  have e:=(hbW.block b' (by omega)).trans (hb1.block b' hbs');have:=hrow' i hi;simp only[World.cell?,e]at this⊢;exact this
 have hbVW:Bl V.heap.size V W:=hb1.trans hbW hz1;refine ap.chain E hSu [_] _ (λa' w'=>(∃τ d,w'=re W τ d)/\aZ a' (λu=>#[u 0,.pointer (some ⟨B1,0,none⟩),u 2,u 3,u 4,u 5,u 6,u 7,u 8,u 9,u 10,.slice (some ⟨b,0,none⟩) n cap,.int .i64 n,.int .i64 k,.bool (decide (k<n)),u 15,u 16,u 17,u 18,u 19,u 20,u 21,u 22,u 23,u 24,u 25,u 26,u 27,u 28,u 29])) (λ_ _=>False) ?_ ?_ (λ_ _ _ hh=>hh.elim)
 .intro τ d;clear htop hcont IH;simp only[aD];go_wp2;left;exact⟨by first|rfl|trivial,⟨τ,d,rfl⟩,rfl,rfl⟩
 rintro a' w' ⟨⟨τ2,d2,rfl⟩,hfr⟩;clear u;obtain⟨u,rfl⟩:=hfr.open;clear hfr;refine ap.seq E hSu (ap.cond E hSu (t:=decide (k<n)) rfl ?_);by_cases hlt:k<n
 .rw[if_pos (by simpa using hlt)];refine ap.skip E hSu (ap.seq E hSu (ap.block E hSu ?_));have hl1:b<W.heap.size:=by omega
  have hl1':b'<W.heap.size:=by omega
  have hB1W:B1<W.heap.size:=bkW.lt;refine ap.chain E hSu [_] _ (λa' w'=>Bl W.heap.size W w'/\∃B4,w'.heap[B4]?=some (.cells (f k).cells 36 (0,0))/\aZ a' (λu=>#[u 0,.pointer (some ⟨B1,0,none⟩),u 2,.int .i64 k,.pointer (some ⟨B4,0,none⟩),u 5,u 6,u 7,u 8,u 9,u 10,.slice (some ⟨b,0,none⟩) n cap,.int .i64 n,.int .i64 k,u 14,u 15,u 16,u 17,u 18,u 19,u 20,u 21,u 22,u 23,u 24,u 25,u 26,u 27,u 28,u 29])) (λ_ _=>False) ?_ ?_ (λ_ _ _ hh=>hh.elim)
  .intro τ d;obtain⟨c0,c1,c2,c3,c4,c5⟩:=(aI (w':=re (re W τ2 d2) τ d) rowW rfl) k hlt;simp only[Nat.zero_add]at c0 c1 c2 c3 c4 c5;have hlt':(k:Int)<n:=by omega
   clear htop hcont IH;simp only[aD];go_wp2;left;refine⟨by first|rfl|trivial,⟨by simp[re],λq hq=>?_⟩,W.heap.size,?_,rfl,rfl⟩
   .exact(Gc _ _ _ (by simpa[re]using hq)).trans rfl
   .exact heap_alloc_new (re (re W τ2 d2) τ d) _
  rintro a' w2 ⟨hb2,B4,hbx,hfr⟩;clear u;obtain⟨u,rfl⟩:=hfr.open;clear hfr;have hz2:=hb2.size;refine ap.seq E hSu ?_;refine ap.chain E hSu [_] _ (λa' w'=>(∃τ d,w'=re w2 τ d)/\aZ a' (λu=>#[u 0,.pointer (some ⟨B1,0,none⟩),u 2,.int .i64 k,u 4,u 5,u 6,u 7,u 8,u 9,u 10,.slice (some ⟨b,0,none⟩) n cap,.int .i64 n,.int .i64 k,u 14,u 15,u 16,u 17,u 18,u 19,.bool (!(f k).lands),u 21,u 22,u 23,u 24,u 25,u 26,u 27,u 28,u 29])) (λ_ _=>False) ?_ ?_ (λ_ _ _ hh=>hh.elim)
  .intro τ d;obtain⟨z0,z1,z2,z3,z4,z5⟩:=BP (w:=re w2 τ d) hbx;clear htop hcont IH;simp only[aD];go_wp2;left;exact⟨by first|rfl|trivial,⟨τ,d,rfl⟩,rfl,rfl⟩
  rintro a' w' ⟨⟨τ3,d3,rfl⟩,hfr⟩;clear u;obtain⟨u,rfl⟩:=hfr.open;clear hfr;refine ap.cond E hSu (t:=!(f k).lands) rfl ?_;by_cases hla:(f k).lands=true
  .rw[if_neg (by rw[hla];simp)];refine ap.skip E hSu (ap.seq E hSu (ap.region E hSu ?_));rw[bh];have bk2:ar w2 B1 now shift (.slice (some ⟨b,0,none⟩) n cap) (.slice (some ⟨b',0,none⟩) n cap'):=bkW.same (hb2.block B1 hB1W);refine ap.opsFrom E hSu 0 2 (by simp) (λa' w'=>(∃τ d,w'=re w2 τ d)/\aZ a' (λu=>#[u 0,.pointer (some ⟨B1,0,none⟩),u 2,.int .i64 k,u 4,u 5,u 6,u 7,u 8,u 9,u 10,.slice (some ⟨b,0,none⟩) n cap,.int .i64 n,.int .i64 k,u 14,u 15,u 16,u 17,u 18,u 19,u 20,u 21,.agg #[.int .i64 now,.int .i64 shift,.slice (some ⟨b,0,none⟩) n cap,.slice (some ⟨b',0,none⟩) n cap'],.int .i64 k,u 24,u 25,u 26,u 27,u 28,u 29])) ?_ ?_
   .intro τ d;have bk0:ar (re (re w2 τ3 d3) τ d) B1 now shift (.slice (some ⟨b,0,none⟩) n cap) (.slice (some ⟨b',0,none⟩) n cap'):=bk2;obtain⟨y0,y1,y2,y3,y4⟩:=bk0.cells;clear htop hcont IH;simp only[List.drop_zero,List.take_succ_cons,List.take_zero];go_wp2;exact⟨⟨τ,d,rfl⟩,rfl,rfl⟩
   rintro a' w' ⟨⟨τ4,d4,rfl⟩,hfr⟩;clear u;obtain⟨u,rfl⟩:=hfr.open;clear hfr;refine ap.roundOp E hRo hPl hSB hbt hSu (i:=2) rfl rfl (b:=b) (n:=n) (cap:=cap) (b':=b') (cap':=cap') (p:=k) (f:=f) (t:=t) (now:=now) (shift:=shift) (λw=>by simp[execOp,resolve,invoke,Act.eval,go_sem]) hm hf hlt (by show b<w2.heap.size;omega) (aI (aI rowW (hb2.block b hl1)) rfl) (by show b'<w2.heap.size;omega) (λi hi=>by
    have e:=hb2.block b' hl1';have:=rowW' i hi;simp only[World.cell?,re,e]at this⊢;exact this) ?_
   intro v V3 hpost;obtain⟨⟨x0,x1,x2,l2,c2,x3,l3,c3,rfl,_⟩,hb3'⟩:=hpost;have hb3:Bl w2.heap.size w2 V3:=⟨hb3'.size,hb3'.block⟩;clear hb3';have hz3:=hb3.size;have hbW3:Bl W.heap.size W V3:=hb2.trans hb3 hz2;obtain⟨br,hbr⟩:∃br,(da f n t k).isSome=br:=⟨_,rfl⟩;rw[hbr];refine ap.opsFrom E hSu 3 6 (by simp) (λa' w'=>Bl W.heap.size W w'/\aZ a' (λu=>#[u 0,.pointer (some ⟨B1,0,none⟩),u 2,u 3,u 4,u 5,.bool br,u 7,u 8,u 9,u 10,.slice (some ⟨b,0,none⟩) n cap,.int .i64 n,.int .i64 k,u 14,u 15,u 16,u 17,u 18,u 19,u 20,u 21,u 22,u 23,u 24,u 25,u 26,u 27,u 28,u 29])) ?_ ?_
   .intro τ d;clear htop hcont IH;simp only[List.drop_succ_cons,List.drop_zero,List.take_succ_cons,List.take_zero,Act.put];go_wp2;refine⟨⟨by have:=hbW3.size;simp[re];omega,λq hq=>?_⟩,rfl,rfl⟩;exact(Gc _ _ _ (by have:=hbW3.size;simp[re];omega)).trans (hbW3.block q hq)
   rintro a' w5 ⟨hb5,hfr⟩;clear u;obtain⟨u,rfl⟩:=hfr.open;clear hfr;refine ap.regionEnd E hSu ?_;refine ap.chain E hSu [_] _ (λa' w'=>(∃τ d,w'=re w5 τ d)/\aZ a' (λu=>#[u 0,.pointer (some ⟨B1,0,none⟩),u 2,u 3,u 4,u 5,u 6,u 7,u 8,u 9,u 10,.slice (some ⟨b,0,none⟩) n cap,.int .i64 n,.int .i64 k,u 14,u 15,u 16,u 17,u 18,u 19,u 20,u 21,u 22,u 23,u 24,u 25,u 26,u 27,.bool (!br),u 29])) (λ_ _=>False) ?_ ?_ (λ_ _ _ hh=>hh.elim)
   .intro τ d;clear htop hcont IH;simp only[aD];go_wp2;left;exact⟨by first|rfl|trivial,⟨τ,d,rfl⟩,rfl,rfl⟩
   rintro a' w' ⟨⟨τ6,d6,rfl⟩,hfr⟩;clear u;obtain⟨u,rfl⟩:=hfr.open;clear hfr;refine ap.cond E hSu (t:=!br) rfl ?_;cases br with
   |false=>
    rw[if_pos (show(!false)=true from rfl)];have hnot:¬tW f n t:=λh=>by have:=h k hlt hla;rw[hbr]at this;cases this
    have hno:=qD (now:=now) (shift:=shift) (m:=n) hnot;have hbV5:Bl V.heap.size V w5:=hbVW.trans hb5 (by omega);refine ap.last E hSu [_] (λa' w'=>false=dz now shift f n t n/\Bl V.heap.size V w'/\a'.defers=[]/\a'.tmps[2]?=some (.bool false)) ?_ (λa' w' todo hh=>htop false a' w' todo hh);intro τ d;clear htop hcont IH;simp only[aD];go_wp2;left;exact⟨by first|rfl|trivial,hno.symm,⟨hbV5.size,hbV5.block⟩,by first|rfl|trivial,by first|rfl|simp⟩
   |true=>
    rw[if_neg (show¬(!true)=true by simp)];refine ap.skip E hSu (ap.inBlock E hSu ?_);refine ap.region E hSu ?_;rw[bh];refine ap.opsFrom E hSu 0 2 (by simp) (λa' w'=>(∃τ d,w'=re w5 τ d)/\∃k':Nat,k'=k+1/\aZ a' (λu=>#[u 0,.pointer (some ⟨B1,0,none⟩),u 2,u 3,u 4,u 5,u 6,u 7,u 8,u 9,u 10,.slice (some ⟨b,0,none⟩) n cap,.int .i64 n,.int .i64 (k':Nat),u 14,u 15,u 16,u 17,u 18,u 19,u 20,u 21,u 22,u 23,u 24,u 25,u 26,u 27,u 28,u 29])) ?_ ?_
    .intro τ d;have hwr:IntKind.i64.wrap ((k:Int)+1)=(k:Int)+1:=by rw[IntKind.wrap_i64];omega
     clear htop hcont IH;simp only[List.drop_zero,List.take_succ_cons,List.take_zero];go_wp2;first|exact⟨⟨τ,d,rfl⟩,k+1,rfl,rfl,by simp⟩|exact⟨⟨τ,d,rfl⟩,rfl,by simp⟩|exact⟨⟨τ,d,rfl⟩,rfl,rfl⟩
    rintro a' w' ⟨⟨τ7,d7,rfl⟩,k',rfl,hfr⟩;refine ap.regionEnd E hSu (IH (j-1) (by omega) _ _ ⟨k+1,by omega,?_,λp hp hl=>?_,hfr⟩)
    .exact⟨Gq hzW hb5.size,λq hq=>(hb5.block q (by omega)).trans (hbW.block q hq)⟩
    .by_cases e:p=k
     .subst e;exact hbr
     .exact hall p (by omega) hl
  .rw[if_pos (by simpa using hla)];refine ap.exit E hSu (k':=_) rfl ?_;refine ap.region E hSu ?_;rw[bh];refine ap.opsFrom E hSu 0 2 (by simp) (λa' w'=>(∃τ d,w'=re w2 τ d)/\∃k':Nat,k'=k+1/\aZ a' (λu=>#[u 0,.pointer (some ⟨B1,0,none⟩),u 2,u 3,u 4,u 5,u 6,u 7,u 8,u 9,u 10,.slice (some ⟨b,0,none⟩) n cap,.int .i64 n,.int .i64 (k':Nat),u 14,u 15,u 16,u 17,u 18,u 19,u 20,u 21,u 22,u 23,u 24,u 25,u 26,u 27,u 28,u 29])) ?_ ?_
   .intro τ d;have hwr:IntKind.i64.wrap ((k:Int)+1)=(k:Int)+1:=by rw[IntKind.wrap_i64];omega
    clear htop hcont IH;simp only[List.drop_zero,List.take_succ_cons,List.take_zero];go_wp2;first|exact⟨⟨τ,d,rfl⟩,k+1,rfl,rfl,by simp⟩|exact⟨⟨τ,d,rfl⟩,rfl,by simp⟩|exact⟨⟨τ,d,rfl⟩,rfl,rfl⟩
   rintro a' w' ⟨⟨τ7,d7,rfl⟩,k',rfl,hfr⟩;refine ap.regionEnd E hSu (IH (j-1) (by omega) _ _ ⟨k+1,by omega,?_,λp hp hl=>?_,hfr⟩)
   .exact⟨Gq hzW hz2,λq hq=>(hb2.block q (by omega)).trans (hbW.block q hq)⟩
   .by_cases e:p=k
    .subst e;exact absurd hl hla
    .exact hall p (by omega) hl
 .rw[if_neg (by simpa using hlt)];refine ap.exit E hSu (k':=[.code _]) rfl ?_;have hsure:tW f n t:=λp hp=>hall p (by omega)
  have hyes:=qC hbook hsure;refine ap.last E hSu [_] (λa' w'=>true=dz now shift f n t n/\Bl V.heap.size V w'/\a'.defers=[]/\a'.tmps[2]?=some (.bool true)) ?_ (λa' w' todo hh=>htop true a' w' todo hh);intro τ d;clear htop hcont IH;simp only[aD];go_wp2;left;exact⟨by first|rfl|trivial,hyes.symm,⟨hbVW.size,hbVW.block⟩,by first|rfl|trivial,by first|rfl|simp⟩
end
end
section
open Go Go.RowKit
def qE (r:Option (Nat->Int))(e:Ending):Prop:=∃(x0 x1:Int) (x2:Option Addr) (l2 c2:Nat) (x3:Option Addr) (l3 c3:Nat),e=.returned (.tuple #[.agg #[.int .i64 x0,.int .i64 x1,.slice x2 l2 c2,.slice x3 l3 c3],.bool r.isSome])
def mj (f:Nat->Mv)(n:Nat)(t:Nat->Int)(p:Nat)(shift:Int)(r:Option (Nat->Int))(w:World)(e:Ending)(w':World):Prop:=
 match r with
 |none=>e=.returned (.tuple #[.agg #[.int .i64 0,.int .i64 0,.slice none 0 0,.slice none 0 0],.bool false])
 |some T=>∃BN cN BT cT,e=.returned (.tuple #[.agg #[.int .i64 (t p),.int .i64 shift,.slice (some ⟨BN,0,none⟩) (aq f t p n).length cN,.slice (some ⟨BT,0,none⟩) (aq f t p n).length cT],.bool true])/\BN<w'.heap.size/\ak w' BN 0 (aq f t p n).length (jz (aq f t p n))/\an w' BT (aq f t p n).length T
theorem mj.says {f:Nat->Mv}{n:Nat}{t:Nat->Int}{p:Nat}{shift:Int}{r:Option (Nat->Int)}{w:World}{e:Ending}{w':World}(h:mj f n t p shift r w e w'):qE r e:=by
 cases r with
 |none=>exact⟨0,0,none,0,0,none,0,0,h⟩
 |some T=>obtain⟨BN,cN,BT,cT,h,_⟩:=h;exact⟨_,_,_,_,_,_,_,_,h⟩
theorem ml {w w':World}{b n:Nat}{g:Nat->Int}(h:an w b n g)(e:w'.heap[b]?=w.heap[b]?):an w' b n g:=by
 obtain⟨⟨cs,h1,h2⟩,h3⟩:=h;exact⟨⟨cs,e.trans h1,h2⟩,λi hi=>(Gi (a:=⟨b,0+i,none⟩) e).trans (h3 i hi)⟩
theorem fH (w:World)(B:Nat)(x0 x1:Int)(x2:Option Addr)(l2 c2:Nat)(x3:Option Addr)(l3 c3:Nat)(h:w.heap[B]?=some (.cells #[.int .i64 x0,.int .i64 x1,.slice x2 l2 c2,.slice x3 l3 c3] 32 (0,0))):w.cell? ⟨B,0,none⟩=some (.int .i64 x0)/\w.cell? ⟨B,1,none⟩=some (.int .i64 x1)/\w.cell? ⟨B,2,none⟩=some (.slice x2 l2 c2)/\w.cell? ⟨B,3,none⟩=some (.slice x3 l3 c3):=by
 refine⟨?_,?_,?_,?_⟩<;>simp[World.cell?,h]
theorem rZ (b n cap b' cap' p:Nat)(f:Nat->Mv)(t:Nat->Int)(now shift:Int)(w:World)(hm:aw f n=true)(hf:dU f t n)(hp:p<n)(hbs:b<w.heap.size)(hrow:ak w b 0 n f)(hbs':b'<w.heap.size)(hrow':al w b' 0 n t):
  Calls Tz.prog 48 #[.agg #[.int .i64 now,.int .i64 shift,.slice (some ⟨b,0,none⟩) n cap,.slice (some ⟨b',0,none⟩) n cap'],.int .i64 p] w λe w'=>mj f n t p shift (da f n t p) w e w'/\Below w.heap.size w w':=by
 have h6:=aN hm;have hokp:=Mv.ok_bd (aS hm p hp);have hsp:=eZ (hf.1 p hp);obtain⟨wB,hwB⟩:∃W,W=(w.alloc (.cells #[.int .i64 now,.int .i64 shift,.slice (some ⟨b,0,none⟩) n cap,.slice (some ⟨b',0,none⟩) n cap'] 32)).alloc (.cells #[.int .i64 0,.int .i64 0,.slice none 0 0,.slice none 0 0] 32):=⟨_,rfl⟩;have hbB:Below w.heap.size w wB:=by rw[hwB];exact((Gb _ w).alloc (Gm _) _).alloc (by simp) _
 have hrs:ar wB (w.heap.size+1) 0 0 (.slice none 0 0) (.slice none 0 0):=by rw[hwB];exact bj _ _ _
 have H1:=vD b n cap b' cap' p f t now shift wB hm hf hp (Gn hbs hbB.size) (hrow.below hbB hbs) (Gn hbs' hbB.size) (hrow'.below hbB hbs');rw[hwB]at H1;go_enter Tz.func48,Tryz.ntmps48
 by_cases hle:t p+6<=(f p).late
 .have hR:da f n t p=eA (jz (aq f t p n)) (aq f t p n).length (t p) 6:=by unfold da;rw[if_pos hle]
  have hpos:=jL (f:=f) (t:=t) (p:=p) hp;have hlen:=fG f t p n;have HP:=λ(BN cN:Nat) (W:World) (hlt:BN<W.heap.size) (hr:ak W BN 0 (aq f t p n).length (jz (aq f t p n)))=>pb BN (aq f t p n).length cN (jz (aq f t p n)) (t p) 6 W (by omega) (λi hi=>oU hm hf hp hle hi) (by omega) (by omega) (by omega) (by omega) (λhr=>tZ hm hf hp hle hr) hlt hr
  rw[hR];clear hR;cases hP:eA (jz (aq f t p n)) (aq f t p n).length (t p) 6 with
  |none=>
   rw[hP]at HP;go_wp2_with(first
    |(go_at_call 68;refine H1.mono ?_;clear H1;rintro e w1 ⟨l1,b1⟩;rw[<-hwB]at b1 l1;unfold ii at l1;rw[if_pos hle]at l1;obtain⟨BN,cN,rfl,hBN,hlN,rN⟩:=l1;have r1:=hrs.same (b1.block _ hrs.lt);obtain⟨y0,y1,y2,y3,y4⟩:=r1.cells;have l41:=r1.lt;have hb1:=hbB.trans (b1.mono hbB.size))
    |(go_at_call 35;refine(HP _ _ _ (by simp;omega) (rN.below ((Gb _ _).alloc (Gm _) _) hlN)).mono ?_;clear HP;rintro e w2 ⟨⟨a2,c2,rfl⟩,b2⟩;have hb2:=((Gb _ w1).alloc (Gm _) _).trans (b2.mono (by simp));have r2:=r1.same (hb2.block _ r1.lt);obtain⟨z0,z1,z2,z3,z4⟩:=r2.cells;have l42:=r2.lt))
   rw[dO r2];have hs5:=setRow_heap w2 (w.heap.size+1) _ #[.int .i64 0,.int .i64 0,.slice none 0 0,.slice none 0 0] _ _ r2;have hb5:=below_setRow (hb1.trans (hb2.mono hb1.size)) (by omega:w.heap.size<=w.heap.size+1) #[.int .i64 0,.int .i64 0,.slice none 0 0,.slice none 0 0];revert hs5 hb5;generalize w2.setRow (w.heap.size+1) #[.int .i64 0,.int .i64 0,.slice none 0 0,.slice none 0 0]=W5;intro hs5 hb5;obtain⟨q0,q1,q2,q3⟩:=fH W5 _ 0 0 none 0 0 none 0 0 hs5;refine bodyPost_ret (v:=.tuple #[.agg #[.int .i64 0,.int .i64 0,.slice none 0 0,.slice none 0 0],.bool false]) ?_ rfl ⟨rfl,hb5⟩;simp[results,Tryz.f48,go_sem,q0,q1,q2,q3]
  |some T=>
   rw[hP]at HP;go_wp2_with(first
    |(go_at_call 68;refine H1.mono ?_;clear H1;rintro e w1 ⟨l1,b1⟩;rw[<-hwB]at b1 l1;unfold ii at l1;rw[if_pos hle]at l1;obtain⟨BN,cN,rfl,hBN,hlN,rN⟩:=l1;have r1:=hrs.same (b1.block _ hrs.lt);obtain⟨y0,y1,y2,y3,y4⟩:=r1.cells;have l41:=r1.lt;have hb1:=hbB.trans (b1.mono hbB.size))
    |(go_at_call 35;refine(HP _ _ _ (by simp;omega) (rN.below ((Gb _ _).alloc (Gm _) _) hlN)).mono ?_;clear HP;rintro e w2 ⟨⟨BT,c2,hBT,rfl,oT,_⟩,b2⟩;have hb2:=((Gb _ w1).alloc (Gm _) _).trans (b2.mono (by simp));have r2:=r1.same (hb2.block _ r1.lt);obtain⟨z0,z1,z2,z3,z4⟩:=r2.cells;have l42:=r2.lt;have x2:ar w2 w1.heap.size (t p) shift (.slice (some ⟨BN,0,none⟩) (aq f t p n).length cN) (.slice none 0 0):=(b2.block _ (by simp)).trans (heap_alloc_new _ _);obtain⟨v0,v1,v2,v3,v4⟩:=x2.cells;have l12:=x2.lt;have hne:w.heap.size+1≠w1.heap.size:=GE l41;have hne':=hne.symm))
   have hs:∀k,k≠w1.heap.size->(w2.setCell ⟨w1.heap.size,3,none⟩ (.slice (some ⟨BT,0,none⟩) (aq f t p n).length c2)).heap[k]?=w2.heap[k]?:=λk hk=>Gd _ _ _ k hk
   have hbS:=(hb1.trans (hb2.mono hb1.size)).setCell (p:=⟨w1.heap.size,3,none⟩) hb1.size (.slice (some ⟨BT,0,none⟩) (aq f t p n).length c2);have hz3e:(w2.setCell ⟨w1.heap.size,3,none⟩ (.slice (some ⟨BT,0,none⟩) (aq f t p n).length c2)).heap.size=w2.heap.size:=by simp
   revert hs hbS hz3e;generalize w2.setCell ⟨w1.heap.size,3,none⟩ (.slice (some ⟨BT,0,none⟩) (aq f t p n).length c2)=w3;intro hs hbS hz3e;have r3:=r2.same (hs _ hne);have hz3:w3.heap.size=w2.heap.size:=hz3e;have hBN2:=hb2.block BN hlN;have hlow:w.heap.size+2<=BN:=by rw[hwB]at hBN;simpa using hBN
   have hltN:=Gn hlN hb2.size;have hT1:w1.heap.size+1<=BT:=by simpa using hBT
   have hltT:=oT.lt;rw[dO r3];have hs5:=setRow_heap w3 (w.heap.size+1) _ #[.int .i64 (t p),.int .i64 shift,.slice (some ⟨BN,0,none⟩) (aq f t p n).length cN,.slice (some ⟨BT,0,none⟩) (aq f t p n).length c2] _ _ r3;have hb5:=below_setRow hbS (by omega:w.heap.size<=w.heap.size+1) #[.int .i64 (t p),.int .i64 shift,.slice (some ⟨BN,0,none⟩) (aq f t p n).length cN,.slice (some ⟨BT,0,none⟩) (aq f t p n).length c2];have hz5:(w3.setRow (w.heap.size+1) #[.int .i64 (t p),.int .i64 shift,.slice (some ⟨BN,0,none⟩) (aq f t p n).length cN,.slice (some ⟨BT,0,none⟩) (aq f t p n).length c2]).heap.size=w3.heap.size:=setRow_size _ _ _;have hn5:∀k,k≠w.heap.size+1->(w3.setRow (w.heap.size+1) #[.int .i64 (t p),.int .i64 shift,.slice (some ⟨BN,0,none⟩) (aq f t p n).length cN,.slice (some ⟨BT,0,none⟩) (aq f t p n).length c2]).heap[k]?=w3.heap[k]?:=λk hk=>setRow_other _ _ _ _ hk
   revert hs5 hb5 hz5 hn5;generalize w3.setRow (w.heap.size+1) #[.int .i64 (t p),.int .i64 shift,.slice (some ⟨BN,0,none⟩) (aq f t p n).length cN,.slice (some ⟨BT,0,none⟩) (aq f t p n).length c2]=W5;intro hs5 hb5 hz5 hn5;obtain⟨q0,q1,q2,q3⟩:=fH W5 _ _ _ _ _ _ _ _ _ hs5;refine bodyPost_ret (v:=.tuple #[.agg #[.int .i64 (t p),.int .i64 shift,.slice (some ⟨BN,0,none⟩) (aq f t p n).length cN,.slice (some ⟨BT,0,none⟩) (aq f t p n).length c2],.bool true]) ?_ rfl ⟨⟨BN,cN,BT,c2,rfl,by omega,aI rN ((hn5 BN (by omega)).trans ((hs BN (by omega)).trans hBN2)),ml oT ((hn5 BT (by omega)).trans (hs BT (by omega)))⟩,hb5⟩;simp[results,Tryz.f48,go_sem,q0,q1,q2,q3]
 .have hR:da f n t p=none:=by unfold da;rw[if_neg hle]
  rw[hR];clear hR;go_wp2_with(go_at_call 68;refine H1.mono ?_;clear H1;rintro e w1 ⟨l1,b1⟩;rw[<-hwB]at b1 l1;unfold ii at l1;rw[if_neg hle]at l1;subst l1;have r1:=hrs.same (b1.block _ hrs.lt);obtain⟨y0,y1,y2,y3,y4⟩:=r1.cells;have l41:=r1.lt;have hb1:=hbB.trans (b1.mono hbB.size))
  rw[dO r1];have hs5:=setRow_heap w1 (w.heap.size+1) _ #[.int .i64 0,.int .i64 0,.slice none 0 0,.slice none 0 0] _ _ r1;have hb5:=below_setRow hb1 (by omega:w.heap.size<=w.heap.size+1) #[.int .i64 0,.int .i64 0,.slice none 0 0,.slice none 0 0];have hz5:(w1.setRow (w.heap.size+1) #[.int .i64 0,.int .i64 0,.slice none 0 0,.slice none 0 0]).heap.size=w1.heap.size:=setRow_size _ _ _;revert hs5 hb5 hz5;generalize w1.setRow (w.heap.size+1) #[.int .i64 0,.int .i64 0,.slice none 0 0,.slice none 0 0]=W5;intro hs5 hb5 hz5;have hs6:=λo=>(Gc W5 o (w.heap.size+1) (by omega)).trans hs5
  have hb6:=λo=>hb5.alloc (o:=o) hb5.size
  have q0:=λo=>(fH (W5.alloc o) _ 0 0 none 0 0 none 0 0 (hs6 o)).1
  have q1:=λo=>(fH (W5.alloc o) _ 0 0 none 0 0 none 0 0 (hs6 o)).2.1
  have q2:=λo=>(fH (W5.alloc o) _ 0 0 none 0 0 none 0 0 (hs6 o)).2.2.1
  have q3:=λo=>(fH (W5.alloc o) _ 0 0 none 0 0 none 0 0 (hs6 o)).2.2.2
  refine bodyPost_ret (v:=.tuple #[.agg #[.int .i64 0,.int .i64 0,.slice none 0 0,.slice none 0 0],.bool false]) ?_ rfl ⟨rfl,hb6 _⟩;simp[results,Tryz.f48,go_sem,q0,q1,q2,q3]
theorem ub (b n cap b' cap' p:Nat)(f:Nat->Mv)(t:Nat->Int)(now shift:Int)(w:World)(hm:aw f n=true)(hf:dU f t n)(hp:p<n)(hbs:b<w.heap.size)(hrow:ak w b 0 n f)(hbs':b'<w.heap.size)(hrow':al w b' 0 n t):
  Calls Tz.prog 48 #[.agg #[.int .i64 now,.int .i64 shift,.slice (some ⟨b,0,none⟩) n cap,.slice (some ⟨b',0,none⟩) n cap'],.int .i64 p] w λe w'=>qE (da f n t p) e/\Below w.heap.size w w':=
 (rZ b n cap b' cap' p f t now shift w hm hf hp hbs hrow hbs' hrow').mono λe w' h=>⟨h.1.says,h.2⟩
theorem sd (now shift:Int)(b n cap:Nat)(f:Nat->Mv)(b' m cap':Nat)(t:Nat->Int)(w:World)(hn:n<=1048576)(hm1:m<=maxLen)(hbs:b<w.heap.size)(hrow:ak w b 0 n f)(hfit:∀i,i<n->(f i).Fits)(hbs':b'<w.heap.size)(hrow':al w b' 0 m t):
  Calls Tz.prog 36 #[.agg #[.int .i64 now,.int .i64 shift,.slice (some ⟨b,0,none⟩) n cap,.slice (some ⟨b',0,none⟩) m cap']] w λe w'=>e=.returned (.bool (dz now shift f n t m))/\Below w.heap.size w w':=by
 obtain⟨wB,hwB⟩:∃W,W=w.alloc (.cells #[.int .i64 now,.int .i64 shift,.slice (some ⟨b,0,none⟩) n cap,.slice (some ⟨b',0,none⟩) m cap'] 32):=⟨_,rfl⟩;have hbB:Below w.heap.size w wB:=by rw[hwB];exact(Gb _ w).alloc (Gm _) _
 have hbk:ar wB w.heap.size now shift (.slice (some ⟨b,0,none⟩) n cap) (.slice (some ⟨b',0,none⟩) m cap'):=by rw[hwB];exact heap_alloc_new _ _
 have H1:=ly now shift b 0 n cap f b' 0 m cap' t wB hn hm1 (Gn hbs hbB.size) (hrow.below hbB hbs) hfit (Gn hbs' hbB.size) (hrow'.below hbB hbs');rw[hwB]at H1;go_enter Tz.func36,Tryz.ntmps36
 cases hb:aV now shift f n t m with
 |false=>
  rw[hb]at H1;rw[ua hb];go_wp2_with(go_at_call 30;refine H1.mono ?_;clear H1;rintro e w1 ⟨rfl,b1⟩;rw[<-hwB]at b1)
  go_ret;exact⟨rfl,hbB.trans (b1.mono hbB.size)⟩
 |true=>
  obtain⟨hm,hmn,hf⟩:=fZ hb;replace hmn:=hmn.symm;subst hmn;have h6:=aN hm;rw[hb]at H1;have HB:Hid (aV now shift f n t n=true):=hb;clear hb;go_wp2_with(go_at_call 30;refine H1.mono ?_;clear H1;rintro e w1 ⟨rfl,b1⟩;rw[<-hwB]at b1)
  have hb1:=hbB.trans (b1.mono hbB.size);have bk1:=hbk.same (b1.block _ hbk.lt);clear b1 hbk hbB hwB;go_loopw [3,4,5] (λx _ _ W=>∃k:Nat,x=.int .i64 k/\k<=n/\Below w.heap.size w W/\ar W w.heap.size now shift (.slice (some ⟨b,0,none⟩) n cap) (.slice (some ⟨b',0,none⟩) n cap')/\∀p,p<k->(f p).lands=true->(da f n t p).isSome=true) (λx _ _ _=>n-(intOf x).toNat)
  case atStart=>exact⟨0,rfl,Gs _,hb1,bk1,λp hp=>absurd hp (Gr _)⟩
  case round=>
   clear hb1 bk1;obtain⟨k,rfl,hk,hBr,bkr,hall⟩:=hrel;obtain⟨y0,y1,y2,y3,y4⟩:=bkr.cells;have lb1:=bkr.lt;by_cases hlt:k<n
   .have hlt':(k:Int)<n:=by omega
    have lbr:=Gn hbs hBr.size;have lbr':=Gn hbs' hBr.size;have H2:=ub b n cap b' cap' k f t now shift wr hm hf hlt lbr (hrow.below hBr hbs) lbr' (hrow'.below hBr hbs');have FACTS:∀w2,Below wr.heap.size wr w2->ar w2 w.heap.size now shift (.slice (some ⟨b,0,none⟩) n cap) (.slice (some ⟨b',0,none⟩) n cap')/\w2.cell? ⟨b,k*6+1,none⟩=some (.bool (f k).lands)/\b<w2.heap.size:=λw2 hb=>by
     have h:=((hrow.below hBr hbs).below hb lbr k hlt).c1;rw[Nat.zero_add]at h;exact⟨bkr.same (hb.block _ lb1),h,Gn lbr hb.size⟩
    cases hr:da f n t k with
    |none=>
     cases hla:(f k).lands with
     |false=>
      go_wp2_with(go_at_call 48;refine H2.mono ?_;clear H2;rintro e w2 ⟨⟨x0,x1,x2,l2,c2,x3,l3,c3,rfl⟩,b2⟩;obtain⟨bk2,d1,lb2'⟩:=FACTS w2 b2;rw[hla]at d1;obtain⟨z0,z1,z2,z3,z4⟩:=bk2.cells;have lk2:=bk2.lt;rw[hr])
      all_goals first|(exfalso;omega)|skip
      go_roundw
      case rel=>exact⟨k+1,by go_num,by omega,(hBr.trans (b2.mono hBr.size)).alloc (by have:=hBr.size;have:=b2.size;omega) _,bk2.same (Gc _ _ _ lk2),λp hp hl=>by
       by_cases e:p=k
       .subst e;rw[hla]at hl;cases hl
       .exact hall p (by omega) hl⟩
      case measure=>simp[intOf];omega
     |true=>
      have hno:dz now shift f n t n=false:=qD (λh=>by have:=h k hlt hla;rw[hr]at this;cases this);go_wp2_with(go_at_call 48;refine H2.mono ?_;clear H2;rintro e w2 ⟨⟨x0,x1,x2,l2,c2,x3,l3,c3,rfl⟩,b2⟩;obtain⟨bk2,d1,lb2'⟩:=FACTS w2 b2;rw[hla]at d1;obtain⟨z0,z1,z2,z3,z4⟩:=bk2.cells;have lk2:=bk2.lt;rw[hr])
      all_goals first|(exfalso;omega)|skip
      go_ret;exact⟨by first|rfl|(rw[hno];rfl)|rw[hno],(hBr.trans (b2.mono hBr.size)).alloc (by have:=hBr.size;have:=b2.size;omega) _⟩
    |some T=>
     cases hla:(f k).lands with
     |false=>
      go_wp2_with(go_at_call 48;refine H2.mono ?_;clear H2;rintro e w2 ⟨⟨x0,x1,x2,l2,c2,x3,l3,c3,rfl⟩,b2⟩;obtain⟨bk2,d1,lb2'⟩:=FACTS w2 b2;rw[hla]at d1;obtain⟨z0,z1,z2,z3,z4⟩:=bk2.cells;have lk2:=bk2.lt;rw[hr])
      all_goals first|(exfalso;omega)|skip
      go_roundw
      case rel=>exact⟨k+1,by go_num,by omega,(hBr.trans (b2.mono hBr.size)).alloc (by have:=hBr.size;have:=b2.size;omega) _,bk2.same (Gc _ _ _ lk2),λp hp hl=>by
       by_cases e:p=k
       .subst e;rw[hr];rfl
       .exact hall p (by omega) hl⟩
      case measure=>simp[intOf];omega
     |true=>
      go_wp2_with(go_at_call 48;refine H2.mono ?_;clear H2;rintro e w2 ⟨⟨x0,x1,x2,l2,c2,x3,l3,c3,rfl⟩,b2⟩;obtain⟨bk2,d1,lb2'⟩:=FACTS w2 b2;rw[hla]at d1;obtain⟨z0,z1,z2,z3,z4⟩:=bk2.cells;have lk2:=bk2.lt;rw[hr])
      all_goals first|(exfalso;omega)|skip
      go_roundw
      case rel=>exact⟨k+1,by go_num,by omega,(hBr.trans (b2.mono hBr.size)).alloc (by have:=hBr.size;have:=b2.size;omega) _,bk2.same (Gc _ _ _ lk2),λp hp hl=>by
       by_cases e:p=k
       .subst e;rw[hr];rfl
       .exact hall p (by omega) hl⟩
      case measure=>simp[intOf];omega
   .have hlt':¬(k:Int)<n:=by omega
    have hyes:dz now shift f n t n=true:=qC HB.out (λp hp=>hall p (by omega));go_wp2;all_goals first|(exfalso;omega)|skip
    go_ret;exact⟨by first|rfl|(rw[hyes];rfl)|rw[hyes],hBr⟩
theorem kG:Tz.prog.underlying 23=some (.slice 3):=by kernel_rfl
theorem Ao:∃i,Tz.prog.info? 3=some i/\i.zero=some (.int .i64 0)/\i.size=1/\i.bytes=8:=by
 have h:(Tz.prog.info? 3).map (λi=>(i.zero,i.size,i.bytes))=some (some (.int .i64 0),1,8):=by kernel_rfl
 cases hI:Tz.prog.info? 3 with
 |none=>rw[hI]at h;simp at h
 |some i=>rw[hI]at h;simp only[Option.map_some,Option.some.injEq,Prod.mk.injEq]at h;exact⟨i,rfl,h.1,h.2.1,h.2.2⟩
section
variable {w w':World}{base base':Nat}{e:TypeId}{size:Nat}{v:Value}{n:Nat}{xs:List Value}
theorem bf (h:w.ownsRow base e size v n xs)(hs:∀B,v.ownBlock=some B->w'.heap[B]?=w.heap[B]?):w'.ownsRow base e size v n xs:=by
 obtain⟨h1,⟨rfl,rfl⟩|⟨g,cap,cur,rfl,h3,h4,h5⟩⟩:=h
 .exact⟨h1,.inl ⟨rfl,rfl⟩⟩
 .exact⟨h1,.inr ⟨g,cap,cur,rfl,h3,(hs g rfl).trans h4,h5⟩⟩
theorem eB (h:w.ownsRow base e size v n xs)(hb:base'<=base):w.ownsRow base' e size v n xs:=by
 obtain⟨h1,h2|⟨g,cap,cur,h2,h3,h4⟩⟩:=h
 .exact⟨h1,.inl h2⟩
 .exact⟨h1,.inr ⟨g,cap,cur,h2,Gq hb h3,h4⟩⟩
theorem lD (h:w.ownsRow base e size v n xs)(hn:v≠.slice none 0 0):∃B c,v=.slice (some ⟨B,0,none⟩) n c:=by
 obtain⟨h1,h2|⟨g,cap,cur,h2,h3,h4⟩⟩:=h
 .exact absurd h2.1 hn
 .exact⟨g,cap,h2⟩
theorem se (h:w.ownsRow base e size v n xs){B:Nat}(hB:v.ownBlock=some B):∃cs,w.heap[B]?=some (.cells cs e (0,0)):=by
 obtain⟨h1,⟨rfl,rfl⟩|⟨g,c,cur,rfl,h3,h4,h5⟩⟩:=h
 .cases hB
 .simp[Value.ownBlock]at hB;subst hB;exact⟨_,h4⟩
theorem qF {v':Value}{n':Nat}{xs':List Value}{e':TypeId}{size':Nat}(h:w.ownsRow base e size v n xs)(h':w.ownsRow base' e' size' v' n' xs')(hne:e≠e'){B:Nat}(hB:v.ownBlock=some B):v'.ownBlock≠some B:=λx=>by
 obtain⟨c1,e1⟩:=se h hB;obtain⟨c2,e2⟩:=se h' x;rw[e1]at e2;simp at e2;exact hne e2.2
theorem pc (h:base<=w.heap.size):(w.alloc (.cells #[] e)).ownsRow base e size (.slice (some ⟨w.heap.size,0,none⟩) 0 0) 0 []:=⟨by simp,.inr ⟨w.heap.size,0,#[],rfl,h,heap_alloc_new w _,Gm _,Gs _,by simp,by simp⟩⟩
end
theorem aP {P:Program}{ops:Array Oper}{o:Oper}{a:Act}{w:World}{K:Act->World->Prop}{Q:Exit->Act->World->Prop}{E:Prop}
  (hg:o.guard=none)(s x:Operand)(t:TypeId)(hop:o.op=Op.call {callee:=Callee.builtin Builtin.append,args:=#[s,x],argTypes:=#[t,t]})
  (e:TypeId)(i:TypeInfo)(z:Value)(size bytes:Nat)(h1:P.underlying t=some (.slice e))(h2:P.info? e=some i)(h3:i.zero=some z)(h4:i.size=size)(h5:i.bytes=bytes)(h6:z.cells.size=size)(h7:0<size)
  (base:Nat)(v:Value)(n:Nat)(olds:List Value)(hs:a.eval s=v)(hown:w.ownsRow base e size v n olds)(hv:v≠.slice none 0 0)
  (ao:Option Addr)(m c:Nat)(news:List Value)(hx:a.eval x=.slice ao m c)(hn:news.length=m*size)(hnone:ao=none->m=0/\c=0)(hc:∀ad,ao=some ad->∀j u,news[j]?=some u->w.cell? (ad.add j)=some u)(h1c:∀u∈news,u.oneCell'=true)
  (b1:n+m<=maxLen)(b2:(n+m)*bytes<=140737488355328)(hb:base<=w.heap.size)
  (hK:∀v' w',w'.ownsRow base e size v' (n+m) (olds++news)->v'≠.slice none 0 0->w.grownBy w' v.ownBlock->K (a.put o.dst v') w'):
  if Region.wanted o (yielded ops a.tmps)=true then Oper.wp P o a w K Q else E:=by
 have hw:Region.wanted o (yielded ops a.tmps)=true:=by simp[Region.wanted,hg]
 rw[if_pos hw];cases ao with
 |some ad=>
  obtain⟨v',w',hrun,r1,r2,r3⟩:=run_append_own (P:=P) w base t o.type e i z size bytes h1 h2 h3 h4 h5 h6 h7 v n olds hown ad m c news hn (hc ad rfl) h1c b1 b2 hb;unfold Oper.wp;simp[execOp,hop,resolve,invoke,builtin,hs,hx,hrun,Result.andThen];exact hK v' w' r1 (λx=>hv (r3.1 x).1) r2
 |none=>
  obtain⟨rfl,rfl⟩:=hnone rfl;have hnews:news=[]:=List.eq_nil_of_length_eq_zero (by simpa using hn);subst hnews;have hrun:=run_append_owned_none (P:=P) w base t o.type e i size h1 h2 _ n olds hown;unfold Oper.wp;simp[execOp,hop,resolve,invoke,builtin,hs,hx,hrun,Result.andThen];exact hK _ _ (by simpa using hown) hv (World.grownBy.refl _ _)
def BY (w:World)(ao:Option Addr)(n c:Nat)(f:Nat->Mv):Prop:=(ao=none->n=0/\c=0)/\∀ad,ao=some ad->∃b,ad=⟨b,0,none⟩/\b<w.heap.size/\ak w b 0 n f
def Ey (w:World)(ao:Option Addr)(n c:Nat)(t:Nat->Int):Prop:=(ao=none->n=0/\c=0)/\∀ad,ao=some ad->∃b,ad=⟨b,0,none⟩/\b<w.heap.size/\al w b 0 n t
theorem kH {w w':World}{ao:Option Addr}{n:Nat}{f:Nat->Mv}(h:∀ad,ao=some ad->∃b,ad=⟨b,0,none⟩/\b<w.heap.size/\ak w b 0 n f)(hb:Below w.heap.size w w'):∀ad,ao=some ad->∀j u,(aG f n)[j]?=some u->w'.cell? (ad.add j)=some u:=λad had=>by
 obtain⟨b,rfl,hlt,hr⟩:=h ad had;exact cm (hr.below hb hlt)
theorem kI {w w':World}{ao:Option Addr}{n:Nat}{t:Nat->Int}(h:∀ad,ao=some ad->∃b,ad=⟨b,0,none⟩/\b<w.heap.size/\al w b 0 n t)(hb:Below w.heap.size w w'):∀ad,ao=some ad->∀j u,(dR t n)[j]?=some u->w'.cell? (ad.add j)=some u:=λad had=>by
 obtain⟨b,rfl,hlt,hr⟩:=h ad had;exact uc (hr.below hb hlt)
structure Bx (N:Nat)(now shift:Int)(v u:Value)(W:World):Prop where
 c0:W.cell? ⟨N,0,none⟩=some (.int .i64 now)
 c1:W.cell? ⟨N,1,none⟩=some (.int .i64 shift)
 c2:W.cell? ⟨N,2,none⟩=some v
 c3:W.cell? ⟨N,3,none⟩=some u
theorem Bx.same {N:Nat}{now shift:Int}{v u:Value}{W W':World}(h:Bx N now shift v u W)(e:W'.heap[N]?=W.heap[N]?):Bx N now shift v u W':=
 ⟨(Gi (a:=⟨N,0,none⟩) e).trans h.c0,(Gi (a:=⟨N,1,none⟩) e).trans h.c1,(Gi (a:=⟨N,2,none⟩) e).trans h.c2,(Gi (a:=⟨N,3,none⟩) e).trans h.c3⟩
structure Cp (w:World)(now shift:Int)(v u:Value)(vm:Value)(nm:Nat)(xm:List Value)(vi:Value)(ni:Nat)(xi:List Value)(W:World):Prop where
 below:Below w.heap.size w W
 size:w.heap.size+2<=W.heap.size
 box:W.heap[w.heap.size]?=some (.cells #[.int .i64 now,.int .i64 shift,v,u] 32 (0,0))
 out:W.heap[w.heap.size+1]?=some (.cells #[.int .i64 0,.int .i64 0,.slice none 0 0,.slice none 0 0] 32 (0,0))
 om:W.ownsRow (w.heap.size+2) 36 6 vm nm xm
 oi:W.ownsRow (w.heap.size+2) 3 1 vi ni xi
section
variable {w:World}{now shift:Int}{v u:Value}{vm:Value}{nm:Nat}{xm:List Value}{vi:Value}{ni:Nat}{xi:List Value}{W:World}
theorem Cp.bx (h:Cp w now shift v u vm nm xm vi ni xi W):Bx w.heap.size now shift v u W:=by
 constructor<;>(rw[cell_of_row _ _ _ _ _ _ h.box];rfl)
theorem Cp.grow (h:Cp w now shift v u vm nm xm vi ni xi W){W':World}(b:Below W.heap.size W W'):Cp w now shift v u vm nm xm vi ni xi W':=
 ⟨h.below.trans (b.mono h.below.size),Gq h.size b.size,(b.block _ (by have:=h.size;omega)).trans h.box,(b.block _ (by have:=h.size;omega)).trans h.out,bf h.om (λB hB=>b.block B (h.om.lt B hB).2),bf h.oi (λB hB=>b.block B (h.oi.lt B hB).2)⟩
theorem Cp.newM (h:Cp w now shift v u vm nm xm vi ni xi W):Cp w now shift v u (.slice (some ⟨W.heap.size,0,none⟩) 0 0) 0 [] vi ni xi (W.alloc (.cells #[] 36)):=by
 have g:=h.grow (W':=W.alloc (.cells #[] 36)) ((Gb _ _).alloc (Gm _) _);exact⟨g.below,g.size,g.box,g.out,pc h.size,g.oi⟩
theorem Cp.newI (h:Cp w now shift v u vm nm xm vi ni xi W):Cp w now shift v u vm nm xm (.slice (some ⟨W.heap.size,0,none⟩) 0 0) 0 [] (W.alloc (.cells #[] 3)):=by
 have g:=h.grow (W':=W.alloc (.cells #[] 3)) ((Gb _ _).alloc (Gm _) _);exact⟨g.below,g.size,g.box,g.out,g.om,pc h.size⟩
theorem Cp.appM (h:Cp w now shift v u vm nm xm vi ni xi W){v':Value}{n':Nat}{x':List Value}{W':World}(o:W'.ownsRow (w.heap.size+2) 36 6 v' n' x')(g:W.grownBy W' vm.ownBlock):Cp w now shift v u v' n' x' vi ni xi W':=by
 have hs:=h.size;exact⟨h.below.grown g h.below.size (λq hq=>by have:=(h.om.lt q hq).1;omega),Gq h.size g.size,(g.block _ (by omega) (λe=>by have:=(h.om.lt _ e.symm).1;omega)).trans h.box,(g.block _ (by omega) (λe=>by have:=(h.om.lt _ e.symm).1;omega)).trans h.out,o,bf h.oi (λB hB=>g.block B (h.oi.lt B hB).2 (λe=>qF h.om h.oi (by decide) e.symm hB))⟩
theorem Cp.appI (h:Cp w now shift v u vm nm xm vi ni xi W){v':Value}{n':Nat}{x':List Value}{W':World}(o:W'.ownsRow (w.heap.size+2) 3 1 v' n' x')(g:W.grownBy W' vi.ownBlock):Cp w now shift v u vm nm xm v' n' x' W':=by
 have hs:=h.size;exact⟨h.below.grown g h.below.size (λq hq=>by have:=(h.oi.lt q hq).1;omega),Gq h.size g.size,(g.block _ (by omega) (λe=>by have:=(h.oi.lt _ e.symm).1;omega)).trans h.box,(g.block _ (by omega) (λe=>by have:=(h.oi.lt _ e.symm).1;omega)).trans h.out,bf h.om (λB hB=>g.block B (h.om.lt B hB).2 (λe=>qF h.om h.oi (by decide) hB e.symm)),o⟩
end
theorem Cp.start (w:World)(now shift:Int)(v u:Value):Cp w now shift v u (.slice none 0 0) 0 [] (.slice none 0 0) 0 [] ((w.alloc (.cells #[.int .i64 now,.int .i64 shift,v,u] 32)).alloc (.cells #[.int .i64 0,.int .i64 0,.slice none 0 0,.slice none 0 0] 32)):=
 ⟨((Gb _ w).alloc (Gm _) _).alloc (by simp) _,by simp,(Gc _ _ _ (by simp)).trans (heap_alloc_new w _),bj _ _ _,⟨rfl,.inl ⟨rfl,rfl⟩⟩,⟨rfl,.inl ⟨rfl,rfl⟩⟩⟩
theorem pd (now shift:Int)(ao:Option Addr)(n c:Nat)(f:Nat->Mv)(bo:Option Addr)(m d:Nat)(t:Nat->Int)(w:World)(hn:n<=1048576)(hm:m<=1048576)(hv:BY w ao n c f)(hu:Ey w bo m d t):
  Calls Tz.prog 31 #[.agg #[.int .i64 now,.int .i64 shift,.slice ao n c,.slice bo m d]] w λe w'=>(∃B c B' c',e=.returned (.agg #[.int .i64 now,.int .i64 shift,.slice (some ⟨B,0,none⟩) n c,.slice (some ⟨B',0,none⟩) m c'])/\w'.ownsRow w.heap.size 36 6 (.slice (some ⟨B,0,none⟩) n c) n (aG f n)/\w'.ownsRow w.heap.size 3 1 (.slice (some ⟨B',0,none⟩) m c') m (dR t m))/\Below w.heap.size w w':=by
 obtain⟨iM,hI,hz0,hz1,hz2⟩:=dh;obtain⟨i0,hI',hy0,hy1,hy2⟩:=Ao;obtain⟨hvn,hvr⟩:=hv;obtain⟨hun,hur⟩:=hu;have hC:=Cp.start w now shift (.slice ao n c) (.slice bo m d);go_enter Tz.func31,Tryz.ntmps31
 go_wp2;have hC:=hC.grow (Gb _ _).drew;refine wp_region_held_drew (S:=Bx w.heap.size now shift (.slice ao n c) (.slice bo m d)) (by kernel_rfl) hC.bx (λhHeld=>?_);refine aJ 0 (.pointer (some ⟨w.heap.size,0,none⟩)) 3 rfl (λw' hSw=>by(obtain⟨s0,s1,s2,s3⟩:=hSw;go_simp)) hHeld ?_;refine aJ 1 (.int .i64 now) 4 rfl (λw' hSw=>by(obtain⟨s0,s1,s2,s3⟩:=hSw;go_simp)) hHeld ?_;refine aJ 2 (.pointer (some ⟨w.heap.size,1,none⟩)) 5 rfl (λw' hSw=>by(obtain⟨s0,s1,s2,s3⟩:=hSw;go_simp)) hHeld ?_;refine aJ 3 (.int .i64 shift) 6 rfl (λw' hSw=>by(obtain⟨s0,s1,s2,s3⟩:=hSw;go_simp)) hHeld ?_;refine aJ 5 (.pointer (some ⟨w.heap.size,2,none⟩)) 8 rfl (λw' hSw=>by(obtain⟨s0,s1,s2,s3⟩:=hSw;go_simp)) hHeld ?_;refine aJ 6 (.slice ao n c) 9 rfl (λw' hSw=>by(obtain⟨s0,s1,s2,s3⟩:=hSw;go_simp)) hHeld ?_;refine aJ 9 (.pointer (some ⟨w.heap.size,3,none⟩)) 12 rfl (λw' hSw=>by(obtain⟨s0,s1,s2,s3⟩:=hSw;go_simp)) hHeld ?_;refine aJ 10 (.slice bo m d) 13 rfl (λw' hSw=>by(obtain⟨s0,s1,s2,s3⟩:=hSw;go_simp)) hHeld ?_;refine AK 4 8 rfl rfl (λK hK=>?_) (λK hK=>?_);focus
  go_simp
  have hC:=hC.newM;try simp only[World.size_alloc,World.size_drew]at hC
  refine hK.out _ _ hC.bx (λhHeld=>?_);clear hK K;refine AK 7 8 rfl rfl (λK hK=>?_) (λK hK=>?_);focus
   refine aP rfl (.tmp 7) (.tmp 9) 30 rfl 36 iM _ 6 56 aC hI hz0 hz1 hz2 rfl (by decide) (w.heap.size+2) _ 0 [] (by rfl) hC.om (by intro h;cases h) ao n c (aG f n) (by rfl) (aU f n) hvn (kH hvr hC.below) (cV f n) (by unfold maxLen;omega) (by omega) hC.size ?_;intro v1 w1 ho1 hs1 hg1;simp only[Nat.zero_add,List.nil_append]at ho1;have hC:=hC.appM ho1 hg1;clear ho1 hg1;refine hK.out _ _ hC.bx (λhHeld=>?_);clear hK K;refine fD 8 rfl (λK hK=>?_);go_simp
   have hC:=hC.newI;try simp only[World.size_alloc,World.size_drew]at hC
   refine hK.out _ _ hC.bx (λhHeld=>?_);clear hK K;refine fD 11 rfl (λK hK=>?_);refine aP rfl (.tmp 11) (.tmp 13) 23 rfl 3 i0 _ 1 8 kG hI' hy0 hy1 hy2 rfl (by decide) (w.heap.size+2) _ 0 [] (by rfl) hC.oi (by intro h;cases h) bo m d (dR t m) (by rfl) (by rw[fE];omega) hun (kI hur hC.below) (jC t m) (by unfold maxLen;omega) (by omega) hC.size ?_;intro u1 w2 ho2 hs2 hg2;simp only[Nat.zero_add,List.nil_append]at ho2;have hC:=hC.appI ho2 hg2;clear ho2 hg2;refine hK.out _ _ hC.bx (λhHeld=>?_);clear hK K
  rotate_left;focus
   go_simp
   have hC:=hC.newI;try simp only[World.size_alloc,World.size_drew]at hC
   refine hK.out _ _ hC.bx (λhHeld=>?_);clear hK K;refine fD 7 rfl (λK hK=>?_);refine aP rfl (.tmp 7) (.tmp 9) 30 rfl 36 iM _ 6 56 aC hI hz0 hz1 hz2 rfl (by decide) (w.heap.size+2) _ 0 [] (by rfl) hC.om (by intro h;cases h) ao n c (aG f n) (by rfl) (aU f n) hvn (kH hvr hC.below) (cV f n) (by unfold maxLen;omega) (by omega) hC.size ?_;intro v1 w1 ho1 hs1 hg1;simp only[Nat.zero_add,List.nil_append]at ho1;have hC:=hC.appM ho1 hg1;clear ho1 hg1;refine hK.out _ _ hC.bx (λhHeld=>?_);clear hK K;refine fD 11 rfl (λK hK=>?_);refine aP rfl (.tmp 11) (.tmp 13) 23 rfl 3 i0 _ 1 8 kG hI' hy0 hy1 hy2 rfl (by decide) (w.heap.size+2) _ 0 [] (by rfl) hC.oi (by intro h;cases h) bo m d (dR t m) (by rfl) (by rw[fE];omega) hun (kI hur hC.below) (jC t m) (by unfold maxLen;omega) (by omega) hC.size ?_;intro u1 w2 ho2 hs2 hg2;simp only[Nat.zero_add,List.nil_append]at ho2;have hC:=hC.appI ho2 hg2;clear ho2 hg2;refine hK.out _ _ hC.bx (λhHeld=>?_);clear hK K
 rotate_left 2;focus
  go_simp
  have hC:=hC.newI;try simp only[World.size_alloc,World.size_drew]at hC
  refine hK.out _ _ hC.bx (λhHeld=>?_);clear hK K;refine fD 4 rfl (λK hK=>?_);go_simp
  have hC:=hC.newM;try simp only[World.size_alloc,World.size_drew]at hC
  refine hK.out _ _ hC.bx (λhHeld=>?_);clear hK K;refine fD 7 rfl (λK hK=>?_);refine aP rfl (.tmp 7) (.tmp 9) 30 rfl 36 iM _ 6 56 aC hI hz0 hz1 hz2 rfl (by decide) (w.heap.size+2) _ 0 [] (by rfl) hC.om (by intro h;cases h) ao n c (aG f n) (by rfl) (aU f n) hvn (kH hvr hC.below) (cV f n) (by unfold maxLen;omega) (by omega) hC.size ?_;intro v1 w1 ho1 hs1 hg1;simp only[Nat.zero_add,List.nil_append]at ho1;have hC:=hC.appM ho1 hg1;clear ho1 hg1;refine hK.out _ _ hC.bx (λhHeld=>?_);clear hK K;refine fD 11 rfl (λK hK=>?_);refine aP rfl (.tmp 11) (.tmp 13) 23 rfl 3 i0 _ 1 8 kG hI' hy0 hy1 hy2 rfl (by decide) (w.heap.size+2) _ 0 [] (by rfl) hC.oi (by intro h;cases h) bo m d (dR t m) (by rfl) (by rw[fE];omega) hun (kI hur hC.below) (jC t m) (by unfold maxLen;omega) (by omega) hC.size ?_;intro u1 w2 ho2 hs2 hg2;simp only[Nat.zero_add,List.nil_append]at ho2;have hC:=hC.appI ho2 hg2;clear ho2 hg2;refine hK.out _ _ hC.bx (λhHeld=>?_);clear hK K
 all_goals
  obtain⟨av,cv,rfl⟩:=lD hC.om hs1;obtain⟨au,cu,rfl⟩:=lD hC.oi hs2;refine aJ 12 ((.agg #[.int .i64 now,.int .i64 shift,.slice (some ⟨av,0,none⟩) n cv,.slice (some ⟨au,0,none⟩) m cu])) 15 rfl (λw' hSw=>by(obtain⟨s0,s1,s2,s3⟩:=hSw;go_simp)) hHeld ?_;simp only[Act.put];refine fD 13 rfl (λK hK=>?_);have r0:=cell_of_row w2 _ 0 _ _ _ hC.out;have r1:=cell_of_row w2 _ 1 _ _ _ hC.out;have r2:=cell_of_row w2 _ 2 _ _ _ hC.out;have r3:=cell_of_row w2 _ 3 _ _ _ hC.out;have rf:=λj=>frozen_of_row w2 _ j _ _ hC.out;simp at r0 r1 r2 r3
  go_simp
  refine hK.out _ _ (hC.bx.same (by repeat(first|exact rfl|exact Gd _ _ _ _ (by simp)|refine(Gd _ _ _ _ (by simp)).trans ?_))) (λhHeld=>?_);clear hK K;refine wpAnyH_done (by kernel_rfl) ?_ _;clear hHeld;go_wp2;have hm:=hC.om;have hi:=hC.oi;refine bodyPost_ret (v:=.agg #[.int .i64 now,.int .i64 shift,.slice (some ⟨av,0,none⟩) n cv,.slice (some ⟨au,0,none⟩) m cu]) (by simp[results,Tryz.results31,go_sem,r0,r1,r2,r3]) rfl ⟨⟨_,_,_,_,rfl,eB (bf hm (λB hB=>by have:=(hm.lt B hB).1;rw[Gd _ _ _ _ (by simp;omega),Gd _ _ _ _ (by simp;omega),Gd _ _ _ _ (by simp;omega),Gd _ _ _ _ (by simp;omega)])) (by omega),eB (bf hi (λB hB=>by have:=(hi.lt B hB).1;rw[Gd _ _ _ _ (by simp;omega),Gd _ _ _ _ (by simp;omega),Gd _ _ _ _ (by simp;omega),Gd _ _ _ _ (by simp;omega)])) (by omega)⟩,(((hC.below.setCell (by simp) _).setCell (by simp) _).setCell (by simp) _).setCell (by simp) _⟩
end
