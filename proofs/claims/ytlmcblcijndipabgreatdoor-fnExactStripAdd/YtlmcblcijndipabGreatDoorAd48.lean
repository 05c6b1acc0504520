import Derived.Test.YtlmcblcijndipabGreatDoorAd47
set_option linter.unusedVariables false
set_option linter.unusedSimpArgs false
set_option maxHeartbeats 4000000
set_option maxRecDepth 100000
namespace Go.Proofs.YtlmcblcijndipabGreatDoor
section
open Go Go.Conc Go.RowKit
inductive px (f:Nat->Mv)(n:Nat)(t:Nat->Int)(m:Nat)(now shift:Int)(q:Mv)(N:Nat)(V':World):Value->Value->Value->Value->Int->Prop
 |bad:aV now shift f n t m=false->px f n t m now shift q N V' (.int .i64 0) (.int .i64 0) (.slice none 0 0) (.slice none 0 0) 1
 |no {cd:Int} {v u:Value}:aV now shift f n t m=true->nj f n now shift q=.no cd->V'.ownsRow N 36 6 v n (eC f n)->V'.ownsRow N 3 1 u m (dR t m)->px f n t m now shift q N V' (.int .i64 now) (.int .i64 shift) v u cd
 |yes {p:Nat} {T:Nat->Int} {BN c2 BT c3:Nat}:aV now shift f n t m=true->nj f n now shift q=.yes p T->N<=BN->N<=BT->pa V' BN (n+1) (bz f p q)->kJ V' BT (n+1) T->
   px f n t m now shift q N V' (.int .i64 now) (.int .i64 shift) (.slice (some ⟨BN,0,none⟩) (n+1) c2) (.slice (some ⟨BT,0,none⟩) (n+1) c3) 0
theorem px.keep {f:Nat->Mv}{n:Nat}{t:Nat->Int}{m:Nat}{now shift:Int}{q:Mv}{N N0:Nat}{V' W:World}{x0 x1 x2 x3:Value}{cd:Int}(h:px f n t m now shift q N V' x0 x1 x2 x3 cd)(hN:N0<=N)(e:∀B,N<=B->B<V'.heap.size->W.heap[B]?=V'.heap[B]?):
  px f n t m now shift q N0 W x0 x1 x2 x3 cd:=by
 cases h with
 |bad h=>exact .bad h
 |no h1 h3 ov ou=>exact .no h1 h3 (fj (dM ov λB hB=>e B (ov.lt B hB).1 (ov.lt B hB).2) hN) (fj (dM ou λB hB=>e B (ou.lt B hB).1 (ou.lt B hB).2) hN)
 |yes h1 h3 h4 h5 r o=>exact .yes h1 h3 (Gq hN h4) (Gq hN h5) (r.same (e _ h4 r.lt)) (eQ o (e _ h5 o.lt))
def Ez (ev:Value)(cd:Int):Prop:=(ev=.nilIface/\cd=0)\/ev=.iface 128 (.agg #[.int .i64 cd])
theorem AM.shape {f:Nat->Mv}{n:Nat}{t:Nat->Int}{m:Nat}{now shift:Int}{q:Mv}{N:Nat}{V':World}{x0 x1 x2 x3 ev:Value}(h:AM f n t m now shift q N V' x0 x1 x2 x3 ev):∃(a0 a1:Int) (s2:Option Addr) (l2 c2:Nat) (s3:Option Addr) (l3 c3:Nat) (cd:Int),x0=.int .i64 a0/\x1=.int .i64 a1/\x2=.slice s2 l2 c2/\x3=.slice s3 l3 c3/\Ez ev cd/\(1<cd->aV now shift f n t m=true/\nj f n now shift q=.no cd)/\(¬1<cd->px f n t m now shift q N V' x0 x1 x2 x3 cd):=by
 cases h with
 |bad h=>exact⟨_,_,_,_,_,_,_,_,_,rfl,rfl,rfl,rfl,.inr rfl,λh=>by omega,λ_=>.bad h⟩
 |no h1 h3=>exact⟨_,_,_,_,_,_,_,_,_,rfl,rfl,rfl,rfl,.inr rfl,λ_=>⟨h1,h3⟩,λh=>absurd (El h3) h⟩
 |yes h1 h3 h4 h5 r o=>exact⟨_,_,_,_,_,_,_,_,_,rfl,rfl,rfl,rfl,.inl ⟨rfl,rfl⟩,λh=>by omega,λ_=>.yes h1 h3 h4 h5 r o⟩
section
variable [g:Gl]{ok:Ctx}{c:Frame}{Q:Value->World->Prop}
theorem ap.triedOpA (E:bG Tz.prog ok c Dr24)(hA:AL ok)(hov:g.ov=278){fb:Frame}{a:Act}{k:List Item}{cs:List Frame}{V:World}(hb:ok.inn fb.fn=true){ops:Array Oper}{i:Nat}{r:List Nat}{o:Oper}(ho:ops[i]?=some o)(hw:Region.wanted o (yielded ops a.tmps)=true)
  {b n cap b' m cap':Nat}{f:Nat->Mv}{t:Nat->Int}{now shift:Int}{q:Mv}(hx:∀w,(execOp a.eval o).run Tz.prog w=.ok (.enter 64 #[.agg #[.int .i64 now,.int .i64 shift,.slice (some ⟨b,0,none⟩) n cap,.slice (some ⟨b',0,none⟩) m cap'],.iface 64 (.agg #[.string q.name,.bool q.lands,.int .i64 q.wake,.int .i64 q.est,.int .i64 q.late,.int .i64 q.prom])]) w)
  (hq:q.Fits)(hn:n<=1048576)(hm1:m<=maxLen)(hbs:b<V.heap.size)(hrow:ak V b 0 n f)(hbs':b'<V.heap.size)(hrow':al V b' 0 m t)
  (hcont:∀x0 x1 x2 x3 ev V',AM f n t m now shift q V.heap.size V' x0 x1 x2 x3 ev->Bl V.heap.size V V'->ap Tz.prog ok c Dr24 Q ⟨fb.at (a.put o.dst (.tuple #[.agg #[x0,x1,x2,x3],ev])) (.inRegion ops r::k),cs,V'⟩):ap Tz.prog ok c Dr24 Q ⟨fb.at a (.inRegion ops (i::r)::k),cs,V⟩:=
 ap.enterOp E ho hw hA.tr hx (yG E hA hov (r0:=fb.at a (.inRegion ops (i::r)::k)) hb hq hn hm1 hbs hrow hbs' hrow' (λx0 x1 x2 x3 ev V' h1 h2=>by rw[cD ho];exact hcont x0 x1 x2 x3 ev V' h1 h2))
theorem ul (E:bG Tz.prog ok c Dr24)(hA:AL ok)(hov:g.ov=278){r0:Frame}{cs:List Frame}{V:World}(hr0:ok.inn r0.fn=true)
  {b n cap b' m cap':Nat}{f:Nat->Mv}{t:Nat->Int}{now shift:Int}{q:Mv}(hq:q.Fits)(hn:n<=1048576)(hm2:m<=1048576)(hbs:b<V.heap.size)(hrow:ak V b 0 n f)(hbs':b'<V.heap.size)(hrow':al V b' 0 m t)
  (hcont:∀x0 x1 x2 x3 cd V',px f n t m now shift q V.heap.size V' x0 x1 x2 x3 cd->Bl V.heap.size V V'->ap Tz.prog ok c Dr24 Q ⟨r0.finish (.tuple #[.agg #[x0,x1,x2,x3],.int .i64 cd]),cs,V'⟩):
  ap Tz.prog ok c Dr24 Q ⟨Frame.enter Tz.prog 39 #[.agg #[.int .i64 now,.int .i64 shift,.slice (some ⟨b,0,none⟩) n cap,.slice (some ⟨b',0,none⟩) m cap'],.iface 64 (.agg #[.string q.name,.bool q.lands,.int .i64 q.wake,.int .i64 q.est,.int .i64 q.late,.int .i64 q.prom])] .normal,r0::cs,V⟩:=by
 have hE:=enter_at (P:=Tz.prog) #[.agg #[.int .i64 now,.int .i64 shift,.slice (some ⟨b,0,none⟩) n cap,.slice (some ⟨b',0,none⟩) m cap'],.iface 64 (.agg #[.string q.name,.bool q.lands,.int .i64 q.wake,.int .i64 q.est,.int .i64 q.late,.int .i64 q.prom])] Tz.func39 rfl;simp only[Tryz.ntmps39,List.size_toArray,List.length_cons,List.length_nil,Nat.reduceAdd,Nat.reduceSub,Array.replicate_succ,Array.replicate_zero,List.push_toArray,List.append_toArray,List.nil_append,List.cons_append]at hE;rw[hE];clear hE;have hCh:=hA.ch;have hCo:=hA.co;obtain⟨B2,hB2⟩:∃x,x=V.heap.size:=⟨_,rfl⟩;obtain⟨B4,hB4⟩:∃x,x=V.heap.size+1:=⟨_,rfl⟩;have hret:∀(x0 x1 x2 x3:Value) (cd:Int) (a':Act) (w':World) (todo:List Item),(w'.heap[B4]?=some (.cells #[x0,x1,x2,x3] 32 (0,0))/\px f n t m now shift q V.heap.size w' x0 x1 x2 x3 cd/\Bl V.heap.size V w'/\aZ a' (rW 24 [(4,.pointer (some ⟨B4,0,none⟩)),(5,.int .i64 cd)]))->
   ap Tz.prog ok c Dr24 Q ⟨{(base 39).at a' todo with mode:=.returning},r0::cs,w'⟩:=by
  rintro x0 x1 x2 x3 cd a' w' todo ⟨hc,ht,hbl,hfr⟩;obtain⟨u,rfl⟩:=hfr.open;refine ap.leave E hr0 (v:=.tuple #[.agg #[x0,x1,x2,x3],.int .i64 cd]) (λτ d=>⟨rfl,rfl,rfl,_,Tz.func39,?_⟩) (hcont _ _ _ _ _ _ ht hbl);have h:(re w' τ d).heap[B4]?=_:=hc;have q0:(re w' τ d).cell? ⟨B4,0,none⟩=some x0:=by simp[World.cell?,h]
  have q1:(re w' τ d).cell? ⟨B4,1,none⟩=some x1:=by simp[World.cell?,h]
  have q2:(re w' τ d).cell? ⟨B4,2,none⟩=some x2:=by simp[World.cell?,h]
  have q3:(re w' τ d).cell? ⟨B4,3,none⟩=some x3:=by simp[World.cell?,h]
  show Sem.run Tz.prog (results Tryz.f39 ((rW 24 [(4,.pointer (some ⟨B4,0,none⟩)),(5,.int .i64 cd)]) u)) _=_;simp[results,Tryz.f39,go_sem,q0,q1,q2,q3]
 refine ap.chain E hCh [_] _ (λa' w'=>Bl V.heap.size V w'/\ar w' B2 now shift (.slice (some ⟨b,0,none⟩) n cap) (.slice (some ⟨b',0,none⟩) m cap')/\ar w' B4 0 0 (.slice none 0 0) (.slice none 0 0)/\aZ a' (rW 24 [(1,.iface 64 (.agg #[.string q.name,.bool q.lands,.int .i64 q.wake,.int .i64 q.est,.int .i64 q.late,.int .i64 q.prom])),(2,.pointer (some ⟨B2,0,none⟩)),(4,.pointer (some ⟨B4,0,none⟩))])) (λ_ _=>False) ?_ ?_ (λ_ _ _ h=>h.elim)
 .intro τ d;have bW:Below (re V τ d).heap.size (re V τ d) (((re V τ d).alloc (.cells #[.int .i64 now,.int .i64 shift,.slice (some ⟨b,0,none⟩) n cap,.slice (some ⟨b',0,none⟩) m cap'] 32)).alloc (.cells #[.int .i64 0,.int .i64 0,.slice none 0 0,.slice none 0 0] 32)):=((Gb _ _).alloc (Gm _) _).alloc (by simp) _;have k2:ar (((re V τ d).alloc (.cells #[.int .i64 now,.int .i64 shift,.slice (some ⟨b,0,none⟩) n cap,.slice (some ⟨b',0,none⟩) m cap'] 32)).alloc (.cells #[.int .i64 0,.int .i64 0,.slice none 0 0,.slice none 0 0] 32)) (re V τ d).heap.size now shift (.slice (some ⟨b,0,none⟩) n cap) (.slice (some ⟨b',0,none⟩) m cap'):=(Gc _ _ _ (by simp)).trans (heap_alloc_new _ _);have k4:=heap_alloc_new ((re V τ d).alloc (.cells #[.int .i64 now,.int .i64 shift,.slice (some ⟨b,0,none⟩) n cap,.slice (some ⟨b',0,none⟩) m cap'] 32)) (.cells #[.int .i64 0,.int .i64 0,.slice none 0 0,.slice none 0 0] 32);rw[show((re V τ d).alloc (.cells #[.int .i64 now,.int .i64 shift,.slice (some ⟨b,0,none⟩) n cap,.slice (some ⟨b',0,none⟩) m cap'] 32)).heap.size=(re V τ d).heap.size+1 by simp]at k4;clear hcont hret hrow hrow';simp only[aD];go_wp2;left;refine⟨by first|rfl|trivial,Bl.ofR bW,?_,?_,?_⟩
  .rw[hB2];exact k2
  .rw[hB4];exact k4
  .rw[hB2,hB4];exact⟨rfl,rfl⟩
 rintro a' w1 ⟨hb1,k2,k4,hfr⟩;obtain⟨u,rfl⟩:=hfr.open;clear hfr;have hz1:=hb1.size;have o4:V.heap.size<B4:=by omega
 have o2:V.heap.size<=B2:=by omega
 have hm1:m<=maxLen:=by unfold maxLen;omega
 clear hB2 hB4;have row1:ak w1 b 0 n f:=aI hrow (hb1.block b hbs);have tic1:al w1 b' 0 m t:=λi hi=>by have:=hrow' i hi;unfold World.cell? at this⊢;rw[hb1.block b' hbs'];exact this
 refine ap.seq E hCh (ap.region E hCh ?_);rw[bh];refine ap.opsFrom E hCh 0 2 (by simp) (λa' w'=>(∃τ d,w'=re w1 τ d)/\aZ a' (rW 24 [(1,.iface 64 (.agg #[.string q.name,.bool q.lands,.int .i64 q.wake,.int .i64 q.est,.int .i64 q.late,.int .i64 q.prom])),(2,.pointer (some ⟨B2,0,none⟩)),(4,.pointer (some ⟨B4,0,none⟩)),(10,.agg #[.int .i64 now,.int .i64 shift,.slice (some ⟨b,0,none⟩) n cap,.slice (some ⟨b',0,none⟩) m cap']),(11,.iface 64 (.agg #[.string q.name,.bool q.lands,.int .i64 q.wake,.int .i64 q.est,.int .i64 q.late,.int .i64 q.prom]))])) ?_ ?_
 .intro τ d;have p2:ar (re w1 τ d) B2 now shift (.slice (some ⟨b,0,none⟩) n cap) (.slice (some ⟨b',0,none⟩) m cap'):=k2;obtain⟨y0,y1,y2,y3,y4⟩:=p2.cells;clear hcont hret;simp only[List.drop_zero,List.take_succ_cons,List.take_zero];go_wp2;exact⟨⟨τ,d,rfl⟩,rfl,rfl⟩
 rintro a' w' ⟨⟨τ,d,rfl⟩,hfr⟩;clear u;obtain⟨u,rfl⟩:=hfr.open;clear hfr;refine ap.triedOpA E hA hov hCh (i:=2) rfl rfl (b:=b) (n:=n) (cap:=cap) (b':=b') (m:=m) (cap':=cap') (f:=f) (t:=t) (now:=now) (shift:=shift) (q:=q) (λw=>by simp[execOp,resolve,invoke,Act.eval,go_sem]) hq hn hm1 (by show b<w1.heap.size;omega) (aI row1 rfl) (by show b'<w1.heap.size;omega) (λi hi=>tic1 i hi) ?_;intro x0 x1 x2 x3 ev V3 hT hb3';have hb3:Bl w1.heap.size w1 V3:=⟨hb3'.size,hb3'.block⟩;clear hb3';have hz3:=hb3.size;have l41:B4<w1.heap.size:=k4.lt;have p4:ar V3 B4 0 0 (.slice none 0 0) (.slice none 0 0):=k4.same (hb3.block B4 l41);have p2:ar V3 B2 now shift (.slice (some ⟨b,0,none⟩) n cap) (.slice (some ⟨b',0,none⟩) m cap'):=k2.same (hb3.block B2 k2.lt);have hb03:Bl V.heap.size V V3:=hb1.trans hb3 hz1;obtain⟨a0,a1,s2,l2,c2,s3,l3,c3,cd,rfl,rfl,rfl,rfl,hcd,hno,hch⟩:=hT.shape;replace hch:¬1<cd->px f n t m now shift q w1.heap.size V3 (.int .i64 a0) (.int .i64 a1) (.slice s2 l2 c2) (.slice s3 l3 c3) cd:=hch;clear hT;refine ap.opsFrom E hCh 3 6 (by simp) (λa' w'=>∃B6,V3.heap.size<=B6/\ar w' B6 a0 a1 (.slice s2 l2 c2) (.slice s3 l3 c3)/\Bl V3.heap.size V3 w'/\aZ a' (rW 24 [(2,.pointer (some ⟨B2,0,none⟩)),(4,.pointer (some ⟨B4,0,none⟩)),(6,.pointer (some ⟨B6,0,none⟩)),(7,ev)])) ?_ ?_
 .intro τ d;clear hcont hret p2 p4 hb03;simp only[List.drop_succ_cons,List.drop_zero,List.take_succ_cons,List.take_zero,Act.put];go_wp2;exact⟨_,Gm _,heap_alloc_new _ _,⟨by show V3.heap.size<=(V3.heap.push _).size;simp,λk hk=>Gc _ _ _ hk⟩,rfl,rfl⟩
 rintro a' w4 ⟨B6,hB6,n6,hb4,hfr⟩;clear u;obtain⟨u,rfl⟩:=hfr.open;clear hfr;have hz4:=hb4.size;have l4:=p4.lt;have lp:=p2.lt;have q4:ar w4 B4 0 0 (.slice none 0 0) (.slice none 0 0):=p4.same (hb4.block B4 l4);have q2:ar w4 B2 now shift (.slice (some ⟨b,0,none⟩) n cap) (.slice (some ⟨b',0,none⟩) m cap'):=p2.same (hb4.block B2 lp);have hb04:Bl V.heap.size V w4:=hb03.trans hb4 (by omega);have hne:B4≠B6:=by omega
 refine ap.regionEnd E hCh (ap.seq E hCh (ap.region E hCh ?_));rw[bh];refine ap.opsFrom E hCh 0 1 (by simp) (λa' w'=>(∃τ d,w'=re w4 τ d)/\aZ a' (rW 24 [(2,.pointer (some ⟨B2,0,none⟩)),(4,.pointer (some ⟨B4,0,none⟩)),(6,.pointer (some ⟨B6,0,none⟩)),(15,ev)])) ?_ ?_
 .intro τ d;clear hcont hret;simp only[List.drop_zero,List.take_succ_cons,List.take_zero];go_wp2;exact⟨⟨τ,d,rfl⟩,rfl,rfl⟩
 rintro a' w' ⟨⟨τ5,d5,rfl⟩,hfr⟩;clear u;obtain⟨u,rfl⟩:=hfr.open;clear hfr;refine ap.doorOp E (i:=1) rfl rfl hCo (λw=>by simp[execOp,resolve,invoke,Act.eval,go_sem]) (λτ d=>.inr ⟨rfl,ev,cd,rfl,hcd,rfl⟩) ?_;rintro τ6 d6 v6 V6 ⟨rfl,rfl⟩;refine ap.opsFrom E hCh 2 1 (by simp) (λa' w'=>(∃τ d,w'=re w4 τ d)/\aZ a' (rW 24 [(2,.pointer (some ⟨B2,0,none⟩)),(4,.pointer (some ⟨B4,0,none⟩)),(6,.pointer (some ⟨B6,0,none⟩)),(8,.int .i64 cd)])) ?_ ?_
 .intro τ d;clear hcont hret;simp only[List.drop_succ_cons,List.drop_zero,List.take_succ_cons,List.take_zero,Act.put];go_wp2;exact⟨⟨_,_,rfl⟩,rfl,rfl⟩
 rintro a' w' ⟨⟨τ7,d7,rfl⟩,hfr⟩;clear u;obtain⟨u,rfl⟩:=hfr.open;clear hfr;refine ap.regionEnd E hCh ?_;by_cases hbig:1<cd
 .obtain⟨hbk,hrd⟩:=hno hbig;refine ap.chain E hCh [_] _ (λ_ _=>False) (λa' w'=>∃v u,w'.heap[B4]?=some (.cells #[.int .i64 now,.int .i64 shift,v,u] 32 (0,0))/\px f n t m now shift q V.heap.size w' (.int .i64 now) (.int .i64 shift) v u cd/\Bl V.heap.size V w'/\aZ a' (rW 24 [(4,.pointer (some ⟨B4,0,none⟩)),(5,.int .i64 cd)])) ?_ (λ_ _ h=>h.elim) (λa' w' todo h=>by obtain⟨v,u,h⟩:=h;exact hret _ _ _ _ _ a' w' todo h);intro τ d;have q4':ar (re (re w4 τ7 d7) τ d) B4 0 0 (.slice none 0 0) (.slice none 0 0):=q4;have q2':ar (re (re w4 τ7 d7) τ d) B2 now shift (.slice (some ⟨b,0,none⟩) n cap) (.slice (some ⟨b',0,none⟩) m cap'):=q2;have hb0:Bl V.heap.size V (re (re w4 τ7 d7) τ d):=⟨hb04.size,hb04.block⟩;have row0:ak (re (re w4 τ7 d7) τ d) b 0 n f:=aI hrow (hb04.block b hbs);have tic0:al (re (re w4 τ7 d7) τ d) b' 0 m t:=λi hi=>by have:=hrow' i hi;unfold World.cell? at this⊢;rw[show(re (re w4 τ7 d7) τ d).heap[b']?=V.heap[b']? from hb04.block b' hbs'];exact this
  have hzz:V.heap.size<=(re (re w4 τ7 d7) τ d).heap.size:=hb04.size;revert q4' q2' hb0 row0 tic0 hzz;generalize re (re w4 τ7 d7) τ d=w0;intro q4' q2' hb0 row0 tic0 hzz;have H1:=vT now shift b 0 n cap f b' 0 m cap' t w0 (by omega) hm2 (by omega) row0 (by omega) tic0;clear hret hcont q4 q2 n6 hb04 hch hno;obtain⟨z0,z1,z2,z3,z4⟩:=q4'.cells;obtain⟨x0,x1,x2,x3,x4⟩:=q2'.cells;simp only[aD];go_wp2_with(go_at_call 66;refine H1.mono ?_;clear H1;rintro e w5 ⟨⟨v,u5,rfl,ov,ou⟩,b5⟩;obtain⟨av,cv,rfl⟩:=mu ov;obtain⟨au,cu,rfl⟩:=mu ou;have j4:=q4'.same (b5.block B4 q4'.lt);obtain⟨y0,y1,y2,y3,y4⟩:=j4.cells;clear z0 z1 z2 z3 z4)
  all_goals first|(exfalso;omega)|skip
  rw[dO j4];have l40:=q4'.lt;right;exact⟨by first|rfl|trivial,_,_,setRow_heap _ _ _ _ _ _ j4,.no hbk hrd (fj (dM ov λB hB=>setRow_other _ _ _ _ (by have:=(ov.lt B hB).1;omega)) hzz) (fj (dM ou λB hB=>setRow_other _ _ _ _ (by have:=(ou.lt B hB).1;omega)) hzz),⟨by rw[setRow_size];exact Gq hb0.size b5.size,λk hk=>(setRow_other _ _ _ _ (by omega)).trans ((b5.block k (by omega)).trans (hb0.block k hk))⟩,rfl,rfl⟩
 .refine ap.last E hCh [_,_] (λa' w'=>w'.heap[B4]?=some (.cells #[.int .i64 a0,.int .i64 a1,.slice s2 l2 c2,.slice s3 l3 c3] 32 (0,0))/\px f n t m now shift q V.heap.size w' (.int .i64 a0) (.int .i64 a1) (.slice s2 l2 c2) (.slice s3 l3 c3) cd/\Bl V.heap.size V w'/\aZ a' (rW 24 [(4,.pointer (some ⟨B4,0,none⟩)),(5,.int .i64 cd)])) ?_ (λa' w' todo h=>hret _ _ _ _ _ a' w' todo h);intro τ d;have q4':ar (re (re w4 τ7 d7) τ d) B4 0 0 (.slice none 0 0) (.slice none 0 0):=q4;have q6':ar (re (re w4 τ7 d7) τ d) B6 a0 a1 (.slice s2 l2 c2) (.slice s3 l3 c3):=n6;have hC0:px f n t m now shift q w1.heap.size (re (re w4 τ7 d7) τ d) (.int .i64 a0) (.int .i64 a1) (.slice s2 l2 c2) (.slice s3 l3 c3) cd:=(hch hbig).keep (Gm _) λB _ hl=>hb4.block B hl
  have hb0:Bl V.heap.size V (re (re w4 τ7 d7) τ d):=⟨hb04.size,hb04.block⟩;revert q4' q6' hC0 hb0;generalize re (re w4 τ7 d7) τ d=w0;intro q4' q6' hC0 hb0;clear hret hcont q4 q2 n6 hb04 hch hno;obtain⟨z0,z1,z2,z3,z4⟩:=q4'.cells;obtain⟨y0,y1,y2,y3,y4⟩:=q6'.cells;simp only[aD];go_wp2;all_goals first|(exfalso;omega)|skip
  rw[dO q4'];exact⟨setRow_heap _ _ _ _ _ _ q4',hC0.keep hz1 λB hB _=>setRow_other _ _ _ _ (by omega),⟨by rw[setRow_size];exact hb0.size,λk hk=>(setRow_other _ _ _ _ (by omega)).trans (hb0.block k hk)⟩,rfl,rfl⟩
end
theorem px.shape {f:Nat->Mv}{n:Nat}{t:Nat->Int}{m:Nat}{now shift:Int}{q:Mv}{N:Nat}{V':World}{x0 x1 x2 x3:Value}{cd:Int}(h:px f n t m now shift q N V' x0 x1 x2 x3 cd):
  ∃a0 a1 s2 l2 c2 s3 l3 c3,x0=.int .i64 a0/\x1=.int .i64 a1/\x2=.slice s2 l2 c2/\x3=.slice s3 l3 c3:=by
 cases h with
 |bad _=>exact⟨_,_,_,_,_,_,_,_,rfl,rfl,rfl,rfl⟩
 |no _ _ ov ou=>
  obtain⟨av,cv,rfl⟩:=mu ov;obtain⟨au,cu,rfl⟩:=mu ou;exact⟨_,_,_,_,_,_,_,_,rfl,rfl,rfl,rfl⟩
 |yes _ _ _ _ _ _=>exact⟨_,_,_,_,_,_,_,_,rfl,rfl,rfl,rfl⟩
section
variable [g:Gl]{ok:Ctx}{c:Frame}{Q:Value->World->Prop}
theorem ap.changedOpA (E:bG Tz.prog ok c Dr24)(hA:AL ok)(hov:g.ov=278){fb:Frame}{a:Act}{k:List Item}{cs:List Frame}{V:World}(hb:ok.inn fb.fn=true){ops:Array Oper}{i:Nat}{r:List Nat}{o:Oper}(ho:ops[i]?=some o)(hw:Region.wanted o (yielded ops a.tmps)=true)
  {b n cap b' m cap':Nat}{f:Nat->Mv}{t:Nat->Int}{now shift:Int}{q:Mv}(hx:∀w,(execOp a.eval o).run Tz.prog w=.ok (.enter 39 #[.agg #[.int .i64 now,.int .i64 shift,.slice (some ⟨b,0,none⟩) n cap,.slice (some ⟨b',0,none⟩) m cap'],.iface 64 (.agg #[.string q.name,.bool q.lands,.int .i64 q.wake,.int .i64 q.est,.int .i64 q.late,.int .i64 q.prom])]) w)
  (hq:q.Fits)(hn:n<=1048576)(hm2:m<=1048576)(hbs:b<V.heap.size)(hrow:ak V b 0 n f)(hbs':b'<V.heap.size)(hrow':al V b' 0 m t)
  (hcont:∀x0 x1 x2 x3 cd V',px f n t m now shift q V.heap.size V' x0 x1 x2 x3 cd->Bl V.heap.size V V'->ap Tz.prog ok c Dr24 Q ⟨fb.at (a.put o.dst (.tuple #[.agg #[x0,x1,x2,x3],.int .i64 cd])) (.inRegion ops r::k),cs,V'⟩):ap Tz.prog ok c Dr24 Q ⟨fb.at a (.inRegion ops (i::r)::k),cs,V⟩:=
 ap.enterOp E ho hw hA.ch hx (ul E hA hov (r0:=fb.at a (.inRegion ops (i::r)::k)) hb hq hn hm2 hbs hrow hbs' hrow' (λx0 x1 x2 x3 cd V' h1 h2=>by rw[cD ho];exact hcont x0 x1 x2 x3 cd V' h1 h2))
theorem um (E:bG Tz.prog ok c Dr24)(hA:AL ok)(hov:g.ov=278)(hSR:ok.inn 13=true){r0:Frame}{cs:List Frame}{V:World}(hr0:ok.inn r0.fn=true)
  {b n cap b' m cap':Nat}{f:Nat->Mv}{t:Nat->Int}{now shift:Int}{q:Mv}(hq:q.Fits)(hn:n<=1048576)(hm2:m<=1048576)(hbs:b<V.heap.size)(hrow:ak V b 0 n f)(hbs':b'<V.heap.size)(hrow':al V b' 0 m t)
  (hcont:∀x0 x1 x2 x3 cd V',px f n t m now shift q V.heap.size V' x0 x1 x2 x3 cd->Bl V.heap.size V V'->ap Tz.prog ok c Dr24 Q ⟨r0.finish (.tuple #[.agg #[x0,x1,x2,x3],.int .i64 cd]),cs,V'⟩):
  ap Tz.prog ok c Dr24 Q ⟨Frame.enter Tz.prog 13 #[.agg #[.int .i64 now,.int .i64 shift,.slice (some ⟨b,0,none⟩) n cap,.slice (some ⟨b',0,none⟩) m cap'],.agg #[.string q.name,.bool q.lands,.int .i64 q.wake,.int .i64 q.est,.int .i64 q.late,.int .i64 q.prom]] .normal,r0::cs,V⟩:=by
 have hE:=enter_at (P:=Tz.prog) #[.agg #[.int .i64 now,.int .i64 shift,.slice (some ⟨b,0,none⟩) n cap,.slice (some ⟨b',0,none⟩) m cap'],.agg #[.string q.name,.bool q.lands,.int .i64 q.wake,.int .i64 q.est,.int .i64 q.late,.int .i64 q.prom]] Tz.func13 rfl;simp only[Tryz.ntmps13,List.size_toArray,List.length_cons,List.length_nil,Nat.reduceAdd,Nat.reduceSub,Array.replicate_succ,Array.replicate_zero,List.push_toArray,List.append_toArray,List.nil_append,List.cons_append]at hE;rw[hE];clear hE;obtain⟨B2,hB2⟩:∃x,x=V.heap.size:=⟨_,rfl⟩;obtain⟨B3,hB3⟩:∃x,x=V.heap.size+1:=⟨_,rfl⟩;obtain⟨B4,hB4⟩:∃x,x=V.heap.size+1+1:=⟨_,rfl⟩;refine ap.chain E hSR [_] _ (λa' w'=>Bl V.heap.size V w'/\ar w' B2 now shift (.slice (some ⟨b,0,none⟩) n cap) (.slice (some ⟨b',0,none⟩) m cap')/\dL w' B3 q/\ar w' B4 0 0 (.slice none 0 0) (.slice none 0 0)/\aZ a' (rW 13 [(2,.pointer (some ⟨B2,0,none⟩)),(3,.pointer (some ⟨B3,0,none⟩)),(4,.pointer (some ⟨B4,0,none⟩))])) (λ_ _=>False) ?_ ?_ (λ_ _ _ h=>h.elim)
 .intro τ d;have hz0:(re V τ d).heap.size=V.heap.size:=rfl;subst hB2 hB3 hB4;obtain⟨W0,hW0⟩:∃W,(((re V τ d).alloc (.cells #[.int .i64 now,.int .i64 shift,.slice (some ⟨b,0,none⟩) n cap,.slice (some ⟨b',0,none⟩) m cap'] 32)).alloc (.cells #[.string q.name,.bool q.lands,.int .i64 q.wake,.int .i64 q.est,.int .i64 q.late,.int .i64 q.prom] 36)).alloc (.cells #[.int .i64 0,.int .i64 0,.slice none 0 0,.slice none 0 0] 32)=W:=⟨_,rfl⟩;have bW:Below (re V τ d).heap.size (re V τ d) W0:=by rw[<-hW0];exact(((Gb _ _).alloc (Gm _) _).alloc (by simp) _).alloc (by simp<;>omega) _
  have k2:ar W0 V.heap.size now shift (.slice (some ⟨b,0,none⟩) n cap) (.slice (some ⟨b',0,none⟩) m cap'):=by rw[<-hW0,<-hz0];exact(Gc _ _ _ (by simp<;>omega)).trans ((Gc _ _ _ (by simp)).trans (heap_alloc_new _ _))
  have k3:dL W0 (V.heap.size+1) q:=by rw[<-hW0,<-hz0];exact(Gc _ _ _ (by simp)).trans (bj _ _ _)
  have k4:ar W0 (V.heap.size+1+1) 0 0 (.slice none 0 0) (.slice none 0 0):=by
   rw[<-hW0,<-hz0];have:=bj ((re V τ d).alloc (.cells #[.int .i64 now,.int .i64 shift,.slice (some ⟨b,0,none⟩) n cap,.slice (some ⟨b',0,none⟩) m cap'] 32)) (.cells #[.string q.name,.bool q.lands,.int .i64 q.wake,.int .i64 q.est,.int .i64 q.late,.int .i64 q.prom] 36) (.cells #[.int .i64 0,.int .i64 0,.slice none 0 0,.slice none 0 0] 32);rw[Gg]at this;exact this
  clear hcont hrow hrow';simp only[aD];go_wp2;left;exact⟨by first|rfl|trivial,Bl.ofR bW,k2,k3,k4,rfl,rfl⟩
 rintro a' w1 ⟨hb1,k2,k3,k4,hfr⟩;obtain⟨u,rfl⟩:=hfr.open;clear hfr;have hz1:=hb1.size;have o4:V.heap.size<B4:=by omega
 clear hB2 hB3 hB4;have row1:ak w1 b 0 n f:=aI hrow (hb1.block b hbs);have tic1:al w1 b' 0 m t:=λi hi=>by have:=hrow' i hi;unfold World.cell? at this⊢;rw[hb1.block b' hbs'];exact this
 refine ap.seq E hSR (ap.region E hSR ?_);rw[bh];refine ap.opsFrom E hSR 0 4 (by simp) (λa' w'=>(∃τ d,w'=re w1 τ d)/\aZ a' (rW 13 [(2,.pointer (some ⟨B2,0,none⟩)),(4,.pointer (some ⟨B4,0,none⟩)),(6,.agg #[.int .i64 now,.int .i64 shift,.slice (some ⟨b,0,none⟩) n cap,.slice (some ⟨b',0,none⟩) m cap']),(9,.iface 64 (.agg #[.string q.name,.bool q.lands,.int .i64 q.wake,.int .i64 q.est,.int .i64 q.late,.int .i64 q.prom]))])) ?_ ?_
 .intro τ d;have p3:dL (re w1 τ d) B3 q:=k3;obtain⟨s0,s1,s2,s3,s4,s5⟩:=fx p3;have p2:ar (re w1 τ d) B2 now shift (.slice (some ⟨b,0,none⟩) n cap) (.slice (some ⟨b',0,none⟩) m cap'):=k2;obtain⟨y0,y1,y2,y3,y4⟩:=p2.cells;clear hcont;simp only[List.drop_zero,List.take_succ_cons,List.take_zero];go_wp2;exact⟨⟨τ,d,rfl⟩,rfl,rfl⟩
 rintro a' w' ⟨⟨τ,d,rfl⟩,hfr⟩;clear u;obtain⟨u,rfl⟩:=hfr.open;clear hfr;refine ap.changedOpA E hA hov hSR (i:=4) rfl rfl (b:=b) (n:=n) (cap:=cap) (b':=b') (m:=m) (cap':=cap') (f:=f) (t:=t) (now:=now) (shift:=shift) (q:=q) (λw=>by simp[execOp,resolve,invoke,Act.eval,go_sem]) hq hn hm2 (by show b<w1.heap.size;omega) (aI row1 rfl) (by show b'<w1.heap.size;omega) (λi hi=>tic1 i hi) ?_;intro x0 x1 x2 x3 cd V3 hC hb3';have hb3:Bl w1.heap.size w1 V3:=⟨hb3'.size,hb3'.block⟩;replace hC:px f n t m now shift q w1.heap.size V3 x0 x1 x2 x3 cd:=hC;clear hb3';have hz3:=hb3.size;have l41:B4<w1.heap.size:=k4.lt;have p4:ar V3 B4 0 0 (.slice none 0 0) (.slice none 0 0):=k4.same (hb3.block B4 l41);have hb03:Bl V.heap.size V V3:=hb1.trans hb3 hz1;obtain⟨a0,a1,s2,l2,c2,s3,l3,c3,rfl,rfl,rfl,rfl⟩:=hC.shape;refine ap.opsFrom E hSR 5 4 (by simp) (λa' w'=>w'.heap[B4]?=some (.cells #[.int .i64 a0,.int .i64 a1,.slice s2 l2 c2,.slice s3 l3 c3] 32 (0,0))/\px f n t m now shift q V.heap.size w' (.int .i64 a0) (.int .i64 a1) (.slice s2 l2 c2) (.slice s3 l3 c3) cd/\Bl V.heap.size V w'/\aZ a' (rW 13 [(4,.pointer (some ⟨B4,0,none⟩)),(5,.int .i64 cd)])) ?_ ?_
 .intro τ d;have q4:ar (re V3 τ d) B4 0 0 (.slice none 0 0) (.slice none 0 0):=p4;have hb0:Bl V.heap.size V (re V3 τ d):=⟨hb03.size,hb03.block⟩;have hC0:px f n t m now shift q w1.heap.size (re V3 τ d) (.int .i64 a0) (.int .i64 a1) (.slice s2 l2 c2) (.slice s3 l3 c3) cd:=hC.keep (Gm _) λ_ _ _=>rfl
  revert q4 hb0 hC0;generalize re V3 τ d=w0;intro q4 hb0 hC0;clear hcont p4 hb03 hC;obtain⟨z0,z1,z2,z3,z4⟩:=q4.cells;simp only[List.drop_succ_cons,List.drop_zero,List.take_succ_cons,List.take_zero,Act.put];go_wp2;rw[dO q4];exact⟨setRow_heap _ _ _ _ _ _ q4,hC0.keep hz1 λB hB _=>setRow_other _ _ _ _ (by omega),⟨by rw[setRow_size];exact hb0.size,λk hk=>(setRow_other _ _ _ _ (by omega)).trans (hb0.block k hk)⟩,rfl,rfl⟩
 rintro a' w4 ⟨hc,hC4,hbl,hfr⟩;clear u;obtain⟨u,rfl⟩:=hfr.open;refine ap.regionEnd E hSR (ap.ret E hSR ?_);refine ap.leave E hr0 (v:=.tuple #[.agg #[.int .i64 a0,.int .i64 a1,.slice s2 l2 c2,.slice s3 l3 c3],.int .i64 cd]) (λτ d=>⟨rfl,rfl,rfl,_,Tz.func13,?_⟩) (hcont _ _ _ _ _ _ hC4 hbl);have h:(re w4 τ d).heap[B4]?=_:=hc;have q0:(re w4 τ d).cell? ⟨B4,0,none⟩=some (.int .i64 a0):=by simp[World.cell?,h]
 have q1:(re w4 τ d).cell? ⟨B4,1,none⟩=some (.int .i64 a1):=by simp[World.cell?,h]
 have q2:(re w4 τ d).cell? ⟨B4,2,none⟩=some (.slice s2 l2 c2):=by simp[World.cell?,h]
 have q3:(re w4 τ d).cell? ⟨B4,3,none⟩=some (.slice s3 l3 c3):=by simp[World.cell?,h]
 show Sem.run Tz.prog (results Tryz.f13 ((rW 13 [(4,.pointer (some ⟨B4,0,none⟩)),(5,.int .i64 cd)]) u)) _=_;simp[results,Tryz.f13,go_sem,q0,q1,q2,q3]
end
end
section
open Go Go.RowKit
inductive gu (f:Nat->Mv)(n:Nat)(t:Nat->Int)(m:Nat)(now shift:Int)(q:Mv):Int->Int->Nat->(Nat->Mv)->Nat->(Nat->Int)->Int->Prop
 |bad:aV now shift f n t m=false->gu f n t m now shift q 0 0 0 f 0 t 1
 |no {cd:Int}:aV now shift f n t m=true->nj f n now shift q=.no cd->gu f n t m now shift q now shift n f m t cd
 |yes {p:Nat} {T:Nat->Int}:aV now shift f n t m=true->nj f n now shift q=.yes p T->gu f n t m now shift q now shift (n+1) (bz f p q) (n+1) T 0
section
variable {f:Nat->Mv}{n:Nat}{t:Nat->Int}{m:Nat}{now shift:Int}{q:Mv}{N:Nat}{V:World}{x0 x1 x2 x3:Value}{cd:Int}
theorem gu.one {a0 a1 a0' a1' c c':Int}{l l' o o':Nat}{F F':Nat->Mv}{T T':Nat->Int}(h:gu f n t m now shift q a0 a1 l F o T c)(h':gu f n t m now shift q a0' a1' l' F' o' T' c'):a0=a0'/\a1=a1'/\l=l'/\F=F'/\o=o'/\T=T'/\c=c':=by
 cases h with
 |bad h=>
  cases h' with
  |bad _=>exact⟨rfl,rfl,rfl,rfl,rfl,rfl,rfl⟩
  |no g _=>rw[h]at g;cases g
  |yes g _=>rw[h]at g;cases g
 |no h hr=>
  cases h' with
  |bad g=>rw[h]at g;cases g
  |no g gr=>rw[gr]at hr;cases hr;exact⟨rfl,rfl,rfl,rfl,rfl,rfl,rfl⟩
  |yes g gr=>rw[gr]at hr;cases hr
 |yes h hr=>
  cases h' with
  |bad g=>rw[h]at g;cases g
  |no g gr=>rw[gr]at hr;cases hr
  |yes g gr=>rw[gr]at hr;cases hr;exact⟨rfl,rfl,rfl,rfl,rfl,rfl,rfl⟩
theorem gu.small {a0 a1 c:Int}{l o:Nat}{F:Nat->Mv}{T:Nat->Int}(h:gu f n t m now shift q a0 a1 l F o T c):(l<=n\/l<=7)/\(o<=m\/o<=7):=by
 cases h with
 |bad _=>exact⟨by omega,by omega⟩
 |no _ _=>exact⟨by omega,by omega⟩
 |yes h _=>have:=aN (fZ h).1;exact⟨by omega,by omega⟩
theorem px.out (h:px f n t m now shift q N V x0 x1 x2 x3 cd):∃a0 a1 l F o T,gu f n t m now shift q a0 a1 l F o T cd/\x0=.int .i64 a0/\x1=.int .i64 a1/\cP V N V.heap.size x2 l F/\cO V N V.heap.size x3 o T:=by
 cases h with
 |bad h=>exact⟨_,_,_,_,_,_,.bad h,rfl,rfl,.inl ⟨rfl,_,_,rfl⟩,.inl ⟨rfl,_,_,rfl⟩⟩
 |no h hr ov ou=>exact⟨_,_,_,_,_,_,.no h hr,rfl,rfl,CP ov,CQ ou (λj hj=>gG hj)⟩
 |yes h hr h4 h5 r o=>
  have h6:=r.lt;have h7:=o.lt;obtain⟨r1,cs,r2,r3⟩:=r;obtain⟨⟨cs',o1,o2⟩,o3⟩:=o;exact⟨_,_,_,_,_,_,.yes h hr,rfl,rfl,.inr ⟨_,_,cs,rfl,h4,h6,Gm _,r2,r3,r1⟩,.inr ⟨_,_,cs',rfl,h5,h7,Gm _,o1,by omega,o3⟩⟩
theorem DF.out (h:DF f n t m now shift q N V x0 x1 x2 x3 cd):∃a0 a1 l F o T,gu f n t m now shift q a0 a1 l F o T cd/\x0=.int .i64 a0/\x1=.int .i64 a1/\cP V N V.heap.size x2 l F/\cO V N V.heap.size x3 o T:=by
 cases h with
 |bad h=>exact⟨_,_,_,_,_,_,.bad h,rfl,rfl,.inl ⟨rfl,_,_,rfl⟩,.inl ⟨rfl,_,_,rfl⟩⟩
 |no h hr ov ou=>exact⟨_,_,_,_,_,_,.no h hr,rfl,rfl,CP ov,CQ ou (λj hj=>gG hj)⟩
 |yes h hr h4 h5 r o=>
  have h6:=r.lt;have h7:=o.lt;obtain⟨r1,cs,r2,r3⟩:=r;obtain⟨⟨cs',o1,o2⟩,o3⟩:=o;exact⟨_,_,_,_,_,_,.yes h hr,rfl,rfl,.inr ⟨_,_,cs,rfl,h4,h6,Gm _,r2,r3,r1⟩,.inr ⟨_,_,cs',rfl,h5,h7,Gm _,o1,by omega,o3⟩⟩
end
end
