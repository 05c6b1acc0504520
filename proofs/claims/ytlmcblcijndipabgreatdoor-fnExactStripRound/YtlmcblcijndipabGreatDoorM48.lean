import Derived.Test.YtlmcblcijndipabGreatDoorM43
import Derived.Test.YtlmcblcijndipabGreatDoorM46
import Derived.Test.YtlmcblcijndipabGreatDoorM45
import Derived.Deep.RegionHeld3
set_option linter.unusedVariables false
set_option linter.unusedSimpArgs false
set_option linter.unusedSectionVars false
set_option maxHeartbeats 4000000
set_option maxRecDepth 100000
namespace Go.Proofs.YtlmcblcijndipabGreatDoor
open Go Go.Conc Go.RowKit
theorem xN {f:Nat->Mv}{n:Nat}{t:Nat->Int}{now k cd:Int}(h:cU f n t now k=.no cd):1<cd:=by
 unfold cU at h;split at h
 .cases h;decide
 .split at h
  .cases h;decide
  .split at h
   .split at h
    .cases h;decide
    .cases h
   .cases h;decide
inductive fG (f:Nat->Mv)(n:Nat)(t:Nat->Int)(m:Nat)(now shift:Int)(name:ByteArray)(N:Nat)(V':World):Value->Value->Value->Value->Int->Prop
 |bad:aP now shift f n t m=false->fG f n t m now shift name N V' (.int .i64 0) (.int .i64 0) (.slice none 0 0) (.slice none 0 0) 1
 |no {k cd:Int} {v u:Value}:aP now shift f n t m=true->bV f n name k->cU f n t now k=.no cd->V'.ownsRow N 36 6 v n (dI f n)->V'.ownsRow N 3 1 u m (dJ t m)->fG f n t m now shift name N V' (.int .i64 now) (.int .i64 shift) v u cd
 |yes {k:Int} {p:Nat} {T:Nat->Int} {BN c2 BT c3:Nat}:aP now shift f n t m=true->bV f n name k->cU f n t now k=.yes p T->N<=BN->N<=BT->nq V' BN (af f t p n).length (eF (af f t p n))->ah V' BT (af f t p n).length T->
   fG f n t m now shift name N V' (.int .i64 now) (.int .i64 shift) (.slice (some ⟨BN,0,none⟩) (af f t p n).length c2) (.slice (some ⟨BT,0,none⟩) (af f t p n).length c3) 0
section
variable [Gl]{ok:Ctx}{c:Frame}{Q:Value->World->Prop}
theorem az.triedOp (E:dr Tryz0.prog ok c Dr24)(hTr:ok.inn 64=true)(hMd:ok.inn 286=true)(hRo:ok.inn 112=true)(hPl:ok.inn 132=true)(hSB:ok.inn 151=true)(hbt:ok.inn 181=false){fb:Frame}{a:Act}{k:List Item}{cs:List Frame}{V:World}(hb:ok.inn fb.fn=true){ops:Array Oper}{i:Nat}{r:List Nat}{o:Oper}(ho:ops[i]?=some o)(hw:Region.wanted o (yielded ops a.tmps)=true)
  {b n cap b' m cap':Nat}{f:Nat->Mv}{t:Nat->Int}{now shift:Int}{name:ByteArray}(hx:∀w,(execOp a.eval o).run Tryz0.prog w=.ok (.enter 64 #[.agg #[.int .i64 now,.int .i64 shift,.slice (some ⟨b,0,none⟩) n cap,.slice (some ⟨b',0,none⟩) m cap'],.iface 73 (.agg #[.string name])]) w)
  (hn:n<=1048576)(hm1:m<=maxLen)(hbs:b<V.heap.size)(hrow:an V b 0 n f)(hbs':b'<V.heap.size)(hrow':al V b' 0 m t)
  (hcont:∀x0 x1 x2 x3 ev V',qa f n t m now shift name V.heap.size V' x0 x1 x2 x3 ev->Bl V.heap.size V V'->az Tryz0.prog ok c Dr24 Q ⟨fb.at (a.put o.dst (.tuple #[.agg #[x0,x1,x2,x3],ev])) (.inRegion ops r::k),cs,V'⟩):az Tryz0.prog ok c Dr24 Q ⟨fb.at a (.inRegion ops (i::r)::k),cs,V⟩:=
 az.enterOp E ho hw hTr hx (xI E hTr hMd hRo hPl hSB hbt (r0:=fb.at a (.inRegion ops (i::r)::k)) hb hn hm1 hbs hrow hbs' hrow' (λx0 x1 x2 x3 ev V' h1 h2=>by rw[df ho];exact hcont x0 x1 x2 x3 ev V' h1 h2))
theorem tz (E:dr Tryz0.prog ok c Dr24)(hCh:ok.inn 39=true)(hTr:ok.inn 64=true)(hMd:ok.inn 286=true)(hRo:ok.inn 112=true)(hPl:ok.inn 132=true)(hSB:ok.inn 151=true)(hbt:ok.inn 181=false)(hCo:ok.inn 65=false){r0:Frame}{cs:List Frame}{V:World}(hr0:ok.inn r0.fn=true)
  {b n cap b' m cap':Nat}{f:Nat->Mv}{t:Nat->Int}{now shift:Int}{name:ByteArray}(hn:n<=1048576)(hm2:m<=1048576)(hbs:b<V.heap.size)(hrow:an V b 0 n f)(hbs':b'<V.heap.size)(hrow':al V b' 0 m t)
  (hcont:∀x0 x1 x2 x3 cd V',fG f n t m now shift name V.heap.size V' x0 x1 x2 x3 cd->Bl V.heap.size V V'->az Tryz0.prog ok c Dr24 Q ⟨r0.finish (.tuple #[.agg #[x0,x1,x2,x3],.int .i64 cd]),cs,V'⟩):
  az Tryz0.prog ok c Dr24 Q ⟨Frame.enter Tryz0.prog 39 #[.agg #[.int .i64 now,.int .i64 shift,.slice (some ⟨b,0,none⟩) n cap,.slice (some ⟨b',0,none⟩) m cap'],.iface 73 (.agg #[.string name])] .normal,r0::cs,V⟩:=by
 have hE:=enter_at (P:=Tryz0.prog) #[.agg #[.int .i64 now,.int .i64 shift,.slice (some ⟨b,0,none⟩) n cap,.slice (some ⟨b',0,none⟩) m cap'],.iface 73 (.agg #[.string name])] Tryz0.func39 rfl;simp only[Tryz.ntmps39,List.size_toArray,List.length_cons,List.length_nil,Nat.reduceAdd,Nat.reduceSub,Array.replicate_succ,Array.replicate_zero,List.push_toArray,List.append_toArray,List.nil_append,List.cons_append]at hE;rw[hE];clear hE;obtain⟨B2,hB2⟩:∃x,x=V.heap.size:=⟨_,rfl⟩;obtain⟨B4,hB4⟩:∃x,x=V.heap.size+1:=⟨_,rfl⟩;have hret:∀(x0 x1 x2 x3:Value) (cd:Int) (a':Act) (w':World) (todo:List Item),(w'.heap[B4]?=some (.cells #[x0,x1,x2,x3] 32 (0,0))/\fG f n t m now shift name V.heap.size w' x0 x1 x2 x3 cd/\Bl V.heap.size V w'/\bd a' (λu=>#[u 0,u 1,u 2,u 3,.pointer (some ⟨B4,0,none⟩),.int .i64 cd,u 6,u 7,u 8,u 9,u 10,u 11,u 12,u 13,u 14,u 15,u 16,u 17,u 18,u 19,u 20,u 21,u 22,u 23]))->
   az Tryz0.prog ok c Dr24 Q ⟨{(base 39).at a' todo with mode:=.returning},r0::cs,w'⟩:=by
  rintro x0 x1 x2 x3 cd a' w' todo ⟨hc,ht,hbl,hfr⟩;obtain⟨u,rfl⟩:=hfr.open;refine az.leave E hr0 (v:=.tuple #[.agg #[x0,x1,x2,x3],.int .i64 cd]) (λτ d=>⟨rfl,rfl,rfl,_,Tryz0.func39,?_⟩) (hcont _ _ _ _ _ _ ht hbl);have h:(re w' τ d).heap[B4]?=_:=hc;have q0:(re w' τ d).cell? ⟨B4,0,none⟩=some x0:=by simp[World.cell?,h]
  have q1:(re w' τ d).cell? ⟨B4,1,none⟩=some x1:=by simp[World.cell?,h]
  have q2:(re w' τ d).cell? ⟨B4,2,none⟩=some x2:=by simp[World.cell?,h]
  have q3:(re w' τ d).cell? ⟨B4,3,none⟩=some x3:=by simp[World.cell?,h]
  show Sem.run Tryz0.prog (results Tryz.f39 ((λu=>#[u 0,u 1,u 2,u 3,.pointer (some ⟨B4,0,none⟩),.int .i64 cd,u 6,u 7,u 8,u 9,u 10,u 11,u 12,u 13,u 14,u 15,u 16,u 17,u 18,u 19,u 20,u 21,u 22,u 23]) u)) _=_;simp[results,Tryz.f39,go_sem,q0,q1,q2,q3]
 refine az.chain E hCh [_] _ (λa' w'=>Bl V.heap.size V w'/\ar w' B2 now shift (.slice (some ⟨b,0,none⟩) n cap) (.slice (some ⟨b',0,none⟩) m cap')/\ar w' B4 0 0 (.slice none 0 0) (.slice none 0 0)/\bd a' (λu=>#[u 0,.iface 73 (.agg #[.string name]),.pointer (some ⟨B2,0,none⟩),u 3,.pointer (some ⟨B4,0,none⟩),u 5,u 6,u 7,u 8,u 9,u 10,u 11,u 12,u 13,u 14,u 15,u 16,u 17,u 18,u 19,u 20,u 21,u 22,u 23])) (λ_ _=>False) ?_ ?_ (λ_ _ _ h=>h.elim)
 .intro τ d;have bW:Below (re V τ d).heap.size (re V τ d) (((re V τ d).alloc (.cells #[.int .i64 now,.int .i64 shift,.slice (some ⟨b,0,none⟩) n cap,.slice (some ⟨b',0,none⟩) m cap'] 32)).alloc (.cells #[.int .i64 0,.int .i64 0,.slice none 0 0,.slice none 0 0] 32)):=((Below.refl _ _).alloc (Nat.le_refl _) _).alloc (by simp) _;have k2:ar (((re V τ d).alloc (.cells #[.int .i64 now,.int .i64 shift,.slice (some ⟨b,0,none⟩) n cap,.slice (some ⟨b',0,none⟩) m cap'] 32)).alloc (.cells #[.int .i64 0,.int .i64 0,.slice none 0 0,.slice none 0 0] 32)) (re V τ d).heap.size now shift (.slice (some ⟨b,0,none⟩) n cap) (.slice (some ⟨b',0,none⟩) m cap'):=(Below.heap_alloc _ _ _ (by simp)).trans (heap_alloc_new _ _);have k4:=heap_alloc_new ((re V τ d).alloc (.cells #[.int .i64 now,.int .i64 shift,.slice (some ⟨b,0,none⟩) n cap,.slice (some ⟨b',0,none⟩) m cap'] 32)) (.cells #[.int .i64 0,.int .i64 0,.slice none 0 0,.slice none 0 0] 32);rw[show((re V τ d).alloc (.cells #[.int .i64 now,.int .i64 shift,.slice (some ⟨b,0,none⟩) n cap,.slice (some ⟨b',0,none⟩) m cap'] 32)).heap.size=(re V τ d).heap.size+1 by simp]at k4;clear hcont hret hrow hrow';simp only[aJ];go_wp2;left;refine⟨by first|rfl|trivial,Bl.ofR bW,?_,?_,?_⟩
  .rw[hB2];exact k2
  .rw[hB4];exact k4
  .rw[hB2,hB4];exact⟨rfl,rfl⟩
 rintro a' w1 ⟨hb1,k2,k4,hfr⟩;obtain⟨u,rfl⟩:=hfr.open;clear hfr;have hz1:=hb1.size;have o4:V.heap.size<B4:=by omega
 have o2:V.heap.size<=B2:=by omega
 have hm1:m<=maxLen:=by unfold maxLen;omega
 clear hB2 hB4;have row1:an w1 b 0 n f:=aK hrow (hb1.block b hbs);have tic1:al w1 b' 0 m t:=λi hi=>by have:=hrow' i hi;unfold World.cell? at this⊢;rw[hb1.block b' hbs'];exact this
 refine az.seq E hCh (az.region E hCh ?_);rw[bj];refine az.opsFrom E hCh 0 2 (by simp) (λa' w'=>(∃τ d,w'=re w1 τ d)/\bd a' (λu=>#[u 0,.iface 73 (.agg #[.string name]),.pointer (some ⟨B2,0,none⟩),u 3,.pointer (some ⟨B4,0,none⟩),u 5,u 6,u 7,u 8,u 9,.agg #[.int .i64 now,.int .i64 shift,.slice (some ⟨b,0,none⟩) n cap,.slice (some ⟨b',0,none⟩) m cap'],.iface 73 (.agg #[.string name]),u 12,u 13,u 14,u 15,u 16,u 17,u 18,u 19,u 20,u 21,u 22,u 23])) ?_ ?_
 .intro τ d;have p2:ar (re w1 τ d) B2 now shift (.slice (some ⟨b,0,none⟩) n cap) (.slice (some ⟨b',0,none⟩) m cap'):=k2;obtain⟨y0,y1,y2,y3,y4⟩:=p2.cells;clear hcont hret;simp only[List.drop_zero,List.take_succ_cons,List.take_zero];go_wp2;exact⟨⟨τ,d,rfl⟩,rfl,rfl⟩
 rintro a' w' ⟨⟨τ,d,rfl⟩,hfr⟩;clear u;obtain⟨u,rfl⟩:=hfr.open;clear hfr;refine az.triedOp E hTr hMd hRo hPl hSB hbt hCh (i:=2) rfl rfl (b:=b) (n:=n) (cap:=cap) (b':=b') (m:=m) (cap':=cap') (f:=f) (t:=t) (now:=now) (shift:=shift) (name:=name) (λw=>by simp[execOp,resolve,invoke,Act.eval,go_sem]) hn hm1 (by show b<w1.heap.size;omega) (aK row1 rfl) (by show b'<w1.heap.size;omega) (λi hi=>tic1 i hi) ?_;intro x0 x1 x2 x3 ev V3 hT hb3';have hb3:Bl w1.heap.size w1 V3:=⟨hb3'.size,hb3'.block⟩;clear hb3';have hz3:=hb3.size;have l41:B4<w1.heap.size:=k4.lt;have p4:ar V3 B4 0 0 (.slice none 0 0) (.slice none 0 0):=k4.same (hb3.block B4 l41);have p2:ar V3 B2 now shift (.slice (some ⟨b,0,none⟩) n cap) (.slice (some ⟨b',0,none⟩) m cap'):=k2.same (hb3.block B2 k2.lt);have hb03:Bl V.heap.size V V3:=hb1.trans hb3 hz1;cases hT with
 |bad hbk=>
  refine az.opsFrom E hCh 3 6 (by simp) (λa' w'=>∃B6,V3.heap.size<=B6/\w'.heap[B6]?=some (.cells #[.int .i64 0,.int .i64 0,.slice none 0 0,.slice none 0 0] 32 (0,0))/\Bl V3.heap.size V3 w'/\bd a' (λu=>#[u 0,u 1,.pointer (some ⟨B2,0,none⟩),u 3,.pointer (some ⟨B4,0,none⟩),u 5,.pointer (some ⟨B6,0,none⟩),.iface 128 (.agg #[.int .i64 1]),u 8,u 9,u 10,u 11,u 12,u 13,u 14,u 15,u 16,u 17,u 18,u 19,u 20,u 21,u 22,u 23])) ?_ ?_
  .intro τ d;clear hcont hret p2 p4 hb03;simp only[List.drop_succ_cons,List.drop_zero,List.take_succ_cons,List.take_zero,Act.put];go_wp2;exact⟨_,Nat.le_refl _,heap_alloc_new _ _,⟨by show V3.heap.size<=(V3.heap.push _).size;simp,λk hk=>Below.heap_alloc _ _ _ hk⟩,rfl,rfl⟩
  rintro a' w4 ⟨B6,hB6,n6,hb4,hfr⟩;clear u;obtain⟨u,rfl⟩:=hfr.open;clear hfr;have hz4:=hb4.size;have l4:=p4.lt;have l2:=p2.lt;have q4:ar w4 B4 0 0 (.slice none 0 0) (.slice none 0 0):=p4.same (hb4.block B4 l4);have q2:ar w4 B2 now shift (.slice (some ⟨b,0,none⟩) n cap) (.slice (some ⟨b',0,none⟩) m cap'):=p2.same (hb4.block B2 l2);have hb04:Bl V.heap.size V w4:=hb03.trans hb4 (by omega);have hne:B4≠B6:=by omega
  refine az.regionEnd E hCh (az.seq E hCh (az.region E hCh ?_));rw[bj];refine az.opsFrom E hCh 0 1 (by simp) (λa' w'=>(∃τ d,w'=re w4 τ d)/\bd a' (λu=>#[u 0,u 1,.pointer (some ⟨B2,0,none⟩),u 3,.pointer (some ⟨B4,0,none⟩),u 5,.pointer (some ⟨B6,0,none⟩),u 7,u 8,u 9,u 10,u 11,u 12,u 13,u 14,.iface 128 (.agg #[.int .i64 1]),u 16,u 17,u 18,u 19,u 20,u 21,u 22,u 23])) ?_ ?_
  .intro τ d;clear hcont hret;simp only[List.drop_zero,List.take_succ_cons,List.take_zero];go_wp2;exact⟨⟨τ,d,rfl⟩,rfl,rfl⟩
  rintro a' w' ⟨⟨τ5,d5,rfl⟩,hfr⟩;clear u;obtain⟨u,rfl⟩:=hfr.open;clear hfr;refine az.doorOp E (i:=1) rfl rfl hCo (λw=>by simp[execOp,resolve,invoke,Act.eval,go_sem]) (λτ d=>.inr ⟨rfl,.iface 128 (.agg #[.int .i64 1]),1,rfl,.inr rfl,rfl⟩) ?_;rintro τ6 d6 v6 V6 ⟨rfl,rfl⟩;refine az.opsFrom E hCh 2 1 (by simp) (λa' w'=>(∃τ d,w'=re w4 τ d)/\bd a' (λu=>#[u 0,u 1,.pointer (some ⟨B2,0,none⟩),u 3,.pointer (some ⟨B4,0,none⟩),u 5,.pointer (some ⟨B6,0,none⟩),u 7,.int .i64 1,u 9,u 10,u 11,u 12,u 13,u 14,u 15,u 16,u 17,u 18,u 19,u 20,u 21,u 22,u 23])) ?_ ?_
  .intro τ d;clear hcont hret;simp only[List.drop_succ_cons,List.drop_zero,List.take_succ_cons,List.take_zero,Act.put];go_wp2;exact⟨⟨_,_,rfl⟩,rfl,rfl⟩
  rintro a' w' ⟨⟨τ7,d7,rfl⟩,hfr⟩;clear u;obtain⟨u,rfl⟩:=hfr.open;clear hfr;refine az.regionEnd E hCh ?_;refine az.last E hCh [_,_] (λa' w'=>w'.heap[B4]?=some (.cells #[.int .i64 0,.int .i64 0,.slice none 0 0,.slice none 0 0] 32 (0,0))/\fG f n t m now shift name V.heap.size w' (.int .i64 0) (.int .i64 0) (.slice none 0 0) (.slice none 0 0) 1/\Bl V.heap.size V w'/\bd a' (λu=>#[u 0,u 1,u 2,u 3,.pointer (some ⟨B4,0,none⟩),.int .i64 1,u 6,u 7,u 8,u 9,u 10,u 11,u 12,u 13,u 14,u 15,u 16,u 17,u 18,u 19,u 20,u 21,u 22,u 23])) ?_ (λa' w' todo h=>hret _ _ _ _ _ a' w' todo h);intro τ d;have q4':ar (re (re w4 τ7 d7) τ d) B4 0 0 (.slice none 0 0) (.slice none 0 0):=q4;have q2':ar (re (re w4 τ7 d7) τ d) B2 now shift (.slice (some ⟨b,0,none⟩) n cap) (.slice (some ⟨b',0,none⟩) m cap'):=q2;have q6':(re (re w4 τ7 d7) τ d).heap[B6]?=some (.cells #[.int .i64 0,.int .i64 0,.slice none 0 0,.slice none 0 0] 32 (0,0)):=n6;have hb0:Bl V.heap.size V (re (re w4 τ7 d7) τ d):=⟨hb04.size,hb04.block⟩;revert q4' q2' q6' hb0;generalize re (re w4 τ7 d7) τ d=w0;intro q4' q2' q6' hb0;clear hret hcont q4 q2 n6 hb04;obtain⟨z0,z1,z2,z3,z4⟩:=q4'.cells;have y0:w0.cell? ⟨B6,0,none⟩=some (.int .i64 0):=by simp[World.cell?,q6']
  have y1:w0.cell? ⟨B6,1,none⟩=some (.int .i64 0):=by simp[World.cell?,q6']
  have y2:w0.cell? ⟨B6,2,none⟩=some (.slice none 0 0):=by simp[World.cell?,q6']
  have y3:w0.cell? ⟨B6,3,none⟩=some (.slice none 0 0):=by simp[World.cell?,q6']
  simp only[aJ];go_wp2;all_goals first|(exfalso;omega)|skip
  rw[ep q4'];left;exact⟨by first|rfl|trivial,setRow_heap _ _ _ _ _ _ q4',.bad hbk,⟨by rw[setRow_size];exact hb0.size,λk hk=>(setRow_other _ _ _ _ (by omega)).trans (hb0.block k hk)⟩,rfl,rfl⟩
 |@no k cd hbk hk hrd=>
  refine az.opsFrom E hCh 3 6 (by simp) (λa' w'=>∃B6,V3.heap.size<=B6/\w'.heap[B6]?=some (.cells #[.int .i64 0,.int .i64 0,.slice none 0 0,.slice none 0 0] 32 (0,0))/\Bl V3.heap.size V3 w'/\bd a' (λu=>#[u 0,u 1,.pointer (some ⟨B2,0,none⟩),u 3,.pointer (some ⟨B4,0,none⟩),u 5,.pointer (some ⟨B6,0,none⟩),.iface 128 (.agg #[.int .i64 cd]),u 8,u 9,u 10,u 11,u 12,u 13,u 14,u 15,u 16,u 17,u 18,u 19,u 20,u 21,u 22,u 23])) ?_ ?_
  .intro τ d;clear hcont hret p2 p4 hb03;simp only[List.drop_succ_cons,List.drop_zero,List.take_succ_cons,List.take_zero,Act.put];go_wp2;exact⟨_,Nat.le_refl _,heap_alloc_new _ _,⟨by show V3.heap.size<=(V3.heap.push _).size;simp,λk hk=>Below.heap_alloc _ _ _ hk⟩,rfl,rfl⟩
  rintro a' w4 ⟨B6,hB6,n6,hb4,hfr⟩;clear u;obtain⟨u,rfl⟩:=hfr.open;clear hfr;have hz4:=hb4.size;have l4:=p4.lt;have l2:=p2.lt;have q4:ar w4 B4 0 0 (.slice none 0 0) (.slice none 0 0):=p4.same (hb4.block B4 l4);have q2:ar w4 B2 now shift (.slice (some ⟨b,0,none⟩) n cap) (.slice (some ⟨b',0,none⟩) m cap'):=p2.same (hb4.block B2 l2);have hb04:Bl V.heap.size V w4:=hb03.trans hb4 (by omega);have hne:B4≠B6:=by omega
  refine az.regionEnd E hCh (az.seq E hCh (az.region E hCh ?_));rw[bj];refine az.opsFrom E hCh 0 1 (by simp) (λa' w'=>(∃τ d,w'=re w4 τ d)/\bd a' (λu=>#[u 0,u 1,.pointer (some ⟨B2,0,none⟩),u 3,.pointer (some ⟨B4,0,none⟩),u 5,.pointer (some ⟨B6,0,none⟩),u 7,u 8,u 9,u 10,u 11,u 12,u 13,u 14,.iface 128 (.agg #[.int .i64 cd]),u 16,u 17,u 18,u 19,u 20,u 21,u 22,u 23])) ?_ ?_
  .intro τ d;clear hcont hret;simp only[List.drop_zero,List.take_succ_cons,List.take_zero];go_wp2;exact⟨⟨τ,d,rfl⟩,rfl,rfl⟩
  rintro a' w' ⟨⟨τ5,d5,rfl⟩,hfr⟩;clear u;obtain⟨u,rfl⟩:=hfr.open;clear hfr;refine az.doorOp E (i:=1) rfl rfl hCo (λw=>by simp[execOp,resolve,invoke,Act.eval,go_sem]) (λτ d=>.inr ⟨rfl,.iface 128 (.agg #[.int .i64 cd]),cd,rfl,.inr rfl,rfl⟩) ?_;rintro τ6 d6 v6 V6 ⟨rfl,rfl⟩;refine az.opsFrom E hCh 2 1 (by simp) (λa' w'=>(∃τ d,w'=re w4 τ d)/\bd a' (λu=>#[u 0,u 1,.pointer (some ⟨B2,0,none⟩),u 3,.pointer (some ⟨B4,0,none⟩),u 5,.pointer (some ⟨B6,0,none⟩),u 7,.int .i64 cd,u 9,u 10,u 11,u 12,u 13,u 14,u 15,u 16,u 17,u 18,u 19,u 20,u 21,u 22,u 23])) ?_ ?_
  .intro τ d;clear hcont hret;simp only[List.drop_succ_cons,List.drop_zero,List.take_succ_cons,List.take_zero,Act.put];go_wp2;exact⟨⟨_,_,rfl⟩,rfl,rfl⟩
  rintro a' w' ⟨⟨τ7,d7,rfl⟩,hfr⟩;clear u;obtain⟨u,rfl⟩:=hfr.open;clear hfr;refine az.regionEnd E hCh ?_;have hcd:1<cd:=xN hrd;refine az.chain E hCh [_] _ (λ_ _=>False) (λa' w'=>∃v u,w'.heap[B4]?=some (.cells #[.int .i64 now,.int .i64 shift,v,u] 32 (0,0))/\fG f n t m now shift name V.heap.size w' (.int .i64 now) (.int .i64 shift) v u cd/\Bl V.heap.size V w'/\bd a' (λu=>#[u 0,u 1,u 2,u 3,.pointer (some ⟨B4,0,none⟩),.int .i64 cd,u 6,u 7,u 8,u 9,u 10,u 11,u 12,u 13,u 14,u 15,u 16,u 17,u 18,u 19,u 20,u 21,u 22,u 23])) ?_ (λ_ _ h=>h.elim) (λa' w' todo h=>by obtain⟨v,u,h⟩:=h;exact hret _ _ _ _ _ a' w' todo h);intro τ d;have q4':ar (re (re w4 τ7 d7) τ d) B4 0 0 (.slice none 0 0) (.slice none 0 0):=q4;have q2':ar (re (re w4 τ7 d7) τ d) B2 now shift (.slice (some ⟨b,0,none⟩) n cap) (.slice (some ⟨b',0,none⟩) m cap'):=q2;have q6':(re (re w4 τ7 d7) τ d).heap[B6]?=some (.cells #[.int .i64 0,.int .i64 0,.slice none 0 0,.slice none 0 0] 32 (0,0)):=n6;have hb0:Bl V.heap.size V (re (re w4 τ7 d7) τ d):=⟨hb04.size,hb04.block⟩;have kh:an (re (re w4 τ7 d7) τ d) b 0 n f:=aK hrow (hb04.block b hbs);have tic0:al (re (re w4 τ7 d7) τ d) b' 0 m t:=λi hi=>by have:=hrow' i hi;unfold World.cell? at this⊢;rw[show(re (re w4 τ7 d7) τ d).heap[b']?=V.heap[b']? from hb04.block b' hbs'];exact this
  have hzz:V.heap.size<=(re (re w4 τ7 d7) τ d).heap.size:=hb04.size;revert q4' q2' q6' hb0 kh tic0 hzz;generalize re (re w4 τ7 d7) τ d=w0;intro q4' q2' q6' hb0 kh tic0 hzz;have H1:=tx now shift b 0 n cap f b' 0 m cap' t w0 (by omega) hm2 (by omega) kh (by omega) tic0;clear hret hcont q4 q2 n6 hb04;obtain⟨z0,z1,z2,z3,z4⟩:=q4'.cells;obtain⟨x0,x1,x2,x3,x4⟩:=q2'.cells;simp only[aJ];go_wp2_with(go_at_call 66;refine H1.mono ?_;clear H1;rintro e w5 ⟨⟨v,u5,rfl,ov,ou⟩,b5⟩;obtain⟨av,cv,rfl⟩:=kM ov;obtain⟨au,cu,rfl⟩:=kM ou;have j4:=q4'.same (b5.block B4 q4'.lt);obtain⟨y0,y1,y2,y3,y4⟩:=j4.cells;clear z0 z1 z2 z3 z4)
  all_goals first|(exfalso;omega)|skip
  rw[ep j4];have l40:=q4'.lt;right;exact⟨by first|rfl|trivial,_,_,setRow_heap _ _ _ _ _ _ j4,.no hbk hk hrd (ey (dq ov λB hB=>setRow_other _ _ _ _ (by have:=(ov.lt B hB).1;omega)) hzz) (ey (dq ou λB hB=>setRow_other _ _ _ _ (by have:=(ou.lt B hB).1;omega)) hzz),⟨by rw[setRow_size];exact Nat.le_trans hb0.size b5.size,λk hk=>(setRow_other _ _ _ _ (by omega)).trans ((b5.block k (by omega)).trans (hb0.block k hk))⟩,rfl,rfl⟩
 |@yes k p T BN c2 BT c3 hbk hk hrd hBN hBT iF oT=>
  replace hBN:w1.heap.size<=BN:=hBN;replace hBT:w1.heap.size<=BT:=hBT;have lT:BT<V3.heap.size:=by obtain⟨⟨cs,hc,_⟩,_⟩:=oT;exact(Array.getElem?_eq_some_iff.1 hc).1
  refine az.opsFrom E hCh 3 6 (by simp) (λa' w'=>∃B6,V3.heap.size<=B6/\w'.heap[B6]?=some (.cells #[.int .i64 now,.int .i64 shift,.slice (some ⟨BN,0,none⟩) (af f t p n).length c2,.slice (some ⟨BT,0,none⟩) (af f t p n).length c3] 32 (0,0))/\Bl V3.heap.size V3 w'/\bd a' (λu=>#[u 0,u 1,.pointer (some ⟨B2,0,none⟩),u 3,.pointer (some ⟨B4,0,none⟩),u 5,.pointer (some ⟨B6,0,none⟩),.nilIface,u 8,u 9,u 10,u 11,u 12,u 13,u 14,u 15,u 16,u 17,u 18,u 19,u 20,u 21,u 22,u 23])) ?_ ?_
  .intro τ d;clear hcont hret p2 p4 hb03;simp only[List.drop_succ_cons,List.drop_zero,List.take_succ_cons,List.take_zero,Act.put];go_wp2;exact⟨_,Nat.le_refl _,heap_alloc_new _ _,⟨by show V3.heap.size<=(V3.heap.push _).size;simp,λk hk=>Below.heap_alloc _ _ _ hk⟩,rfl,rfl⟩
  rintro a' w4 ⟨B6,hB6,n6,hb4,hfr⟩;clear u;obtain⟨u,rfl⟩:=hfr.open;clear hfr;have hz4:=hb4.size;have l4:=p4.lt;have l2:=p2.lt;have q4:ar w4 B4 0 0 (.slice none 0 0) (.slice none 0 0):=p4.same (hb4.block B4 l4);have q2:ar w4 B2 now shift (.slice (some ⟨b,0,none⟩) n cap) (.slice (some ⟨b',0,none⟩) m cap'):=p2.same (hb4.block B2 l2);have hb04:Bl V.heap.size V w4:=hb03.trans hb4 (by omega);have hne:B4≠B6:=by omega
  refine az.regionEnd E hCh (az.seq E hCh (az.region E hCh ?_));rw[bj];refine az.opsFrom E hCh 0 1 (by simp) (λa' w'=>(∃τ d,w'=re w4 τ d)/\bd a' (λu=>#[u 0,u 1,.pointer (some ⟨B2,0,none⟩),u 3,.pointer (some ⟨B4,0,none⟩),u 5,.pointer (some ⟨B6,0,none⟩),u 7,u 8,u 9,u 10,u 11,u 12,u 13,u 14,.nilIface,u 16,u 17,u 18,u 19,u 20,u 21,u 22,u 23])) ?_ ?_
  .intro τ d;clear hcont hret;simp only[List.drop_zero,List.take_succ_cons,List.take_zero];go_wp2;exact⟨⟨τ,d,rfl⟩,rfl,rfl⟩
  rintro a' w' ⟨⟨τ5,d5,rfl⟩,hfr⟩;clear u;obtain⟨u,rfl⟩:=hfr.open;clear hfr;refine az.doorOp E (i:=1) rfl rfl hCo (λw=>by simp[execOp,resolve,invoke,Act.eval,go_sem]) (λτ d=>.inr ⟨rfl,.nilIface,0,rfl,.inl ⟨rfl,rfl⟩,rfl⟩) ?_;rintro τ6 d6 v6 V6 ⟨rfl,rfl⟩;refine az.opsFrom E hCh 2 1 (by simp) (λa' w'=>(∃τ d,w'=re w4 τ d)/\bd a' (λu=>#[u 0,u 1,.pointer (some ⟨B2,0,none⟩),u 3,.pointer (some ⟨B4,0,none⟩),u 5,.pointer (some ⟨B6,0,none⟩),u 7,.int .i64 0,u 9,u 10,u 11,u 12,u 13,u 14,u 15,u 16,u 17,u 18,u 19,u 20,u 21,u 22,u 23])) ?_ ?_
  .intro τ d;clear hcont hret;simp only[List.drop_succ_cons,List.drop_zero,List.take_succ_cons,List.take_zero,Act.put];go_wp2;exact⟨⟨_,_,rfl⟩,rfl,rfl⟩
  rintro a' w' ⟨⟨τ7,d7,rfl⟩,hfr⟩;clear u;obtain⟨u,rfl⟩:=hfr.open;clear hfr;refine az.regionEnd E hCh ?_;have rowN4:nq w4 BN (af f t p n).length (eF (af f t p n)):=iF.same (hb4.block BN iF.lt);have oT4:ah w4 BT (af f t p n).length T:=bR oT (hb4.block BT lT);have h4N:BN≠B4:=by omega
  have h4T:BT≠B4:=by omega
  refine az.last E hCh [_,_] (λa' w'=>w'.heap[B4]?=some (.cells #[.int .i64 now,.int .i64 shift,.slice (some ⟨BN,0,none⟩) (af f t p n).length c2,.slice (some ⟨BT,0,none⟩) (af f t p n).length c3] 32 (0,0))/\fG f n t m now shift name V.heap.size w' (.int .i64 now) (.int .i64 shift) (.slice (some ⟨BN,0,none⟩) (af f t p n).length c2) (.slice (some ⟨BT,0,none⟩) (af f t p n).length c3) 0/\Bl V.heap.size V w'/\bd a' (λu=>#[u 0,u 1,u 2,u 3,.pointer (some ⟨B4,0,none⟩),.int .i64 0,u 6,u 7,u 8,u 9,u 10,u 11,u 12,u 13,u 14,u 15,u 16,u 17,u 18,u 19,u 20,u 21,u 22,u 23])) ?_ (λa' w' todo h=>hret _ _ _ _ _ a' w' todo h);intro τ d;have q4':ar (re (re w4 τ7 d7) τ d) B4 0 0 (.slice none 0 0) (.slice none 0 0):=q4;have q2':ar (re (re w4 τ7 d7) τ d) B2 now shift (.slice (some ⟨b,0,none⟩) n cap) (.slice (some ⟨b',0,none⟩) m cap'):=q2;have q6':(re (re w4 τ7 d7) τ d).heap[B6]?=some (.cells #[.int .i64 now,.int .i64 shift,.slice (some ⟨BN,0,none⟩) (af f t p n).length c2,.slice (some ⟨BT,0,none⟩) (af f t p n).length c3] 32 (0,0)):=n6;have hb0:Bl V.heap.size V (re (re w4 τ7 d7) τ d):=⟨hb04.size,hb04.block⟩;have r0':nq (re (re w4 τ7 d7) τ d) BN (af f t p n).length (eF (af f t p n)):=rowN4.same rfl;have o0':ah (re (re w4 τ7 d7) τ d) BT (af f t p n).length T:=bR oT4 rfl;revert q4' q2' q6' hb0 r0' o0';generalize re (re w4 τ7 d7) τ d=w0;intro q4' q2' q6' hb0 r0' o0';clear hret hcont q4 q2 n6 hb04 iF oT rowN4 oT4;obtain⟨z0,z1,z2,z3,z4⟩:=q4'.cells;have y0:w0.cell? ⟨B6,0,none⟩=some (.int .i64 now):=by simp[World.cell?,q6']
  have y1:w0.cell? ⟨B6,1,none⟩=some (.int .i64 shift):=by simp[World.cell?,q6']
  have y2:w0.cell? ⟨B6,2,none⟩=some (.slice (some ⟨BN,0,none⟩) (af f t p n).length c2):=by simp[World.cell?,q6']
  have y3:w0.cell? ⟨B6,3,none⟩=some (.slice (some ⟨BT,0,none⟩) (af f t p n).length c3):=by simp[World.cell?,q6']
  simp only[aJ];go_wp2;all_goals first|(exfalso;omega)|skip
  rw[ep q4'];left;exact⟨by first|rfl|trivial,setRow_heap _ _ _ _ _ _ q4',(.yes hbk hk hrd (by omega) (by omega) (r0'.same (setRow_other _ _ _ _ h4N)) (bR o0' (setRow_other _ _ _ _ h4T))),⟨by rw[setRow_size];exact hb0.size,λk hk=>(setRow_other _ _ _ _ (by omega)).trans (hb0.block k hk)⟩,rfl,rfl⟩
end
theorem fG.shape {f:Nat->Mv}{n:Nat}{t:Nat->Int}{m:Nat}{now shift:Int}{name:ByteArray}{N:Nat}{V':World}{x0 x1 x2 x3:Value}{cd:Int}(h:fG f n t m now shift name N V' x0 x1 x2 x3 cd):
  ∃a0 a1 s2 l2 c2 s3 l3 c3,x0=.int .i64 a0/\x1=.int .i64 a1/\x2=.slice s2 l2 c2/\x3=.slice s3 l3 c3:=by
 cases h with
 |bad _=>exact⟨_,_,_,_,_,_,_,_,rfl,rfl,rfl,rfl⟩
 |no _ _ _ ov ou=>
  obtain⟨av,cv,rfl⟩:=kM ov;obtain⟨au,cu,rfl⟩:=kM ou;exact⟨_,_,_,_,_,_,_,_,rfl,rfl,rfl,rfl⟩
 |yes _ _ _ _ _ _ _=>exact⟨_,_,_,_,_,_,_,_,rfl,rfl,rfl,rfl⟩
theorem fG.keep {f:Nat->Mv}{n:Nat}{t:Nat->Int}{m:Nat}{now shift:Int}{name:ByteArray}{N N₀:Nat}{V' W:World}{x0 x1 x2 x3:Value}{cd:Int}(h:fG f n t m now shift name N V' x0 x1 x2 x3 cd)(hN:N₀<=N)(e:∀B,N<=B->W.heap[B]?=V'.heap[B]?):
  fG f n t m now shift name N₀ W x0 x1 x2 x3 cd:=by
 cases h with
 |bad h=>exact .bad h
 |no h1 h2 h3 ov ou=>exact .no h1 h2 h3 (ey (dq ov λB hB=>e B (ov.lt B hB).1) hN) (ey (dq ou λB hB=>e B (ou.lt B hB).1) hN)
 |yes h1 h2 h3 h4 h5 r o=>exact .yes h1 h2 h3 (Nat.le_trans hN h4) (Nat.le_trans hN h5) (r.same (e _ h4)) (bR o (e _ h5))
section
variable [Gl]{ok:Ctx}{c:Frame}{Q:Value->World->Prop}
theorem az.changedOp (E:dr Tryz0.prog ok c Dr24)(hCh:ok.inn 39=true)(hTr:ok.inn 64=true)(hMd:ok.inn 286=true)(hRo:ok.inn 112=true)(hPl:ok.inn 132=true)(hSB:ok.inn 151=true)(hbt:ok.inn 181=false)(hCo:ok.inn 65=false){fb:Frame}{a:Act}{k:List Item}{cs:List Frame}{V:World}(hb:ok.inn fb.fn=true){ops:Array Oper}{i:Nat}{r:List Nat}{o:Oper}(ho:ops[i]?=some o)(hw:Region.wanted o (yielded ops a.tmps)=true)
  {b n cap b' m cap':Nat}{f:Nat->Mv}{t:Nat->Int}{now shift:Int}{name:ByteArray}(hx:∀w,(execOp a.eval o).run Tryz0.prog w=.ok (.enter 39 #[.agg #[.int .i64 now,.int .i64 shift,.slice (some ⟨b,0,none⟩) n cap,.slice (some ⟨b',0,none⟩) m cap'],.iface 73 (.agg #[.string name])]) w)
  (hn:n<=1048576)(hm2:m<=1048576)(hbs:b<V.heap.size)(hrow:an V b 0 n f)(hbs':b'<V.heap.size)(hrow':al V b' 0 m t)
  (hcont:∀x0 x1 x2 x3 cd V',fG f n t m now shift name V.heap.size V' x0 x1 x2 x3 cd->Bl V.heap.size V V'->az Tryz0.prog ok c Dr24 Q ⟨fb.at (a.put o.dst (.tuple #[.agg #[x0,x1,x2,x3],.int .i64 cd])) (.inRegion ops r::k),cs,V'⟩):az Tryz0.prog ok c Dr24 Q ⟨fb.at a (.inRegion ops (i::r)::k),cs,V⟩:=
 az.enterOp E ho hw hCh hx (tz E hCh hTr hMd hRo hPl hSB hbt hCo (r0:=fb.at a (.inRegion ops (i::r)::k)) hb hn hm2 hbs hrow hbs' hrow' (λx0 x1 x2 x3 cd V' h1 h2=>by rw[df ho];exact hcont x0 x1 x2 x3 cd V' h1 h2))
theorem nS (E:dr Tryz0.prog ok c Dr24)(hCh:ok.inn 39=true)(hTr:ok.inn 64=true)(hMd:ok.inn 286=true)(hRo:ok.inn 112=true)(hPl:ok.inn 132=true)(hSB:ok.inn 151=true)(hbt:ok.inn 181=false)(hCo:ok.inn 65=false)(hSR:ok.inn 20=true){r0:Frame}{cs:List Frame}{V:World}(hr0:ok.inn r0.fn=true)
  {b n cap b' m cap':Nat}{f:Nat->Mv}{t:Nat->Int}{now shift:Int}{name:ByteArray}(hn:n<=1048576)(hm2:m<=1048576)(hbs:b<V.heap.size)(hrow:an V b 0 n f)(hbs':b'<V.heap.size)(hrow':al V b' 0 m t)
  (hcont:∀x0 x1 x2 x3 cd V',fG f n t m now shift name V.heap.size V' x0 x1 x2 x3 cd->Bl V.heap.size V V'->az Tryz0.prog ok c Dr24 Q ⟨r0.finish (.tuple #[.agg #[x0,x1,x2,x3],.int .i64 cd]),cs,V'⟩):
  az Tryz0.prog ok c Dr24 Q ⟨Frame.enter Tryz0.prog 20 #[.agg #[.int .i64 now,.int .i64 shift,.slice (some ⟨b,0,none⟩) n cap,.slice (some ⟨b',0,none⟩) m cap'],.string name] .normal,r0::cs,V⟩:=by
 have hE:=enter_at (P:=Tryz0.prog) #[.agg #[.int .i64 now,.int .i64 shift,.slice (some ⟨b,0,none⟩) n cap,.slice (some ⟨b',0,none⟩) m cap'],.string name] Tryz0.func20 rfl;simp only[Tryz.ntmps20,List.size_toArray,List.length_cons,List.length_nil,Nat.reduceAdd,Nat.reduceSub,Array.replicate_succ,Array.replicate_zero,List.push_toArray,List.append_toArray,List.nil_append,List.cons_append]at hE;rw[hE];clear hE;obtain⟨B2,hB2⟩:∃x,x=V.heap.size:=⟨_,rfl⟩;obtain⟨B4,hB4⟩:∃x,x=V.heap.size+1:=⟨_,rfl⟩;refine az.chain E hSR [_] _ (λa' w'=>Bl V.heap.size V w'/\ar w' B2 now shift (.slice (some ⟨b,0,none⟩) n cap) (.slice (some ⟨b',0,none⟩) m cap')/\ar w' B4 0 0 (.slice none 0 0) (.slice none 0 0)/\bd a' (λu=>#[u 0,.string name,.pointer (some ⟨B2,0,none⟩),u 3,.pointer (some ⟨B4,0,none⟩),u 5,u 6,u 7,u 8,u 9,u 10,u 11,u 12])) (λ_ _=>False) ?_ ?_ (λ_ _ _ h=>h.elim)
 .intro τ d;have bW:Below (re V τ d).heap.size (re V τ d) (((re V τ d).alloc (.cells #[.int .i64 now,.int .i64 shift,.slice (some ⟨b,0,none⟩) n cap,.slice (some ⟨b',0,none⟩) m cap'] 32)).alloc (.cells #[.int .i64 0,.int .i64 0,.slice none 0 0,.slice none 0 0] 32)):=((Below.refl _ _).alloc (Nat.le_refl _) _).alloc (by simp) _;have k2:ar (((re V τ d).alloc (.cells #[.int .i64 now,.int .i64 shift,.slice (some ⟨b,0,none⟩) n cap,.slice (some ⟨b',0,none⟩) m cap'] 32)).alloc (.cells #[.int .i64 0,.int .i64 0,.slice none 0 0,.slice none 0 0] 32)) (re V τ d).heap.size now shift (.slice (some ⟨b,0,none⟩) n cap) (.slice (some ⟨b',0,none⟩) m cap'):=(Below.heap_alloc _ _ _ (by simp)).trans (heap_alloc_new _ _);have k4:=heap_alloc_new ((re V τ d).alloc (.cells #[.int .i64 now,.int .i64 shift,.slice (some ⟨b,0,none⟩) n cap,.slice (some ⟨b',0,none⟩) m cap'] 32)) (.cells #[.int .i64 0,.int .i64 0,.slice none 0 0,.slice none 0 0] 32);rw[show((re V τ d).alloc (.cells #[.int .i64 now,.int .i64 shift,.slice (some ⟨b,0,none⟩) n cap,.slice (some ⟨b',0,none⟩) m cap'] 32)).heap.size=(re V τ d).heap.size+1 by simp]at k4;clear hcont hrow hrow';simp only[aJ];go_wp2;left;refine⟨by first|rfl|trivial,Bl.ofR bW,?_,?_,?_⟩
  .rw[hB2];exact k2
  .rw[hB4];exact k4
  .rw[hB2,hB4];exact⟨rfl,rfl⟩
 rintro a' w1 ⟨hb1,k2,k4,hfr⟩;obtain⟨u,rfl⟩:=hfr.open;clear hfr;have hz1:=hb1.size;have o4:V.heap.size<B4:=by omega
 clear hB2 hB4;have row1:an w1 b 0 n f:=aK hrow (hb1.block b hbs);have tic1:al w1 b' 0 m t:=λi hi=>by have:=hrow' i hi;unfold World.cell? at this⊢;rw[hb1.block b' hbs'];exact this
 refine az.seq E hSR (az.region E hSR ?_);rw[bj];refine az.opsFrom E hSR 0 4 (by simp) (λa' w'=>(∃τ d,w'=re w1 τ d)/\bd a' (λu=>#[u 0,u 1,.pointer (some ⟨B2,0,none⟩),u 3,.pointer (some ⟨B4,0,none⟩),u 5,.agg #[.int .i64 now,.int .i64 shift,.slice (some ⟨b,0,none⟩) n cap,.slice (some ⟨b',0,none⟩) m cap'],u 7,u 8,.iface 73 (.agg #[.string name]),u 10,u 11,u 12])) ?_ ?_
 .intro τ d;have p2:ar (re w1 τ d) B2 now shift (.slice (some ⟨b,0,none⟩) n cap) (.slice (some ⟨b',0,none⟩) m cap'):=k2;obtain⟨y0,y1,y2,y3,y4⟩:=p2.cells;clear hcont;simp only[List.drop_zero,List.take_succ_cons,List.take_zero];go_wp2;exact⟨⟨τ,d,rfl⟩,rfl,rfl⟩
 rintro a' w' ⟨⟨τ,d,rfl⟩,hfr⟩;clear u;obtain⟨u,rfl⟩:=hfr.open;clear hfr;refine az.changedOp E hCh hTr hMd hRo hPl hSB hbt hCo hSR (i:=4) rfl rfl (b:=b) (n:=n) (cap:=cap) (b':=b') (m:=m) (cap':=cap') (f:=f) (t:=t) (now:=now) (shift:=shift) (name:=name) (λw=>by simp[execOp,resolve,invoke,Act.eval,go_sem]) hn hm2 (by show b<w1.heap.size;omega) (aK row1 rfl) (by show b'<w1.heap.size;omega) (λi hi=>tic1 i hi) ?_;intro x0 x1 x2 x3 cd V3 hC hb3';have hb3:Bl w1.heap.size w1 V3:=⟨hb3'.size,hb3'.block⟩;replace hC:fG f n t m now shift name w1.heap.size V3 x0 x1 x2 x3 cd:=hC;clear hb3';have hz3:=hb3.size;have l41:B4<w1.heap.size:=k4.lt;have p4:ar V3 B4 0 0 (.slice none 0 0) (.slice none 0 0):=k4.same (hb3.block B4 l41);have hb03:Bl V.heap.size V V3:=hb1.trans hb3 hz1;obtain⟨a0,a1,s2,l2,c2,s3,l3,c3,rfl,rfl,rfl,rfl⟩:=hC.shape;refine az.opsFrom E hSR 5 4 (by simp) (λa' w'=>w'.heap[B4]?=some (.cells #[.int .i64 a0,.int .i64 a1,.slice s2 l2 c2,.slice s3 l3 c3] 32 (0,0))/\fG f n t m now shift name V.heap.size w' (.int .i64 a0) (.int .i64 a1) (.slice s2 l2 c2) (.slice s3 l3 c3) cd/\Bl V.heap.size V w'/\bd a' (λu=>#[u 0,u 1,u 2,u 3,.pointer (some ⟨B4,0,none⟩),.int .i64 cd,u 6,u 7,u 8,u 9,u 10,u 11,u 12])) ?_ ?_
 .intro τ d;have q4:ar (re V3 τ d) B4 0 0 (.slice none 0 0) (.slice none 0 0):=p4;have hb0:Bl V.heap.size V (re V3 τ d):=⟨hb03.size,hb03.block⟩;have hC0:fG f n t m now shift name w1.heap.size (re V3 τ d) (.int .i64 a0) (.int .i64 a1) (.slice s2 l2 c2) (.slice s3 l3 c3) cd:=hC.keep (Nat.le_refl _) λ_ _=>rfl
  revert q4 hb0 hC0;generalize re V3 τ d=w0;intro q4 hb0 hC0;clear hcont p4 hb03 hC;obtain⟨z0,z1,z2,z3,z4⟩:=q4.cells;simp only[List.drop_succ_cons,List.drop_zero,List.take_succ_cons,List.take_zero,Act.put];go_wp2;rw[ep q4];exact⟨setRow_heap _ _ _ _ _ _ q4,hC0.keep hz1 λB hB=>setRow_other _ _ _ _ (by omega),⟨by rw[setRow_size];exact hb0.size,λk hk=>(setRow_other _ _ _ _ (by omega)).trans (hb0.block k hk)⟩,rfl,rfl⟩
 rintro a' w4 ⟨hc,hC4,hbl,hfr⟩;clear u;obtain⟨u,rfl⟩:=hfr.open;refine az.regionEnd E hSR (az.ret E hSR ?_);refine az.leave E hr0 (v:=.tuple #[.agg #[.int .i64 a0,.int .i64 a1,.slice s2 l2 c2,.slice s3 l3 c3],.int .i64 cd]) (λτ d=>⟨rfl,rfl,rfl,_,Tryz0.func20,?_⟩) (hcont _ _ _ _ _ _ hC4 hbl);have h:(re w4 τ d).heap[B4]?=_:=hc;have q0:(re w4 τ d).cell? ⟨B4,0,none⟩=some (.int .i64 a0):=by simp[World.cell?,h]
 have q1:(re w4 τ d).cell? ⟨B4,1,none⟩=some (.int .i64 a1):=by simp[World.cell?,h]
 have q2:(re w4 τ d).cell? ⟨B4,2,none⟩=some (.slice s2 l2 c2):=by simp[World.cell?,h]
 have q3:(re w4 τ d).cell? ⟨B4,3,none⟩=some (.slice s3 l3 c3):=by simp[World.cell?,h]
 show Sem.run Tryz0.prog (results Tryz.f20 ((λu=>#[u 0,u 1,u 2,u 3,.pointer (some ⟨B4,0,none⟩),.int .i64 cd,u 6,u 7,u 8,u 9,u 10,u 11,u 12]) u)) _=_;simp[results,Tryz.f20,go_sem,q0,q1,q2,q3]
end
theorem dR.bl {w w':World}{a:Option Addr}{n cap N:Nat}{f:Nat->Mv}(h:dR w a n cap f)(hN:w.heap.size<=N)(hb:Bl N w w'):dR w' a n cap f:=by
 obtain⟨h1,hz|⟨b,off,rfl,hlt,hr⟩,hf⟩:=h
 .exact⟨h1,.inl hz,hf⟩
 .exact⟨h1,.inr ⟨b,off,rfl,Nat.lt_of_lt_of_le hlt hb.size,aK hr (hb.block b (by omega))⟩,hf⟩
def cC (w:World)(b:Nat)(now shift:Int)(v u:Value):Prop:=w.heap[b]?=some (.cells #[.int .i64 now,.int .i64 shift,v,u] 25 (0,0))
theorem cC.lt {w:World}{b:Nat}{now shift:Int}{v u:Value}(h:cC w b now shift v u):b<w.heap.size:=(Array.getElem?_eq_some_iff.1 h).1
theorem cC.same {w w':World}{b:Nat}{now shift:Int}{v u:Value}(h:cC w b now shift v u)(e:w'.heap[b]?=w.heap[b]?):cC w' b now shift v u:=e.trans h
theorem cC.cells {w:World}{b:Nat}{now shift:Int}{v u:Value}(h:cC w b now shift v u):w.cell? ⟨b,0,none⟩=some (.int .i64 now)/\w.cell? ⟨b,1,none⟩=some (.int .i64 shift)/\w.cell? ⟨b,2,none⟩=some v/\w.cell? ⟨b,3,none⟩=some u:=by
 unfold cC at h;refine⟨?_,?_,?_,?_⟩<;>simp[World.cell?,h]
theorem cI.bl {w w':World}{a:Option Addr}{n N:Nat}{t:Nat->Int}(h:cI w a n t)(hN:w.heap.size<=N)(hb:Bl N w w'):cI w' a n t:=by
 obtain⟨h1,hz|⟨b,off,rfl,hlt,hr⟩,hf⟩:=h
 .exact⟨h1,.inl hz,hf⟩
 .exact⟨h1,.inr ⟨b,off,rfl,Nat.lt_of_lt_of_le hlt hb.size,λi hi=>by have:=hr i hi;simp only[World.cell?,hb.block b (by omega)]at this⊢;exact this⟩,hf⟩
section
variable [Gl]{ok:Ctx}{c:Frame}{Q:Value->World->Prop}
end
end Go.Proofs.YtlmcblcijndipabGreatDoor
namespace Go.Proofs.YtlmcblcijndipabGreatDoor
open Go Go.RowKit
structure dK (w:World)(lo hi B:Nat)(x y:Int)(v u:Value)(n:Nat)(f:Nat->Mv)(m:Nat)(t:Nat->Int):Prop where
 le:lo<=hi
 top:hi<=B
 box:ar w B x y v u
 mv:cV w lo hi v n f
 tk:cP w lo hi u m t
section
variable {w w':World}{lo hi B:Nat}{x y:Int}{v u:Value}{n:Nat}{f:Nat->Mv}{m:Nat}{t:Nat->Int}
theorem dK.keep (h:dK w lo hi B x y v u n f m t)(hz:w.heap.size<=w'.heap.size)(e:∀k,lo<=k->k<=B->w'.heap[k]?=w.heap[k]?):dK w' lo hi B x y v u n f m t:=
 have h1:=h.le;have h2:=h.top
 ⟨h1,h2,h.box.same (e B (by omega) (Nat.le_refl _)),h.mv.keep hz (λ_ k _ a b _=>e k a (by omega)),h.tk.keep hz (λ_ k _ a b _=>e k a (by omega))⟩
theorem dK.lt (h:dK w lo hi B x y v u n f m t):B<w.heap.size:=h.box.lt
theorem dK.bl {N:Nat}(h:dK w lo hi B x y v u n f m t)(hb:Bl N w w')(hN:B<N):dK w' lo hi B x y v u n f m t:=h.keep hb.size λk _ hk=>hb.block k (by omega)
theorem dK.bel {N:Nat}(h:dK w lo hi B x y v u n f m t)(hb:Below N w w')(hN:B<N):dK w' lo hi B x y v u n f m t:=h.keep hb.size λk _ hk=>hb.block k (by omega)
theorem dK.mid {a b:Nat}(h:dK w lo hi B x y v u n f m t)(hm:vH a b w w')(hd:B<a\/b<=lo):dK w' lo hi B x y v u n f m t:=
 have:=h.lt;h.keep hm.size λk h1 h2=>hm.block k (by omega) (by omega)
theorem dK.eq {lo' hi' B':Nat}{v' u':Value}(h:dK w lo hi B x y v u n f m t)(h':dK w lo' hi' B' x y v' u' n f m t)(hn:n<=1048576)(hm:m<=1048576):
  Calls Tryz0.prog 14 #[xK x y v u,xK x y v' u'] w λe w'=>e=.returned (.bool true)/\Below w.heap.size w w':=
 have h1:=h.lt;have h2:=h.top;have h3:=h'.lt;have h4:=h'.top;rG x y hn hm h.mv h'.mv h.tk h'.tk (by omega) (by omega)
theorem dK.mark (h:dK w lo hi B x y v u n f m t)(hn:n<=1048576)(hm:m<=1048576):
  Calls Tryz0.prog 15 #[xK x y v u,.int .i64 1] w λe w'=>e=.returned (.int .i64 (1+n*6+m))/\dK w' lo hi B x y v u n (cW 1) m (λi=>1+n*6+i)/\vH lo hi w w':=
 have h1:=h.lt;have h2:=h.top
 (rM x y 1 hn hm (by omega) (by omega) h.mv h.tk h.le (by omega)).mono λe w' ⟨a1,a2,a3,a4,_⟩=>⟨a1,⟨h.le,h.top,h.box.same (a4.block B h1 (.inr h2)),a2,a3⟩,a4⟩
theorem dK.held (h:dK w lo hi B x y v u n (cW 1) m (λi=>1+n*6+i))(hn:n<=1048576)(hm:m<=1048576):
  Calls Tryz0.prog 16 #[xK x y v u,.int .i64 1] w λe w'=>e=.returned (.int .i64 (1+n*6+m))/\Below w.heap.size w w':=
 have h1:=h.lt;have h2:=h.top;tt x y 1 hn hm (by omega) (by omega) h.mv h.tk (by omega)
theorem dK.new (h1:cV w lo hi v n f)(h2:cP w lo hi u m t)(hl:lo<=hi)(hh:hi<=w.heap.size):dK (w.alloc (.cells #[.int .i64 x,.int .i64 y,v,u] 32)) lo hi w.heap.size x y v u n f m t:=
 have b:=(Below.refl _ w).alloc (Nat.le_refl _) (.cells #[.int .i64 x,.int .i64 y,v,u] 32)
 ⟨hl,hh,heap_alloc_new _ _,h1.below b hh,h2.below b hh⟩
end
end Go.Proofs.YtlmcblcijndipabGreatDoor
