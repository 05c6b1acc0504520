import Derived.Test.YtlmcblcijndipabGreatDoorDr47
import Derived.Test.YtlmcblcijndipabGreatDoorDr43
import Derived.Stop.Asserts
import Derived.Test.YtlmcblcijndipabGreatDoorDr46
import Derived.Conc.LeavingOf
import Derived.Handed
import Derived.LaidLaws
import Derived.LaidHandle
import Derived.ChangeSame
import Derived.ChangeVars
import Derived.Test.YtlmcblcijndipabGreatDoorDr35
import Derived.Test.YtlmcblcijndipabGreatDoorCards
import Derived.Test.YtlmcblcijndipabGreatDoorTie
import Derived.Test.YtlmcblcijndipabGreatDoorDr44
import Derived.Stop.Joined
import Derived.SevenTiedAt
set_option linter.unusedVariables false
set_option linter.unusedSimpArgs false
set_option maxHeartbeats 4000000
set_option maxRecDepth 100000
namespace Go.Proofs.YtlmcblcijndipabGreatDoor
section
open Go Go.Conc Go.RowKit
theorem BY (v:Value)(w:World):(Instr.typeAssert (.iface 70 v) 104 131 true).run Tryz0.prog w=.ok (.tuple #[.nilIface,.bool false]) w:=run_typeAssert_lacksB (Tryz0.tr_underlying Tryz.underlying131) (by kernel_rfl) (by kernel_rfl) v 104 w
inductive AG (f:Nat->Mv)(n:Nat)(t:Nat->Int)(m:Nat)(now shift:Int)(name:ByteArray)(N:Nat)(V':World):Value->Value->Value->Value->Value->Prop
 |bad:aO now shift f n t m=false->AG f n t m now shift name N V' (.int .i64 0) (.int .i64 0) (.slice none 0 0) (.slice none 0 0) (.iface 128 (.agg #[.int .i64 1]))
 |no {k cd:Int}:aO now shift f n t m=true->co f n name k->gh f n t now shift k=.no cd->AG f n t m now shift name N V' (.int .i64 0) (.int .i64 0) (.slice none 0 0) (.slice none 0 0) (.iface 128 (.agg #[.int .i64 cd]))
 |yes {k:Int} {p:Nat} {T:Nat->Int} {BN c2 BT c3:Nat}:aO now shift f n t m=true->co f n name k->gh f n t now shift k=.yes p T->N<=BN->N<=BT->jz V' BN (n-1) (aN f p)->em V' BT (n-1) T->
   AG f n t m now shift name N V' (.int .i64 now) (.int .i64 shift) (.slice (some ⟨BN,0,none⟩) (n-1) c2) (.slice (some ⟨BT,0,none⟩) (n-1) c3) .nilIface
section
variable [Gl]{ok:Ctx}{c:Frame}{Q:Value->World->Prop}
theorem ar.goesOp (E:cE Tryz0.prog ok c Dr24)(hMd:ok.inn 282=true)(hSu:ok.inn 91=true)(hRo:ok.inn 112=true)(hPl:ok.inn 132=true)(hSB:ok.inn 151=true)(hbt:ok.inn 181=false){fb:Frame}{a:Act}{k:List Item}{cs:List Frame}{V:World}(hb:ok.inn fb.fn=true){ops:Array Oper}{i:Nat}{r:List Nat}{o:Oper}(ho:ops[i]?=some o)(hw:Region.wanted o (yielded ops a.tmps)=true)
  {b n cap b' cap':Nat}{f:Nat->Mv}{t:Nat->Int}{now shift:Int}{name:ByteArray}(hx:∀w,(execOp a.eval o).run Tryz0.prog w=.ok (.enter 282 #[.agg #[.string name],.agg #[.int .i64 now,.int .i64 shift,.slice (some ⟨b,0,none⟩) n cap,.slice (some ⟨b',0,none⟩) n cap']]) w)
  (hm:aq f n=true)(h0:0<=now)(h1:now<=20000)(hbs:b<V.heap.size)(hrow:al V b 0 n f)(hbs':b'<V.heap.size)(hrow':ag V b' 0 n t)
  (hcont:∀v V',uJ f n t now shift name V v V'->ar Tryz0.prog ok c Dr24 Q ⟨fb.at (a.put o.dst v) (.inRegion ops r::k),cs,V'⟩):ar Tryz0.prog ok c Dr24 Q ⟨fb.at a (.inRegion ops (i::r)::k),cs,V⟩:=
 ar.enterOp E ho hw hMd hx (AD E hMd hSu hRo hPl hSB hbt (r0:=fb.at a (.inRegion ops (i::r)::k)) hb hm h0 h1 hbs hrow hbs' hrow' (λv V' hv=>by rw[c9 ho];exact hcont v V' hv))
theorem wZ (E:cE Tryz0.prog ok c Dr24)(hTr:ok.inn 64=true)(hMd:ok.inn 282=true)(hSu:ok.inn 91=true)(hRo:ok.inn 112=true)(hPl:ok.inn 132=true)(hSB:ok.inn 151=true)(hbt:ok.inn 181=false){r0:Frame}{cs:List Frame}{V:World}(hr0:ok.inn r0.fn=true)
  {b n cap b' m cap':Nat}{f:Nat->Mv}{t:Nat->Int}{now shift:Int}{name:ByteArray}(hn:n<=1048576)(hm1:m<=maxLen)(hbs:b<V.heap.size)(hrow:al V b 0 n f)(hbs':b'<V.heap.size)(hrow':ag V b' 0 m t)
  (hcont:∀x0 x1 x2 x3 ev V',AG f n t m now shift name V.heap.size V' x0 x1 x2 x3 ev->Bl V.heap.size V V'->ar Tryz0.prog ok c Dr24 Q ⟨r0.finish (.tuple #[.agg #[x0,x1,x2,x3],ev]),cs,V'⟩):
  ar Tryz0.prog ok c Dr24 Q ⟨Frame.enter Tryz0.prog 64 #[.agg #[.int .i64 now,.int .i64 shift,.slice (some ⟨b,0,none⟩) n cap,.slice (some ⟨b',0,none⟩) m cap'],.iface 70 (.agg #[.string name])] .normal,r0::cs,V⟩:=by
 have hE:=enter_at (P:=Tryz0.prog) #[.agg #[.int .i64 now,.int .i64 shift,.slice (some ⟨b,0,none⟩) n cap,.slice (some ⟨b',0,none⟩) m cap'],.iface 70 (.agg #[.string name])] Tryz0.func64 rfl;simp only[Tryz.ntmps64,List.size_toArray,List.length_cons,List.length_nil,Nat.reduceAdd,Nat.reduceSub,Array.replicate_succ,Array.replicate_zero,List.push_toArray,List.append_toArray,List.nil_append,List.cons_append]at hE;rw[hE];clear hE;obtain⟨B2,hB2⟩:∃x,x=V.heap.size:=⟨_,rfl⟩;obtain⟨B4,hB4⟩:∃x,x=V.heap.size+1:=⟨_,rfl⟩;have hret:∀(x0 x1 x2 x3 ev:Value) (a':Act) (w':World) (todo:List Item),(w'.heap[B4]?=some (.cells #[x0,x1,x2,x3] 32 (0,0))/\AG f n t m now shift name V.heap.size w' x0 x1 x2 x3 ev/\Bl V.heap.size V w'/\aW a' (λu=>#[u 0,u 1,u 2,u 3,.pointer (some ⟨B4,0,none⟩),ev,u 6,u 7,u 8,u 9,u 10,u 11,u 12,u 13,u 14,u 15,u 16,u 17,u 18,u 19,u 20,u 21,u 22,u 23,u 24,u 25,u 26,u 27,u 28,u 29,u 30,u 31,u 32,u 33,u 34,u 35,u 36,u 37,u 38]))->
   ar Tryz0.prog ok c Dr24 Q ⟨{(base 64).at a' todo with mode:=.returning},r0::cs,w'⟩:=by
  rintro x0 x1 x2 x3 ev a' w' todo ⟨hc,ht,hbl,hfr⟩;obtain⟨u,rfl⟩:=hfr.open;refine ar.leave E hr0 (v:=.tuple #[.agg #[x0,x1,x2,x3],ev]) (λτ d=>⟨rfl,rfl,rfl,_,Tryz0.func64,?_⟩) (hcont _ _ _ _ _ _ ht hbl);have h:(re w' τ d).heap[B4]?=_:=hc;have q0:(re w' τ d).cell? ⟨B4,0,none⟩=some x0:=by simp[World.cell?,h]
  have q1:(re w' τ d).cell? ⟨B4,1,none⟩=some x1:=by simp[World.cell?,h]
  have q2:(re w' τ d).cell? ⟨B4,2,none⟩=some x2:=by simp[World.cell?,h]
  have q3:(re w' τ d).cell? ⟨B4,3,none⟩=some x3:=by simp[World.cell?,h]
  show Sem.run Tryz0.prog (results Tryz.f64 ((λu=>#[u 0,u 1,u 2,u 3,.pointer (some ⟨B4,0,none⟩),ev,u 6,u 7,u 8,u 9,u 10,u 11,u 12,u 13,u 14,u 15,u 16,u 17,u 18,u 19,u 20,u 21,u 22,u 23,u 24,u 25,u 26,u 27,u 28,u 29,u 30,u 31,u 32,u 33,u 34,u 35,u 36,u 37,u 38]) u)) _=_;simp[results,Tryz.f64,go_sem,q0,q1,q2,q3]
 refine ar.chainM E hTr [_,_] _ (λa' w'=>aO now shift f n t m=true/\Bl V.heap.size V w'/\am w' B2 now shift (.slice (some ⟨b,0,none⟩) n cap) (.slice (some ⟨b',0,none⟩) m cap')/\am w' B4 0 0 (.slice none 0 0) (.slice none 0 0)/\aW a' (λu=>#[u 0,.iface 70 (.agg #[.string name]),.pointer (some ⟨B2,0,none⟩),u 3,.pointer (some ⟨B4,0,none⟩),.nilIface,u 6,u 7,u 8,u 9,u 10,u 11,u 12,u 13,u 14,u 15,u 16,u 17,u 18,u 19,u 20,u 21,u 22,u 23,u 24,u 25,u 26,u 27,u 28,u 29,u 30,u 31,u 32,u 33,u 34,u 35,u 36,u 37,u 38]))
  (λa' w'=>w'.heap[B4]?=some (.cells #[.int .i64 0,.int .i64 0,.slice none 0 0,.slice none 0 0] 32 (0,0))/\AG f n t m now shift name V.heap.size w' (.int .i64 0) (.int .i64 0) (.slice none 0 0) (.slice none 0 0) (.iface 128 (.agg #[.int .i64 1]))/\Bl V.heap.size V w'/\aW a' (λu=>#[u 0,u 1,u 2,u 3,.pointer (some ⟨B4,0,none⟩),.iface 128 (.agg #[.int .i64 1]),u 6,u 7,u 8,u 9,u 10,u 11,u 12,u 13,u 14,u 15,u 16,u 17,u 18,u 19,u 20,u 21,u 22,u 23,u 24,u 25,u 26,u 27,u 28,u 29,u 30,u 31,u 32,u 33,u 34,u 35,u 36,u 37,u 38])) ?_ ?_ (λa' w' todo h=>hret _ _ _ _ _ a' w' todo h)
 .intro τ d;have hz0:(re V τ d).heap.size=V.heap.size:=rfl;have bW:Below (re V τ d).heap.size (re V τ d) (((re V τ d).alloc (.cells #[.int .i64 now,.int .i64 shift,.slice (some ⟨b,0,none⟩) n cap,.slice (some ⟨b',0,none⟩) m cap'] 32)).alloc (.cells #[.int .i64 0,.int .i64 0,.slice none 0 0,.slice none 0 0] 32)):=((Below.refl _ _).alloc (Nat.le_refl _) _).alloc (by simp) _;have H1:=kW now shift b 0 n cap f b' 0 m cap' t (((re V τ d).alloc (.cells #[.int .i64 now,.int .i64 shift,.slice (some ⟨b,0,none⟩) n cap,.slice (some ⟨b',0,none⟩) m cap'] 32)).alloc (.cells #[.int .i64 0,.int .i64 0,.slice none 0 0,.slice none 0 0] 32)) hn hm1 (Nat.lt_of_lt_of_le hbs bW.size) ((aK (w':=re V τ d) hrow rfl).below bW hbs) (Nat.lt_of_lt_of_le hbs' bW.size) (ag.below (w:=re V τ d) (λi hi=>hrow' i hi) bW hbs');have k2:am (((re V τ d).alloc (.cells #[.int .i64 now,.int .i64 shift,.slice (some ⟨b,0,none⟩) n cap,.slice (some ⟨b',0,none⟩) m cap'] 32)).alloc (.cells #[.int .i64 0,.int .i64 0,.slice none 0 0,.slice none 0 0] 32)) (re V τ d).heap.size now shift (.slice (some ⟨b,0,none⟩) n cap) (.slice (some ⟨b',0,none⟩) m cap'):=(Below.heap_alloc _ _ _ (by simp)).trans (heap_alloc_new _ _);have k4:=heap_alloc_new ((re V τ d).alloc (.cells #[.int .i64 now,.int .i64 shift,.slice (some ⟨b,0,none⟩) n cap,.slice (some ⟨b',0,none⟩) m cap'] 32)) (.cells #[.int .i64 0,.int .i64 0,.slice none 0 0,.slice none 0 0] 32);rw[show((re V τ d).alloc (.cells #[.int .i64 now,.int .i64 shift,.slice (some ⟨b,0,none⟩) n cap,.slice (some ⟨b',0,none⟩) m cap'] 32)).heap.size=(re V τ d).heap.size+1 by simp]at k4;have k4:am (((re V τ d).alloc (.cells #[.int .i64 now,.int .i64 shift,.slice (some ⟨b,0,none⟩) n cap,.slice (some ⟨b',0,none⟩) m cap'] 32)).alloc (.cells #[.int .i64 0,.int .i64 0,.slice none 0 0,.slice none 0 0] 32)) ((re V τ d).heap.size+1) 0 0 (.slice none 0 0) (.slice none 0 0):=k4;have hbl0:∀W,Below (re V τ d).heap.size (re V τ d) W->Bl V.heap.size V W:=λW h=>Bl.ofR h
  clear hcont hret hrow hrow';simp only[aB];cases hb:aO now shift f n t m with
  |true=>
   rw[hb]at H1;go_wp2_with(go_at_call 90;refine H1.mono ?_;clear H1;rintro e w1 ⟨rfl,b1⟩)
   refine⟨by first|rfl|trivial,hbl0 _ (bW.trans (b1.mono bW.size)),?_,?_,?_⟩
   .rw[hB2];exact k2.same (b1.block _ (by simp<;>omega))
   .rw[hB4];exact k4.same (b1.block _ (by simp))
   .rw[hB2,hB4];exact⟨rfl,rfl⟩
  |false=>
   rw[hb]at H1;rw[hB4];clear hB2 hB4;go_wp2_with(go_at_call 90;refine H1.mono ?_;clear H1;rintro e w1 ⟨rfl,b1⟩;have j4:am w1 (V.heap.size+1) 0 0 (.slice none 0 0) (.slice none 0 0):=k4.same (b1.block _ (by simp));obtain⟨z0,z1,z2,z3,z4⟩:=j4.cells)
   rw[eO j4];have hbw:=hbl0 _ (bW.trans (b1.mono bW.size));exact⟨setRow_heap _ _ _ _ _ _ j4,.bad hb,⟨by rw[setRow_size];exact hbw.size,λk hk=>(setRow_other _ _ _ _ (by omega)).trans (hbw.block k hk)⟩,rfl,rfl⟩
 rintro a' w1 ⟨hbook,hb1,k2,k4,hfr⟩;obtain⟨u,rfl⟩:=hfr.open;clear hfr;obtain⟨hm,hmn,hf⟩:=io hbook;subst hmn;have h6:=aF hm;have hz1:=hb1.size;have o4:V.heap.size<B4:=by omega
 have o2:V.heap.size<=B2:=by omega
 clear hB2 hB4;have row1:al w1 b 0 m f:=aK hrow (hb1.block b hbs);have tic1:ag w1 b' 0 m t:=λi hi=>by have:=hrow' i hi;unfold World.cell? at this⊢;rw[hb1.block b' hbs'];exact this
 refine ar.seq E hTr (ar.region E hTr ?_);rw[aY];refine ar.opsFrom E hTr 0 2 (by simp) (λa' w'=>(∃τ d,w'=re w1 τ d)/\aW a' (λu=>#[u 0,.iface 70 (.agg #[.string name]),.pointer (some ⟨B2,0,none⟩),u 3,.pointer (some ⟨B4,0,none⟩),.nilIface,u 6,u 7,u 8,u 9,u 10,u 11,u 12,u 13,u 14,u 15,u 16,.iface 70 (.agg #[.string name]),.agg #[.int .i64 now,.int .i64 shift,.slice (some ⟨b,0,none⟩) m cap,.slice (some ⟨b',0,none⟩) m cap'],u 19,u 20,u 21,u 22,u 23,u 24,u 25,u 26,u 27,u 28,u 29,u 30,u 31,u 32,u 33,u 34,u 35,u 36,u 37,u 38])) ?_ ?_
 .intro τ d;have p2:am (re w1 τ d) B2 now shift (.slice (some ⟨b,0,none⟩) m cap) (.slice (some ⟨b',0,none⟩) m cap'):=k2;obtain⟨y0,y1,y2,y3,y4⟩:=p2.cells;clear hcont hret;simp only[List.drop_zero,List.take_succ_cons,List.take_zero];go_wp2;exact⟨⟨τ,d,rfl⟩,rfl,rfl⟩
 rintro a' w' ⟨⟨τ,d,rfl⟩,hfr⟩;clear u;obtain⟨u,rfl⟩:=hfr.open;clear hfr;refine ar.goesOp E hMd hSu hRo hPl hSB hbt hTr (i:=2) rfl rfl (b:=b) (n:=m) (cap:=cap) (b':=b') (cap':=cap') (f:=f) (t:=t) (now:=now) (shift:=shift) (name:=name) (λw=>by kernel_rfl) hm (oA hbook).1 (by have:=(oA hbook).2;omega) (by show b<w1.heap.size;omega) (aK row1 rfl) (by show b'<w1.heap.size;omega) (λi hi=>tic1 i hi) ?_;rintro v V3 ⟨hb3',k,hk,hpost⟩;have hb3:Bl w1.heap.size w1 V3:=⟨hb3'.size,hb3'.block⟩;clear hb3';have hz3:=hb3.size;have l41:B4<w1.heap.size:=k4.lt;have p4:am V3 B4 0 0 (.slice none 0 0) (.slice none 0 0):=k4.same (hb3.block B4 l41);have hb03:Bl V.heap.size V V3:=hb1.trans hb3 hz1;cases hrd:gh f m t now shift k with
 |no cd=>
  rw[hrd]at hpost;subst hpost;refine ar.opsFrom E hTr 3 6 (by simp) (λa' w'=>∃B6,V3.heap.size<=B6/\w'.heap[B6]?=some (.cells #[.int .i64 0,.int .i64 0,.slice none 0 0,.slice none 0 0] 32 (0,0))/\Bl V3.heap.size V3 w'/\aW a' (λu=>#[u 0,.iface 70 (.agg #[.string name]),u 2,u 3,.pointer (some ⟨B4,0,none⟩),.nilIface,.pointer (some ⟨B6,0,none⟩),.iface 128 (.agg #[.int .i64 cd]),u 8,u 9,u 10,u 11,u 12,u 13,u 14,u 15,u 16,u 17,u 18,u 19,u 20,u 21,u 22,u 23,u 24,u 25,u 26,u 27,u 28,u 29,u 30,u 31,u 32,u 33,u 34,u 35,u 36,u 37,u 38])) ?_ ?_
  .intro τ d;clear hcont hret p4 hb03;simp only[List.drop_succ_cons,List.drop_zero,List.take_succ_cons,List.take_zero,Act.put];go_wp2;exact⟨_,Nat.le_refl _,heap_alloc_new _ _,⟨by show V3.heap.size<=(V3.heap.push _).size;simp,λk hk=>Below.heap_alloc _ _ _ hk⟩,rfl,rfl⟩
  rintro a' w4 ⟨B6,hB6,n6,hb4,hfr⟩;clear u;obtain⟨u,rfl⟩:=hfr.open;clear hfr;have hz4:=hb4.size;have l4:=p4.lt;have q4:am w4 B4 0 0 (.slice none 0 0) (.slice none 0 0):=p4.same (hb4.block B4 l4);have hb04:Bl V.heap.size V w4:=hb03.trans hb4 (by omega);have hne:B4≠B6:=by omega
  refine ar.regionEnd E hTr ?_;refine ar.chain E hTr [_] _ (λ_ _=>False) (λa' w'=>w'.heap[B4]?=some (.cells #[.int .i64 0,.int .i64 0,.slice none 0 0,.slice none 0 0] 32 (0,0))/\AG f m t m now shift name V.heap.size w' (.int .i64 0) (.int .i64 0) (.slice none 0 0) (.slice none 0 0) (.iface 128 (.agg #[.int .i64 cd]))/\Bl V.heap.size V w'/\aW a' (λu=>#[u 0,u 1,u 2,u 3,.pointer (some ⟨B4,0,none⟩),.iface 128 (.agg #[.int .i64 cd]),u 6,u 7,u 8,u 9,u 10,u 11,u 12,u 13,u 14,u 15,u 16,u 17,u 18,u 19,u 20,u 21,u 22,u 23,u 24,u 25,u 26,u 27,u 28,u 29,u 30,u 31,u 32,u 33,u 34,u 35,u 36,u 37,u 38])) ?_ (λ_ _ h=>h.elim) (λa' w' todo h=>hret _ _ _ _ _ a' w' todo h);intro τ d;have p4:am (re w4 τ d) B4 0 0 (.slice none 0 0) (.slice none 0 0):=q4;have p6:(re w4 τ d).heap[B6]?=some (.cells #[.int .i64 0,.int .i64 0,.slice none 0 0,.slice none 0 0] 32 (0,0)):=n6;have hb0:Bl V.heap.size V (re w4 τ d):=⟨hb04.size,hb04.block⟩;revert p4 p6 hb0;generalize re w4 τ d=w0;intro p4 p6 hb0;clear hret hcont q4 hb04 n6;obtain⟨z0,z1,z2,z3,z4⟩:=p4.cells;simp only[aB];go_wp2;all_goals first|(exfalso;omega)|skip
  rw[eO p4];right;exact⟨by first|rfl|trivial,setRow_heap _ _ _ _ _ _ p4,.no hbook hk hrd,⟨by rw[setRow_size];exact hb0.size,λk hk=>(setRow_other _ _ _ _ (by omega)).trans (hb0.block k hk)⟩,rfl,rfl⟩
 |yes p T=>
  rw[hrd]at hpost;obtain⟨BN,c2,BT,c3,rfl,hBN,hBT,lK,oT⟩:=hpost;replace hBN:w1.heap.size<=BN:=hBN;replace hBT:w1.heap.size<=BT:=hBT;have lT:BT<V3.heap.size:=by obtain⟨⟨cs,hc,_⟩,_⟩:=oT;exact(Array.getElem?_eq_some_iff.1 hc).1
  refine ar.opsFrom E hTr 3 6 (by simp) (λa' w'=>∃B6,V3.heap.size<=B6/\w'.heap[B6]?=some (.cells #[.int .i64 now,.int .i64 shift,.slice (some ⟨BN,0,none⟩) (m-1) c2,.slice (some ⟨BT,0,none⟩) (m-1) c3] 32 (0,0))/\Bl V3.heap.size V3 w'/\aW a' (λu=>#[u 0,.iface 70 (.agg #[.string name]),u 2,u 3,.pointer (some ⟨B4,0,none⟩),.nilIface,.pointer (some ⟨B6,0,none⟩),.nilIface,u 8,u 9,u 10,u 11,u 12,u 13,u 14,u 15,u 16,u 17,u 18,u 19,u 20,u 21,u 22,u 23,u 24,u 25,u 26,u 27,u 28,u 29,u 30,u 31,u 32,u 33,u 34,u 35,u 36,u 37,u 38])) ?_ ?_
  .intro τ d;clear hcont hret p4 hb03;simp only[List.drop_succ_cons,List.drop_zero,List.take_succ_cons,List.take_zero,Act.put];go_wp2;exact⟨_,Nat.le_refl _,heap_alloc_new _ _,⟨by show V3.heap.size<=(V3.heap.push _).size;simp,λk hk=>Below.heap_alloc _ _ _ hk⟩,rfl,rfl⟩
  rintro a' w4 ⟨B6,hB6,n6,hb4,hfr⟩;clear u;obtain⟨u,rfl⟩:=hfr.open;clear hfr;have hz4:=hb4.size;have l4:=p4.lt;have q4:am w4 B4 0 0 (.slice none 0 0) (.slice none 0 0):=p4.same (hb4.block B4 l4);have hb04:Bl V.heap.size V w4:=hb03.trans hb4 (by omega);have hne:B4≠B6:=by omega
  refine ar.regionEnd E hTr ?_;have rowN4:jz w4 BN (m-1) (aN f p):=lK.same (hb4.block BN lK.lt);have oT4:em w4 BT (m-1) T:=aT oT (hb4.block BT lT);have h4N:BN≠B4:=by omega
  have h4T:BT≠B4:=by omega
  refine ar.last E hTr [_,_,_] (λa' w'=>w'.heap[B4]?=some (.cells #[.int .i64 now,.int .i64 shift,.slice (some ⟨BN,0,none⟩) (m-1) c2,.slice (some ⟨BT,0,none⟩) (m-1) c3] 32 (0,0))/\AG f m t m now shift name V.heap.size w' (.int .i64 now) (.int .i64 shift) (.slice (some ⟨BN,0,none⟩) (m-1) c2) (.slice (some ⟨BT,0,none⟩) (m-1) c3) .nilIface/\Bl V.heap.size V w'/\aW a' (λu=>#[u 0,u 1,u 2,u 3,.pointer (some ⟨B4,0,none⟩),.nilIface,u 6,u 7,u 8,u 9,u 10,u 11,u 12,u 13,u 14,u 15,u 16,u 17,u 18,u 19,u 20,u 21,u 22,u 23,u 24,u 25,u 26,u 27,u 28,u 29,u 30,u 31,u 32,u 33,u 34,u 35,u 36,u 37,u 38])) ?_ (λa' w' todo h=>hret _ _ _ _ _ a' w' todo h);intro τ d;have p4:am (re w4 τ d) B4 0 0 (.slice none 0 0) (.slice none 0 0):=q4;have p6:(re w4 τ d).heap[B6]?=some (.cells #[.int .i64 now,.int .i64 shift,.slice (some ⟨BN,0,none⟩) (m-1) c2,.slice (some ⟨BT,0,none⟩) (m-1) c3] 32 (0,0)):=n6;have hb0:Bl V.heap.size V (re w4 τ d):=⟨hb04.size,hb04.block⟩;have r0':jz (re w4 τ d) BN (m-1) (aN f p):=rowN4.same rfl;have o0':em (re w4 τ d) BT (m-1) T:=aT oT4 rfl;revert p4 p6 hb0 r0' o0';generalize re w4 τ d=w0;intro p4 p6 hb0 r0' o0';clear hret hcont q4 hb04 n6 lK oT rowN4 oT4;obtain⟨z0,z1,z2,z3,z4⟩:=p4.cells;have p6':am w0 B6 now shift (.slice (some ⟨BN,0,none⟩) (m-1) c2) (.slice (some ⟨BT,0,none⟩) (m-1) c3):=p6;obtain⟨y0,y1,y2,y3,y4⟩:=p6'.cells;have hTA:=BY;simp only[aB];go_wp2;all_goals first|(exfalso;omega)|skip
  rw[eO p4];left;exact⟨by first|rfl|trivial,setRow_heap _ _ _ _ _ _ p4,.yes hbook hk hrd (by omega) (by omega) (r0'.same (setRow_other _ _ _ _ h4N)) (aT o0' (setRow_other _ _ _ _ h4T)),⟨by rw[setRow_size];exact hb0.size,λk hk=>(setRow_other _ _ _ _ (by omega)).trans (hb0.block k hk)⟩,rfl,rfl⟩
end
theorem zg {f:Nat->Mv}{n:Nat}{t:Nat->Int}{now shift k cd:Int}(h:gh f n t now shift k=.no cd):1<cd:=by
 unfold gh at h;split at h
 .cases h;decide
 .cases h
inductive pa (f:Nat->Mv)(n:Nat)(t:Nat->Int)(m:Nat)(now shift:Int)(name:ByteArray)(N:Nat)(V':World):Value->Value->Value->Value->Int->Prop
 |bad:aO now shift f n t m=false->pa f n t m now shift name N V' (.int .i64 0) (.int .i64 0) (.slice none 0 0) (.slice none 0 0) 1
 |no {k cd:Int} {v u:Value}:aO now shift f n t m=true->co f n name k->gh f n t now shift k=.no cd->V'.ownsRow N 36 6 v n (d8 f n)->V'.ownsRow N 3 1 u m (bH t m)->pa f n t m now shift name N V' (.int .i64 now) (.int .i64 shift) v u cd
 |yes {k:Int} {p:Nat} {T:Nat->Int} {BN c2 BT c3:Nat}:aO now shift f n t m=true->co f n name k->gh f n t now shift k=.yes p T->N<=BN->N<=BT->jz V' BN (n-1) (aN f p)->em V' BT (n-1) T->
   pa f n t m now shift name N V' (.int .i64 now) (.int .i64 shift) (.slice (some ⟨BN,0,none⟩) (n-1) c2) (.slice (some ⟨BT,0,none⟩) (n-1) c3) 0
section
variable [Gl]{ok:Ctx}{c:Frame}{Q:Value->World->Prop}
theorem ar.triedOpG (E:cE Tryz0.prog ok c Dr24)(hTr:ok.inn 64=true)(hMd:ok.inn 282=true)(hSu:ok.inn 91=true)(hRo:ok.inn 112=true)(hPl:ok.inn 132=true)(hSB:ok.inn 151=true)(hbt:ok.inn 181=false){fb:Frame}{a:Act}{k:List Item}{cs:List Frame}{V:World}(hb:ok.inn fb.fn=true){ops:Array Oper}{i:Nat}{r:List Nat}{o:Oper}(ho:ops[i]?=some o)(hw:Region.wanted o (yielded ops a.tmps)=true)
  {b n cap b' m cap':Nat}{f:Nat->Mv}{t:Nat->Int}{now shift:Int}{name:ByteArray}(hx:∀w,(execOp a.eval o).run Tryz0.prog w=.ok (.enter 64 #[.agg #[.int .i64 now,.int .i64 shift,.slice (some ⟨b,0,none⟩) n cap,.slice (some ⟨b',0,none⟩) m cap'],.iface 70 (.agg #[.string name])]) w)
  (hn:n<=1048576)(hm1:m<=maxLen)(hbs:b<V.heap.size)(hrow:al V b 0 n f)(hbs':b'<V.heap.size)(hrow':ag V b' 0 m t)
  (hcont:∀x0 x1 x2 x3 ev V',AG f n t m now shift name V.heap.size V' x0 x1 x2 x3 ev->Bl V.heap.size V V'->ar Tryz0.prog ok c Dr24 Q ⟨fb.at (a.put o.dst (.tuple #[.agg #[x0,x1,x2,x3],ev])) (.inRegion ops r::k),cs,V'⟩):ar Tryz0.prog ok c Dr24 Q ⟨fb.at a (.inRegion ops (i::r)::k),cs,V⟩:=
 ar.enterOp E ho hw hTr hx (wZ E hTr hMd hSu hRo hPl hSB hbt (r0:=fb.at a (.inRegion ops (i::r)::k)) hb hn hm1 hbs hrow hbs' hrow' (λx0 x1 x2 x3 ev V' h1 h2=>by rw[c9 ho];exact hcont x0 x1 x2 x3 ev V' h1 h2))
theorem tm (E:cE Tryz0.prog ok c Dr24)(hCh:ok.inn 39=true)(hTr:ok.inn 64=true)(hMd:ok.inn 282=true)(hSu:ok.inn 91=true)(hRo:ok.inn 112=true)(hPl:ok.inn 132=true)(hSB:ok.inn 151=true)(hbt:ok.inn 181=false)(hCo:ok.inn 65=false){r0:Frame}{cs:List Frame}{V:World}(hr0:ok.inn r0.fn=true)
  {b n cap b' m cap':Nat}{f:Nat->Mv}{t:Nat->Int}{now shift:Int}{name:ByteArray}(hn:n<=1048576)(hm2:m<=1048576)(hbs:b<V.heap.size)(hrow:al V b 0 n f)(hbs':b'<V.heap.size)(hrow':ag V b' 0 m t)
  (hcont:∀x0 x1 x2 x3 cd V',pa f n t m now shift name V.heap.size V' x0 x1 x2 x3 cd->Bl V.heap.size V V'->ar Tryz0.prog ok c Dr24 Q ⟨r0.finish (.tuple #[.agg #[x0,x1,x2,x3],.int .i64 cd]),cs,V'⟩):
  ar Tryz0.prog ok c Dr24 Q ⟨Frame.enter Tryz0.prog 39 #[.agg #[.int .i64 now,.int .i64 shift,.slice (some ⟨b,0,none⟩) n cap,.slice (some ⟨b',0,none⟩) m cap'],.iface 70 (.agg #[.string name])] .normal,r0::cs,V⟩:=by
 have hE:=enter_at (P:=Tryz0.prog) #[.agg #[.int .i64 now,.int .i64 shift,.slice (some ⟨b,0,none⟩) n cap,.slice (some ⟨b',0,none⟩) m cap'],.iface 70 (.agg #[.string name])] Tryz0.func39 rfl;simp only[Tryz.ntmps39,List.size_toArray,List.length_cons,List.length_nil,Nat.reduceAdd,Nat.reduceSub,Array.replicate_succ,Array.replicate_zero,List.push_toArray,List.append_toArray,List.nil_append,List.cons_append]at hE;rw[hE];clear hE;obtain⟨B2,hB2⟩:∃x,x=V.heap.size:=⟨_,rfl⟩;obtain⟨B4,hB4⟩:∃x,x=V.heap.size+1:=⟨_,rfl⟩;have hret:∀(x0 x1 x2 x3:Value) (cd:Int) (a':Act) (w':World) (todo:List Item),(w'.heap[B4]?=some (.cells #[x0,x1,x2,x3] 32 (0,0))/\pa f n t m now shift name V.heap.size w' x0 x1 x2 x3 cd/\Bl V.heap.size V w'/\aW a' (λu=>#[u 0,u 1,u 2,u 3,.pointer (some ⟨B4,0,none⟩),.int .i64 cd,u 6,u 7,u 8,u 9,u 10,u 11,u 12,u 13,u 14,u 15,u 16,u 17,u 18,u 19,u 20,u 21,u 22,u 23]))->
   ar Tryz0.prog ok c Dr24 Q ⟨{(base 39).at a' todo with mode:=.returning},r0::cs,w'⟩:=by
  rintro x0 x1 x2 x3 cd a' w' todo ⟨hc,ht,hbl,hfr⟩;obtain⟨u,rfl⟩:=hfr.open;refine ar.leave E hr0 (v:=.tuple #[.agg #[x0,x1,x2,x3],.int .i64 cd]) (λτ d=>⟨rfl,rfl,rfl,_,Tryz0.func39,?_⟩) (hcont _ _ _ _ _ _ ht hbl);have h:(re w' τ d).heap[B4]?=_:=hc;have q0:(re w' τ d).cell? ⟨B4,0,none⟩=some x0:=by simp[World.cell?,h]
  have q1:(re w' τ d).cell? ⟨B4,1,none⟩=some x1:=by simp[World.cell?,h]
  have q2:(re w' τ d).cell? ⟨B4,2,none⟩=some x2:=by simp[World.cell?,h]
  have q3:(re w' τ d).cell? ⟨B4,3,none⟩=some x3:=by simp[World.cell?,h]
  show Sem.run Tryz0.prog (results Tryz.f39 ((λu=>#[u 0,u 1,u 2,u 3,.pointer (some ⟨B4,0,none⟩),.int .i64 cd,u 6,u 7,u 8,u 9,u 10,u 11,u 12,u 13,u 14,u 15,u 16,u 17,u 18,u 19,u 20,u 21,u 22,u 23]) u)) _=_;simp[results,Tryz.f39,go_sem,q0,q1,q2,q3]
 refine ar.chain E hCh [_] _ (λa' w'=>Bl V.heap.size V w'/\am w' B2 now shift (.slice (some ⟨b,0,none⟩) n cap) (.slice (some ⟨b',0,none⟩) m cap')/\am w' B4 0 0 (.slice none 0 0) (.slice none 0 0)/\aW a' (λu=>#[u 0,.iface 70 (.agg #[.string name]),.pointer (some ⟨B2,0,none⟩),u 3,.pointer (some ⟨B4,0,none⟩),u 5,u 6,u 7,u 8,u 9,u 10,u 11,u 12,u 13,u 14,u 15,u 16,u 17,u 18,u 19,u 20,u 21,u 22,u 23])) (λ_ _=>False) ?_ ?_ (λ_ _ _ h=>h.elim)
 .intro τ d;have bW:Below (re V τ d).heap.size (re V τ d) (((re V τ d).alloc (.cells #[.int .i64 now,.int .i64 shift,.slice (some ⟨b,0,none⟩) n cap,.slice (some ⟨b',0,none⟩) m cap'] 32)).alloc (.cells #[.int .i64 0,.int .i64 0,.slice none 0 0,.slice none 0 0] 32)):=((Below.refl _ _).alloc (Nat.le_refl _) _).alloc (by simp) _;have k2:am (((re V τ d).alloc (.cells #[.int .i64 now,.int .i64 shift,.slice (some ⟨b,0,none⟩) n cap,.slice (some ⟨b',0,none⟩) m cap'] 32)).alloc (.cells #[.int .i64 0,.int .i64 0,.slice none 0 0,.slice none 0 0] 32)) (re V τ d).heap.size now shift (.slice (some ⟨b,0,none⟩) n cap) (.slice (some ⟨b',0,none⟩) m cap'):=(Below.heap_alloc _ _ _ (by simp)).trans (heap_alloc_new _ _);have k4:=heap_alloc_new ((re V τ d).alloc (.cells #[.int .i64 now,.int .i64 shift,.slice (some ⟨b,0,none⟩) n cap,.slice (some ⟨b',0,none⟩) m cap'] 32)) (.cells #[.int .i64 0,.int .i64 0,.slice none 0 0,.slice none 0 0] 32);rw[show((re V τ d).alloc (.cells #[.int .i64 now,.int .i64 shift,.slice (some ⟨b,0,none⟩) n cap,.slice (some ⟨b',0,none⟩) m cap'] 32)).heap.size=(re V τ d).heap.size+1 by simp]at k4;clear hcont hret hrow hrow';simp only[aB];go_wp2;left;refine⟨by first|rfl|trivial,Bl.ofR bW,?_,?_,?_⟩
  .rw[hB2];exact k2
  .rw[hB4];exact k4
  .rw[hB2,hB4];exact⟨rfl,rfl⟩
 rintro a' w1 ⟨hb1,k2,k4,hfr⟩;obtain⟨u,rfl⟩:=hfr.open;clear hfr;have hz1:=hb1.size;have o4:V.heap.size<B4:=by omega
 have o2:V.heap.size<=B2:=by omega
 have hm1:m<=maxLen:=by unfold maxLen;omega
 clear hB2 hB4;have row1:al w1 b 0 n f:=aK hrow (hb1.block b hbs);have tic1:ag w1 b' 0 m t:=λi hi=>by have:=hrow' i hi;unfold World.cell? at this⊢;rw[hb1.block b' hbs'];exact this
 refine ar.seq E hCh (ar.region E hCh ?_);rw[aY];refine ar.opsFrom E hCh 0 2 (by simp) (λa' w'=>(∃τ d,w'=re w1 τ d)/\aW a' (λu=>#[u 0,.iface 70 (.agg #[.string name]),.pointer (some ⟨B2,0,none⟩),u 3,.pointer (some ⟨B4,0,none⟩),u 5,u 6,u 7,u 8,u 9,.agg #[.int .i64 now,.int .i64 shift,.slice (some ⟨b,0,none⟩) n cap,.slice (some ⟨b',0,none⟩) m cap'],.iface 70 (.agg #[.string name]),u 12,u 13,u 14,u 15,u 16,u 17,u 18,u 19,u 20,u 21,u 22,u 23])) ?_ ?_
 .intro τ d;have p2:am (re w1 τ d) B2 now shift (.slice (some ⟨b,0,none⟩) n cap) (.slice (some ⟨b',0,none⟩) m cap'):=k2;obtain⟨y0,y1,y2,y3,y4⟩:=p2.cells;clear hcont hret;simp only[List.drop_zero,List.take_succ_cons,List.take_zero];go_wp2;exact⟨⟨τ,d,rfl⟩,rfl,rfl⟩
 rintro a' w' ⟨⟨τ,d,rfl⟩,hfr⟩;clear u;obtain⟨u,rfl⟩:=hfr.open;clear hfr;refine ar.triedOpG E hTr hMd hSu hRo hPl hSB hbt hCh (i:=2) rfl rfl (b:=b) (n:=n) (cap:=cap) (b':=b') (m:=m) (cap':=cap') (f:=f) (t:=t) (now:=now) (shift:=shift) (name:=name) (λw=>by simp[execOp,resolve,invoke,Act.eval,go_sem]) hn hm1 (by show b<w1.heap.size;omega) (aK row1 rfl) (by show b'<w1.heap.size;omega) (λi hi=>tic1 i hi) ?_;intro x0 x1 x2 x3 ev V3 hT hb3';have hb3:Bl w1.heap.size w1 V3:=⟨hb3'.size,hb3'.block⟩;clear hb3';have hz3:=hb3.size;have l41:B4<w1.heap.size:=k4.lt;have p4:am V3 B4 0 0 (.slice none 0 0) (.slice none 0 0):=k4.same (hb3.block B4 l41);have p2:am V3 B2 now shift (.slice (some ⟨b,0,none⟩) n cap) (.slice (some ⟨b',0,none⟩) m cap'):=k2.same (hb3.block B2 k2.lt);have hb03:Bl V.heap.size V V3:=hb1.trans hb3 hz1;cases hT with
 |bad hbk=>
  refine ar.opsFrom E hCh 3 6 (by simp) (λa' w'=>∃B6,V3.heap.size<=B6/\w'.heap[B6]?=some (.cells #[.int .i64 0,.int .i64 0,.slice none 0 0,.slice none 0 0] 32 (0,0))/\Bl V3.heap.size V3 w'/\aW a' (λu=>#[u 0,u 1,.pointer (some ⟨B2,0,none⟩),u 3,.pointer (some ⟨B4,0,none⟩),u 5,.pointer (some ⟨B6,0,none⟩),.iface 128 (.agg #[.int .i64 1]),u 8,u 9,u 10,u 11,u 12,u 13,u 14,u 15,u 16,u 17,u 18,u 19,u 20,u 21,u 22,u 23])) ?_ ?_
  .intro τ d;clear hcont hret p2 p4 hb03;simp only[List.drop_succ_cons,List.drop_zero,List.take_succ_cons,List.take_zero,Act.put];go_wp2;exact⟨_,Nat.le_refl _,heap_alloc_new _ _,⟨by show V3.heap.size<=(V3.heap.push _).size;simp,λk hk=>Below.heap_alloc _ _ _ hk⟩,rfl,rfl⟩
  rintro a' w4 ⟨B6,hB6,n6,hb4,hfr⟩;clear u;obtain⟨u,rfl⟩:=hfr.open;clear hfr;have hz4:=hb4.size;have l4:=p4.lt;have l2:=p2.lt;have q4:am w4 B4 0 0 (.slice none 0 0) (.slice none 0 0):=p4.same (hb4.block B4 l4);have q2:am w4 B2 now shift (.slice (some ⟨b,0,none⟩) n cap) (.slice (some ⟨b',0,none⟩) m cap'):=p2.same (hb4.block B2 l2);have hb04:Bl V.heap.size V w4:=hb03.trans hb4 (by omega);have hne:B4≠B6:=by omega
  refine ar.regionEnd E hCh (ar.seq E hCh (ar.region E hCh ?_));rw[aY];refine ar.opsFrom E hCh 0 1 (by simp) (λa' w'=>(∃τ d,w'=re w4 τ d)/\aW a' (λu=>#[u 0,u 1,.pointer (some ⟨B2,0,none⟩),u 3,.pointer (some ⟨B4,0,none⟩),u 5,.pointer (some ⟨B6,0,none⟩),u 7,u 8,u 9,u 10,u 11,u 12,u 13,u 14,.iface 128 (.agg #[.int .i64 1]),u 16,u 17,u 18,u 19,u 20,u 21,u 22,u 23])) ?_ ?_
  .intro τ d;clear hcont hret;simp only[List.drop_zero,List.take_succ_cons,List.take_zero];go_wp2;exact⟨⟨τ,d,rfl⟩,rfl,rfl⟩
  rintro a' w' ⟨⟨τ5,d5,rfl⟩,hfr⟩;clear u;obtain⟨u,rfl⟩:=hfr.open;clear hfr;refine ar.doorOp E (i:=1) rfl rfl hCo (λw=>by simp[execOp,resolve,invoke,Act.eval,go_sem]) (λτ d=>.inr ⟨rfl,.iface 128 (.agg #[.int .i64 1]),1,rfl,.inr rfl,rfl⟩) ?_;rintro τ6 d6 v6 V6 ⟨rfl,rfl⟩;refine ar.opsFrom E hCh 2 1 (by simp) (λa' w'=>(∃τ d,w'=re w4 τ d)/\aW a' (λu=>#[u 0,u 1,.pointer (some ⟨B2,0,none⟩),u 3,.pointer (some ⟨B4,0,none⟩),u 5,.pointer (some ⟨B6,0,none⟩),u 7,.int .i64 1,u 9,u 10,u 11,u 12,u 13,u 14,u 15,u 16,u 17,u 18,u 19,u 20,u 21,u 22,u 23])) ?_ ?_
  .intro τ d;clear hcont hret;simp only[List.drop_succ_cons,List.drop_zero,List.take_succ_cons,List.take_zero,Act.put];go_wp2;exact⟨⟨_,_,rfl⟩,rfl,rfl⟩
  rintro a' w' ⟨⟨τ7,d7,rfl⟩,hfr⟩;clear u;obtain⟨u,rfl⟩:=hfr.open;clear hfr;refine ar.regionEnd E hCh ?_;refine ar.last E hCh [_,_] (λa' w'=>w'.heap[B4]?=some (.cells #[.int .i64 0,.int .i64 0,.slice none 0 0,.slice none 0 0] 32 (0,0))/\pa f n t m now shift name V.heap.size w' (.int .i64 0) (.int .i64 0) (.slice none 0 0) (.slice none 0 0) 1/\Bl V.heap.size V w'/\aW a' (λu=>#[u 0,u 1,u 2,u 3,.pointer (some ⟨B4,0,none⟩),.int .i64 1,u 6,u 7,u 8,u 9,u 10,u 11,u 12,u 13,u 14,u 15,u 16,u 17,u 18,u 19,u 20,u 21,u 22,u 23])) ?_ (λa' w' todo h=>hret _ _ _ _ _ a' w' todo h);intro τ d;have q4':am (re (re w4 τ7 d7) τ d) B4 0 0 (.slice none 0 0) (.slice none 0 0):=q4;have q2':am (re (re w4 τ7 d7) τ d) B2 now shift (.slice (some ⟨b,0,none⟩) n cap) (.slice (some ⟨b',0,none⟩) m cap'):=q2;have q6':(re (re w4 τ7 d7) τ d).heap[B6]?=some (.cells #[.int .i64 0,.int .i64 0,.slice none 0 0,.slice none 0 0] 32 (0,0)):=n6;have hb0:Bl V.heap.size V (re (re w4 τ7 d7) τ d):=⟨hb04.size,hb04.block⟩;revert q4' q2' q6' hb0;generalize re (re w4 τ7 d7) τ d=w0;intro q4' q2' q6' hb0;clear hret hcont q4 q2 n6 hb04;obtain⟨z0,z1,z2,z3,z4⟩:=q4'.cells;have y0:w0.cell? ⟨B6,0,none⟩=some (.int .i64 0):=by simp[World.cell?,q6']
  have y1:w0.cell? ⟨B6,1,none⟩=some (.int .i64 0):=by simp[World.cell?,q6']
  have y2:w0.cell? ⟨B6,2,none⟩=some (.slice none 0 0):=by simp[World.cell?,q6']
  have y3:w0.cell? ⟨B6,3,none⟩=some (.slice none 0 0):=by simp[World.cell?,q6']
  simp only[aB];go_wp2;all_goals first|(exfalso;omega)|skip
  rw[eO q4'];left;exact⟨by first|rfl|trivial,setRow_heap _ _ _ _ _ _ q4',.bad hbk,⟨by rw[setRow_size];exact hb0.size,λk hk=>(setRow_other _ _ _ _ (by omega)).trans (hb0.block k hk)⟩,rfl,rfl⟩
 |@no k cd hbk hk hrd=>
  refine ar.opsFrom E hCh 3 6 (by simp) (λa' w'=>∃B6,V3.heap.size<=B6/\w'.heap[B6]?=some (.cells #[.int .i64 0,.int .i64 0,.slice none 0 0,.slice none 0 0] 32 (0,0))/\Bl V3.heap.size V3 w'/\aW a' (λu=>#[u 0,u 1,.pointer (some ⟨B2,0,none⟩),u 3,.pointer (some ⟨B4,0,none⟩),u 5,.pointer (some ⟨B6,0,none⟩),.iface 128 (.agg #[.int .i64 cd]),u 8,u 9,u 10,u 11,u 12,u 13,u 14,u 15,u 16,u 17,u 18,u 19,u 20,u 21,u 22,u 23])) ?_ ?_
  .intro τ d;clear hcont hret p2 p4 hb03;simp only[List.drop_succ_cons,List.drop_zero,List.take_succ_cons,List.take_zero,Act.put];go_wp2;exact⟨_,Nat.le_refl _,heap_alloc_new _ _,⟨by show V3.heap.size<=(V3.heap.push _).size;simp,λk hk=>Below.heap_alloc _ _ _ hk⟩,rfl,rfl⟩
  rintro a' w4 ⟨B6,hB6,n6,hb4,hfr⟩;clear u;obtain⟨u,rfl⟩:=hfr.open;clear hfr;have hz4:=hb4.size;have l4:=p4.lt;have l2:=p2.lt;have q4:am w4 B4 0 0 (.slice none 0 0) (.slice none 0 0):=p4.same (hb4.block B4 l4);have q2:am w4 B2 now shift (.slice (some ⟨b,0,none⟩) n cap) (.slice (some ⟨b',0,none⟩) m cap'):=p2.same (hb4.block B2 l2);have hb04:Bl V.heap.size V w4:=hb03.trans hb4 (by omega);have hne:B4≠B6:=by omega
  refine ar.regionEnd E hCh (ar.seq E hCh (ar.region E hCh ?_));rw[aY];refine ar.opsFrom E hCh 0 1 (by simp) (λa' w'=>(∃τ d,w'=re w4 τ d)/\aW a' (λu=>#[u 0,u 1,.pointer (some ⟨B2,0,none⟩),u 3,.pointer (some ⟨B4,0,none⟩),u 5,.pointer (some ⟨B6,0,none⟩),u 7,u 8,u 9,u 10,u 11,u 12,u 13,u 14,.iface 128 (.agg #[.int .i64 cd]),u 16,u 17,u 18,u 19,u 20,u 21,u 22,u 23])) ?_ ?_
  .intro τ d;clear hcont hret;simp only[List.drop_zero,List.take_succ_cons,List.take_zero];go_wp2;exact⟨⟨τ,d,rfl⟩,rfl,rfl⟩
  rintro a' w' ⟨⟨τ5,d5,rfl⟩,hfr⟩;clear u;obtain⟨u,rfl⟩:=hfr.open;clear hfr;refine ar.doorOp E (i:=1) rfl rfl hCo (λw=>by simp[execOp,resolve,invoke,Act.eval,go_sem]) (λτ d=>.inr ⟨rfl,.iface 128 (.agg #[.int .i64 cd]),cd,rfl,.inr rfl,rfl⟩) ?_;rintro τ6 d6 v6 V6 ⟨rfl,rfl⟩;refine ar.opsFrom E hCh 2 1 (by simp) (λa' w'=>(∃τ d,w'=re w4 τ d)/\aW a' (λu=>#[u 0,u 1,.pointer (some ⟨B2,0,none⟩),u 3,.pointer (some ⟨B4,0,none⟩),u 5,.pointer (some ⟨B6,0,none⟩),u 7,.int .i64 cd,u 9,u 10,u 11,u 12,u 13,u 14,u 15,u 16,u 17,u 18,u 19,u 20,u 21,u 22,u 23])) ?_ ?_
  .intro τ d;clear hcont hret;simp only[List.drop_succ_cons,List.drop_zero,List.take_succ_cons,List.take_zero,Act.put];go_wp2;exact⟨⟨_,_,rfl⟩,rfl,rfl⟩
  rintro a' w' ⟨⟨τ7,d7,rfl⟩,hfr⟩;clear u;obtain⟨u,rfl⟩:=hfr.open;clear hfr;refine ar.regionEnd E hCh ?_;have hcd:1<cd:=zg hrd;refine ar.chain E hCh [_] _ (λ_ _=>False) (λa' w'=>∃v u,w'.heap[B4]?=some (.cells #[.int .i64 now,.int .i64 shift,v,u] 32 (0,0))/\pa f n t m now shift name V.heap.size w' (.int .i64 now) (.int .i64 shift) v u cd/\Bl V.heap.size V w'/\aW a' (λu=>#[u 0,u 1,u 2,u 3,.pointer (some ⟨B4,0,none⟩),.int .i64 cd,u 6,u 7,u 8,u 9,u 10,u 11,u 12,u 13,u 14,u 15,u 16,u 17,u 18,u 19,u 20,u 21,u 22,u 23])) ?_ (λ_ _ h=>h.elim) (λa' w' todo h=>by obtain⟨v,u,h⟩:=h;exact hret _ _ _ _ _ a' w' todo h);intro τ d;have q4':am (re (re w4 τ7 d7) τ d) B4 0 0 (.slice none 0 0) (.slice none 0 0):=q4;have q2':am (re (re w4 τ7 d7) τ d) B2 now shift (.slice (some ⟨b,0,none⟩) n cap) (.slice (some ⟨b',0,none⟩) m cap'):=q2;have q6':(re (re w4 τ7 d7) τ d).heap[B6]?=some (.cells #[.int .i64 0,.int .i64 0,.slice none 0 0,.slice none 0 0] 32 (0,0)):=n6;have hb0:Bl V.heap.size V (re (re w4 τ7 d7) τ d):=⟨hb04.size,hb04.block⟩;have k7:al (re (re w4 τ7 d7) τ d) b 0 n f:=aK hrow (hb04.block b hbs);have tic0:ag (re (re w4 τ7 d7) τ d) b' 0 m t:=λi hi=>by have:=hrow' i hi;unfold World.cell? at this⊢;rw[show(re (re w4 τ7 d7) τ d).heap[b']?=V.heap[b']? from hb04.block b' hbs'];exact this
  have hzz:V.heap.size<=(re (re w4 τ7 d7) τ d).heap.size:=hb04.size;revert q4' q2' q6' hb0 k7 tic0 hzz;generalize re (re w4 τ7 d7) τ d=w0;intro q4' q2' q6' hb0 k7 tic0 hzz;have H1:=ox now shift b 0 n cap f b' 0 m cap' t w0 (by omega) hm2 (by omega) k7 (by omega) tic0;clear hret hcont q4 q2 n6 hb04;obtain⟨z0,z1,z2,z3,z4⟩:=q4'.cells;obtain⟨x0,x1,x2,x3,x4⟩:=q2'.cells;simp only[aB];go_wp2_with(go_at_call 66;refine H1.mono ?_;clear H1;rintro e w5 ⟨⟨v,u5,rfl,ov,ou⟩,b5⟩;obtain⟨av,cv,rfl⟩:=lJ ov;obtain⟨au,cu,rfl⟩:=lJ ou;have j4:=q4'.same (b5.block B4 q4'.lt);obtain⟨y0,y1,y2,y3,y4⟩:=j4.cells;clear z0 z1 z2 z3 z4)
  all_goals first|(exfalso;omega)|skip
  rw[eO j4];have l40:=q4'.lt;right;exact⟨by first|rfl|trivial,_,_,setRow_heap _ _ _ _ _ _ j4,.no hbk hk hrd (eU (dD ov λB hB=>setRow_other _ _ _ _ (by have:=(ov.lt B hB).1;omega)) hzz) (eU (dD ou λB hB=>setRow_other _ _ _ _ (by have:=(ou.lt B hB).1;omega)) hzz),⟨by rw[setRow_size];exact Nat.le_trans hb0.size b5.size,λk hk=>(setRow_other _ _ _ _ (by omega)).trans ((b5.block k (by omega)).trans (hb0.block k hk))⟩,rfl,rfl⟩
 |@yes k p T BN c2 BT c3 hbk hk hrd hBN hBT lK oT=>
  replace hBN:w1.heap.size<=BN:=hBN;replace hBT:w1.heap.size<=BT:=hBT;have lT:BT<V3.heap.size:=by obtain⟨⟨cs,hc,_⟩,_⟩:=oT;exact(Array.getElem?_eq_some_iff.1 hc).1
  refine ar.opsFrom E hCh 3 6 (by simp) (λa' w'=>∃B6,V3.heap.size<=B6/\w'.heap[B6]?=some (.cells #[.int .i64 now,.int .i64 shift,.slice (some ⟨BN,0,none⟩) (n-1) c2,.slice (some ⟨BT,0,none⟩) (n-1) c3] 32 (0,0))/\Bl V3.heap.size V3 w'/\aW a' (λu=>#[u 0,u 1,.pointer (some ⟨B2,0,none⟩),u 3,.pointer (some ⟨B4,0,none⟩),u 5,.pointer (some ⟨B6,0,none⟩),.nilIface,u 8,u 9,u 10,u 11,u 12,u 13,u 14,u 15,u 16,u 17,u 18,u 19,u 20,u 21,u 22,u 23])) ?_ ?_
  .intro τ d;clear hcont hret p2 p4 hb03;simp only[List.drop_succ_cons,List.drop_zero,List.take_succ_cons,List.take_zero,Act.put];go_wp2;exact⟨_,Nat.le_refl _,heap_alloc_new _ _,⟨by show V3.heap.size<=(V3.heap.push _).size;simp,λk hk=>Below.heap_alloc _ _ _ hk⟩,rfl,rfl⟩
  rintro a' w4 ⟨B6,hB6,n6,hb4,hfr⟩;clear u;obtain⟨u,rfl⟩:=hfr.open;clear hfr;have hz4:=hb4.size;have l4:=p4.lt;have l2:=p2.lt;have q4:am w4 B4 0 0 (.slice none 0 0) (.slice none 0 0):=p4.same (hb4.block B4 l4);have q2:am w4 B2 now shift (.slice (some ⟨b,0,none⟩) n cap) (.slice (some ⟨b',0,none⟩) m cap'):=p2.same (hb4.block B2 l2);have hb04:Bl V.heap.size V w4:=hb03.trans hb4 (by omega);have hne:B4≠B6:=by omega
  refine ar.regionEnd E hCh (ar.seq E hCh (ar.region E hCh ?_));rw[aY];refine ar.opsFrom E hCh 0 1 (by simp) (λa' w'=>(∃τ d,w'=re w4 τ d)/\aW a' (λu=>#[u 0,u 1,.pointer (some ⟨B2,0,none⟩),u 3,.pointer (some ⟨B4,0,none⟩),u 5,.pointer (some ⟨B6,0,none⟩),u 7,u 8,u 9,u 10,u 11,u 12,u 13,u 14,.nilIface,u 16,u 17,u 18,u 19,u 20,u 21,u 22,u 23])) ?_ ?_
  .intro τ d;clear hcont hret;simp only[List.drop_zero,List.take_succ_cons,List.take_zero];go_wp2;exact⟨⟨τ,d,rfl⟩,rfl,rfl⟩
  rintro a' w' ⟨⟨τ5,d5,rfl⟩,hfr⟩;clear u;obtain⟨u,rfl⟩:=hfr.open;clear hfr;refine ar.doorOp E (i:=1) rfl rfl hCo (λw=>by simp[execOp,resolve,invoke,Act.eval,go_sem]) (λτ d=>.inr ⟨rfl,.nilIface,0,rfl,.inl ⟨rfl,rfl⟩,rfl⟩) ?_;rintro τ6 d6 v6 V6 ⟨rfl,rfl⟩;refine ar.opsFrom E hCh 2 1 (by simp) (λa' w'=>(∃τ d,w'=re w4 τ d)/\aW a' (λu=>#[u 0,u 1,.pointer (some ⟨B2,0,none⟩),u 3,.pointer (some ⟨B4,0,none⟩),u 5,.pointer (some ⟨B6,0,none⟩),u 7,.int .i64 0,u 9,u 10,u 11,u 12,u 13,u 14,u 15,u 16,u 17,u 18,u 19,u 20,u 21,u 22,u 23])) ?_ ?_
  .intro τ d;clear hcont hret;simp only[List.drop_succ_cons,List.drop_zero,List.take_succ_cons,List.take_zero,Act.put];go_wp2;exact⟨⟨_,_,rfl⟩,rfl,rfl⟩
  rintro a' w' ⟨⟨τ7,d7,rfl⟩,hfr⟩;clear u;obtain⟨u,rfl⟩:=hfr.open;clear hfr;refine ar.regionEnd E hCh ?_;have rowN4:jz w4 BN (n-1) (aN f p):=lK.same (hb4.block BN lK.lt);have oT4:em w4 BT (n-1) T:=aT oT (hb4.block BT lT);have h4N:BN≠B4:=by omega
  have h4T:BT≠B4:=by omega
  refine ar.last E hCh [_,_] (λa' w'=>w'.heap[B4]?=some (.cells #[.int .i64 now,.int .i64 shift,.slice (some ⟨BN,0,none⟩) (n-1) c2,.slice (some ⟨BT,0,none⟩) (n-1) c3] 32 (0,0))/\pa f n t m now shift name V.heap.size w' (.int .i64 now) (.int .i64 shift) (.slice (some ⟨BN,0,none⟩) (n-1) c2) (.slice (some ⟨BT,0,none⟩) (n-1) c3) 0/\Bl V.heap.size V w'/\aW a' (λu=>#[u 0,u 1,u 2,u 3,.pointer (some ⟨B4,0,none⟩),.int .i64 0,u 6,u 7,u 8,u 9,u 10,u 11,u 12,u 13,u 14,u 15,u 16,u 17,u 18,u 19,u 20,u 21,u 22,u 23])) ?_ (λa' w' todo h=>hret _ _ _ _ _ a' w' todo h);intro τ d;have q4':am (re (re w4 τ7 d7) τ d) B4 0 0 (.slice none 0 0) (.slice none 0 0):=q4;have q2':am (re (re w4 τ7 d7) τ d) B2 now shift (.slice (some ⟨b,0,none⟩) n cap) (.slice (some ⟨b',0,none⟩) m cap'):=q2;have q6':(re (re w4 τ7 d7) τ d).heap[B6]?=some (.cells #[.int .i64 now,.int .i64 shift,.slice (some ⟨BN,0,none⟩) (n-1) c2,.slice (some ⟨BT,0,none⟩) (n-1) c3] 32 (0,0)):=n6;have hb0:Bl V.heap.size V (re (re w4 τ7 d7) τ d):=⟨hb04.size,hb04.block⟩;have r0':jz (re (re w4 τ7 d7) τ d) BN (n-1) (aN f p):=rowN4.same rfl;have o0':em (re (re w4 τ7 d7) τ d) BT (n-1) T:=aT oT4 rfl;revert q4' q2' q6' hb0 r0' o0';generalize re (re w4 τ7 d7) τ d=w0;intro q4' q2' q6' hb0 r0' o0';clear hret hcont q4 q2 n6 hb04 lK oT rowN4 oT4;obtain⟨z0,z1,z2,z3,z4⟩:=q4'.cells;have y0:w0.cell? ⟨B6,0,none⟩=some (.int .i64 now):=by simp[World.cell?,q6']
  have y1:w0.cell? ⟨B6,1,none⟩=some (.int .i64 shift):=by simp[World.cell?,q6']
  have y2:w0.cell? ⟨B6,2,none⟩=some (.slice (some ⟨BN,0,none⟩) (n-1) c2):=by simp[World.cell?,q6']
  have y3:w0.cell? ⟨B6,3,none⟩=some (.slice (some ⟨BT,0,none⟩) (n-1) c3):=by simp[World.cell?,q6']
  simp only[aB];go_wp2;all_goals first|(exfalso;omega)|skip
  rw[eO q4'];left;exact⟨by first|rfl|trivial,setRow_heap _ _ _ _ _ _ q4',(.yes hbk hk hrd (by omega) (by omega) (r0'.same (setRow_other _ _ _ _ h4N)) (aT o0' (setRow_other _ _ _ _ h4T))),⟨by rw[setRow_size];exact hb0.size,λk hk=>(setRow_other _ _ _ _ (by omega)).trans (hb0.block k hk)⟩,rfl,rfl⟩
end
theorem pa.shape {f:Nat->Mv}{n:Nat}{t:Nat->Int}{m:Nat}{now shift:Int}{name:ByteArray}{N:Nat}{V':World}{x0 x1 x2 x3:Value}{cd:Int}(h:pa f n t m now shift name N V' x0 x1 x2 x3 cd):
  ∃a0 a1 s2 l2 c2 s3 l3 c3,x0=.int .i64 a0/\x1=.int .i64 a1/\x2=.slice s2 l2 c2/\x3=.slice s3 l3 c3:=by
 cases h with
 |bad _=>exact⟨_,_,_,_,_,_,_,_,rfl,rfl,rfl,rfl⟩
 |no _ _ _ ov ou=>
  obtain⟨av,cv,rfl⟩:=lJ ov;obtain⟨au,cu,rfl⟩:=lJ ou;exact⟨_,_,_,_,_,_,_,_,rfl,rfl,rfl,rfl⟩
 |yes _ _ _ _ _ _ _=>exact⟨_,_,_,_,_,_,_,_,rfl,rfl,rfl,rfl⟩
theorem pa.keep {f:Nat->Mv}{n:Nat}{t:Nat->Int}{m:Nat}{now shift:Int}{name:ByteArray}{N N₀:Nat}{V' W:World}{x0 x1 x2 x3:Value}{cd:Int}(h:pa f n t m now shift name N V' x0 x1 x2 x3 cd)(hN:N₀<=N)(e:∀B,N<=B->W.heap[B]?=V'.heap[B]?):
  pa f n t m now shift name N₀ W x0 x1 x2 x3 cd:=by
 cases h with
 |bad h=>exact .bad h
 |no h1 h2 h3 ov ou=>exact .no h1 h2 h3 (eU (dD ov λB hB=>e B (ov.lt B hB).1) hN) (eU (dD ou λB hB=>e B (ou.lt B hB).1) hN)
 |yes h1 h2 h3 h4 h5 r o=>exact .yes h1 h2 h3 (Nat.le_trans hN h4) (Nat.le_trans hN h5) (r.same (e _ h4)) (aT o (e _ h5))
section
variable [Gl]{ok:Ctx}{c:Frame}{Q:Value->World->Prop}
theorem ar.changedOpG (E:cE Tryz0.prog ok c Dr24)(hCh:ok.inn 39=true)(hTr:ok.inn 64=true)(hMd:ok.inn 282=true)(hSu:ok.inn 91=true)(hRo:ok.inn 112=true)(hPl:ok.inn 132=true)(hSB:ok.inn 151=true)(hbt:ok.inn 181=false)(hCo:ok.inn 65=false){fb:Frame}{a:Act}{k:List Item}{cs:List Frame}{V:World}(hb:ok.inn fb.fn=true){ops:Array Oper}{i:Nat}{r:List Nat}{o:Oper}(ho:ops[i]?=some o)(hw:Region.wanted o (yielded ops a.tmps)=true)
  {b n cap b' m cap':Nat}{f:Nat->Mv}{t:Nat->Int}{now shift:Int}{name:ByteArray}(hx:∀w,(execOp a.eval o).run Tryz0.prog w=.ok (.enter 39 #[.agg #[.int .i64 now,.int .i64 shift,.slice (some ⟨b,0,none⟩) n cap,.slice (some ⟨b',0,none⟩) m cap'],.iface 70 (.agg #[.string name])]) w)
  (hn:n<=1048576)(hm2:m<=1048576)(hbs:b<V.heap.size)(hrow:al V b 0 n f)(hbs':b'<V.heap.size)(hrow':ag V b' 0 m t)
  (hcont:∀x0 x1 x2 x3 cd V',pa f n t m now shift name V.heap.size V' x0 x1 x2 x3 cd->Bl V.heap.size V V'->ar Tryz0.prog ok c Dr24 Q ⟨fb.at (a.put o.dst (.tuple #[.agg #[x0,x1,x2,x3],.int .i64 cd])) (.inRegion ops r::k),cs,V'⟩):ar Tryz0.prog ok c Dr24 Q ⟨fb.at a (.inRegion ops (i::r)::k),cs,V⟩:=
 ar.enterOp E ho hw hCh hx (tm E hCh hTr hMd hSu hRo hPl hSB hbt hCo (r0:=fb.at a (.inRegion ops (i::r)::k)) hb hn hm2 hbs hrow hbs' hrow' (λx0 x1 x2 x3 cd V' h1 h2=>by rw[c9 ho];exact hcont x0 x1 x2 x3 cd V' h1 h2))
theorem rn (E:cE Tryz0.prog ok c Dr24)(hCh:ok.inn 39=true)(hTr:ok.inn 64=true)(hMd:ok.inn 282=true)(hSu:ok.inn 91=true)(hRo:ok.inn 112=true)(hPl:ok.inn 132=true)(hSB:ok.inn 151=true)(hbt:ok.inn 181=false)(hCo:ok.inn 65=false)(hSR:ok.inn 18=true){r0:Frame}{cs:List Frame}{V:World}(hr0:ok.inn r0.fn=true)
  {b n cap b' m cap':Nat}{f:Nat->Mv}{t:Nat->Int}{now shift:Int}{name:ByteArray}(hn:n<=1048576)(hm2:m<=1048576)(hbs:b<V.heap.size)(hrow:al V b 0 n f)(hbs':b'<V.heap.size)(hrow':ag V b' 0 m t)
  (hcont:∀x0 x1 x2 x3 cd V',pa f n t m now shift name V.heap.size V' x0 x1 x2 x3 cd->Bl V.heap.size V V'->ar Tryz0.prog ok c Dr24 Q ⟨r0.finish (.tuple #[.agg #[x0,x1,x2,x3],.int .i64 cd]),cs,V'⟩):
  ar Tryz0.prog ok c Dr24 Q ⟨Frame.enter Tryz0.prog 18 #[.agg #[.int .i64 now,.int .i64 shift,.slice (some ⟨b,0,none⟩) n cap,.slice (some ⟨b',0,none⟩) m cap'],.string name] .normal,r0::cs,V⟩:=by
 have hE:=enter_at (P:=Tryz0.prog) #[.agg #[.int .i64 now,.int .i64 shift,.slice (some ⟨b,0,none⟩) n cap,.slice (some ⟨b',0,none⟩) m cap'],.string name] Tryz0.func18 rfl;simp only[Tryz.ntmps18,List.size_toArray,List.length_cons,List.length_nil,Nat.reduceAdd,Nat.reduceSub,Array.replicate_succ,Array.replicate_zero,List.push_toArray,List.append_toArray,List.nil_append,List.cons_append]at hE;rw[hE];clear hE;obtain⟨B2,hB2⟩:∃x,x=V.heap.size:=⟨_,rfl⟩;obtain⟨B4,hB4⟩:∃x,x=V.heap.size+1:=⟨_,rfl⟩;refine ar.chain E hSR [_] _ (λa' w'=>Bl V.heap.size V w'/\am w' B2 now shift (.slice (some ⟨b,0,none⟩) n cap) (.slice (some ⟨b',0,none⟩) m cap')/\am w' B4 0 0 (.slice none 0 0) (.slice none 0 0)/\aW a' (λu=>#[u 0,.string name,.pointer (some ⟨B2,0,none⟩),u 3,.pointer (some ⟨B4,0,none⟩),u 5,u 6,u 7,u 8,u 9,u 10,u 11,u 12])) (λ_ _=>False) ?_ ?_ (λ_ _ _ h=>h.elim)
 .intro τ d;have bW:Below (re V τ d).heap.size (re V τ d) (((re V τ d).alloc (.cells #[.int .i64 now,.int .i64 shift,.slice (some ⟨b,0,none⟩) n cap,.slice (some ⟨b',0,none⟩) m cap'] 32)).alloc (.cells #[.int .i64 0,.int .i64 0,.slice none 0 0,.slice none 0 0] 32)):=((Below.refl _ _).alloc (Nat.le_refl _) _).alloc (by simp) _;have k2:am (((re V τ d).alloc (.cells #[.int .i64 now,.int .i64 shift,.slice (some ⟨b,0,none⟩) n cap,.slice (some ⟨b',0,none⟩) m cap'] 32)).alloc (.cells #[.int .i64 0,.int .i64 0,.slice none 0 0,.slice none 0 0] 32)) (re V τ d).heap.size now shift (.slice (some ⟨b,0,none⟩) n cap) (.slice (some ⟨b',0,none⟩) m cap'):=(Below.heap_alloc _ _ _ (by simp)).trans (heap_alloc_new _ _);have k4:=heap_alloc_new ((re V τ d).alloc (.cells #[.int .i64 now,.int .i64 shift,.slice (some ⟨b,0,none⟩) n cap,.slice (some ⟨b',0,none⟩) m cap'] 32)) (.cells #[.int .i64 0,.int .i64 0,.slice none 0 0,.slice none 0 0] 32);rw[show((re V τ d).alloc (.cells #[.int .i64 now,.int .i64 shift,.slice (some ⟨b,0,none⟩) n cap,.slice (some ⟨b',0,none⟩) m cap'] 32)).heap.size=(re V τ d).heap.size+1 by simp]at k4;clear hcont hrow hrow';simp only[aB];go_wp2;left;refine⟨by first|rfl|trivial,Bl.ofR bW,?_,?_,?_⟩
  .rw[hB2];exact k2
  .rw[hB4];exact k4
  .rw[hB2,hB4];exact⟨rfl,rfl⟩
 rintro a' w1 ⟨hb1,k2,k4,hfr⟩;obtain⟨u,rfl⟩:=hfr.open;clear hfr;have hz1:=hb1.size;have o4:V.heap.size<B4:=by omega
 clear hB2 hB4;have row1:al w1 b 0 n f:=aK hrow (hb1.block b hbs);have tic1:ag w1 b' 0 m t:=λi hi=>by have:=hrow' i hi;unfold World.cell? at this⊢;rw[hb1.block b' hbs'];exact this
 refine ar.seq E hSR (ar.region E hSR ?_);rw[aY];refine ar.opsFrom E hSR 0 4 (by simp) (λa' w'=>(∃τ d,w'=re w1 τ d)/\aW a' (λu=>#[u 0,u 1,.pointer (some ⟨B2,0,none⟩),u 3,.pointer (some ⟨B4,0,none⟩),u 5,.agg #[.int .i64 now,.int .i64 shift,.slice (some ⟨b,0,none⟩) n cap,.slice (some ⟨b',0,none⟩) m cap'],u 7,u 8,.iface 70 (.agg #[.string name]),u 10,u 11,u 12])) ?_ ?_
 .intro τ d;have p2:am (re w1 τ d) B2 now shift (.slice (some ⟨b,0,none⟩) n cap) (.slice (some ⟨b',0,none⟩) m cap'):=k2;obtain⟨y0,y1,y2,y3,y4⟩:=p2.cells;clear hcont;simp only[List.drop_zero,List.take_succ_cons,List.take_zero];go_wp2;exact⟨⟨τ,d,rfl⟩,rfl,rfl⟩
 rintro a' w' ⟨⟨τ,d,rfl⟩,hfr⟩;clear u;obtain⟨u,rfl⟩:=hfr.open;clear hfr;refine ar.changedOpG E hCh hTr hMd hSu hRo hPl hSB hbt hCo hSR (i:=4) rfl rfl (b:=b) (n:=n) (cap:=cap) (b':=b') (m:=m) (cap':=cap') (f:=f) (t:=t) (now:=now) (shift:=shift) (name:=name) (λw=>by simp[execOp,resolve,invoke,Act.eval,go_sem]) hn hm2 (by show b<w1.heap.size;omega) (aK row1 rfl) (by show b'<w1.heap.size;omega) (λi hi=>tic1 i hi) ?_;intro x0 x1 x2 x3 cd V3 hC hb3';have hb3:Bl w1.heap.size w1 V3:=⟨hb3'.size,hb3'.block⟩;replace hC:pa f n t m now shift name w1.heap.size V3 x0 x1 x2 x3 cd:=hC;clear hb3';have hz3:=hb3.size;have l41:B4<w1.heap.size:=k4.lt;have p4:am V3 B4 0 0 (.slice none 0 0) (.slice none 0 0):=k4.same (hb3.block B4 l41);have hb03:Bl V.heap.size V V3:=hb1.trans hb3 hz1;obtain⟨a0,a1,s2,l2,c2,s3,l3,c3,rfl,rfl,rfl,rfl⟩:=hC.shape;refine ar.opsFrom E hSR 5 4 (by simp) (λa' w'=>w'.heap[B4]?=some (.cells #[.int .i64 a0,.int .i64 a1,.slice s2 l2 c2,.slice s3 l3 c3] 32 (0,0))/\pa f n t m now shift name V.heap.size w' (.int .i64 a0) (.int .i64 a1) (.slice s2 l2 c2) (.slice s3 l3 c3) cd/\Bl V.heap.size V w'/\aW a' (λu=>#[u 0,u 1,u 2,u 3,.pointer (some ⟨B4,0,none⟩),.int .i64 cd,u 6,u 7,u 8,u 9,u 10,u 11,u 12])) ?_ ?_
 .intro τ d;have q4:am (re V3 τ d) B4 0 0 (.slice none 0 0) (.slice none 0 0):=p4;have hb0:Bl V.heap.size V (re V3 τ d):=⟨hb03.size,hb03.block⟩;have hC0:pa f n t m now shift name w1.heap.size (re V3 τ d) (.int .i64 a0) (.int .i64 a1) (.slice s2 l2 c2) (.slice s3 l3 c3) cd:=hC.keep (Nat.le_refl _) λ_ _=>rfl
  revert q4 hb0 hC0;generalize re V3 τ d=w0;intro q4 hb0 hC0;clear hcont p4 hb03 hC;obtain⟨z0,z1,z2,z3,z4⟩:=q4.cells;simp only[List.drop_succ_cons,List.drop_zero,List.take_succ_cons,List.take_zero,Act.put];go_wp2;rw[eO q4];exact⟨setRow_heap _ _ _ _ _ _ q4,hC0.keep hz1 λB hB=>setRow_other _ _ _ _ (by omega),⟨by rw[setRow_size];exact hb0.size,λk hk=>(setRow_other _ _ _ _ (by omega)).trans (hb0.block k hk)⟩,rfl,rfl⟩
 rintro a' w4 ⟨hc,hC4,hbl,hfr⟩;clear u;obtain⟨u,rfl⟩:=hfr.open;refine ar.regionEnd E hSR (ar.ret E hSR ?_);refine ar.leave E hr0 (v:=.tuple #[.agg #[.int .i64 a0,.int .i64 a1,.slice s2 l2 c2,.slice s3 l3 c3],.int .i64 cd]) (λτ d=>⟨rfl,rfl,rfl,_,Tryz0.func18,?_⟩) (hcont _ _ _ _ _ _ hC4 hbl);have h:(re w4 τ d).heap[B4]?=_:=hc;have q0:(re w4 τ d).cell? ⟨B4,0,none⟩=some (.int .i64 a0):=by simp[World.cell?,h]
 have q1:(re w4 τ d).cell? ⟨B4,1,none⟩=some (.int .i64 a1):=by simp[World.cell?,h]
 have q2:(re w4 τ d).cell? ⟨B4,2,none⟩=some (.slice s2 l2 c2):=by simp[World.cell?,h]
 have q3:(re w4 τ d).cell? ⟨B4,3,none⟩=some (.slice s3 l3 c3):=by simp[World.cell?,h]
 show Sem.run Tryz0.prog (results Tryz.f18 ((λu=>#[u 0,u 1,u 2,u 3,.pointer (some ⟨B4,0,none⟩),.int .i64 cd,u 6,u 7,u 8,u 9,u 10,u 11,u 12]) u)) _=_;simp[results,Tryz.f18,go_sem,q0,q1,q2,q3]
end
end
section
open Go Go.Conc Go.ChangeShapes Go.WideShapes Go.ChangeAt Go.RowKit
section
variable {H:Type}{enc:TypeId×Value->H}
theorem iB {a:Assume}{C:Checked}{os:Os}{f:FuncId}{fn:Func}{s:ChangeSpec}{conds:List PathCond}{apart fresh handsOn again:Bool}{X:World->Array Value->Prop}
  (hX:∀(w w':World) (args:Array Value),w.heap=w'.heap->X w args->X w' args)
  (own:ownKnob C.prog.godebug=none)(started:os.Started)(hfn:C.prog.funcs[f]?=some fn)
  (witness:∃(w:World) (tape:Tape) (i:Input),w.os=os/\(w.forCall tape i).Shaped C.prog/\i.vars=[]/\Input.okWide C.prog (w.forCall tape i) .any w.heap.size f i/\
   ((s.pre enc C.prog fn conds apart (w.forCall tape i).memory i.args/\X (w.forCall tape i).memory i.args)/\sizedMet enc C.prog fn (OpenSpec.ofChange s) apart (w.forCall tape i).memory i.args)/\a.holds C.prog (lone (Frame.enter C.prog f i.args .normal) [] (w.forCall tape i)))
  (runs:∀(W:World) (base:Nat) (args:Array Value) (ds gs:List (DataW H)) (before:List MemPlace),W.ShapedOpen C.prog->
   (∀(j:Nat) t v,fn.params[j]?=some t->args[j]?=some v->Value.okWide C.prog W .any base t v)->
   DataW.Whole enc C.prog fn.params.toList s.vars apart W args.toList ds gs before->X W args->
   ∃M last o w' t',runNT C.prog (M+1) (solo (G (Frame.enter C.prog f args .normal) []) W) #[]=(.ended o w',t')/\runN C.prog M (solo (G (Frame.enter C.prog f args .normal) []) W)=.next last/\
    step C.prog last=.ended o w'/\Conc.Good C.prog (λv W'=>s.post enc C.prog fn apart fresh handsOn again W args v W') last o w' t'):
  ReturnsInLeavingWide a C os f .any (λw args=>(s.pre enc C.prog fn conds apart w args/\X w args)/\sizedMet enc C.prog fn (OpenSpec.ofChange s) apart w args) (s.post enc C.prog fn apart fresh handsOn again):=by
 refine returnsInLeavingWide_of_good own started witness ?_;intro w tape i _ hsh _ hok hpre hholds;obtain⟨_,_,_,fn',hfn',_,_,_,_,hval⟩:=hok;have e:fn'=fn:=Option.some.inj (hfn'.symm.trans hfn);subst e;obtain⟨⟨⟨ds,gs,before,hw,hc⟩,hx⟩,hz⟩:=hpre;have hw':=DataW.Whole.of_heap (w':=w.forCall tape i) (by rfl) hw;obtain⟨M,last,o,w',t',h1,h2,h3,h4⟩:=runs (w.forCall tape i) w.heap.size i.args ds gs before hsh hval hw' (hX _ _ _ (by rfl) hx);exact⟨M,last,o,w',t',h1,h2,h3,h4.mono λv hp=>ChangeSpec.post_blind hp⟩
end
theorem et:Tryz.prog.globalNamed "errors.errorType"=some 0:=by kernel_rfl
theorem rt:(Tryz.prog.cutTypes.find? (·.1== "internal/reflectlite.rtype")).map (·.2)=some 175:=by kernel_rfl
theorem Ce:((List.range 340).filter λt=>Tryz.prog.rowNamed t [101,114,114,111,114])=[92]:=by kernel_rfl
theorem Cf:Tryz.prog.types.size=340:=by kernel_rfl
theorem oC {W:World}(h:laidMetH Tryz.prog [("errors.errorType",Rows.laid_errors_errorType)] W):W.cell? ⟨0,0,none⟩=some (.iface 175 (.agg #[.pointer (some ⟨9,92,none⟩)])):=by
 have h':laidMet Tryz.prog [] W/\handlesMet Tryz.prog [("errors.errorType",Rows.laid_errors_errorType)] W:=h;obtain⟨name,u,ty,e1,e2,e3,e4,e5⟩:=h'.2 _ (List.mem_singleton.2 rfl);have en:name=[101,114,114,111,114]:=(Option.some.inj e1).symm;subst en;obtain rfl:=Option.some.inj (rt.symm.trans e2);have hm:ty∈(List.range 340).filter λt=>Tryz.prog.rowNamed t [101,114,114,111,114]:=List.mem_filter.2 ⟨List.mem_range.2 (by rw[<-Cf];exact e3),e4⟩
 rw[Ce]at hm;obtain rfl:=List.mem_singleton.1 hm;have hh:typeHandle Tryz.prog 92=.pointer (some ⟨9,92,none⟩):=by kernel_rfl
 rw[hh]at e5;have:=World.var?_cell et e5 0;simpa using this
theorem k7:((begin Tryz.prog (λ_ _=>0) default).world.heap[0]?).bind Obj.row?=some (#[.nilIface],155):=by kernel_rfl
theorem lK:(((begin Tryz.prog (λ_ _=>0) default).world.heap[9-1]?).bind Obj.row?).isSome=true:=by kernel_rfl
theorem Cg {W:World}(hs:W.ShapedOpen Tryz.prog)(h:laidMetH Tryz.prog [("errors.errorType",Rows.laid_errors_errorType)] W):W.heap[0]?=some lA/\tt.n<=W.heap.size:=by
 have hc:=oC h;obtain⟨cs,h1,h2,_⟩:=hs.1 0 _ _ (by rw[iu];decide) k7;obtain⟨⟨z,t⟩,hz⟩:=Option.isSome_iff_exists.1 lK;obtain⟨cs',h3,_⟩:=hs.1 (9-1) z t (by rw[iu];decide) hz;have h4:=(Array.getElem?_eq_some_iff.1 h3).1;refine⟨?_,by show 9<=_;omega⟩;obtain⟨l⟩:=cs;match l,h2 with
 |[x],_=>
  simp[World.cell?,h1]at hc;rw[h1,hc];rfl
noncomputable def qh (os:Os):World:=
 let w0:=World.holding Tryz.prog os ⟨#[],#[],[]⟩
 {w0 with heap:=w0.heap.modify 0 λ
   |.cells _ t frozen=>.cells #[.iface 175 (.agg #[.pointer (some ⟨9,92,none⟩)])] t frozen
   |o=>o}
theorem pb (os:Os)(args:Array Value):laidMetH Tryz.prog [("errors.errorType",Rows.laid_errors_errorType)] ((qh os).forCall (λ_ _=>0) ⟨#[],args,[]⟩).memory:=
 laidMetH_of_parts (laidMet_nil _ _) (by kernel_rfl)
theorem xj (Lk:Looks){p:Pinned}{s:OpenSpec}{c:OpenClaim}(kinds:List LaidKind)(tests:Bool)(har:Bool×String)(lk:Bool)
  (hc:c.holds p s)(hw:c.wfByText s=true)(htie:c.laidByTextAt Lk p kinds tests)
  (hst:c.start=.entering)(hnb:c.noBlocks=false/\c.again=false)(hm:p.checked.prog.mainIs=some (har.1,har.2.toList))(hn:(!har.1&&har.2.isEmpty&&!lk)=false)
  (hl:∀f fn,p.checked.prog.funcNamed c.func=some f->p.checked.prog.funcs[f]?=some fn->lk=p.checked.prog.looks []/\∀(j:Nat) t,fn.params[j]?=some t->p.checked.prog.wantsStandIn t=false)
  (hg:true=c.goesBy p.checked.prog):
  Claim7.holds p (.plain s) {stood:={row:=c,standIns:=[],harness:=har,looks:=lk},kinds:=[],alts:=[],goes:=true,laidByText:=true,laidKinds:=kinds,laidTests:=tests,laidLooks:=Lk}:=by
 have h6:Claim7.isSixth {stood:={row:=c,standIns:=[],harness:=har,looks:=lk},kinds:=[]}=false:=by simpa[Claim7.isSixth]using hn
 exact⟨Claim7.tied_new_at Lk kinds tests (Claim7.new_of_sixth hc har lk hst hnb hm h6 hl) hw,(λD hD=>by cases hD),htie,(λh=>by cases h),hg⟩
theorem AS:sameLayout Tryz.prog Tryz.prog.depth 155 27=false:=by kernel_rfl
theorem zm:sameLayout Tryz.prog Tryz.prog.depth 155 3=false:=by kernel_rfl
theorem not_row {fits:TypeId->Bool}(hf:fits 155=false):∀d c off n,rowAt Tryz.prog fits d 155 c off n=false
 |0,_,_,_=>rfl
 |d+1,c,off,n=>by
  unfold rowAt;rw[Tryz.underlying155,hf];dsimp only;split
  .rfl
  .simp
theorem zn {e:TypeId}(he:sameLayout Tryz.prog Tryz.prog.depth 155 e=false)(ha:∀m u,Tryz.prog.underlying e≠some (.array m u))(c off n:Nat):∀d,liesAt Tryz.prog d 155 c off e n=false
 |0=>rfl
 |d+1=>by
  unfold liesAt;rw[not_row he];cases hu:Tryz.prog.underlying e with
  |none=>rfl
  |some x=>
   cases x with
   |array m u=>exact(ha m u hu).elim
   |_=>rfl
theorem oD {W:World}{r:Reach}{base:Nat}{t e:TypeId}{x:Addr}{n cap:Nat}(ht:Tryz.prog.underlying t=some (.slice e))(he:sameLayout Tryz.prog Tryz.prog.depth 155 e=false)(ha:∀m u,Tryz.prog.underlying e≠some (.array m u))(hW:W.heap[0]?=some lA)(h:Cell.okWide Tryz.prog W r base t (.slice (some x) n cap)):(∃cs e z,W.heap[x.block]?=some (.cells cs e z))/\x.block≠0:=by
 simp only[ht,Cell.okWide,Cell.ok]at h;obtain⟨_,_,_,hs,row,cells,hsh,hl⟩:=h;refine⟨?_,λh0=>?_⟩
 .unfold World.shape? at hsh;split at hsh
  .rename_i c el z hc;exact⟨c,el,z,hc⟩
  .cases hsh
 .rw[h0]at hsh;simp[World.shape?,hW,lA]at hsh;obtain⟨rfl,_⟩:=hsh;rw[zn he ha]at hl;cases hl
end
end Go.Proofs.YtlmcblcijndipabGreatDoor
