import Derived.Test.YtlmcblcijndipabGreatDoorAd45
import Derived.Test.YtlmcblcijndipabGreatDoorAd46
set_option linter.unusedVariables false
set_option linter.unusedSimpArgs false
set_option maxHeartbeats 4000000
set_option maxRecDepth 100000
namespace Go.Proofs.YtlmcblcijndipabGreatDoor
open Go Go.Conc Go.RowKit
section
variable [g:Gl]{ok:Ctx}{Fm:Frame}{Q:Value->World->Prop}
theorem uj (E:bG Tz.prog ok Fm Dr24)(hWm:ok.inn 274=true)(hIn:ok.inn 277=true)(hov:g.ov=278){r0:Frame}{cs:List Frame}{V:World}(hr0:ok.inn r0.fn=true)
  {b n cap:Nat}{f:Nat->Mv}{q:Mv}(hn:n<=6)(hbs:b<V.heap.size)(hrow:ak V b 0 n f)
  (hcont:∀BN cN V',V'.ownsRow V.heap.size 36 6 (.slice (some ⟨BN,0,none⟩) (n+1) cN) (n+1) (aG (bz f (mq f n q) q) (n+1))->Bl V.heap.size V V'->ap Tz.prog ok Fm Dr24 Q ⟨r0.finish (.slice (some ⟨BN,0,none⟩) (n+1) cN),cs,V'⟩):
  ap Tz.prog ok Fm Dr24 Q ⟨Frame.enter Tz.prog 274 #[.slice (some ⟨b,0,none⟩) n cap,.agg #[.string q.name,.bool q.lands,.int .i64 q.wake,.int .i64 q.est,.int .i64 q.late,.int .i64 q.prom]] .normal,r0::cs,V⟩:=by
 have hE:=enter_at (P:=Tz.prog) #[.slice (some ⟨b,0,none⟩) n cap,.agg #[.string q.name,.bool q.lands,.int .i64 q.wake,.int .i64 q.est,.int .i64 q.late,.int .i64 q.prom]] Tz.func274 rfl;simp only[Tryz.ntmps274,List.size_toArray,List.length_cons,List.length_nil,Nat.reduceAdd,Nat.reduceSub,Array.replicate_succ,Array.replicate_zero,List.push_toArray,List.append_toArray,List.nil_append,List.cons_append]at hE;rw[hE];clear hE;obtain⟨B3,hB3⟩:∃x,x=V.heap.size:=⟨_,rfl⟩;refine ap.chainM E hWm [_,_,_] _ (λa' w'=>∃k:Nat,k<=n/\(∀j,j<k->aO (f j).name q.name=true)/\(k<n->aO (f k).name q.name=false)/\Bl V.heap.size V w'/\dL w' B3 q/\aZ a' (rW 28 [(0,.slice (some ⟨b,0,none⟩) n cap),(3,.pointer (some ⟨B3,0,none⟩)),(5,.int .i64 k)])) (λ_ _=>False) ?_ ?_ (λ_ _ _ h=>h.elim)
 .intro τ d;have hrow0:ak (re V τ d) b 0 n f:=aI hrow rfl;have hbs0:b<(re V τ d).heap.size:=hbs;have hbl0:∀W,Below (re V τ d).heap.size (re V τ d) W->Bl V.heap.size V W:=λW h=>Bl.ofR h
  have hB0:B3=(re V τ d).heap.size:=hB3;clear hcont hrow hbs hB3;revert hrow0 hbs0 hbl0 hB0;generalize re V τ d=w;intro hrow hbs hbl0 hB3;have bA:Below w.heap.size w (w.alloc (.cells #[.string q.name,.bool q.lands,.int .i64 q.wake,.int .i64 q.est,.int .i64 q.late,.int .i64 q.prom] 36)):=(Gb _ w).alloc (Gm _) _;have mA:dL (w.alloc (.cells #[.string q.name,.bool q.lands,.int .i64 q.wake,.int .i64 q.est,.int .i64 q.late,.int .i64 q.prom] 36)) w.heap.size q:=heap_alloc_new _ _;simp only[aD];go_wp2;go_loopw [5] (λx W=>∃k:Nat,x=.int .i64 k/\k<=n/\Below w.heap.size w W/\dL W w.heap.size q/\∀j,j<k->aO (f j).name q.name=true) (λx _=>n-(intOf x).toNat)
  case atStart=>exact⟨0,rfl,Gs _,bA,mA,λj hj=>absurd hj (Gr _)⟩
  case round=>
   clear bA mA;obtain⟨k,rfl,hk,hB,hm,hls⟩:=hrel;have lb:=Gn hbs hB.size;have lm:w.heap.size<wr.heap.size:=(Gp.1 hm).1;have hne:=ay wr;have x1:=λx:ag wr=>x.cell (fx hm).c0
   by_cases hgo:k<n/\aO (f k).name q.name=true
   .obtain⟨hlt,hL⟩:=hgo;have hlt':(k:Int)<n:=by omega
    have hL':Op.bytesLess (f k).name.toList q.name.toList=true:=hL;have c0:=(hrow.below hB hbs k hlt).c0;simp only[Nat.zero_add]at c0;have x0:=λx:ag wr=>x.cell c0
    go_wp2;refine af (by kernel_rfl) (by kernel_rfl) ?_;repeat(go_big_quiet_step (fail))
    refine wpQuiet_nil (ai ?_);intro w2 hb2;go_wp2;all_goals first|(exfalso;omega)|skip
    go_roundw
    case rel=>exact⟨k+1,by go_num,by omega,hB.trans (hb2.mono hB.size),hm.keep (hb2.block _ lm),λj hj=>by
     by_cases e:j=k
     .subst e;exact hL
     .exact hls j (by omega)⟩
    case measure=>simp[intOf];omega
   have hst:k<n->aO (f k).name q.name=false:=λh=>by
    cases hL:aO (f k).name q.name with
    |false=>rfl
    |true=>exact absurd ⟨h,hL⟩ hgo
   by_cases hlt:k<n;focus
    have hlt':(k:Int)<n:=by omega
    have hL':Op.bytesLess (f k).name.toList q.name.toList=false:=hst hlt;have c0:=(hrow.below hB hbs k hlt).c0;simp only[Nat.zero_add]at c0;have x0:=λx:ag wr=>x.cell c0
    go_wp2;refine af (by kernel_rfl) (by kernel_rfl) ?_;repeat(go_big_quiet_step (fail))
    refine wpQuiet_nil (ai ?_);intro w2 hb2;go_wp2;all_goals first|(exfalso;omega)|skip
   rotate_left;focus
    have hlt':¬(k:Int)<n:=by omega
    have hz:decide (k<n)=false:=by simpa using hlt
    go_wp2;refine af (by kernel_rfl) (by kernel_rfl) ?_;repeat(go_big_quiet_step (fail))
    refine wpQuiet_nil (ai ?_);intro w2 hb2;go_wp2;all_goals first|(exfalso;omega)|skip
   all_goals exact⟨k,hk,hls,hst,hbl0 _ (hB.trans (hb2.mono hB.size)),by rw[hB3];exact hm.keep (hb2.block _ lm),by rw[hB3];exact⟨rfl,rfl⟩⟩
 rintro a' w1 ⟨k,hk,hls,hst,hb1,hm1,hfr⟩;obtain⟨u,rfl⟩:=hfr.open;clear hfr;have hKP:=sw hk hls hst;have hz1:=hb1.size;have row1:ak w1 b 0 n f:=aI hrow (hb1.block b hbs);have lm1:B3<w1.heap.size:=(Gp.1 hm1).1;have hin2:∀BN cN V',V'.ownsRow V.heap.size 36 6 (.slice (some ⟨BN,0,none⟩) (n+1) cN) (n+1) (aG (bz f k q) (n+1))->Bl V.heap.size V V'->ap Tz.prog ok Fm Dr24 Q ⟨r0.finish (.slice (some ⟨BN,0,none⟩) (n+1) cN),cs,V'⟩:=by
  rw[<-hKP];exact hcont
 clear hcont hls hst hKP hrow hB3;refine ap.seq E hWm (ap.drawnTo E hWm (by kernel_rfl) #[{dst:=some 22,op:=.move (.tmp 0),type:=30,pos:= "l5_book.go:310",after:=#[],guard:=none},{dst:=some 23,op:=.call {callee:=.value (.func 150),args:=#[.tmp 22],argTypes:=#[30]},type:=30,pos:= "l5_book.go:310",after:=#[{on:=0,ground:=.data}],guard:=none},{dst:=some 24,op:=.move (.tmp 5),type:=3,pos:= "l5_book.go:310",after:=#[],guard:=none},{dst:=some 25,op:=.load 36 (.tmp 3),type:=36,pos:= "l5_book.go:310",after:=#[],guard:=none},{dst:=some 26,op:=.buildSlice 30 1 #[(0,.tmp 25)],type:=30,pos:= "l5_book.go:310",after:=#[{on:=3,ground:=.data}],guard:=none}] [5,6] (λi hi=>by
  have hi:i<5:=hi;match i,hi with
  |0,_=>rfl
  |1,_=>rfl
  |2,_=>rfl
  |3,_=>rfl
  |4,_=>rfl) (by simp) (by kernel_rfl) (λa' w'=>∃BC cC BV,w'.ownsRow V.heap.size 36 6 (.slice (some ⟨BC,0,none⟩) n cC) n (aG f n)/\w'.heap[BV]?=some (.cells q.cells 36 (0,0))/\BV≠BC/\V.heap.size<=BC/\Bl V.heap.size V w'/\aZ a' (rW 28 [(23,.slice (some ⟨BC,0,none⟩) n cC),(24,.int .i64 k),(26,.slice (some ⟨BV,0,none⟩) 1 1)])) ?_ ?_)
 .intro τ d;have hmv:dL (re w1 τ d) B3 q:=hm1;have hr1:ak (re w1 τ d) b 0 n f:=aI row1 rfl;have lb:b<(re w1 τ d).heap.size:=Gn hbs hz1;have lm:B3<(re w1 τ d).heap.size:=lm1;have hbl:Bl V.heap.size V (re w1 τ d):=⟨hb1.size,hb1.block⟩;clear hin2 hm1 row1 hb1 hbs lm1 hz1;revert hmv hr1 lb lm hbl;generalize re w1 τ d=w;intro hmv hr1 lb lm hbl;refine wpAny_of_held (S:=DD B3 q) _ _ _ _ ?_;have hHeld:DD B3 q w:=fx hmv;have HC:=λW (h:Below w.heap.size w W)=>nM b n cap f W (by omega) (Gn lb h.size) (hr1.below h lb)
  refine aJ 0 (.slice (some ⟨b,0,none⟩) n cap) 22 rfl (λw' hSw=>by(obtain⟨s0,s1,s2,s3,s4,s5⟩:=hSw;go_simp)) hHeld ?_;refine aJ 2 (.int .i64 (k:Int)) 24 rfl (λw' hSw=>by(obtain⟨s0,s1,s2,s3,s4,s5⟩:=hSw;go_simp)) hHeld ?_;refine aJ 3 (.agg #[.string q.name,.bool q.lands,.int .i64 q.wake,.int .i64 q.est,.int .i64 q.late,.int .i64 q.prom]) 25 rfl (λw' hSw=>by(obtain⟨s0,s1,s2,s3,s4,s5⟩:=hSw;go_simp)) hHeld ?_;refine AK 1 4 rfl rfl (λK hK=>?_) (λK hK=>?_)
  .go_simp
   go_at_call 150
   refine(HC w (Gb _ _)).mono ?_;clear HC;rintro e w2 ⟨BC,cC,rfl,ho,_,b2⟩;go_wp2_with fail
   refine hK.out _ _ (fx (hmv.keep (b2.block _ lm))) (λhHeld=>?_);clear hK K;refine fD 4 rfl (λK hK=>?_);go_simp
   have hz:=hbl.size;have lC:=(ho.lt BC rfl);have bo:Below w2.heap.size w2 (w2.alloc (.cells #[.string q.name,.bool q.lands,.int .i64 q.wake,.int .i64 q.est,.int .i64 q.late,.int .i64 q.prom] 36)):=(Gb _ _).alloc (Gm _) _;refine hK.out _ _ (fx ((hmv.keep (b2.block _ lm)).keep (bo.block _ (Gn lm b2.size)))) (λhHeld=>?_);refine wpAnyH_done (by kernel_rfl) ?_ _;exact⟨rfl,BC,cC,w2.heap.size,eB (ga ho (bo.block BC lC.2)) hz,heap_alloc_new _ _,by omega,by omega,hbl.trans ⟨(b2.trans (bo.mono b2.size)).size,(b2.trans (bo.mono b2.size)).block⟩ hz,rfl,rfl⟩
  .go_simp
   have bo:Below w.heap.size w (w.alloc (.cells #[.string q.name,.bool q.lands,.int .i64 q.wake,.int .i64 q.est,.int .i64 q.late,.int .i64 q.prom] 36)):=(Gb _ _).alloc (Gm _) _;refine hK.out _ _ (fx (hmv.keep (bo.block _ lm))) (λhHeld=>?_);clear hK K;refine fD 1 rfl (λK hK=>?_);go_simp
   go_at_call 150
   refine(HC _ bo).mono ?_;clear HC;rintro e w2 ⟨BC,cC,rfl,ho,_,b2⟩;go_wp2_with fail
   have hz:=hbl.size;have lC:=(ho.lt BC rfl);have zo:(w.alloc (.cells #[.string q.name,.bool q.lands,.int .i64 q.wake,.int .i64 q.est,.int .i64 q.late,.int .i64 q.prom] 36)).heap.size=w.heap.size+1:=Gg _ _;refine hK.out _ _ (fx ((hmv.keep (bo.block _ lm)).keep (b2.block _ (by omega)))) (λhHeld=>?_);refine wpAnyH_done (by kernel_rfl) ?_ _;exact⟨rfl,BC,cC,w.heap.size,eB ho (by omega),(b2.block _ (by omega)).trans (heap_alloc_new _ _),by omega,by omega,hbl.trans ⟨(bo.trans (b2.mono bo.size)).size,(bo.trans (b2.mono bo.size)).block⟩ hz,rfl,rfl⟩
 rintro a' w2 ⟨BC,cC,BV,ho,hv,hne,hBC,hb2,hfr⟩;clear u;obtain⟨u,rfl⟩:=hfr.open;clear hfr;have hz2:=hb2.size;refine ap.insertOp E hIn hov hWm (i:=5) rfl rfl (B:=BC) (n:=n) (c:=cC) (p:=k) (N:=V.heap.size) (Bv:=BV) (f:=f) (m:=q) (λw=>by simp[execOp,resolve,invoke,Act.eval,go_sem]) (by omega) hk hz2 ho hne hv ?_;intro BN cN V3 o3 hz3 h3;have hb3:Bl V.heap.size V V3:=⟨by omega,λi hi=>(h3 i (by omega) (by omega)).trans (hb2.block i hi)⟩;clear ho hv hb2 h3;refine ap.opsAny E hWm [6] [] (λa' w'=>(∃τ d,w'=re V3 τ d)/\aZ a' (rW 28 [(4,.slice (some ⟨BN,0,none⟩) (n+1) cN)])) ?_ ?_
 .intro τ d;clear hin2;simp only[Act.put,wpOps_cons];refine wpOp_step rfl (λK hK=>?_);go_simp
  exact hK _ _ ⟨rfl,⟨τ,d,rfl⟩,rfl,rfl⟩
 rintro a' w' ⟨⟨τ3,d3,rfl⟩,hfr⟩;clear u;obtain⟨u,rfl⟩:=hfr.open;refine ap.regionEnd E hWm (ap.ret E hWm ?_);refine ap.leave E hr0 (v:=.slice (some ⟨BN,0,none⟩) (n+1) cN) (λτ d=>⟨rfl,rfl,rfl,_,Tz.func274,?_⟩) (hin2 BN cN _ (ga o3 rfl) ⟨hb3.size,hb3.block⟩);show Sem.run Tz.prog (results Tryz.f274 ((rW 28 [(4,.slice (some ⟨BN,0,none⟩) (n+1) cN)]) u)) _=_;simp[results,Tryz.f274,go_sem]
end
structure AL (ok:Ctx):Prop where
 ch:ok.inn 39=true
 tr:ok.inn 64=true
 md:ok.inn 271=true
 wm:ok.inn 274=true
 ins:ok.inn 277=true
 su:ok.inn 91=true
 ro:ok.inn 112=true
 pl:ok.inn 132=true
 sb:ok.inn 151=true
 bt:ok.inn 181=false
 co:ok.inn 65=false
def jA (w:World)(B:Nat)(q:Mv):Prop:=w.heap[B]?=some (.cells q.cells 64 (0,0))
theorem jA.same {w w':World}{B:Nat}{q:Mv}(h:jA w B q)(e:w'.heap[B]?=w.heap[B]?):jA w' B q:=e.trans h
theorem jA.cells {w:World}{B:Nat}{q:Mv}(h:jA w B q):DD B q w:=by
 unfold jA at h;constructor<;>simp[World.cell?,h,Mv.cells]
theorem jA.lt {w:World}{B:Nat}{q:Mv}(h:jA w B q):B<w.heap.size:=(Gp.1 h).1
def vO (f:Nat->Mv)(n:Nat)(now shift:Int)(q:Mv)(V:World)(v:Value)(V':World):Prop:=
 Bl V.heap.size V V'/\match sx f n now shift q with
  |.no cd=>v=.tuple #[.agg #[.int .i64 0,.int .i64 0,.slice none 0 0,.slice none 0 0],.iface 128 (.agg #[.int .i64 cd])]
  |.yes p T=>∃BN c2 BT c3,v=.tuple #[.agg #[.int .i64 now,.int .i64 shift,.slice (some ⟨BN,0,none⟩) (n+1) c2,.slice (some ⟨BT,0,none⟩) (n+1) c3],.nilIface]/\
   V.heap.size<=BN/\V.heap.size<=BT/\pa V' BN (n+1) (bz f p q)/\kJ V' BT (n+1) T
section
variable [g:Gl]{ok:Ctx}{c:Frame}{Q:Value->World->Prop}
theorem ap.withOp (E:bG Tz.prog ok c Dr24)(hA:AL ok)(hov:g.ov=278){fb:Frame}{a:Act}{k:List Item}{cs:List Frame}{V:World}(hb:ok.inn fb.fn=true){ops:Array Oper}{i:Nat}{r:List Nat}{o:Oper}(ho:ops[i]?=some o)(hw:Region.wanted o (yielded ops a.tmps)=true)
  {b n cap:Nat}{f:Nat->Mv}{q:Mv}(hx:∀w,(execOp a.eval o).run Tz.prog w=.ok (.enter 274 #[.slice (some ⟨b,0,none⟩) n cap,.agg #[.string q.name,.bool q.lands,.int .i64 q.wake,.int .i64 q.est,.int .i64 q.late,.int .i64 q.prom]]) w)(hn:n<=6)(hbs:b<V.heap.size)(hrow:ak V b 0 n f)
  (hcont:∀BN cN V',V'.ownsRow V.heap.size 36 6 (.slice (some ⟨BN,0,none⟩) (n+1) cN) (n+1) (aG (bz f (mq f n q) q) (n+1))->Bl V.heap.size V V'->ap Tz.prog ok c Dr24 Q ⟨fb.at (a.put o.dst (.slice (some ⟨BN,0,none⟩) (n+1) cN)) (.inRegion ops r::k),cs,V'⟩):ap Tz.prog ok c Dr24 Q ⟨fb.at a (.inRegion ops (i::r)::k),cs,V⟩:=
 ap.enterOp E ho hw hA.wm hx (uj E hA.wm hA.ins hov (r0:=fb.at a (.inRegion ops (i::r)::k)) hb hn hbs hrow (λBN cN V' h1 h2=>by rw[cD ho];exact hcont BN cN V' h1 h2))
theorem Ax (E:bG Tz.prog ok c Dr24)(hA:AL ok)(hov:g.ov=278){r0:Frame}{cs:List Frame}{V:World}(hr0:ok.inn r0.fn=true)
  {b n cap b' cap':Nat}{f:Nat->Mv}{now shift:Int}{q:Mv}(hq:q.Fits)(hm:aw f n=true)(h0:0<=now)(h1:now<=20000)(hbs:b<V.heap.size)(hrow:ak V b 0 n f)
  (hcont:∀v V',vO f n now shift q V v V'->ap Tz.prog ok c Dr24 Q ⟨r0.finish v,cs,V'⟩):
  ap Tz.prog ok c Dr24 Q ⟨Frame.enter Tz.prog 271 #[.agg #[.string q.name,.bool q.lands,.int .i64 q.wake,.int .i64 q.est,.int .i64 q.late,.int .i64 q.prom],.agg #[.int .i64 now,.int .i64 shift,.slice (some ⟨b,0,none⟩) n cap,.slice (some ⟨b',0,none⟩) n cap']] .normal,r0::cs,V⟩:=by
 have h6:=aN hm;have hMd:=hA.md;have hE:=enter_at (P:=Tz.prog) #[.agg #[.string q.name,.bool q.lands,.int .i64 q.wake,.int .i64 q.est,.int .i64 q.late,.int .i64 q.prom],.agg #[.int .i64 now,.int .i64 shift,.slice (some ⟨b,0,none⟩) n cap,.slice (some ⟨b',0,none⟩) n cap']] Tz.func271 rfl;simp only[Tryz.ntmps271,List.size_toArray,List.length_cons,List.length_nil,Nat.reduceAdd,Nat.reduceSub,Array.replicate_succ,Array.replicate_zero,List.push_toArray,List.append_toArray,List.nil_append,List.cons_append]at hE;rw[hE];clear hE;obtain⟨B2,hB2⟩:∃x,x=V.heap.size:=⟨_,rfl⟩;obtain⟨B3,hB3⟩:∃x,x=V.heap.size+1:=⟨_,rfl⟩;obtain⟨B4,hB4⟩:∃x,x=V.heap.size+1+1:=⟨_,rfl⟩;have hleave:∀(x0 x1:Int) (a2 a3:Option Addr) (l2 l3 c2 c3:Nat) (ev:Value) (a':Act) (w':World) (todo:List Item),(w'.heap[B4]?=some (.cells #[.int .i64 x0,.int .i64 x1,.slice a2 l2 c2,.slice a3 l3 c3] 32 (0,0))/\vO f n now shift q V (.tuple #[.agg #[.int .i64 x0,.int .i64 x1,.slice a2 l2 c2,.slice a3 l3 c3],ev]) w'/\aZ a' (rW 65 [(4,.pointer (some ⟨B4,0,none⟩)),(5,ev)]))->
   ap Tz.prog ok c Dr24 Q ⟨{(base 271).at a' todo with mode:=.returning},r0::cs,w'⟩:=by
  rintro x0 x1 a2 a3 l2 l3 c2 c3 ev a' w' todo ⟨hc,hpost,hfr⟩;obtain⟨u,rfl⟩:=hfr.open;refine ap.leave E hr0 (v:=.tuple #[.agg #[.int .i64 x0,.int .i64 x1,.slice a2 l2 c2,.slice a3 l3 c3],ev]) (λτ d=>⟨rfl,rfl,rfl,_,Tz.func271,?_⟩) (hcont _ _ hpost);have h:ar (re w' τ d) B4 x0 x1 (.slice a2 l2 c2) (.slice a3 l3 c3):=hc;obtain⟨q0,q1,q2,q3,q4⟩:=h.cells;show Sem.run Tz.prog (results Tryz.f271 ((rW 65 [(4,.pointer (some ⟨B4,0,none⟩)),(5,ev)]) u)) _=_;simp[results,Tryz.f271,go_sem,q0,q1,q2,q3]
 have hno:∀(cd:Int) (a':Act) (w':World) (todo:List Item),(sx f n now shift q=.no cd/\w'.heap[B4]?=some (.cells #[.int .i64 0,.int .i64 0,.slice none 0 0,.slice none 0 0] 32 (0,0))/\Bl V.heap.size V w'/\aZ a' (rW 65 [(4,.pointer (some ⟨B4,0,none⟩)),(5,.iface 128 (.agg #[.int .i64 cd]))]))->ap Tz.prog ok c Dr24 Q ⟨{(base 271).at a' todo with mode:=.returning},r0::cs,w'⟩:=λcd a' w' todo h=>hleave _ _ _ _ _ _ _ _ _ a' w' todo ⟨h.2.1,⟨h.2.2.1,by rw[h.1]⟩,h.2.2.2⟩
 refine ap.chain E hMd [_,_,_,_] _ (λa' w'=>q.ok=true/\q.prom<0/\(∀j,j<n->aX (f j).name q.name=false)/\n<6/\Bl V.heap.size V w'/\jA w' B2 q/\ar w' B3 now shift (.slice (some ⟨b,0,none⟩) n cap) (.slice (some ⟨b',0,none⟩) n cap')/\ar w' B4 0 0 (.slice none 0 0) (.slice none 0 0)/\aZ a' (rW 65 [(2,.pointer (some ⟨B2,0,none⟩)),(3,.pointer (some ⟨B3,0,none⟩)),(4,.pointer (some ⟨B4,0,none⟩)),(5,.nilIface)])) (λa' w'=>∃cd,sx f n now shift q=.no cd/\w'.heap[B4]?=some (.cells #[.int .i64 0,.int .i64 0,.slice none 0 0,.slice none 0 0] 32 (0,0))/\Bl V.heap.size V w'/\aZ a' (rW 65 [(4,.pointer (some ⟨B4,0,none⟩)),(5,.iface 128 (.agg #[.int .i64 cd]))])) ?_ ?_ (λa' w' todo ⟨cd,h⟩=>hno cd a' w' todo h)
 .intro τ d;have hz0:(re V τ d).heap.size=V.heap.size:=rfl;subst hB2 hB3 hB4;obtain⟨W0,hW0⟩:∃W,W=((((re V τ d).alloc (.cells #[.string q.name,.bool q.lands,.int .i64 q.wake,.int .i64 q.est,.int .i64 q.late,.int .i64 q.prom] 64)).alloc (.cells #[.int .i64 now,.int .i64 shift,.slice (some ⟨b,0,none⟩) n cap,.slice (some ⟨b',0,none⟩) n cap'] 32)).alloc (.cells #[.int .i64 0,.int .i64 0,.slice none 0 0,.slice none 0 0] 32)):=⟨_,rfl⟩;have bW:Below (re V τ d).heap.size (re V τ d) W0:=by rw[hW0];exact(((Gb _ _).alloc (Gm _) _).alloc (by simp) _).alloc (by simp<;>omega) _
  have k2:jA W0 V.heap.size q:=by rw[hW0,<-hz0];exact(Gc _ _ _ (by simp<;>omega)).trans ((Gc _ _ _ (by simp)).trans (heap_alloc_new _ _))
  have k3:ar W0 (V.heap.size+1) now shift (.slice (some ⟨b,0,none⟩) n cap) (.slice (some ⟨b',0,none⟩) n cap'):=by rw[hW0,<-hz0];exact(Gc _ _ _ (by simp)).trans (bj _ _ _)
  have k4:ar W0 (V.heap.size+1+1) 0 0 (.slice none 0 0) (.slice none 0 0):=by
   rw[hW0,<-hz0];have:=bj ((re V τ d).alloc (.cells #[.string q.name,.bool q.lands,.int .i64 q.wake,.int .i64 q.est,.int .i64 q.late,.int .i64 q.prom] 64)) (.cells #[.int .i64 now,.int .i64 shift,.slice (some ⟨b,0,none⟩) n cap,.slice (some ⟨b',0,none⟩) n cap'] 32) (.cells #[.int .i64 0,.int .i64 0,.slice none 0 0,.slice none 0 0] 32);rw[Gg]at this;exact this
  have hbl0:∀W,Below W0.heap.size W0 W->Bl V.heap.size V W:=λW h=>Bl.ofR (bW.trans (h.mono bW.size))
  have rw0:ak W0 b 0 n f:=(aI hrow (w':=re V τ d) rfl).below bW hbs;have hzW:V.heap.size<=W0.heap.size:=bW.size;have HM:=λW=>oy q W
  have HP:=λW (h:Below W0.heap.size W0 W)=>uk b 0 n cap f q.name W (by omega) (by have:=h.size;omega) (rw0.below h (by omega))
  have hgo:∀(P:Prop),(q.ok=false->P)->(q.ok=true->¬q.prom<0->(q.prom==-1)=false->P)->(q.ok=true->q.prom<0->(q.prom==-1)=true->(∃j,j<n/\aX (f j).name q.name=true)->(∀k,jO f n q.name k->0<=k)->P)->(q.ok=true->q.prom<0->(q.prom==-1)=true->(∀j,j<n->aX (f j).name q.name=false)->(∀k,jO f n q.name k->k<0)->¬n<6->P)->(q.ok=true->q.prom<0->(q.prom==-1)=true->(∀j,j<n->aX (f j).name q.name=false)->(∀k,jO f n q.name k->k<0)->n<6->P)->P:=λP a1 a2 a3 a4 a5=>by
   cases hok:q.ok with
   |false=>exact a1 hok
   |true=>
    have hbd:=Mv.ok_bd hok;by_cases hp:q.prom<0
    .have hd:(q.prom==-1)=true:=by simp;omega
     rcases CJ f n q.name with⟨J,hJ,hat,hJ2⟩|hat
     .exact a3 hok hp hd ⟨J,hJ,hat⟩ (λk hk=>by have:=f7.yes hJ hat hJ2 hk;omega)
     .have AT:∀k,jO f n q.name k->k<0:=λk hk=>by have:=f7.no hat hk;omega
      by_cases h:n<6
      .exact a5 hok hp hd hat AT h
      .exact a4 hok hp hd hat AT h
    .exact a2 hok hp (by simp;omega)
  clear hcont hleave hno hrow;simp only[aD];refine hgo _ (λhok=>?_) (λhok hp hd=>?_) (λhok hp hd hat AT=>?_) (λhok hp hd hat AT hlt=>?_) (λhok hp hd hat AT hlt=>?_);all_goals clear hgo
  rotate_left 3
  .have h6e:n=6:=by omega
   subst h6e;rw[hok]at HM;go_wp2_with(first
    |(go_at_call 146;refine(HM _).mono ?_;clear HM;rintro e w1 ⟨rfl,b1⟩;rw[<-hW0]at b1;have hbw:=hbl0 _ b1;have k2:=k2.same (b1.block _ k2.lt);have k3:=k3.same (b1.block _ k3.lt);have k4:=k4.same (b1.block _ k4.lt);(try clear s0 s1 s2 s3 s4 s5 y0 y1 y2 y3 y4 z0 z1 z2 z3 z4);obtain⟨s0,s1,s2,s3,s4,s5⟩:=k2.cells;obtain⟨y0,y1,y2,y3,y4⟩:=k3.cells;obtain⟨z0,z1,z2,z3,z4⟩:=k4.cells)
    |(go_at_call 273;refine(HP _ b1).mono ?_;clear HP;rintro e w2 ⟨⟨kk,rfl,hkk⟩,b2⟩;have hkn:=AT kk hkk;have hbw:=hbl0 _ (b1.trans (b2.mono b1.size));have k2:=k2.same (b2.block _ k2.lt);have k3:=k3.same (b2.block _ k3.lt);have k4:=k4.same (b2.block _ k4.lt);(try clear s0 s1 s2 s3 s4 s5 y0 y1 y2 y3 y4 z0 z1 z2 z3 z4);obtain⟨s0,s1,s2,s3,s4,s5⟩:=k2.cells;obtain⟨y0,y1,y2,y3,y4⟩:=k3.cells;obtain⟨z0,z1,z2,z3,z4⟩:=k4.cells))
   all_goals first|(exfalso;omega)|skip
   rw[dO k4];right;exact⟨by first|rfl|trivial,4,CL hok hp hat (by omega),setRow_heap _ _ _ _ _ _ k4,⟨by rw[setRow_size];exact hbw.size,λk hk=>(setRow_other _ _ _ _ (by omega)).trans (hbw.block k hk)⟩,rfl,rfl⟩
  rotate_right 3;all_goals
   rw[hok]at HM;go_wp2_with(first
    |(go_at_call 146;refine(HM _).mono ?_;clear HM;rintro e w1 ⟨rfl,b1⟩;rw[<-hW0]at b1;have hbw:=hbl0 _ b1;have k2:=k2.same (b1.block _ k2.lt);have k3:=k3.same (b1.block _ k3.lt);have k4:=k4.same (b1.block _ k4.lt);(try clear s0 s1 s2 s3 s4 s5 y0 y1 y2 y3 y4 z0 z1 z2 z3 z4);obtain⟨s0,s1,s2,s3,s4,s5⟩:=k2.cells;obtain⟨y0,y1,y2,y3,y4⟩:=k3.cells;obtain⟨z0,z1,z2,z3,z4⟩:=k4.cells)
    |(go_at_call 273;refine(HP _ b1).mono ?_;clear HP;rintro e w2 ⟨⟨kk,rfl,hkk⟩,b2⟩;have hkn:=AT kk hkk;have hbw:=hbl0 _ (b1.trans (b2.mono b1.size));have k2:=k2.same (b2.block _ k2.lt);have k3:=k3.same (b2.block _ k3.lt);have k4:=k4.same (b2.block _ k4.lt);(try clear s0 s1 s2 s3 s4 s5 y0 y1 y2 y3 y4 z0 z1 z2 z3 z4);obtain⟨s0,s1,s2,s3,s4,s5⟩:=k2.cells;obtain⟨y0,y1,y2,y3,y4⟩:=k3.cells;obtain⟨z0,z1,z2,z3,z4⟩:=k4.cells))
   all_goals first|(exfalso;omega)|skip
  all_goals first
   |(left;exact⟨by first|rfl|trivial,hok,hp,hat,hlt,hbw,k2,k3,k4,rfl,rfl⟩)
   |(rw[dO k4];right;exact⟨by first|rfl|trivial,3,CK hok hp hat,setRow_heap _ _ _ _ _ _ k4,⟨by rw[setRow_size];exact hbw.size,λk hk=>(setRow_other _ _ _ _ (by omega)).trans (hbw.block k hk)⟩,rfl,rfl⟩)
   |(rw[dO k4];right;exact⟨by first|rfl|trivial,2,wX (.inr (by omega)),setRow_heap _ _ _ _ _ _ k4,⟨by rw[setRow_size];exact hbw.size,λk hk=>(setRow_other _ _ _ _ (by omega)).trans (hbw.block k hk)⟩,rfl,rfl⟩)
   |(rw[dO k4];right;exact⟨by first|rfl|trivial,2,wX (.inl hok),setRow_heap _ _ _ _ _ _ k4,⟨by rw[setRow_size];exact hbw.size,λk hk=>(setRow_other _ _ _ _ (by omega)).trans (hbw.block k hk)⟩,rfl,rfl⟩)
 rintro a' w1 ⟨hok,hp,hat,hlt,hb1,k2,k3,k4,hfr⟩;obtain⟨u,rfl⟩:=hfr.open;clear hfr;have hz1:=hb1.size;have o4:V.heap.size<B4:=by omega
 have row1:ak w1 b 0 n f:=aI hrow (hb1.block b hbs);have l3:=k3.lt;have l4:=k4.lt;clear hB2 hB3 hB4 hrow;refine ap.seq E hMd (ap.region E hMd ?_);rw[bh];refine ap.opsFrom E hMd 0 4 (by simp) (λa' w'=>(∃τ d,w'=re w1 τ d)/\aZ a' (rW 65 [(2,.pointer (some ⟨B2,0,none⟩)),(3,.pointer (some ⟨B3,0,none⟩)),(4,.pointer (some ⟨B4,0,none⟩)),(5,.nilIface),(40,.slice (some ⟨b,0,none⟩) n cap),(42,.agg #[.string q.name,.bool q.lands,.int .i64 q.wake,.int .i64 q.est,.int .i64 q.late,.int .i64 q.prom])])) ?_ ?_
 .intro τ d;have p2:jA (re w1 τ d) B2 q:=k2;have p3:ar (re w1 τ d) B3 now shift (.slice (some ⟨b,0,none⟩) n cap) (.slice (some ⟨b',0,none⟩) n cap'):=k3;obtain⟨s0,s1,s2,s3,s4,s5⟩:=p2.cells;obtain⟨y0,y1,y2,y3,y4⟩:=p3.cells;clear hleave hno hcont;simp only[List.drop_zero,List.take_succ_cons,List.take_zero];go_wp2;exact⟨⟨τ,d,rfl⟩,rfl,rfl⟩
 rintro a' w' ⟨⟨τ,d,rfl⟩,hfr⟩;clear u;obtain⟨u,rfl⟩:=hfr.open;clear hfr;refine ap.withOp E hA hov hMd (i:=4) rfl rfl (b:=b) (n:=n) (cap:=cap) (f:=f) (q:=q) (λw=>by simp[execOp,resolve,invoke,Act.eval,go_sem]) h6 (by show b<w1.heap.size;omega) (aI row1 rfl) ?_;intro BN cN V2 o2 hb2';have hb2:Bl w1.heap.size w1 V2:=⟨hb2'.size,hb2'.block⟩;have hBN:w1.heap.size<=BN/\BN<V2.heap.size:=o2.lt BN rfl;have rM:pa V2 BN (n+1) (bz f (mq f n q) q):=rX o2;clear hb2' o2;have hz2:=hb2.size;refine ap.opsFrom E hMd 5 1 (by simp) (λa' w'=>(∃τ d,w'=re V2 τ d)/\aZ a' (rW 65 [(3,.pointer (some ⟨B3,0,none⟩)),(4,.pointer (some ⟨B4,0,none⟩)),(5,.nilIface),(6,.slice (some ⟨BN,0,none⟩) (n+1) cN)])) ?_ ?_
 .intro τ d;clear hleave hno hcont;simp only[List.drop_succ_cons,List.drop_zero,List.take_succ_cons,List.take_zero,Act.put];go_wp2;exact⟨⟨τ,d,rfl⟩,rfl,rfl⟩
 rintro a' w' ⟨⟨τ2,d2,rfl⟩,hfr⟩;clear u;obtain⟨u,rfl⟩:=hfr.open;clear hfr;have p3:ar V2 B3 now shift (.slice (some ⟨b,0,none⟩) n cap) (.slice (some ⟨b',0,none⟩) n cap'):=k3.same (hb2.block B3 l3);have p4:ar V2 B4 0 0 (.slice none 0 0) (.slice none 0 0):=k4.same (hb2.block B4 l4);have hb02:Bl V.heap.size V V2:=hb1.trans hb2 hz1;clear k2 k3 k4 hb1 hb2 row1;have hPm:aw (bz f (mq f n q) q) (n+1)=true:=by
  obtain⟨K,hK1,hK2,hK3⟩:=mn (λj=>aO (f j).name q.name) n;rw[sw hK1 hK2 hK3];exact qG hm hlt hK1 hok hK2 hK3 hat
 refine ap.regionEnd E hMd (ap.seq E hMd (ap.region E hMd ?_));rw[bh];refine ap.opsFrom E hMd 0 5 (by simp) (λa' w'=>(∃τ d,w'=re V2 τ d)/\aZ a' (rW 65 [(3,.pointer (some ⟨B3,0,none⟩)),(4,.pointer (some ⟨B4,0,none⟩)),(5,.nilIface),(6,.slice (some ⟨BN,0,none⟩) (n+1) cN),(45,.slice (some ⟨BN,0,none⟩) (n+1) cN),(47,.int .i64 now),(49,.int .i64 shift)])) ?_ ?_
 .intro τ d;have e3:ar (re (re V2 τ2 d2) τ d) B3 now shift (.slice (some ⟨b,0,none⟩) n cap) (.slice (some ⟨b',0,none⟩) n cap'):=p3;obtain⟨y0,y1,y2,y3,y4⟩:=e3.cells;clear hleave hno hcont;simp only[List.drop_zero,List.take_succ_cons,List.take_zero];go_wp2;exact⟨⟨_,_,rfl⟩,rfl,rfl⟩
 rintro a' w' ⟨⟨τ3,d3,rfl⟩,hfr⟩;clear u;obtain⟨u,rfl⟩:=hfr.open;clear hfr;refine ap.planOp E hA.pl hA.sb hA.bt hMd (i:=5) rfl rfl (B:=BN) (n:=n+1) (cap:=cN) (g:=bz f (mq f n q) q) (now:=now) (shift:=shift) (λw=>by simp[execOp,resolve,invoke,Act.eval,go_sem]) (by omega) (λi hi=>aS hPm i hi) h0 h1 hBN.2 (aI rM.1 rfl) ?_;intro v V3 hpost;obtain⟨r,hr⟩:∃r,eA (bz f (mq f n q) q) (n+1) now shift=r:=⟨_,rfl⟩;rw[hr]at hpost;obtain⟨v5,rfl,t5,hb3'⟩:=rV hpost;have hb3:Bl V2.heap.size V2 V3:=⟨hb3'.size,hb3'.block⟩;replace t5:Tk r (n+1) V2.heap.size V3 v5:=t5;clear hpost hb3';have hap:=Aw (now:=now) (shift:=shift) hok hp hat hlt rfl;rw[hr]at hap;obtain⟨br,hbr⟩:∃br,r.isSome=br:=⟨_,rfl⟩;rw[hbr];have hz3:=hb3.size;refine ap.opsFrom E hMd 6 5 (by simp) (λa' w'=>(∃τ d,w'=re V3 τ d)/\aZ a' (rW 65 [(3,.pointer (some ⟨B3,0,none⟩)),(4,.pointer (some ⟨B4,0,none⟩)),(5,.nilIface),(6,.slice (some ⟨BN,0,none⟩) (n+1) cN),(7,v5),(8,.bool br)])) ?_ ?_
 .intro τ d;clear hleave hno hcont;simp only[List.drop_succ_cons,List.drop_zero,List.take_succ_cons,List.take_zero,Act.put];go_wp2;exact⟨⟨τ,d,rfl⟩,rfl,rfl⟩
 rintro a' w' ⟨⟨τ4,d4,rfl⟩,hfr⟩;clear u;obtain⟨u,rfl⟩:=hfr.open;clear hfr;refine ap.regionEnd E hMd ?_;have q3:ar V3 B3 now shift (.slice (some ⟨b,0,none⟩) n cap) (.slice (some ⟨b',0,none⟩) n cap'):=p3.same (hb3.block B3 p3.lt);have q4:ar V3 B4 0 0 (.slice none 0 0) (.slice none 0 0):=p4.same (hb3.block B4 p4.lt);have sM:pa V3 BN (n+1) (bz f (mq f n q) q):=rM.same (hb3.block BN hBN.2);have hb03:Bl V.heap.size V V3:=hb02.trans hb3 (by omega);have n4M:BN≠B4:=by omega
 clear p3 p4 rM hb02 hb3;cases r with
 |none=>
  subst hbr;obtain⟨a5,c5,rfl⟩:=t5;refine ap.chain E hMd [_] _ (λ_ _=>False) (λa' w'=>w'.heap[B4]?=some (.cells #[.int .i64 0,.int .i64 0,.slice none 0 0,.slice none 0 0] 32 (0,0))/\Bl V.heap.size V w'/\aZ a' (rW 65 [(4,.pointer (some ⟨B4,0,none⟩)),(5,.iface 128 (.agg #[.int .i64 5]))])) ?_ (λ_ _ h=>h.elim) (λa' w' todo h=>hno 5 a' w' todo ⟨hap,h⟩);intro τ d;have k4:ar (re (re V3 τ4 d4) τ d) B4 0 0 (.slice none 0 0) (.slice none 0 0):=q4;have hbw:Bl V.heap.size V (re (re V3 τ4 d4) τ d):=⟨hb03.size,hb03.block⟩;revert k4 hbw;generalize re (re V3 τ4 d4) τ d=w0;intro k4 hbw;clear hleave hno hcont q3 q4 sM hb03;obtain⟨z0,z1,z2,z3,z4⟩:=k4.cells;simp only[aD,Option.isSome_none];go_wp2;all_goals first|(exfalso;omega)|skip
  rw[dO k4];exact⟨setRow_heap _ _ _ _ _ _ k4,⟨by rw[setRow_size];exact hbw.size,λk hk=>(setRow_other _ _ _ _ (by omega)).trans (hbw.block k hk)⟩,rfl,rfl⟩
 |some T=>
  subst hbr;obtain⟨BS,cS,hBS,rfl,oS⟩:=t5;have n4S:BS≠B4:=by omega
  refine ap.last E hMd [_,_] (λa' w'=>w'.heap[B4]?=some (.cells #[.int .i64 now,.int .i64 shift,.slice (some ⟨BN,0,none⟩) (n+1) cN,.slice (some ⟨BS,0,none⟩) (n+1) cS] 32 (0,0))/\Bl V.heap.size V w'/\pa w' BN (n+1) (bz f (mq f n q) q)/\kJ w' BS (n+1) T/\aZ a' (rW 65 [(4,.pointer (some ⟨B4,0,none⟩)),(5,.nilIface)])) ?_ (λa' w' todo h=>hleave _ _ _ _ _ _ _ _ _ a' w' todo ⟨h.1,⟨h.2.1,by rw[hap];exact⟨BN,cN,BS,cS,rfl,by omega,by omega,h.2.2.1,h.2.2.2.1⟩⟩,h.2.2.2.2⟩);intro τ d;have k3:ar (re (re V3 τ4 d4) τ d) B3 now shift (.slice (some ⟨b,0,none⟩) n cap) (.slice (some ⟨b',0,none⟩) n cap'):=q3;have k4:ar (re (re V3 τ4 d4) τ d) B4 0 0 (.slice none 0 0) (.slice none 0 0):=q4;have hbw:Bl V.heap.size V (re (re V3 τ4 d4) τ d):=⟨hb03.size,hb03.block⟩;have eM:pa (re (re V3 τ4 d4) τ d) BN (n+1) (bz f (mq f n q) q):=sM.same rfl;have eS:kJ (re (re V3 τ4 d4) τ d) BS (n+1) T:=As (ju oS rfl);revert k3 k4 hbw eM eS;generalize re (re V3 τ4 d4) τ d=w0;intro k3 k4 hbw eM eS;clear hleave hno hcont q3 q4 sM hb03 oS;obtain⟨y0,y1,y2,y3,y4⟩:=k3.cells;obtain⟨z0,z1,z2,z3,z4⟩:=k4.cells;simp only[aD,Option.isSome_some];go_wp2;all_goals first|(exfalso;omega)|skip
  rw[dO k4];exact⟨setRow_heap _ _ _ _ _ _ k4,⟨by rw[setRow_size];exact hbw.size,λk hk=>(setRow_other _ _ _ _ (by omega)).trans (hbw.block k hk)⟩,eM.same (setRow_other _ _ _ _ n4M),eQ eS (setRow_other _ _ _ _ n4S),rfl,rfl⟩
end
theorem Cm (v:Value)(w:World):(Instr.typeAssert (.iface 64 v) 104 131 true).run Tz.prog w=.ok (.tuple #[.iface 64 v,.bool true]) w:=run_typeAssert_hasB (Tz.tr_underlying Tryz.underlying131) (by kernel_rfl) v 104 w
theorem vP (q:Mv)(w:World):Calls Tz.prog 272 #[.agg #[.string q.name,.bool q.lands,.int .i64 q.wake,.int .i64 q.est,.int .i64 q.late,.int .i64 q.prom]] w λe w'=>e=.returned (.iface 128 (.agg #[.int .i64 6]))/\Below w.heap.size w w':=by
 go_enter Tz.func272,Tryz.ntmps272
 go_wp2;go_ret;exact⟨rfl,(Gb _ _).alloc (Gm _) _⟩
inductive AM (f:Nat->Mv)(n:Nat)(t:Nat->Int)(m:Nat)(now shift:Int)(q:Mv)(N:Nat)(V':World):Value->Value->Value->Value->Value->Prop
 |bad:aV now shift f n t m=false->AM f n t m now shift q N V' (.int .i64 0) (.int .i64 0) (.slice none 0 0) (.slice none 0 0) (.iface 128 (.agg #[.int .i64 1]))
 |no {cd:Int}:aV now shift f n t m=true->nj f n now shift q=.no cd->AM f n t m now shift q N V' (.int .i64 0) (.int .i64 0) (.slice none 0 0) (.slice none 0 0) (.iface 128 (.agg #[.int .i64 cd]))
 |yes {p:Nat} {T:Nat->Int} {BN c2 BT c3:Nat}:aV now shift f n t m=true->nj f n now shift q=.yes p T->N<=BN->N<=BT->pa V' BN (n+1) (bz f p q)->kJ V' BT (n+1) T->
   AM f n t m now shift q N V' (.int .i64 now) (.int .i64 shift) (.slice (some ⟨BN,0,none⟩) (n+1) c2) (.slice (some ⟨BT,0,none⟩) (n+1) c3) .nilIface
section
variable [g:Gl]{ok:Ctx}{c:Frame}{Q:Value->World->Prop}
theorem ap.comesOp (E:bG Tz.prog ok c Dr24)(hA:AL ok)(hov:g.ov=278){fb:Frame}{a:Act}{k:List Item}{cs:List Frame}{V:World}(hb:ok.inn fb.fn=true){ops:Array Oper}{i:Nat}{r:List Nat}{o:Oper}(ho:ops[i]?=some o)(hw:Region.wanted o (yielded ops a.tmps)=true)
  {b n cap b' cap':Nat}{f:Nat->Mv}{now shift:Int}{q:Mv}(hx:∀w,(execOp a.eval o).run Tz.prog w=.ok (.enter 271 #[.agg #[.string q.name,.bool q.lands,.int .i64 q.wake,.int .i64 q.est,.int .i64 q.late,.int .i64 q.prom],.agg #[.int .i64 now,.int .i64 shift,.slice (some ⟨b,0,none⟩) n cap,.slice (some ⟨b',0,none⟩) n cap']]) w)
  (hq:q.Fits)(hm:aw f n=true)(h0:0<=now)(h1:now<=20000)(hbs:b<V.heap.size)(hrow:ak V b 0 n f)
  (hcont:∀v V',vO f n now shift q V v V'->ap Tz.prog ok c Dr24 Q ⟨fb.at (a.put o.dst v) (.inRegion ops r::k),cs,V'⟩):ap Tz.prog ok c Dr24 Q ⟨fb.at a (.inRegion ops (i::r)::k),cs,V⟩:=
 ap.enterOp E ho hw hA.md hx (Ax E hA hov (r0:=fb.at a (.inRegion ops (i::r)::k)) hb hq hm h0 h1 hbs hrow (λv V' hv=>by rw[cD ho];exact hcont v V' hv))
theorem yG (E:bG Tz.prog ok c Dr24)(hA:AL ok)(hov:g.ov=278){r0:Frame}{cs:List Frame}{V:World}(hr0:ok.inn r0.fn=true)
  {b n cap b' m cap':Nat}{f:Nat->Mv}{t:Nat->Int}{now shift:Int}{q:Mv}(hq:q.Fits)(hn:n<=1048576)(hm1:m<=maxLen)(hbs:b<V.heap.size)(hrow:ak V b 0 n f)(hbs':b'<V.heap.size)(hrow':al V b' 0 m t)
  (hcont:∀x0 x1 x2 x3 ev V',AM f n t m now shift q V.heap.size V' x0 x1 x2 x3 ev->Bl V.heap.size V V'->ap Tz.prog ok c Dr24 Q ⟨r0.finish (.tuple #[.agg #[x0,x1,x2,x3],ev]),cs,V'⟩):
  ap Tz.prog ok c Dr24 Q ⟨Frame.enter Tz.prog 64 #[.agg #[.int .i64 now,.int .i64 shift,.slice (some ⟨b,0,none⟩) n cap,.slice (some ⟨b',0,none⟩) m cap'],.iface 64 (.agg #[.string q.name,.bool q.lands,.int .i64 q.wake,.int .i64 q.est,.int .i64 q.late,.int .i64 q.prom])] .normal,r0::cs,V⟩:=by
 have hE:=enter_at (P:=Tz.prog) #[.agg #[.int .i64 now,.int .i64 shift,.slice (some ⟨b,0,none⟩) n cap,.slice (some ⟨b',0,none⟩) m cap'],.iface 64 (.agg #[.string q.name,.bool q.lands,.int .i64 q.wake,.int .i64 q.est,.int .i64 q.late,.int .i64 q.prom])] Tz.func64 rfl;simp only[Tryz.ntmps64,List.size_toArray,List.length_cons,List.length_nil,Nat.reduceAdd,Nat.reduceSub,Array.replicate_succ,Array.replicate_zero,List.push_toArray,List.append_toArray,List.nil_append,List.cons_append]at hE;rw[hE];clear hE;have hTr:=hA.tr;obtain⟨B2,hB2⟩:∃x,x=V.heap.size:=⟨_,rfl⟩;obtain⟨B4,hB4⟩:∃x,x=V.heap.size+1:=⟨_,rfl⟩;have hret:∀(x0 x1 x2 x3 ev:Value) (a':Act) (w':World) (todo:List Item),(w'.heap[B4]?=some (.cells #[x0,x1,x2,x3] 32 (0,0))/\AM f n t m now shift q V.heap.size w' x0 x1 x2 x3 ev/\Bl V.heap.size V w'/\aZ a' (rW 39 [(4,.pointer (some ⟨B4,0,none⟩)),(5,ev)]))->
   ap Tz.prog ok c Dr24 Q ⟨{(base 64).at a' todo with mode:=.returning},r0::cs,w'⟩:=by
  rintro x0 x1 x2 x3 ev a' w' todo ⟨hc,ht,hbl,hfr⟩;obtain⟨u,rfl⟩:=hfr.open;refine ap.leave E hr0 (v:=.tuple #[.agg #[x0,x1,x2,x3],ev]) (λτ d=>⟨rfl,rfl,rfl,_,Tz.func64,?_⟩) (hcont _ _ _ _ _ _ ht hbl);have h:(re w' τ d).heap[B4]?=_:=hc;have q0:(re w' τ d).cell? ⟨B4,0,none⟩=some x0:=by simp[World.cell?,h]
  have q1:(re w' τ d).cell? ⟨B4,1,none⟩=some x1:=by simp[World.cell?,h]
  have q2:(re w' τ d).cell? ⟨B4,2,none⟩=some x2:=by simp[World.cell?,h]
  have q3:(re w' τ d).cell? ⟨B4,3,none⟩=some x3:=by simp[World.cell?,h]
  show Sem.run Tz.prog (results Tryz.f64 ((rW 39 [(4,.pointer (some ⟨B4,0,none⟩)),(5,ev)]) u)) _=_;simp[results,Tryz.f64,go_sem,q0,q1,q2,q3]
 refine ap.chainM E hTr [_,_] _ (λa' w'=>aV now shift f n t m=true/\Bl V.heap.size V w'/\ar w' B2 now shift (.slice (some ⟨b,0,none⟩) n cap) (.slice (some ⟨b',0,none⟩) m cap')/\ar w' B4 0 0 (.slice none 0 0) (.slice none 0 0)/\aZ a' (rW 39 [(1,.iface 64 (.agg #[.string q.name,.bool q.lands,.int .i64 q.wake,.int .i64 q.est,.int .i64 q.late,.int .i64 q.prom])),(2,.pointer (some ⟨B2,0,none⟩)),(4,.pointer (some ⟨B4,0,none⟩)),(5,.nilIface)]))
  (λa' w'=>w'.heap[B4]?=some (.cells #[.int .i64 0,.int .i64 0,.slice none 0 0,.slice none 0 0] 32 (0,0))/\AM f n t m now shift q V.heap.size w' (.int .i64 0) (.int .i64 0) (.slice none 0 0) (.slice none 0 0) (.iface 128 (.agg #[.int .i64 1]))/\Bl V.heap.size V w'/\aZ a' (rW 39 [(4,.pointer (some ⟨B4,0,none⟩)),(5,.iface 128 (.agg #[.int .i64 1]))])) ?_ ?_ (λa' w' todo h=>hret _ _ _ _ _ a' w' todo h)
 .intro τ d;have hz0:(re V τ d).heap.size=V.heap.size:=rfl;have bW:Below (re V τ d).heap.size (re V τ d) (((re V τ d).alloc (.cells #[.int .i64 now,.int .i64 shift,.slice (some ⟨b,0,none⟩) n cap,.slice (some ⟨b',0,none⟩) m cap'] 32)).alloc (.cells #[.int .i64 0,.int .i64 0,.slice none 0 0,.slice none 0 0] 32)):=((Gb _ _).alloc (Gm _) _).alloc (by simp) _;have H1:=lA now shift b 0 n cap f b' 0 m cap' t (((re V τ d).alloc (.cells #[.int .i64 now,.int .i64 shift,.slice (some ⟨b,0,none⟩) n cap,.slice (some ⟨b',0,none⟩) m cap'] 32)).alloc (.cells #[.int .i64 0,.int .i64 0,.slice none 0 0,.slice none 0 0] 32)) hn hm1 (Gn hbs bW.size) ((aI (w':=re V τ d) hrow rfl).below bW hbs) (Gn hbs' bW.size) (al.below (w:=re V τ d) (λi hi=>hrow' i hi) bW hbs');have k2:ar (((re V τ d).alloc (.cells #[.int .i64 now,.int .i64 shift,.slice (some ⟨b,0,none⟩) n cap,.slice (some ⟨b',0,none⟩) m cap'] 32)).alloc (.cells #[.int .i64 0,.int .i64 0,.slice none 0 0,.slice none 0 0] 32)) (re V τ d).heap.size now shift (.slice (some ⟨b,0,none⟩) n cap) (.slice (some ⟨b',0,none⟩) m cap'):=(Gc _ _ _ (by simp)).trans (heap_alloc_new _ _);have k4:=heap_alloc_new ((re V τ d).alloc (.cells #[.int .i64 now,.int .i64 shift,.slice (some ⟨b,0,none⟩) n cap,.slice (some ⟨b',0,none⟩) m cap'] 32)) (.cells #[.int .i64 0,.int .i64 0,.slice none 0 0,.slice none 0 0] 32);rw[show((re V τ d).alloc (.cells #[.int .i64 now,.int .i64 shift,.slice (some ⟨b,0,none⟩) n cap,.slice (some ⟨b',0,none⟩) m cap'] 32)).heap.size=(re V τ d).heap.size+1 by simp]at k4;have k4:ar (((re V τ d).alloc (.cells #[.int .i64 now,.int .i64 shift,.slice (some ⟨b,0,none⟩) n cap,.slice (some ⟨b',0,none⟩) m cap'] 32)).alloc (.cells #[.int .i64 0,.int .i64 0,.slice none 0 0,.slice none 0 0] 32)) ((re V τ d).heap.size+1) 0 0 (.slice none 0 0) (.slice none 0 0):=k4;have hbl0:∀W,Below (re V τ d).heap.size (re V τ d) W->Bl V.heap.size V W:=λW h=>Bl.ofR h
  clear hcont hret hrow hrow';simp only[aD];cases hb:aV now shift f n t m with
  |true=>
   rw[hb]at H1;go_wp2_with(go_at_call 90;refine H1.mono ?_;clear H1;rintro e w1 ⟨rfl,b1⟩)
   refine⟨by first|rfl|trivial,hbl0 _ (bW.trans (b1.mono bW.size)),?_,?_,?_⟩
   .rw[hB2];exact k2.same (b1.block _ (by simp<;>omega))
   .rw[hB4];exact k4.same (b1.block _ (by simp))
   .rw[hB2,hB4];exact⟨rfl,rfl⟩
  |false=>
   rw[hb]at H1;rw[hB4];clear hB2 hB4;go_wp2_with(go_at_call 90;refine H1.mono ?_;clear H1;rintro e w1 ⟨rfl,b1⟩;have j4:ar w1 (V.heap.size+1) 0 0 (.slice none 0 0) (.slice none 0 0):=k4.same (b1.block _ (by simp));obtain⟨z0,z1,z2,z3,z4⟩:=j4.cells)
   rw[dO j4];have hbw:=hbl0 _ (bW.trans (b1.mono bW.size));exact⟨setRow_heap _ _ _ _ _ _ j4,.bad hb,⟨by rw[setRow_size];exact hbw.size,λk hk=>(setRow_other _ _ _ _ (by omega)).trans (hbw.block k hk)⟩,rfl,rfl⟩
 rintro a' w1 ⟨hbook,hb1,k2,k4,hfr⟩;obtain⟨u,rfl⟩:=hfr.open;clear hfr;obtain⟨hm,hmn,hf⟩:=fZ hbook;subst hmn;have h6:=aN hm;have hz1:=hb1.size;have o4:V.heap.size<B4:=by omega
 have o2:V.heap.size<=B2:=by omega
 clear hB2 hB4;have row1:ak w1 b 0 m f:=aI hrow (hb1.block b hbs);have tic1:al w1 b' 0 m t:=λi hi=>by have:=hrow' i hi;unfold World.cell? at this⊢;rw[hb1.block b' hbs'];exact this
 refine ap.seq E hTr (ap.region E hTr ?_);rw[bh];refine ap.opsFrom E hTr 0 2 (by simp) (λa' w'=>(∃τ d,w'=re w1 τ d)/\aZ a' (rW 39 [(1,.iface 64 (.agg #[.string q.name,.bool q.lands,.int .i64 q.wake,.int .i64 q.est,.int .i64 q.late,.int .i64 q.prom])),(2,.pointer (some ⟨B2,0,none⟩)),(4,.pointer (some ⟨B4,0,none⟩)),(5,.nilIface),(17,.iface 64 (.agg #[.string q.name,.bool q.lands,.int .i64 q.wake,.int .i64 q.est,.int .i64 q.late,.int .i64 q.prom])),(18,.agg #[.int .i64 now,.int .i64 shift,.slice (some ⟨b,0,none⟩) m cap,.slice (some ⟨b',0,none⟩) m cap'])])) ?_ ?_
 .intro τ d;have p2:ar (re w1 τ d) B2 now shift (.slice (some ⟨b,0,none⟩) m cap) (.slice (some ⟨b',0,none⟩) m cap'):=k2;obtain⟨y0,y1,y2,y3,y4⟩:=p2.cells;clear hcont hret;simp only[List.drop_zero,List.take_succ_cons,List.take_zero];go_wp2;exact⟨⟨τ,d,rfl⟩,rfl,rfl⟩
 rintro a' w' ⟨⟨τ,d,rfl⟩,hfr⟩;clear u;obtain⟨u,rfl⟩:=hfr.open;clear hfr;refine ap.comesOp E hA hov hTr (i:=2) rfl rfl (b:=b) (n:=m) (cap:=cap) (b':=b') (cap':=cap') (f:=f) (now:=now) (shift:=shift) (q:=q) (λw=>by kernel_rfl) hq hm (pm hbook).1 (by have:=(pm hbook).2;omega) (by show b<w1.heap.size;omega) (aI row1 rfl) ?_;rintro v V3 ⟨hb3',hpost⟩;have hb3:Bl w1.heap.size w1 V3:=⟨hb3'.size,hb3'.block⟩;clear hb3';have hz3:=hb3.size;have l41:B4<w1.heap.size:=k4.lt;have p4:ar V3 B4 0 0 (.slice none 0 0) (.slice none 0 0):=k4.same (hb3.block B4 l41);have hb03:Bl V.heap.size V V3:=hb1.trans hb3 hz1;cases hrd:sx f m now shift q with
 |no cd=>
  rw[hrd]at hpost;subst hpost;refine ap.opsFrom E hTr 3 6 (by simp) (λa' w'=>∃B6,V3.heap.size<=B6/\w'.heap[B6]?=some (.cells #[.int .i64 0,.int .i64 0,.slice none 0 0,.slice none 0 0] 32 (0,0))/\Bl V3.heap.size V3 w'/\aZ a' (rW 39 [(1,.iface 64 (.agg #[.string q.name,.bool q.lands,.int .i64 q.wake,.int .i64 q.est,.int .i64 q.late,.int .i64 q.prom])),(4,.pointer (some ⟨B4,0,none⟩)),(5,.nilIface),(6,.pointer (some ⟨B6,0,none⟩)),(7,.iface 128 (.agg #[.int .i64 cd]))])) ?_ ?_
  .intro τ d;clear hcont hret p4 hb03;simp only[List.drop_succ_cons,List.drop_zero,List.take_succ_cons,List.take_zero,Act.put];go_wp2;exact⟨_,Gm _,heap_alloc_new _ _,⟨by show V3.heap.size<=(V3.heap.push _).size;simp,λk hk=>Gc _ _ _ hk⟩,rfl,rfl⟩
  rintro a' w4 ⟨B6,hB6,n6,hb4,hfr⟩;clear u;obtain⟨u,rfl⟩:=hfr.open;clear hfr;have hz4:=hb4.size;have l4:=p4.lt;have q4:ar w4 B4 0 0 (.slice none 0 0) (.slice none 0 0):=p4.same (hb4.block B4 l4);have hb04:Bl V.heap.size V w4:=hb03.trans hb4 (by omega);have hne:B4≠B6:=by omega
  refine ap.regionEnd E hTr ?_;refine ap.chain E hTr [_] _ (λ_ _=>False) (λa' w'=>w'.heap[B4]?=some (.cells #[.int .i64 0,.int .i64 0,.slice none 0 0,.slice none 0 0] 32 (0,0))/\AM f m t m now shift q V.heap.size w' (.int .i64 0) (.int .i64 0) (.slice none 0 0) (.slice none 0 0) (.iface 128 (.agg #[.int .i64 cd]))/\Bl V.heap.size V w'/\aZ a' (rW 39 [(4,.pointer (some ⟨B4,0,none⟩)),(5,.iface 128 (.agg #[.int .i64 cd]))])) ?_ (λ_ _ h=>h.elim) (λa' w' todo h=>hret _ _ _ _ _ a' w' todo h);intro τ d;have p4:ar (re w4 τ d) B4 0 0 (.slice none 0 0) (.slice none 0 0):=q4;have p6:(re w4 τ d).heap[B6]?=some (.cells #[.int .i64 0,.int .i64 0,.slice none 0 0,.slice none 0 0] 32 (0,0)):=n6;have hb0:Bl V.heap.size V (re w4 τ d):=⟨hb04.size,hb04.block⟩;revert p4 p6 hb0;generalize re w4 τ d=w0;intro p4 p6 hb0;clear hret hcont q4 hb04 n6;obtain⟨z0,z1,z2,z3,z4⟩:=p4.cells;simp only[aD];go_wp2;all_goals first|(exfalso;omega)|skip
  rw[dO p4];right;exact⟨by first|rfl|trivial,setRow_heap _ _ _ _ _ _ p4,.no hbook (mt hrd),⟨by rw[setRow_size];exact hb0.size,λk hk=>(setRow_other _ _ _ _ (by omega)).trans (hb0.block k hk)⟩,rfl,rfl⟩
 |yes p T=>
  rw[hrd]at hpost;obtain⟨BN,c2,BT,c3,rfl,hBN,hBT,sC,oT⟩:=hpost;replace hBN:w1.heap.size<=BN:=hBN;replace hBT:w1.heap.size<=BT:=hBT;have lT:BT<V3.heap.size:=by obtain⟨⟨cs,hc,_⟩,_⟩:=oT;exact(Gp.1 hc).1
  refine ap.opsFrom E hTr 3 6 (by simp) (λa' w'=>∃B6,V3.heap.size<=B6/\w'.heap[B6]?=some (.cells #[.int .i64 now,.int .i64 shift,.slice (some ⟨BN,0,none⟩) (m+1) c2,.slice (some ⟨BT,0,none⟩) (m+1) c3] 32 (0,0))/\Bl V3.heap.size V3 w'/\aZ a' (rW 39 [(1,.iface 64 (.agg #[.string q.name,.bool q.lands,.int .i64 q.wake,.int .i64 q.est,.int .i64 q.late,.int .i64 q.prom])),(4,.pointer (some ⟨B4,0,none⟩)),(5,.nilIface),(6,.pointer (some ⟨B6,0,none⟩)),(7,.nilIface)])) ?_ ?_
  .intro τ d;clear hcont hret p4 hb03;simp only[List.drop_succ_cons,List.drop_zero,List.take_succ_cons,List.take_zero,Act.put];go_wp2;exact⟨_,Gm _,heap_alloc_new _ _,⟨by show V3.heap.size<=(V3.heap.push _).size;simp,λk hk=>Gc _ _ _ hk⟩,rfl,rfl⟩
  rintro a' w4 ⟨B6,hB6,n6,hb4,hfr⟩;clear u;obtain⟨u,rfl⟩:=hfr.open;clear hfr;have hz4:=hb4.size;have l4:=p4.lt;have q4:ar w4 B4 0 0 (.slice none 0 0) (.slice none 0 0):=p4.same (hb4.block B4 l4);have hb04:Bl V.heap.size V w4:=hb03.trans hb4 (by omega);have hne:B4≠B6:=by omega
  refine ap.regionEnd E hTr ?_;have rowN4:pa w4 BN (m+1) (bz f p q):=sC.same (hb4.block BN sC.lt);have oT4:kJ w4 BT (m+1) T:=eQ oT (hb4.block BT lT);have h4N:BN≠B4:=by omega
  have h4T:BT≠B4:=by omega
  have q6:ar w4 B6 now shift (.slice (some ⟨BN,0,none⟩) (m+1) c2) (.slice (some ⟨BT,0,none⟩) (m+1) c3):=n6;clear n6 sC oT;refine ap.chain E hTr [_] _ (λa' w'=>(∃τ d,w'=re w4 τ d)/\aZ a' (rW 39 [(1,.iface 64 (.agg #[.string q.name,.bool q.lands,.int .i64 q.wake,.int .i64 q.est,.int .i64 q.late,.int .i64 q.prom])),(4,.pointer (some ⟨B4,0,none⟩)),(6,.pointer (some ⟨B6,0,none⟩))])) (λ_ _=>False) ?_ ?_ (λ_ _ _ h=>h.elim)
  .intro τ d;clear hret hcont;simp only[aD];go_wp2;left;exact⟨by first|rfl|trivial,⟨τ,d,rfl⟩,rfl,rfl⟩
  rintro a' w' ⟨⟨τ4,d4,rfl⟩,hfr⟩;clear u;obtain⟨u,rfl⟩:=hfr.open;clear hfr;refine ap.seq E hTr ?_;refine ap.chain E hTr [_,_] _ (λa' w'=>(∃τ d,w'=re w4 τ d)/\aZ a' (rW 39 [(4,.pointer (some ⟨B4,0,none⟩)),(6,.pointer (some ⟨B6,0,none⟩)),(8,.iface 64 (.agg #[.string q.name,.bool q.lands,.int .i64 q.wake,.int .i64 q.est,.int .i64 q.late,.int .i64 q.prom])),(31,.bool true)])) (λ_ _=>False) ?_ ?_ (λ_ _ _ h=>h.elim)
  .intro τ d;have hTA:=Cm;clear hret hcont;simp only[aD];go_wp2;left;exact⟨by first|rfl|trivial,⟨_,_,rfl⟩,rfl,rfl⟩
  rintro a' w' ⟨⟨τ5,d5,rfl⟩,hfr⟩;clear u;obtain⟨u,rfl⟩:=hfr.open;clear hfr;refine ap.cond E hTr (t:=true) rfl (ap.seq E hTr (ap.region E hTr ?_));rw[bh];refine ap.opsFrom E hTr 0 1 (by simp) (λa' w'=>(∃τ d,w'=re w4 τ d)/\aZ a' (rW 39 [(4,.pointer (some ⟨B4,0,none⟩)),(6,.pointer (some ⟨B6,0,none⟩)),(8,.iface 64 (.agg #[.string q.name,.bool q.lands,.int .i64 q.wake,.int .i64 q.est,.int .i64 q.late,.int .i64 q.prom])),(32,.agg #[.int .i64 now,.int .i64 shift,.slice (some ⟨BN,0,none⟩) (m+1) c2,.slice (some ⟨BT,0,none⟩) (m+1) c3])])) ?_ ?_
  .intro τ d;have e6:ar (re (re w4 τ5 d5) τ d) B6 now shift (.slice (some ⟨BN,0,none⟩) (m+1) c2) (.slice (some ⟨BT,0,none⟩) (m+1) c3):=q6;obtain⟨y0,y1,y2,y3,y4⟩:=e6.cells;clear hret hcont;simp only[List.drop_zero,List.take_succ_cons,List.take_zero];go_wp2;exact⟨⟨_,_,rfl⟩,rfl,rfl⟩
  rintro a' w' ⟨⟨τ6,d6,rfl⟩,hfr⟩;clear u;obtain⟨u,rfl⟩:=hfr.open;clear hfr;obtain⟨sb,hsb⟩:∃sb,dz now shift (bz f p q) (m+1) T (m+1)=sb:=⟨_,rfl⟩;refine ap.sureOp E hA.su hA.ro hA.pl hA.sb hA.bt hTr (i:=1) rfl rfl (b:=BN) (n:=m+1) (cap:=c2) (b':=BT) (m:=m+1) (cap':=c3) (f:=bz f p q) (t:=T) (now:=now) (shift:=shift) (λw=>by simp[execOp,resolve,invoke,Act.eval,go_sem]) (by omega) (by unfold maxLen;omega) rowN4.lt (aI rowN4.1 rfl) oT4.lt (eQ oT4 rfl).2 ?_;intro V6 hb6';rw[hsb];have hb6:Bl w4.heap.size w4 V6:=⟨hb6'.size,hb6'.block⟩;clear hb6';refine ap.opsFrom E hTr 2 1 (by simp) (λa' w'=>(∃τ d,w'=re V6 τ d)/\aZ a' (rW 39 [(4,.pointer (some ⟨B4,0,none⟩)),(6,.pointer (some ⟨B6,0,none⟩)),(8,.iface 64 (.agg #[.string q.name,.bool q.lands,.int .i64 q.wake,.int .i64 q.est,.int .i64 q.late,.int .i64 q.prom])),(34,.bool (!sb))])) ?_ ?_
  .intro τ d;clear hret hcont;simp only[List.drop_succ_cons,List.drop_zero,List.take_succ_cons,List.take_zero,Act.put];go_wp2;exact⟨⟨τ,d,rfl⟩,rfl,rfl⟩
  rintro a' w' ⟨⟨τ7,d7,rfl⟩,hfr⟩;clear u;obtain⟨u,rfl⟩:=hfr.open;clear hfr;have z4:=q4.lt;have p4:ar V6 B4 0 0 (.slice none 0 0) (.slice none 0 0):=q4.same (hb6.block B4 z4);have p6:ar V6 B6 now shift (.slice (some ⟨BN,0,none⟩) (m+1) c2) (.slice (some ⟨BT,0,none⟩) (m+1) c3):=q6.same (hb6.block B6 q6.lt);have sM:pa V6 BN (m+1) (bz f p q):=rowN4.same (hb6.block BN rowN4.lt);have sT:kJ V6 BT (m+1) T:=eQ oT4 (hb6.block BT oT4.lt);have hb06:Bl V.heap.size V V6:=hb04.trans hb6 (by omega);have hz6:=hb6.size;clear q4 q6 rowN4 oT4 hb04 hb4 hb6 hb03;refine ap.regionEnd E hTr (ap.cond E hTr (t:=!sb) rfl ?_);cases sb with
  |true=>
   refine ap.skip E hTr (ap.last E hTr [_] (λa' w'=>w'.heap[B4]?=some (.cells #[.int .i64 now,.int .i64 shift,.slice (some ⟨BN,0,none⟩) (m+1) c2,.slice (some ⟨BT,0,none⟩) (m+1) c3] 32 (0,0))/\AM f m t m now shift q V.heap.size w' (.int .i64 now) (.int .i64 shift) (.slice (some ⟨BN,0,none⟩) (m+1) c2) (.slice (some ⟨BT,0,none⟩) (m+1) c3) .nilIface/\Bl V.heap.size V w'/\aZ a' (rW 39 [(4,.pointer (some ⟨B4,0,none⟩)),(5,.nilIface)])) ?_ (λa' w' todo h=>hret _ _ _ _ _ a' w' todo h));intro τ d;have e4:ar (re (re V6 τ7 d7) τ d) B4 0 0 (.slice none 0 0) (.slice none 0 0):=p4;have e6:ar (re (re V6 τ7 d7) τ d) B6 now shift (.slice (some ⟨BN,0,none⟩) (m+1) c2) (.slice (some ⟨BT,0,none⟩) (m+1) c3):=p6;have eM:pa (re (re V6 τ7 d7) τ d) BN (m+1) (bz f p q):=sM.same rfl;have eT:kJ (re (re V6 τ7 d7) τ d) BT (m+1) T:=eQ sT rfl;have eb:Bl V.heap.size V (re (re V6 τ7 d7) τ d):=⟨hb06.size,hb06.block⟩;revert e4 e6 eM eT eb;generalize re (re V6 τ7 d7) τ d=w0;intro e4 e6 eM eT eb;clear hret hcont p4 p6 sM sT hb06;obtain⟨z0,z1,z2,z3,z4⟩:=e4.cells;obtain⟨y0,y1,y2,y3,y4⟩:=e6.cells;simp only[aD];go_wp2;rw[dO e4];left;exact⟨by first|rfl|trivial,setRow_heap _ _ _ _ _ _ e4,.yes hbook (CO hrd hsb) (by omega) (by omega) (eM.same (setRow_other _ _ _ _ h4N)) (eQ eT (setRow_other _ _ _ _ h4T)),⟨by rw[setRow_size];exact eb.size,λk hk=>(setRow_other _ _ _ _ (by omega)).trans (eb.block k hk)⟩,rfl,rfl⟩
  |false=>
   refine ap.seq E hTr (ap.region E hTr ?_);rw[bh];refine ap.opsFrom E hTr 0 2 (by simp) (λa' w'=>(∃τ d,w'=re V6 τ d)/\aZ a' (rW 39 [(4,.pointer (some ⟨B4,0,none⟩)),(35,.agg #[.int .i64 0,.int .i64 0,.slice none 0 0,.slice none 0 0]),(36,.iface 64 (.agg #[.string q.name,.bool q.lands,.int .i64 q.wake,.int .i64 q.est,.int .i64 q.late,.int .i64 q.prom]))])) ?_ ?_
   .intro τ d;clear hret hcont;simp only[List.drop_zero,List.take_succ_cons,List.take_zero];go_wp2;exact⟨⟨_,_,rfl⟩,rfl,rfl⟩
   rintro a' w' ⟨⟨τ8,d8,rfl⟩,hfr⟩;clear u;obtain⟨u,rfl⟩:=hfr.open;clear hfr;refine ap.loneR E hTr (i:=2) rfl rfl (f:=272) (xs:=#[.agg #[.string q.name,.bool q.lands,.int .i64 q.wake,.int .i64 q.est,.int .i64 q.late,.int .i64 q.prom]]) (R:=λv V'=>v=.iface 128 (.agg #[.int .i64 6])/\Bl V6.heap.size V6 V') (λw=>by kernel_rfl) (λτ d=>(vP q (re (re V6 τ8 d8) τ d)).mono (by rintro e w' ⟨rfl,h⟩;exact⟨_,rfl,rfl,h.size,h.block⟩)) ?_;rintro v V7 ⟨rfl,hb7⟩;have e4:ar V7 B4 0 0 (.slice none 0 0) (.slice none 0 0):=p4.same (hb7.block B4 p4.lt);have eb:Bl V.heap.size V V7:=hb06.trans hb7 (by omega);refine ap.opsFrom E hTr 3 2 (by simp) (λa' w'=>w'.heap[B4]?=some (.cells #[.int .i64 0,.int .i64 0,.slice none 0 0,.slice none 0 0] 32 (0,0))/\AM f m t m now shift q V.heap.size w' (.int .i64 0) (.int .i64 0) (.slice none 0 0) (.slice none 0 0) (.iface 128 (.agg #[.int .i64 6]))/\Bl V.heap.size V w'/\aZ a' (rW 39 [(4,.pointer (some ⟨B4,0,none⟩)),(5,.iface 128 (.agg #[.int .i64 6]))])) ?_ (λa' w' h=>ap.regionEnd E hTr (ap.ret E hTr (hret _ _ _ _ _ a' w' _ h)));intro τ d;replace e4:ar (re V7 τ d) B4 0 0 (.slice none 0 0) (.slice none 0 0):=e4;replace eb:Bl V.heap.size V (re V7 τ d):=⟨eb.size,eb.block⟩;revert e4 eb;generalize re V7 τ d=w0;intro e4 eb;clear hret hcont p4 p6 sM sT hb06;obtain⟨z0,z1,z2,z3,z4⟩:=e4.cells;simp only[List.drop_succ_cons,List.drop_zero,List.take_succ_cons,List.take_zero,Act.put];go_wp2;rw[dO e4];exact⟨setRow_heap _ _ _ _ _ _ e4,.no hbook (CN hrd hsb),⟨by rw[setRow_size];exact eb.size,λk hk=>(setRow_other _ _ _ _ (by omega)).trans (eb.block k hk)⟩,rfl,rfl⟩
end
