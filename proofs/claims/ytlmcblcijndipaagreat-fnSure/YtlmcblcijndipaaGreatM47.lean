import Derived.Test.YtlmcblcijndipaaGreatM46
import Derived.Test.YtlmcblcijndipaaGreatM29
import Derived.Test.YtlmcblcijndipaaGreatM32
import Derived.Test.YtlmcblcijndipaaGreatM21
import Derived.Test.YtlmcblcijndipaaGreatM43
import Derived.Deep.RegionLaw
set_option linter.unusedVariables false
set_option maxHeartbeats 4000000
set_option maxRecDepth 10000
namespace Go.Proofs.YtlmcblcijndipaaGreat
open Go Go.RowKit
theorem eP:Tryz0.prog.underlying 26=some (.slice 3):=by kernel_rfl
theorem ob:∃i,Tryz0.prog.info? 3=some i/\i.zero=some (.int .i64 0)/\i.size=1/\i.bytes=8:=by
 have h:(Tryz0.prog.info? 3).map (λi=>(i.zero,i.size,i.bytes))=some (some (.int .i64 0),1,8):=by kernel_rfl
 cases hI:Tryz0.prog.info? 3 with
 |none=>rw[hI]at h;simp at h
 |some i=>rw[hI]at h;simp only[Option.map_some,Option.some.injEq,Prod.mk.injEq]at h;exact⟨i,rfl,h.1,h.2.1,h.2.2⟩
section
variable {w w':World}{base base':Nat}{e:TypeId}{size:Nat}{v:Value}{n:Nat}{xs:List Value}
theorem ai (h:w.ownsRow base e size v n xs)(hs:∀B,v.ownBlock=some B->w'.heap[B]?=w.heap[B]?):w'.ownsRow base e size v n xs:=by
 obtain⟨h1,⟨rfl,rfl⟩|⟨g,cap,cur,rfl,h3,h4,h5⟩⟩:=h
 .exact⟨h1,.inl ⟨rfl,rfl⟩⟩
 .exact⟨h1,.inr ⟨g,cap,cur,rfl,h3,(hs g rfl).trans h4,h5⟩⟩
theorem aU (h:w.ownsRow base e size v n xs)(hb:base'<=base):w.ownsRow base' e size v n xs:=by
 obtain⟨h1,h2|⟨g,cap,cur,h2,h3,h4⟩⟩:=h
 .exact⟨h1,.inl h2⟩
 .exact⟨h1,.inr ⟨g,cap,cur,h2,Nat.le_trans hb h3,h4⟩⟩
theorem je (h:w.ownsRow base e size v n xs)(hn:v≠.slice none 0 0):∃B c,v=.slice (some ⟨B,0,none⟩) n c:=by
 obtain⟨h1,h2|⟨g,cap,cur,h2,h3,h4⟩⟩:=h
 .exact absurd h2.1 hn
 .exact⟨g,cap,h2⟩
theorem mI (h:w.ownsRow base e size v n xs){B:Nat}(hB:v.ownBlock=some B):∃cs,w.heap[B]?=some (.cells cs e (0,0)):=by
 obtain⟨h1,⟨rfl,rfl⟩|⟨g,c,cur,rfl,h3,h4,h5⟩⟩:=h
 .cases hB
 .simp[Value.ownBlock]at hB;subst hB;exact⟨_,h4⟩
theorem dM {v':Value}{n':Nat}{xs':List Value}{e':TypeId}{size':Nat}(h:w.ownsRow base e size v n xs)(h':w.ownsRow base' e' size' v' n' xs')(hne:e≠e'){B:Nat}(hB:v.ownBlock=some B):v'.ownBlock≠some B:=λx=>by
 obtain⟨c1,e1⟩:=mI h hB;obtain⟨c2,e2⟩:=mI h' x;rw[e1]at e2;simp at e2;exact hne e2.2
theorem kZ (h:base<=w.heap.size):(w.alloc (.cells #[] e)).ownsRow base e size (.slice (some ⟨w.heap.size,0,none⟩) 0 0) 0 []:=⟨by simp,.inr ⟨w.heap.size,0,#[],rfl,h,heap_alloc_new w _,Nat.le_refl _,Nat.zero_le _,by simp,by simp⟩⟩
end
theorem aD {P:Program}{ops:Array Oper}{o:Oper}{a:Act}{w:World}{K:Act->World->Prop}{Q:Exit->Act->World->Prop}{E:Prop}
  (hg:o.guard=none)(s x:Operand)(t:TypeId)(hop:o.op=Op.call {callee:=Callee.builtin Builtin.append,args:=#[s,x],argTypes:=#[t,t]})
  (e:TypeId)(i:TypeInfo)(z:Value)(size bytes:Nat)(h1:P.underlying t=some (.slice e))(h2:P.info? e=some i)(h3:i.zero=some z)(h4:i.size=size)(h5:i.bytes=bytes)(h6:z.cells.size=size)(h7:0<size)
  (base:Nat)(v:Value)(n:Nat)(olds:List Value)(hs:a.eval s=v)(hown:w.ownsRow base e size v n olds)(hv:v≠.slice none 0 0)
  (ao:Option Addr)(m c:Nat)(news:List Value)(hx:a.eval x=.slice ao m c)(hn:news.length=m*size)(hnone:ao=none->m=0/\c=0)(hc:∀ad,ao=some ad->∀j u,news[j]?=some u->w.cell? (ad.add j)=some u)(h1c:∀u∈news,u.oneCell'=true)
  (b1:n+m<=maxLen)(b2:(n+m)*bytes<=140737488355328)(hb:base<=w.heap.size)
  (hK:∀v' w',w'.ownsRow base e size v' (n+m) (olds++news)->v'≠.slice none 0 0->w.grownBy w' v.ownBlock->K (a.put o.dst v') w'):
  if Region.wanted o (yielded ops a.tmps)=true then Oper.wp P o a w K Q else E:=by
 have hw:Region.wanted o (yielded ops a.tmps)=true:=by simp[Region.wanted,hg]
 rw[if_pos hw];cases ao with
 |some ad=>
  obtain⟨v',w',hrun,r1,r2,r3⟩:=run_append_own (P:=P) w base t o.type e i z size bytes h1 h2 h3 h4 h5 h6 h7 v n olds hown ad m c news hn (hc ad rfl) h1c b1 b2 hb;unfold Oper.wp;simp[execOp,hop,resolve,invoke,builtin,hs,hx,hrun,Result.andThen];exact hK v' w' r1 (λx=>hv (r3.1 x).1) r2
 |none=>
  obtain⟨rfl,rfl⟩:=hnone rfl;have hnews:news=[]:=List.eq_nil_of_length_eq_zero (by simpa using hn);subst hnews;have hrun:=run_append_owned_none (P:=P) w base t o.type e i size h1 h2 _ n olds hown;unfold Oper.wp;simp[execOp,hop,resolve,invoke,builtin,hs,hx,hrun,Result.andThen];exact hK _ _ (by simpa using hown) hv (World.grownBy.refl _ _)
def vu (w:World)(ao:Option Addr)(n c:Nat)(f:Nat->Mv):Prop:=(ao=none->n=0/\c=0)/\∀ad,ao=some ad->∃b,ad=⟨b,0,none⟩/\b<w.heap.size/\aw w b 0 n f
def xw (w:World)(ao:Option Addr)(n c:Nat)(t:Nat->Int):Prop:=(ao=none->n=0/\c=0)/\∀ad,ao=some ad->∃b,ad=⟨b,0,none⟩/\b<w.heap.size/\ak w b 0 n t
theorem ka {w w':World}{ao:Option Addr}{n:Nat}{f:Nat->Mv}(h:∀ad,ao=some ad->∃b,ad=⟨b,0,none⟩/\b<w.heap.size/\aw w b 0 n f)(hb:Below w.heap.size w w'):∀ad,ao=some ad->∀j u,(aS f n)[j]?=some u->w'.cell? (ad.add j)=some u:=λad had=>by
 obtain⟨b,rfl,hlt,hr⟩:=h ad had;exact cE (hr.below hb hlt)
theorem kf {w w':World}{ao:Option Addr}{n:Nat}{t:Nat->Int}(h:∀ad,ao=some ad->∃b,ad=⟨b,0,none⟩/\b<w.heap.size/\ak w b 0 n t)(hb:Below w.heap.size w w'):∀ad,ao=some ad->∀j u,(dh t n)[j]?=some u->w'.cell? (ad.add j)=some u:=λad had=>by
 obtain⟨b,rfl,hlt,hr⟩:=h ad had;exact mn (hr.below hb hlt)
structure Bx (N:Nat)(now shift:Int)(v u:Value)(W:World):Prop where
 c0:W.cell? ⟨N,0,none⟩=some (.int .i64 now)
 c1:W.cell? ⟨N,1,none⟩=some (.int .i64 shift)
 c2:W.cell? ⟨N,2,none⟩=some v
 c3:W.cell? ⟨N,3,none⟩=some u
theorem Bx.same {N:Nat}{now shift:Int}{v u:Value}{W W':World}(h:Bx N now shift v u W)(e:W'.heap[N]?=W.heap[N]?):Bx N now shift v u W':=
 ⟨(World.cell?_of_block (a:=⟨N,0,none⟩) e).trans h.c0,(World.cell?_of_block (a:=⟨N,1,none⟩) e).trans h.c1,(World.cell?_of_block (a:=⟨N,2,none⟩) e).trans h.c2,(World.cell?_of_block (a:=⟨N,3,none⟩) e).trans h.c3⟩
structure Cp (w:World)(now shift:Int)(v u:Value)(vm:Value)(nm:Nat)(xm:List Value)(vi:Value)(ni:Nat)(xi:List Value)(W:World):Prop where
 below:Below w.heap.size w W
 size:w.heap.size+2<=W.heap.size
 box:W.heap[w.heap.size]?=some (.cells #[.int .i64 now,.int .i64 shift,v,u] 38 (0,0))
 out:W.heap[w.heap.size+1]?=some (.cells #[.int .i64 0,.int .i64 0,.slice none 0 0,.slice none 0 0] 38 (0,0))
 om:W.ownsRow (w.heap.size+2) 42 6 vm nm xm
 oi:W.ownsRow (w.heap.size+2) 3 1 vi ni xi
section
variable {w:World}{now shift:Int}{v u:Value}{vm:Value}{nm:Nat}{xm:List Value}{vi:Value}{ni:Nat}{xi:List Value}{W:World}
theorem Cp.bx (h:Cp w now shift v u vm nm xm vi ni xi W):Bx w.heap.size now shift v u W:=by
 constructor<;>(rw[cell_of_row _ _ _ _ _ _ h.box];rfl)
theorem Cp.grow (h:Cp w now shift v u vm nm xm vi ni xi W){W':World}(b:Below W.heap.size W W'):Cp w now shift v u vm nm xm vi ni xi W':=
 ⟨h.below.trans (b.mono h.below.size),Nat.le_trans h.size b.size,(b.block _ (by have:=h.size;omega)).trans h.box,(b.block _ (by have:=h.size;omega)).trans h.out,ai h.om (λB hB=>b.block B (h.om.lt B hB).2),ai h.oi (λB hB=>b.block B (h.oi.lt B hB).2)⟩
theorem Cp.newM (h:Cp w now shift v u vm nm xm vi ni xi W):Cp w now shift v u (.slice (some ⟨W.heap.size,0,none⟩) 0 0) 0 [] vi ni xi (W.alloc (.cells #[] 42)):=by
 have g:=h.grow (W':=W.alloc (.cells #[] 42)) ((Below.refl _ _).alloc (Nat.le_refl _) _);exact⟨g.below,g.size,g.box,g.out,kZ h.size,g.oi⟩
theorem Cp.newI (h:Cp w now shift v u vm nm xm vi ni xi W):Cp w now shift v u vm nm xm (.slice (some ⟨W.heap.size,0,none⟩) 0 0) 0 [] (W.alloc (.cells #[] 3)):=by
 have g:=h.grow (W':=W.alloc (.cells #[] 3)) ((Below.refl _ _).alloc (Nat.le_refl _) _);exact⟨g.below,g.size,g.box,g.out,g.om,kZ h.size⟩
theorem Cp.appM (h:Cp w now shift v u vm nm xm vi ni xi W){v':Value}{n':Nat}{x':List Value}{W':World}(o:W'.ownsRow (w.heap.size+2) 42 6 v' n' x')(g:W.grownBy W' vm.ownBlock):Cp w now shift v u v' n' x' vi ni xi W':=by
 have hs:=h.size;exact⟨h.below.grown g h.below.size (λq hq=>by have:=(h.om.lt q hq).1;omega),Nat.le_trans h.size g.size,(g.block _ (by omega) (λe=>by have:=(h.om.lt _ e.symm).1;omega)).trans h.box,(g.block _ (by omega) (λe=>by have:=(h.om.lt _ e.symm).1;omega)).trans h.out,o,ai h.oi (λB hB=>g.block B (h.oi.lt B hB).2 (λe=>dM h.om h.oi (by decide) e.symm hB))⟩
theorem Cp.appI (h:Cp w now shift v u vm nm xm vi ni xi W){v':Value}{n':Nat}{x':List Value}{W':World}(o:W'.ownsRow (w.heap.size+2) 3 1 v' n' x')(g:W.grownBy W' vi.ownBlock):Cp w now shift v u vm nm xm v' n' x' W':=by
 have hs:=h.size;exact⟨h.below.grown g h.below.size (λq hq=>by have:=(h.oi.lt q hq).1;omega),Nat.le_trans h.size g.size,(g.block _ (by omega) (λe=>by have:=(h.oi.lt _ e.symm).1;omega)).trans h.box,(g.block _ (by omega) (λe=>by have:=(h.oi.lt _ e.symm).1;omega)).trans h.out,ai h.om (λB hB=>g.block B (h.om.lt B hB).2 (λe=>dM h.om h.oi (by decide) hB e.symm)),o⟩
end
theorem Cp.start (w:World)(now shift:Int)(v u:Value):Cp w now shift v u (.slice none 0 0) 0 [] (.slice none 0 0) 0 [] ((w.alloc (.cells #[.int .i64 now,.int .i64 shift,v,u] 38)).alloc (.cells #[.int .i64 0,.int .i64 0,.slice none 0 0,.slice none 0 0] 38)):=
 ⟨((Below.refl _ w).alloc (Nat.le_refl _) _).alloc (by simp) _,by simp,(Below.heap_alloc _ _ _ (by simp)).trans (heap_alloc_new w _),be _ _ _,⟨rfl,.inl ⟨rfl,rfl⟩⟩,⟨rfl,.inl ⟨rfl,rfl⟩⟩⟩
theorem cU (now shift:Int)(ao:Option Addr)(n c:Nat)(f:Nat->Mv)(bo:Option Addr)(m d:Nat)(t:Nat->Int)(w:World)(hn:n<=1048576)(hm:m<=1048576)(hv:vu w ao n c f)(hu:xw w bo m d t):
  Calls Tryz0.prog 131 #[.agg #[.int .i64 now,.int .i64 shift,.slice ao n c,.slice bo m d]] w λe w'=>(∃B c B' c',e=.returned (.agg #[.int .i64 now,.int .i64 shift,.slice (some ⟨B,0,none⟩) n c,.slice (some ⟨B',0,none⟩) m c'])/\w'.ownsRow w.heap.size 42 6 (.slice (some ⟨B,0,none⟩) n c) n (aS f n)/\w'.ownsRow w.heap.size 3 1 (.slice (some ⟨B',0,none⟩) m c') m (dh t m))/\Below w.heap.size w w':=by
 obtain⟨iM,hI,hz0,hz1,hz2⟩:=ep;obtain⟨i0,hI',hy0,hy1,hy2⟩:=ob;obtain⟨hvn,hvr⟩:=hv;obtain⟨hun,hur⟩:=hu;have hC:=Cp.start w now shift (.slice ao n c) (.slice bo m d);go_enter Tryz0.func131,Tryz.ntmps131
 go_wp2;have hC:=hC.grow (Below.refl _ _).drew;refine wp_region_held_drew (S:=Bx w.heap.size now shift (.slice ao n c) (.slice bo m d)) (by kernel_rfl) hC.bx (λhHeld=>?_);refine aB (i:=0) (v:=.pointer (some ⟨w.heap.size,0,none⟩)) 3 rfl rfl (by kernel_rfl) (by kernel_rfl) (by kernel_rfl) (λ_ _ _ h=>h) (Or.inl ⟨by rfl,λw' hSw=>by(obtain⟨s0,s1,s2,s3⟩:=hSw;go_simp)⟩) hHeld ?_;simp only[Act.put,List.setIfInBounds_toArray,List.set_cons_zero,List.set_cons_succ];refine aB (i:=1) (v:=.int .i64 now) 4 rfl rfl (by kernel_rfl) (by kernel_rfl) (by kernel_rfl) (λ_ _ _ h=>h) (Or.inl ⟨by rfl,λw' hSw=>by(obtain⟨s0,s1,s2,s3⟩:=hSw;go_simp)⟩) hHeld ?_;simp only[Act.put,List.setIfInBounds_toArray,List.set_cons_zero,List.set_cons_succ];refine aB (i:=2) (v:=.pointer (some ⟨w.heap.size,1,none⟩)) 5 rfl rfl (by kernel_rfl) (by kernel_rfl) (by kernel_rfl) (λ_ _ _ h=>h) (Or.inl ⟨by rfl,λw' hSw=>by(obtain⟨s0,s1,s2,s3⟩:=hSw;go_simp)⟩) hHeld ?_;simp only[Act.put,List.setIfInBounds_toArray,List.set_cons_zero,List.set_cons_succ];refine aB (i:=3) (v:=.int .i64 shift) 6 rfl rfl (by kernel_rfl) (by kernel_rfl) (by kernel_rfl) (λ_ _ _ h=>h) (Or.inl ⟨by rfl,λw' hSw=>by(obtain⟨s0,s1,s2,s3⟩:=hSw;go_simp)⟩) hHeld ?_;simp only[Act.put,List.setIfInBounds_toArray,List.set_cons_zero,List.set_cons_succ];refine aB (i:=5) (v:=.pointer (some ⟨w.heap.size,2,none⟩)) 8 rfl rfl (by kernel_rfl) (by kernel_rfl) (by kernel_rfl) (λ_ _ _ h=>h) (Or.inl ⟨by rfl,λw' hSw=>by(obtain⟨s0,s1,s2,s3⟩:=hSw;go_simp)⟩) hHeld ?_;simp only[Act.put,List.setIfInBounds_toArray,List.set_cons_zero,List.set_cons_succ];refine aB (i:=6) (v:=.slice ao n c) 9 rfl rfl (by kernel_rfl) (by kernel_rfl) (by kernel_rfl) (λ_ _ _ h=>h) (Or.inl ⟨by rfl,λw' hSw=>by(obtain⟨s0,s1,s2,s3⟩:=hSw;go_simp)⟩) hHeld ?_;simp only[Act.put,List.setIfInBounds_toArray,List.set_cons_zero,List.set_cons_succ];refine aB (i:=9) (v:=.pointer (some ⟨w.heap.size,3,none⟩)) 12 rfl rfl (by kernel_rfl) (by kernel_rfl) (by kernel_rfl) (λ_ _ _ h=>h) (Or.inl ⟨by rfl,λw' hSw=>by(obtain⟨s0,s1,s2,s3⟩:=hSw;go_simp)⟩) hHeld ?_;simp only[Act.put,List.setIfInBounds_toArray,List.set_cons_zero,List.set_cons_succ];refine aB (i:=10) (v:=.slice bo m d) 13 rfl rfl (by kernel_rfl) (by kernel_rfl) (by kernel_rfl) (λ_ _ _ h=>h) (Or.inl ⟨by rfl,λw' hSw=>by(obtain⟨s0,s1,s2,s3⟩:=hSw;go_simp)⟩) hHeld ?_;simp only[Act.put,List.setIfInBounds_toArray,List.set_cons_zero,List.set_cons_succ];refine wpAnyH_ready (rs:=[4,8]) (by kernel_rfl) (by simp) ?_;refine AllReadyH.cons rfl (λK hK=>?_) (AllReadyH.cons rfl (λK hK=>?_) AllReadyH.nil);focus
  go_simp
  have hC:=hC.newM;try simp only[World.size_alloc,World.size_drew]at hC
  refine hK.out _ _ hC.bx (λhHeld=>?_);clear hK K;refine wpAnyH_ready (rs:=[7,8]) (by kernel_rfl) (by simp) ?_;refine AllReadyH.cons rfl (λK hK=>?_) (AllReadyH.cons rfl (λK hK=>?_) AllReadyH.nil);focus
   refine aD rfl (.tmp 7) (.tmp 9) 23 rfl 42 iM _ 6 56 aG hI hz0 hz1 hz2 rfl (by decide) (w.heap.size+2) _ 0 [] (by rfl) hC.om (by intro h;cases h) ao n c (aS f n) (by rfl) (bH f n) hvn (ka hvr hC.below) (da f n) (by unfold maxLen;omega) (by omega) hC.size ?_;intro v1 w1 ho1 hs1 hg1;simp only[Nat.zero_add,List.nil_append]at ho1;have hC:=hC.appM ho1 hg1;clear ho1 hg1;refine hK.out _ _ hC.bx (λhHeld=>?_);clear hK K;refine wpAnyH_ready (rs:=[8]) (by kernel_rfl) (by simp) ?_;refine AllReadyH.cons rfl (λK hK=>?_) AllReadyH.nil;go_simp
   have hC:=hC.newI;try simp only[World.size_alloc,World.size_drew]at hC
   refine hK.out _ _ hC.bx (λhHeld=>?_);clear hK K;refine wpAnyH_ready (rs:=[11]) (by kernel_rfl) (by simp) ?_;refine AllReadyH.cons rfl (λK hK=>?_) AllReadyH.nil;refine aD rfl (.tmp 11) (.tmp 13) 26 rfl 3 i0 _ 1 8 eP hI' hy0 hy1 hy2 rfl (by decide) (w.heap.size+2) _ 0 [] (by rfl) hC.oi (by intro h;cases h) bo m d (dh t m) (by rfl) (by rw[ck];omega) hun (kf hur hC.below) (gN t m) (by unfold maxLen;omega) (by omega) hC.size ?_;intro u1 w2 ho2 hs2 hg2;simp only[Nat.zero_add,List.nil_append]at ho2;have hC:=hC.appI ho2 hg2;clear ho2 hg2;refine hK.out _ _ hC.bx (λhHeld=>?_);clear hK K
  rotate_left;focus
   go_simp
   have hC:=hC.newI;try simp only[World.size_alloc,World.size_drew]at hC
   refine hK.out _ _ hC.bx (λhHeld=>?_);clear hK K;refine wpAnyH_ready (rs:=[7]) (by kernel_rfl) (by simp) ?_;refine AllReadyH.cons rfl (λK hK=>?_) AllReadyH.nil;refine aD rfl (.tmp 7) (.tmp 9) 23 rfl 42 iM _ 6 56 aG hI hz0 hz1 hz2 rfl (by decide) (w.heap.size+2) _ 0 [] (by rfl) hC.om (by intro h;cases h) ao n c (aS f n) (by rfl) (bH f n) hvn (ka hvr hC.below) (da f n) (by unfold maxLen;omega) (by omega) hC.size ?_;intro v1 w1 ho1 hs1 hg1;simp only[Nat.zero_add,List.nil_append]at ho1;have hC:=hC.appM ho1 hg1;clear ho1 hg1;refine hK.out _ _ hC.bx (λhHeld=>?_);clear hK K;refine wpAnyH_ready (rs:=[11]) (by kernel_rfl) (by simp) ?_;refine AllReadyH.cons rfl (λK hK=>?_) AllReadyH.nil;refine aD rfl (.tmp 11) (.tmp 13) 26 rfl 3 i0 _ 1 8 eP hI' hy0 hy1 hy2 rfl (by decide) (w.heap.size+2) _ 0 [] (by rfl) hC.oi (by intro h;cases h) bo m d (dh t m) (by rfl) (by rw[ck];omega) hun (kf hur hC.below) (gN t m) (by unfold maxLen;omega) (by omega) hC.size ?_;intro u1 w2 ho2 hs2 hg2;simp only[Nat.zero_add,List.nil_append]at ho2;have hC:=hC.appI ho2 hg2;clear ho2 hg2;refine hK.out _ _ hC.bx (λhHeld=>?_);clear hK K
 rotate_left 2;focus
  go_simp
  have hC:=hC.newI;try simp only[World.size_alloc,World.size_drew]at hC
  refine hK.out _ _ hC.bx (λhHeld=>?_);clear hK K;refine wpAnyH_ready (rs:=[4]) (by kernel_rfl) (by simp) ?_;refine AllReadyH.cons rfl (λK hK=>?_) AllReadyH.nil;go_simp
  have hC:=hC.newM;try simp only[World.size_alloc,World.size_drew]at hC
  refine hK.out _ _ hC.bx (λhHeld=>?_);clear hK K;refine wpAnyH_ready (rs:=[7]) (by kernel_rfl) (by simp) ?_;refine AllReadyH.cons rfl (λK hK=>?_) AllReadyH.nil;refine aD rfl (.tmp 7) (.tmp 9) 23 rfl 42 iM _ 6 56 aG hI hz0 hz1 hz2 rfl (by decide) (w.heap.size+2) _ 0 [] (by rfl) hC.om (by intro h;cases h) ao n c (aS f n) (by rfl) (bH f n) hvn (ka hvr hC.below) (da f n) (by unfold maxLen;omega) (by omega) hC.size ?_;intro v1 w1 ho1 hs1 hg1;simp only[Nat.zero_add,List.nil_append]at ho1;have hC:=hC.appM ho1 hg1;clear ho1 hg1;refine hK.out _ _ hC.bx (λhHeld=>?_);clear hK K;refine wpAnyH_ready (rs:=[11]) (by kernel_rfl) (by simp) ?_;refine AllReadyH.cons rfl (λK hK=>?_) AllReadyH.nil;refine aD rfl (.tmp 11) (.tmp 13) 26 rfl 3 i0 _ 1 8 eP hI' hy0 hy1 hy2 rfl (by decide) (w.heap.size+2) _ 0 [] (by rfl) hC.oi (by intro h;cases h) bo m d (dh t m) (by rfl) (by rw[ck];omega) hun (kf hur hC.below) (gN t m) (by unfold maxLen;omega) (by omega) hC.size ?_;intro u1 w2 ho2 hs2 hg2;simp only[Nat.zero_add,List.nil_append]at ho2;have hC:=hC.appI ho2 hg2;clear ho2 hg2;refine hK.out _ _ hC.bx (λhHeld=>?_);clear hK K
 all_goals
  obtain⟨av,cv,rfl⟩:=je hC.om hs1;obtain⟨au,cu,rfl⟩:=je hC.oi hs2;refine aB (i:=12) (v:=(.agg #[.int .i64 now,.int .i64 shift,.slice (some ⟨av,0,none⟩) n cv,.slice (some ⟨au,0,none⟩) m cu])) 15 rfl rfl (by kernel_rfl) (by kernel_rfl) (by kernel_rfl) (λ_ _ _ h=>h) (Or.inl ⟨by rfl,λw' hSw=>by(obtain⟨s0,s1,s2,s3⟩:=hSw;go_simp)⟩) hHeld ?_;simp only[Act.put];refine wpAnyH_ready (rs:=[13]) (by kernel_rfl) (by simp) ?_;refine AllReadyH.cons rfl (λK hK=>?_) AllReadyH.nil;have r0:=cell_of_row w2 _ 0 _ _ _ hC.out;have r1:=cell_of_row w2 _ 1 _ _ _ hC.out;have r2:=cell_of_row w2 _ 2 _ _ _ hC.out;have r3:=cell_of_row w2 _ 3 _ _ _ hC.out;have rf:=λj=>frozen_of_row w2 _ j _ _ hC.out;simp at r0 r1 r2 r3
  go_simp
  refine hK.out _ _ (hC.bx.same (by repeat(first|exact rfl|exact Below.heap_setCell _ _ _ _ (by simp)|refine(Below.heap_setCell _ _ _ _ (by simp)).trans ?_))) (λhHeld=>?_);clear hK K;refine wpAnyH_done (by kernel_rfl) ?_ _;clear hHeld;go_wp2;have hm:=hC.om;have hi:=hC.oi;refine bodyPost_ret (v:=.agg #[.int .i64 now,.int .i64 shift,.slice (some ⟨av,0,none⟩) n cv,.slice (some ⟨au,0,none⟩) m cu]) (by simp[results,Tryz.results131,go_sem,r0,r1,r2,r3]) rfl ⟨⟨_,_,_,_,rfl,aU (ai hm (λB hB=>by have:=(hm.lt B hB).1;rw[Below.heap_setCell _ _ _ _ (by simp;omega),Below.heap_setCell _ _ _ _ (by simp;omega),Below.heap_setCell _ _ _ _ (by simp;omega),Below.heap_setCell _ _ _ _ (by simp;omega)])) (by omega),aU (ai hi (λB hB=>by have:=(hi.lt B hB).1;rw[Below.heap_setCell _ _ _ _ (by simp;omega),Below.heap_setCell _ _ _ _ (by simp;omega),Below.heap_setCell _ _ _ _ (by simp;omega),Below.heap_setCell _ _ _ _ (by simp;omega)])) (by omega)⟩,(((hC.below.setCell (by simp) _).setCell (by simp) _).setCell (by simp) _).setCell (by simp) _⟩
theorem vu.pos {w:World}{ao:Option Addr}{n c:Nat}{f:Nat->Mv}(h:vu w ao n c f)(hn:0<n):∃b,ao=some ⟨b,0,none⟩/\b<w.heap.size/\aw w b 0 n f:=by
 cases ao with
 |none=>have:=(h.1 rfl).1;omega
 |some ad=>obtain⟨b,e,h1,h2⟩:=h.2 ad rfl;exact⟨b,by rw[e],h1,h2⟩
theorem xw.pos {w:World}{ao:Option Addr}{n c:Nat}{t:Nat->Int}(h:xw w ao n c t)(hn:0<n):∃b,ao=some ⟨b,0,none⟩/\b<w.heap.size/\ak w b 0 n t:=by
 cases ao with
 |none=>have:=(h.1 rfl).1;omega
 |some ad=>obtain⟨b,e,h1,h2⟩:=h.2 ad rfl;exact⟨b,by rw[e],h1,h2⟩
def er (f:Nat->Mv)(n:Nat)(name:ByteArray)(k:Int):Prop:=k=-1/\(∀i,i<n->bG (f i).name name=false)\/∃j:Nat,k=(j:Int)/\j<n/\bG (f j).name name=true/\∀i,i<j->bG (f i).name name=false
theorem oe (now shift:Int)(ao:Option Addr)(n c:Nat)(f:Nat->Mv)(bo:Option Addr)(m d:Nat)(name:ByteArray)(w:World)(hn:n<=6)(hv:vu w ao n c f):
  Calls Tryz0.prog 152 #[.agg #[.int .i64 now,.int .i64 shift,.slice ao n c,.slice bo m d],.string name] w λe w'=>(∃k:Int,e=.returned (.int .i64 k)/\er f n name k)/\Below w.heap.size w w':=by
 have hbB:Below w.heap.size w (w.alloc (.cells #[.int .i64 now,.int .i64 shift,.slice ao n c,.slice bo m d] 38)):=(Below.refl _ w).alloc (Nat.le_refl _) _;have hbk:ar (w.alloc (.cells #[.int .i64 now,.int .i64 shift,.slice ao n c,.slice bo m d] 38)) w.heap.size now shift (.slice ao n c) (.slice bo m d):=heap_alloc_new _ _;go_enter Tryz0.func152,Tryz.ntmps152
 go_wp2;go_loopw [5] (λx W=>∃k:Nat,x=.int .i64 k/\k<=n/\Below w.heap.size w W/\ar W w.heap.size now shift (.slice ao n c) (.slice bo m d)/\∀i,i<k->bG (f i).name name=false) (λx _=>n-(intOf x).toNat)
 case atStart=>exact⟨0,rfl,Nat.zero_le _,hbB,hbk,λi hi=>absurd hi (Nat.not_lt_zero _)⟩
 case round=>
  clear hbB hbk;obtain⟨k,rfl,hk,hB,bk,hall⟩:=hrel;obtain⟨y0,y1,y2,y3,y4⟩:=bk.cells;by_cases hlt:k<n
  .obtain⟨b,rfl,hbs,hrow⟩:=hv.pos (by omega);have lb:=Nat.lt_of_lt_of_le hbs hB.size;have hlt':(k:Int)<n:=by omega
   have c0:=(hrow.below hB hbs k hlt).c0;simp only[Nat.zero_add]at c0;cases he:bG (f k).name name with
   |true=>
    have he':((f k).name.toList==name.toList)=true:=he;go_wp2;all_goals first|(exfalso;omega)|skip
    go_ret;exact⟨⟨k,rfl,.inr ⟨k,rfl,hlt,he,hall⟩⟩,hB⟩
   |false=>
    have he':((f k).name.toList==name.toList)=false:=he;go_wp2;all_goals first|(exfalso;omega)|skip
    go_roundw
    case rel=>exact⟨k+1,by go_num,by omega,hB,bk,λi hi=>by
     by_cases e:i=k
     .subst e;exact he
     .exact hall i (by omega)⟩
    case measure=>simp[intOf];omega
  .have hlt':¬(k:Int)<n:=by omega
   go_wp2;all_goals first|(exfalso;omega)|skip
   go_ret;exact⟨⟨-1,rfl,.inl ⟨rfl,λi hi=>hall i (by omega)⟩⟩,hB⟩
def BJ (e:Ending):Prop:=∃x:Bool,e=.returned (.bool x)
theorem oG (b n c:Nat)(t:Nat->Int)(b' c':Nat)(t':Nat->Int)(w:World)(hn:n<=6)(hbs:b<w.heap.size)(hr:ak w b 0 n t)(hbs':b'<w.heap.size)(hr':ak w b' 0 n t'):
  Calls Tryz0.prog 155 #[.slice (some ⟨b,0,none⟩) n c,.slice (some ⟨b',0,none⟩) n c'] w λe w'=>BJ e/\Below w.heap.size w w':=by
 go_enter Tryz0.func155,Tryz.ntmps155
 go_wp2;go_loopw [5] (λx W=>∃k:Nat,x=.int .i64 k/\k<=n/\Below w.heap.size w W) (λx _=>n-(intOf x).toNat)
 case atStart=>exact⟨0,rfl,Nat.zero_le _,Below.refl _ _⟩
 case round=>
  obtain⟨k,rfl,hk,hB⟩:=hrel;by_cases hlt:k<n
  .have hlt':(k:Int)<n:=by omega
   have lb:=Nat.lt_of_lt_of_le hbs hB.size;have lb':=Nat.lt_of_lt_of_le hbs' hB.size;have c0:=hr.below hB hbs k hlt;have c1:=hr'.below hB hbs' k hlt;simp only[Nat.zero_add]at c0 c1;have hne:=ax wr;have x0:=λx:af wr=>x.cell c0
   have x1:=λx:af wr=>x.cell c1
   go_wp2;refine ac (by kernel_rfl) (by kernel_rfl) ?_;repeat(go_big_quiet_step (fail))
   refine wpQuiet_nil (ag ?_);intro w2 hb2;by_cases hle:t' k<t k
   .go_wp2;all_goals first|(exfalso;omega)|skip
    go_ret;exact⟨⟨_,rfl⟩,hB.trans (hb2.mono hB.size)⟩
   .go_wp2;all_goals first|(exfalso;omega)|skip
    go_roundw
    case rel=>exact⟨k+1,by go_num,by omega,hB.trans (hb2.mono hB.size)⟩
    case measure=>simp[intOf];omega
  .have hlt':¬(k:Int)<n:=by omega
   go_wp2;all_goals first|(exfalso;omega)|skip
   go_ret;exact⟨⟨_,rfl⟩,hB⟩
theorem xA (f:Nat->Mv)(k n:Nat)(m:Mv)(hk:k<=n):(aS f k++m.cells.toList)++aS (λj=>f (k+j)) (n-k)=aS (ge f k m) (n+1):=by
 have h1:aS f k=aS (ge f k m) k:=ip λj hj=>by unfold ge;rw[if_pos hj]
 have h2:aS f k++m.cells.toList=aS (ge f k m) (k+1):=by
  rw[dt,h1,show ge f k m k=m by unfold ge;rw[if_neg (Nat.lt_irrefl _),if_pos rfl]]
 rw[h2];have h3:∀r,aS (ge f k m) (k+1)++aS (λj=>f (k+j)) r=aS (ge f k m) (k+1+r):=by
  intro r;induction r with
  |zero=>simp[aS]
  |succ r ih=>
   rw[dt (λj=>f (k+j)) r,<-List.append_assoc,ih,show k+1+(r+1)=k+1+r+1 by omega,dt _ (k+1+r)];congr 3;unfold ge;rw[if_neg (by omega),if_neg (by omega)];congr 1;omega
 rw[h3,show k+1+(n-k)=n+1 by omega]
theorem xB (f:Nat->Mv)(k n:Nat)(hk:k<n):aS f k++aS (λj=>f (k+1+j)) (n-(k+1))=aS (fg f k) (n-1):=by
 have h1:aS f k=aS (fg f k) k:=ip λj hj=>by unfold fg;rw[if_pos hj]
 rw[h1];have h3:∀r,aS (fg f k) k++aS (λj=>f (k+1+j)) r=aS (fg f k) (k+r):=by
  intro r;induction r with
  |zero=>simp[aS]
  |succ r ih=>
   rw[dt (λj=>f (k+1+j)) r,<-List.append_assoc,ih,show k+(r+1)=k+r+1 by omega,dt _ (k+r)];congr 3;unfold fg;rw[if_neg (by omega)];congr 1;omega
 rw[h3,show k+(n-(k+1))=n-1 by omega]
theorem vy (t:Nat->Int)(k n:Nat)(hk:k<n):dh t k++dh (λj=>t (k+1+j)) (n-(k+1))=dh (fg t k) (n-1):=by
 apply List.ext_getElem?;intro j;rw[List.getElem?_append];by_cases h1:j<k
 .rw[if_pos (by rw[ck];exact h1),eO h1,eO (by omega)];unfold fg;rw[if_pos h1]
 .rw[if_neg (by rw[ck];exact h1),ck];by_cases h2:j<n-1
  .rw[eO (by omega),eO h2];unfold fg;rw[if_neg h1,show k+1+(j-k)=j+1 by omega]
  .rw[List.getElem?_eq_none (by rw[ck];omega),List.getElem?_eq_none (by rw[ck];omega)]
end Go.Proofs.YtlmcblcijndipaaGreat
