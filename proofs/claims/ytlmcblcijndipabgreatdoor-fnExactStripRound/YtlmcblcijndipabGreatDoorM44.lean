import Derived.Test.YtlmcblcijndipabGreatDoorM43
import Derived.Test.YtlmcblcijndipabGreatDoorM29
import Derived.Test.YtlmcblcijndipabGreatDoorM40
import Derived.Test.YtlmcblcijndipabGreatDoorM14
import Derived.Test.YtlmcblcijndipabGreatDoorM39
import Derived.Deep.RegionLaw
set_option linter.unusedVariables false
set_option maxHeartbeats 8000000
set_option maxRecDepth 10000
namespace Go.Proofs.YtlmcblcijndipabGreatDoor
open Go Go.RowKit
theorem jD:Tryz0.prog.underlying 23=some (.slice 3):=by kernel_rfl
theorem xO:∃i,Tryz0.prog.info? 3=some i/\i.zero=some (.int .i64 0)/\i.size=1/\i.bytes=8:=by
 have h:(Tryz0.prog.info? 3).map (λi=>(i.zero,i.size,i.bytes))=some (some (.int .i64 0),1,8):=by kernel_rfl
 cases hI:Tryz0.prog.info? 3 with
 |none=>rw[hI]at h;simp at h
 |some i=>rw[hI]at h;simp only[Option.map_some,Option.some.injEq,Prod.mk.injEq]at h;exact⟨i,rfl,h.1,h.2.1,h.2.2⟩
section
variable {w w':World}{base base':Nat}{e:TypeId}{size:Nat}{v:Value}{n:Nat}{xs:List Value}
theorem bq (h:w.ownsRow base e size v n xs)(hs:∀B,v.ownBlock=some B->w'.heap[B]?=w.heap[B]?):w'.ownsRow base e size v n xs:=by
 obtain⟨h1,⟨rfl,rfl⟩|⟨g,cap,cur,rfl,h3,h4,h5⟩⟩:=h
 .exact⟨h1,.inl ⟨rfl,rfl⟩⟩
 .exact⟨h1,.inr ⟨g,cap,cur,rfl,h3,(hs g rfl).trans h4,h5⟩⟩
theorem da (h:w.ownsRow base e size v n xs)(hb:base'<=base):w.ownsRow base' e size v n xs:=by
 obtain⟨h1,h2|⟨g,cap,cur,h2,h3,h4⟩⟩:=h
 .exact⟨h1,.inl h2⟩
 .exact⟨h1,.inr ⟨g,cap,cur,h2,Nat.le_trans hb h3,h4⟩⟩
theorem rK (h:w.ownsRow base e size v n xs)(hn:v≠.slice none 0 0):∃B c,v=.slice (some ⟨B,0,none⟩) n c:=by
 obtain⟨h1,h2|⟨g,cap,cur,h2,h3,h4⟩⟩:=h
 .exact absurd h2.1 hn
 .exact⟨g,cap,h2⟩
theorem ul (h:w.ownsRow base e size v n xs){B:Nat}(hB:v.ownBlock=some B):∃cs,w.heap[B]?=some (.cells cs e (0,0)):=by
 obtain⟨h1,⟨rfl,rfl⟩|⟨g,c,cur,rfl,h3,h4,h5⟩⟩:=h
 .cases hB
 .simp[Value.ownBlock]at hB;subst hB;exact⟨_,h4⟩
theorem o0 {v':Value}{n':Nat}{xs':List Value}{e':TypeId}{size':Nat}(h:w.ownsRow base e size v n xs)(h':w.ownsRow base' e' size' v' n' xs')(hne:e≠e'){B:Nat}(hB:v.ownBlock=some B):v'.ownBlock≠some B:=λx=>by
 obtain⟨c1,e1⟩:=ul h hB;obtain⟨c2,e2⟩:=ul h' x;rw[e1]at e2;simp at e2;exact hne e2.2
theorem rL (h:base<=w.heap.size):(w.alloc (.cells #[] e)).ownsRow base e size (.slice (some ⟨w.heap.size,0,none⟩) 0 0) 0 []:=⟨by simp,.inr ⟨w.heap.size,0,#[],rfl,h,heap_alloc_new w _,Nat.le_refl _,Nat.zero_le _,by simp,by simp⟩⟩
end
theorem bJ {P:Program}{ops:Array Oper}{o:Oper}{a:Act}{w:World}{K:Act->World->Prop}{Q:Exit->Act->World->Prop}{E:Prop}
  (hg:o.guard=none)(s x:Operand)(t:TypeId)(hop:o.op=Op.call {callee:=Callee.builtin Builtin.append,args:=#[s,x],argTypes:=#[t,t]})
  (e:TypeId)(i:TypeInfo)(z:Value)(size bytes:Nat)(h1:P.underlying t=some (.slice e))(h2:P.info? e=some i)(h3:i.zero=some z)(h4:i.size=size)(h5:i.bytes=bytes)(h6:z.cells.size=size)(h7:0<size)
  (base:Nat)(v:Value)(n:Nat)(olds:List Value)(hs:a.eval s=v)(hown:w.ownsRow base e size v n olds)(hv:v≠.slice none 0 0)
  (ao:Option Addr)(m c:Nat)(news:List Value)(hx:a.eval x=.slice ao m c)(hn:news.length=m*size)(hnone:ao=none->m=0/\c=0)(hc:∀ad,ao=some ad->∀j u,news[j]?=some u->w.cell? (ad.add j)=some u)(h1c:∀u∈news,u.oneCell'=true)
  (b1:n+m<=maxLen)(b2:(n+m)*bytes<=140737488355328)(hb:base<=w.heap.size)
  (hK:∀v' w',w'.ownsRow base e size v' (n+m) (olds++news)->v'≠.slice none 0 0->w.grownBy w' v.ownBlock->K (a.put o.dst v') w'):
  if Region.wanted o (yielded ops a.tmps)=true then Oper.wp P o a w K Q else E:=by
 have hw:Region.wanted o (yielded ops a.tmps)=true:=by simp[Region.wanted,hg]
 rw[if_pos hw];cases ao with
 |some ad=>
  obtain⟨v',w',hrun,r1,r2,r3⟩:=run_append_own (P:=P) w base t o.type e i z size bytes h1 h2 h3 h4 h5 h6 h7 v n olds hown ad m c news hn (hc ad rfl) h1c b1 b2 hb;unfold Oper.wp;simp[execOp,hop,resolve,invoke,builtin,hs,hx,hrun,Result.andThen];exact hK v' w' r1 (λx=>hv (r3.1 x).1) r2
 |none=>
  obtain⟨rfl,rfl⟩:=hnone rfl;have hnews:news=[]:=List.eq_nil_of_length_eq_zero (by simpa using hn);subst hnews;have hrun:=run_append_owned_none (P:=P) w base t o.type e i size h1 h2 _ n olds hown;unfold Oper.wp;simp[execOp,hop,resolve,invoke,builtin,hs,hx,hrun,Result.andThen];exact hK _ _ (by simpa using hown) hv (World.grownBy.refl _ _)
def zg (w:World)(ao:Option Addr)(n c:Nat)(f:Nat->Mv):Prop:=(ao=none->n=0/\c=0)/\∀ad,ao=some ad->∃b,ad=⟨b,0,none⟩/\b<w.heap.size/\an w b 0 n f
def Be (w:World)(ao:Option Addr)(n c:Nat)(t:Nat->Int):Prop:=(ao=none->n=0/\c=0)/\∀ad,ao=some ad->∃b,ad=⟨b,0,none⟩/\b<w.heap.size/\al w b 0 n t
theorem jE {w w':World}{ao:Option Addr}{n:Nat}{f:Nat->Mv}(h:∀ad,ao=some ad->∃b,ad=⟨b,0,none⟩/\b<w.heap.size/\an w b 0 n f)(hb:Below w.heap.size w w'):∀ad,ao=some ad->∀j u,(cD f n)[j]?=some u->w'.cell? (ad.add j)=some u:=λad had=>by
 obtain⟨b,rfl,hlt,hr⟩:=h ad had;exact gL (hr.below hb hlt)
theorem jF {w w':World}{ao:Option Addr}{n:Nat}{t:Nat->Int}(h:∀ad,ao=some ad->∃b,ad=⟨b,0,none⟩/\b<w.heap.size/\al w b 0 n t)(hb:Below w.heap.size w w'):∀ad,ao=some ad->∀j u,(dJ t n)[j]?=some u->w'.cell? (ad.add j)=some u:=λad had=>by
 obtain⟨b,rfl,hlt,hr⟩:=h ad had;exact rI (hr.below hb hlt)
structure Bx (N:Nat)(now shift:Int)(v u:Value)(W:World):Prop where
 c0:W.cell? ⟨N,0,none⟩=some (.int .i64 now)
 c1:W.cell? ⟨N,1,none⟩=some (.int .i64 shift)
 c2:W.cell? ⟨N,2,none⟩=some v
 c3:W.cell? ⟨N,3,none⟩=some u
theorem Bx.same {N:Nat}{now shift:Int}{v u:Value}{W W':World}(h:Bx N now shift v u W)(e:W'.heap[N]?=W.heap[N]?):Bx N now shift v u W':=
 ⟨(World.cell?_of_block (a:=⟨N,0,none⟩) e).trans h.c0,(World.cell?_of_block (a:=⟨N,1,none⟩) e).trans h.c1,(World.cell?_of_block (a:=⟨N,2,none⟩) e).trans h.c2,(World.cell?_of_block (a:=⟨N,3,none⟩) e).trans h.c3⟩
structure Cp (w:World)(now shift:Int)(v u:Value)(vm:Value)(nm:Nat)(xm:List Value)(vi:Value)(ni:Nat)(xi:List Value)(W:World):Prop where
 below:Below w.heap.size w W
 size:w.heap.size+2<=W.heap.size
 box:W.heap[w.heap.size]?=some (.cells #[.int .i64 now,.int .i64 shift,v,u] 32 (0,0))
 out:W.heap[w.heap.size+1]?=some (.cells #[.int .i64 0,.int .i64 0,.slice none 0 0,.slice none 0 0] 32 (0,0))
 om:W.ownsRow (w.heap.size+2) 36 6 vm nm xm
 oi:W.ownsRow (w.heap.size+2) 3 1 vi ni xi
section
variable {w:World}{now shift:Int}{v u:Value}{vm:Value}{nm:Nat}{xm:List Value}{vi:Value}{ni:Nat}{xi:List Value}{W:World}
theorem Cp.bx (h:Cp w now shift v u vm nm xm vi ni xi W):Bx w.heap.size now shift v u W:=by
 constructor<;>(rw[cell_of_row _ _ _ _ _ _ h.box];rfl)
theorem Cp.grow (h:Cp w now shift v u vm nm xm vi ni xi W){W':World}(b:Below W.heap.size W W'):Cp w now shift v u vm nm xm vi ni xi W':=
 ⟨h.below.trans (b.mono h.below.size),Nat.le_trans h.size b.size,(b.block _ (by have:=h.size;omega)).trans h.box,(b.block _ (by have:=h.size;omega)).trans h.out,bq h.om (λB hB=>b.block B (h.om.lt B hB).2),bq h.oi (λB hB=>b.block B (h.oi.lt B hB).2)⟩
theorem Cp.newM (h:Cp w now shift v u vm nm xm vi ni xi W):Cp w now shift v u (.slice (some ⟨W.heap.size,0,none⟩) 0 0) 0 [] vi ni xi (W.alloc (.cells #[] 36)):=by
 have g:=h.grow (W':=W.alloc (.cells #[] 36)) ((Below.refl _ _).alloc (Nat.le_refl _) _);exact⟨g.below,g.size,g.box,g.out,rL h.size,g.oi⟩
theorem Cp.newI (h:Cp w now shift v u vm nm xm vi ni xi W):Cp w now shift v u vm nm xm (.slice (some ⟨W.heap.size,0,none⟩) 0 0) 0 [] (W.alloc (.cells #[] 3)):=by
 have g:=h.grow (W':=W.alloc (.cells #[] 3)) ((Below.refl _ _).alloc (Nat.le_refl _) _);exact⟨g.below,g.size,g.box,g.out,g.om,rL h.size⟩
theorem Cp.appM (h:Cp w now shift v u vm nm xm vi ni xi W){v':Value}{n':Nat}{x':List Value}{W':World}(o:W'.ownsRow (w.heap.size+2) 36 6 v' n' x')(g:W.grownBy W' vm.ownBlock):Cp w now shift v u v' n' x' vi ni xi W':=by
 have hs:=h.size;exact⟨h.below.grown g h.below.size (λq hq=>by have:=(h.om.lt q hq).1;omega),Nat.le_trans h.size g.size,(g.block _ (by omega) (λe=>by have:=(h.om.lt _ e.symm).1;omega)).trans h.box,(g.block _ (by omega) (λe=>by have:=(h.om.lt _ e.symm).1;omega)).trans h.out,o,bq h.oi (λB hB=>g.block B (h.oi.lt B hB).2 (λe=>o0 h.om h.oi (by decide) e.symm hB))⟩
theorem Cp.appI (h:Cp w now shift v u vm nm xm vi ni xi W){v':Value}{n':Nat}{x':List Value}{W':World}(o:W'.ownsRow (w.heap.size+2) 3 1 v' n' x')(g:W.grownBy W' vi.ownBlock):Cp w now shift v u vm nm xm v' n' x' W':=by
 have hs:=h.size;exact⟨h.below.grown g h.below.size (λq hq=>by have:=(h.oi.lt q hq).1;omega),Nat.le_trans h.size g.size,(g.block _ (by omega) (λe=>by have:=(h.oi.lt _ e.symm).1;omega)).trans h.box,(g.block _ (by omega) (λe=>by have:=(h.oi.lt _ e.symm).1;omega)).trans h.out,bq h.om (λB hB=>g.block B (h.om.lt B hB).2 (λe=>o0 h.om h.oi (by decide) hB e.symm)),o⟩
end
theorem Cp.start (w:World)(now shift:Int)(v u:Value):Cp w now shift v u (.slice none 0 0) 0 [] (.slice none 0 0) 0 [] ((w.alloc (.cells #[.int .i64 now,.int .i64 shift,v,u] 32)).alloc (.cells #[.int .i64 0,.int .i64 0,.slice none 0 0,.slice none 0 0] 32)):=
 ⟨((Below.refl _ w).alloc (Nat.le_refl _) _).alloc (by simp) _,by simp,(Below.heap_alloc _ _ _ (by simp)).trans (heap_alloc_new w _),cm _ _ _,⟨rfl,.inl ⟨rfl,rfl⟩⟩,⟨rfl,.inl ⟨rfl,rfl⟩⟩⟩
theorem nz (now shift:Int)(ao:Option Addr)(n c:Nat)(f:Nat->Mv)(bo:Option Addr)(m d:Nat)(t:Nat->Int)(w:World)(hn:n<=1048576)(hm:m<=1048576)(hv:zg w ao n c f)(hu:Be w bo m d t):
  Calls Tryz0.prog 31 #[.agg #[.int .i64 now,.int .i64 shift,.slice ao n c,.slice bo m d]] w λe w'=>(∃B c B' c',e=.returned (.agg #[.int .i64 now,.int .i64 shift,.slice (some ⟨B,0,none⟩) n c,.slice (some ⟨B',0,none⟩) m c'])/\w'.ownsRow w.heap.size 36 6 (.slice (some ⟨B,0,none⟩) n c) n (cD f n)/\w'.ownsRow w.heap.size 3 1 (.slice (some ⟨B',0,none⟩) m c') m (dJ t m))/\Below w.heap.size w w':=by
 obtain⟨iM,hI,hz0,hz1,hz2⟩:=iE;obtain⟨i0,hI',hy0,hy1,hy2⟩:=xO;obtain⟨hvn,hvr⟩:=hv;obtain⟨hun,hur⟩:=hu;have hC:=Cp.start w now shift (.slice ao n c) (.slice bo m d);go_enter Tryz0.func31,Tryz.ntmps31
 go_wp2;have hC:=hC.grow (Below.refl _ _).drew;refine wp_region_held_drew (S:=Bx w.heap.size now shift (.slice ao n c) (.slice bo m d)) (by kernel_rfl) hC.bx (λhHeld=>?_);refine eJ (i:=0) (v:=.pointer (some ⟨w.heap.size,0,none⟩)) 3 rfl rfl (by kernel_rfl) (by kernel_rfl) (by kernel_rfl) (λ_ _ _ h=>h) (Or.inl ⟨by rfl,λw' hSw=>by(obtain⟨s0,s1,s2,s3⟩:=hSw;go_simp)⟩) hHeld ?_;simp only[Act.put,List.setIfInBounds_toArray,List.set_cons_zero,List.set_cons_succ];refine eJ (i:=1) (v:=.int .i64 now) 4 rfl rfl (by kernel_rfl) (by kernel_rfl) (by kernel_rfl) (λ_ _ _ h=>h) (Or.inl ⟨by rfl,λw' hSw=>by(obtain⟨s0,s1,s2,s3⟩:=hSw;go_simp)⟩) hHeld ?_;simp only[Act.put,List.setIfInBounds_toArray,List.set_cons_zero,List.set_cons_succ];refine eJ (i:=2) (v:=.pointer (some ⟨w.heap.size,1,none⟩)) 5 rfl rfl (by kernel_rfl) (by kernel_rfl) (by kernel_rfl) (λ_ _ _ h=>h) (Or.inl ⟨by rfl,λw' hSw=>by(obtain⟨s0,s1,s2,s3⟩:=hSw;go_simp)⟩) hHeld ?_;simp only[Act.put,List.setIfInBounds_toArray,List.set_cons_zero,List.set_cons_succ];refine eJ (i:=3) (v:=.int .i64 shift) 6 rfl rfl (by kernel_rfl) (by kernel_rfl) (by kernel_rfl) (λ_ _ _ h=>h) (Or.inl ⟨by rfl,λw' hSw=>by(obtain⟨s0,s1,s2,s3⟩:=hSw;go_simp)⟩) hHeld ?_;simp only[Act.put,List.setIfInBounds_toArray,List.set_cons_zero,List.set_cons_succ];refine eJ (i:=5) (v:=.pointer (some ⟨w.heap.size,2,none⟩)) 8 rfl rfl (by kernel_rfl) (by kernel_rfl) (by kernel_rfl) (λ_ _ _ h=>h) (Or.inl ⟨by rfl,λw' hSw=>by(obtain⟨s0,s1,s2,s3⟩:=hSw;go_simp)⟩) hHeld ?_;simp only[Act.put,List.setIfInBounds_toArray,List.set_cons_zero,List.set_cons_succ];refine eJ (i:=6) (v:=.slice ao n c) 9 rfl rfl (by kernel_rfl) (by kernel_rfl) (by kernel_rfl) (λ_ _ _ h=>h) (Or.inl ⟨by rfl,λw' hSw=>by(obtain⟨s0,s1,s2,s3⟩:=hSw;go_simp)⟩) hHeld ?_;simp only[Act.put,List.setIfInBounds_toArray,List.set_cons_zero,List.set_cons_succ];refine eJ (i:=9) (v:=.pointer (some ⟨w.heap.size,3,none⟩)) 12 rfl rfl (by kernel_rfl) (by kernel_rfl) (by kernel_rfl) (λ_ _ _ h=>h) (Or.inl ⟨by rfl,λw' hSw=>by(obtain⟨s0,s1,s2,s3⟩:=hSw;go_simp)⟩) hHeld ?_;simp only[Act.put,List.setIfInBounds_toArray,List.set_cons_zero,List.set_cons_succ];refine eJ (i:=10) (v:=.slice bo m d) 13 rfl rfl (by kernel_rfl) (by kernel_rfl) (by kernel_rfl) (λ_ _ _ h=>h) (Or.inl ⟨by rfl,λw' hSw=>by(obtain⟨s0,s1,s2,s3⟩:=hSw;go_simp)⟩) hHeld ?_;simp only[Act.put,List.setIfInBounds_toArray,List.set_cons_zero,List.set_cons_succ];refine wpAnyH_ready (rs:=[4,8]) (by kernel_rfl) (by simp) ?_;refine AllReadyH.cons rfl (λK hK=>?_) (AllReadyH.cons rfl (λK hK=>?_) AllReadyH.nil);focus
  go_simp
  have hC:=hC.newM;try simp only[World.size_alloc,World.size_drew]at hC
  refine hK.out _ _ hC.bx (λhHeld=>?_);clear hK K;refine wpAnyH_ready (rs:=[7,8]) (by kernel_rfl) (by simp) ?_;refine AllReadyH.cons rfl (λK hK=>?_) (AllReadyH.cons rfl (λK hK=>?_) AllReadyH.nil);focus
   refine bJ rfl (.tmp 7) (.tmp 9) 30 rfl 36 iM _ 6 56 bc hI hz0 hz1 hz2 rfl (by decide) (w.heap.size+2) _ 0 [] (by rfl) hC.om (by intro h;cases h) ao n c (cD f n) (by rfl) (cK f n) hvn (jE hvr hC.below) (ga f n) (by unfold maxLen;omega) (by omega) hC.size ?_;intro v1 w1 ho1 hs1 hg1;simp only[Nat.zero_add,List.nil_append]at ho1;have hC:=hC.appM ho1 hg1;clear ho1 hg1;refine hK.out _ _ hC.bx (λhHeld=>?_);clear hK K;refine wpAnyH_ready (rs:=[8]) (by kernel_rfl) (by simp) ?_;refine AllReadyH.cons rfl (λK hK=>?_) AllReadyH.nil;go_simp
   have hC:=hC.newI;try simp only[World.size_alloc,World.size_drew]at hC
   refine hK.out _ _ hC.bx (λhHeld=>?_);clear hK K;refine wpAnyH_ready (rs:=[11]) (by kernel_rfl) (by simp) ?_;refine AllReadyH.cons rfl (λK hK=>?_) AllReadyH.nil;refine bJ rfl (.tmp 11) (.tmp 13) 23 rfl 3 i0 _ 1 8 jD hI' hy0 hy1 hy2 rfl (by decide) (w.heap.size+2) _ 0 [] (by rfl) hC.oi (by intro h;cases h) bo m d (dJ t m) (by rfl) (by rw[eN];omega) hun (jF hur hC.below) (iU t m) (by unfold maxLen;omega) (by omega) hC.size ?_;intro u1 w2 ho2 hs2 hg2;simp only[Nat.zero_add,List.nil_append]at ho2;have hC:=hC.appI ho2 hg2;clear ho2 hg2;refine hK.out _ _ hC.bx (λhHeld=>?_);clear hK K
  rotate_left;focus
   go_simp
   have hC:=hC.newI;try simp only[World.size_alloc,World.size_drew]at hC
   refine hK.out _ _ hC.bx (λhHeld=>?_);clear hK K;refine wpAnyH_ready (rs:=[7]) (by kernel_rfl) (by simp) ?_;refine AllReadyH.cons rfl (λK hK=>?_) AllReadyH.nil;refine bJ rfl (.tmp 7) (.tmp 9) 30 rfl 36 iM _ 6 56 bc hI hz0 hz1 hz2 rfl (by decide) (w.heap.size+2) _ 0 [] (by rfl) hC.om (by intro h;cases h) ao n c (cD f n) (by rfl) (cK f n) hvn (jE hvr hC.below) (ga f n) (by unfold maxLen;omega) (by omega) hC.size ?_;intro v1 w1 ho1 hs1 hg1;simp only[Nat.zero_add,List.nil_append]at ho1;have hC:=hC.appM ho1 hg1;clear ho1 hg1;refine hK.out _ _ hC.bx (λhHeld=>?_);clear hK K;refine wpAnyH_ready (rs:=[11]) (by kernel_rfl) (by simp) ?_;refine AllReadyH.cons rfl (λK hK=>?_) AllReadyH.nil;refine bJ rfl (.tmp 11) (.tmp 13) 23 rfl 3 i0 _ 1 8 jD hI' hy0 hy1 hy2 rfl (by decide) (w.heap.size+2) _ 0 [] (by rfl) hC.oi (by intro h;cases h) bo m d (dJ t m) (by rfl) (by rw[eN];omega) hun (jF hur hC.below) (iU t m) (by unfold maxLen;omega) (by omega) hC.size ?_;intro u1 w2 ho2 hs2 hg2;simp only[Nat.zero_add,List.nil_append]at ho2;have hC:=hC.appI ho2 hg2;clear ho2 hg2;refine hK.out _ _ hC.bx (λhHeld=>?_);clear hK K
 rotate_left 2;focus
  go_simp
  have hC:=hC.newI;try simp only[World.size_alloc,World.size_drew]at hC
  refine hK.out _ _ hC.bx (λhHeld=>?_);clear hK K;refine wpAnyH_ready (rs:=[4]) (by kernel_rfl) (by simp) ?_;refine AllReadyH.cons rfl (λK hK=>?_) AllReadyH.nil;go_simp
  have hC:=hC.newM;try simp only[World.size_alloc,World.size_drew]at hC
  refine hK.out _ _ hC.bx (λhHeld=>?_);clear hK K;refine wpAnyH_ready (rs:=[7]) (by kernel_rfl) (by simp) ?_;refine AllReadyH.cons rfl (λK hK=>?_) AllReadyH.nil;refine bJ rfl (.tmp 7) (.tmp 9) 30 rfl 36 iM _ 6 56 bc hI hz0 hz1 hz2 rfl (by decide) (w.heap.size+2) _ 0 [] (by rfl) hC.om (by intro h;cases h) ao n c (cD f n) (by rfl) (cK f n) hvn (jE hvr hC.below) (ga f n) (by unfold maxLen;omega) (by omega) hC.size ?_;intro v1 w1 ho1 hs1 hg1;simp only[Nat.zero_add,List.nil_append]at ho1;have hC:=hC.appM ho1 hg1;clear ho1 hg1;refine hK.out _ _ hC.bx (λhHeld=>?_);clear hK K;refine wpAnyH_ready (rs:=[11]) (by kernel_rfl) (by simp) ?_;refine AllReadyH.cons rfl (λK hK=>?_) AllReadyH.nil;refine bJ rfl (.tmp 11) (.tmp 13) 23 rfl 3 i0 _ 1 8 jD hI' hy0 hy1 hy2 rfl (by decide) (w.heap.size+2) _ 0 [] (by rfl) hC.oi (by intro h;cases h) bo m d (dJ t m) (by rfl) (by rw[eN];omega) hun (jF hur hC.below) (iU t m) (by unfold maxLen;omega) (by omega) hC.size ?_;intro u1 w2 ho2 hs2 hg2;simp only[Nat.zero_add,List.nil_append]at ho2;have hC:=hC.appI ho2 hg2;clear ho2 hg2;refine hK.out _ _ hC.bx (λhHeld=>?_);clear hK K
 all_goals
  obtain⟨av,cv,rfl⟩:=rK hC.om hs1;obtain⟨au,cu,rfl⟩:=rK hC.oi hs2;refine eJ (i:=12) (v:=(.agg #[.int .i64 now,.int .i64 shift,.slice (some ⟨av,0,none⟩) n cv,.slice (some ⟨au,0,none⟩) m cu])) 15 rfl rfl (by kernel_rfl) (by kernel_rfl) (by kernel_rfl) (λ_ _ _ h=>h) (Or.inl ⟨by rfl,λw' hSw=>by(obtain⟨s0,s1,s2,s3⟩:=hSw;go_simp)⟩) hHeld ?_;simp only[Act.put];refine wpAnyH_ready (rs:=[13]) (by kernel_rfl) (by simp) ?_;refine AllReadyH.cons rfl (λK hK=>?_) AllReadyH.nil;have r0:=cell_of_row w2 _ 0 _ _ _ hC.out;have r1:=cell_of_row w2 _ 1 _ _ _ hC.out;have r2:=cell_of_row w2 _ 2 _ _ _ hC.out;have r3:=cell_of_row w2 _ 3 _ _ _ hC.out;have rf:=λj=>frozen_of_row w2 _ j _ _ hC.out;simp at r0 r1 r2 r3
  go_simp
  refine hK.out _ _ (hC.bx.same (by repeat(first|exact rfl|exact Below.heap_setCell _ _ _ _ (by simp)|refine(Below.heap_setCell _ _ _ _ (by simp)).trans ?_))) (λhHeld=>?_);clear hK K;refine wpAnyH_done (by kernel_rfl) ?_ _;clear hHeld;go_wp2;have hm:=hC.om;have hi:=hC.oi;refine bodyPost_ret (v:=.agg #[.int .i64 now,.int .i64 shift,.slice (some ⟨av,0,none⟩) n cv,.slice (some ⟨au,0,none⟩) m cu]) (by simp[results,Tryz.results31,go_sem,r0,r1,r2,r3]) rfl ⟨⟨_,_,_,_,rfl,da (bq hm (λB hB=>by have:=(hm.lt B hB).1;rw[Below.heap_setCell _ _ _ _ (by simp;omega),Below.heap_setCell _ _ _ _ (by simp;omega),Below.heap_setCell _ _ _ _ (by simp;omega),Below.heap_setCell _ _ _ _ (by simp;omega)])) (by omega),da (bq hi (λB hB=>by have:=(hi.lt B hB).1;rw[Below.heap_setCell _ _ _ _ (by simp;omega),Below.heap_setCell _ _ _ _ (by simp;omega),Below.heap_setCell _ _ _ _ (by simp;omega),Below.heap_setCell _ _ _ _ (by simp;omega)])) (by omega)⟩,(((hC.below.setCell (by simp) _).setCell (by simp) _).setCell (by simp) _).setCell (by simp) _⟩
theorem zg.pos {w:World}{ao:Option Addr}{n c:Nat}{f:Nat->Mv}(h:zg w ao n c f)(hn:0<n):∃b,ao=some ⟨b,0,none⟩/\b<w.heap.size/\an w b 0 n f:=by
 cases ao with
 |none=>have:=(h.1 rfl).1;omega
 |some ad=>obtain⟨b,e,h1,h2⟩:=h.2 ad rfl;exact⟨b,by rw[e],h1,h2⟩
def fH (f:Nat->Mv)(n:Nat)(name:ByteArray)(k:Int):Prop:=k=-1/\(∀i,i<n->aU (f i).name name=false)\/∃j:Nat,k=(j:Int)/\j<n/\aU (f j).name name=true/\∀i,i<j->aU (f i).name name=false
theorem xP (now shift:Int)(ao:Option Addr)(n c:Nat)(f:Nat->Mv)(bo:Option Addr)(m d:Nat)(name:ByteArray)(w:World)(hn:n<=6)(hv:zg w ao n c f):
  Calls Tryz0.prog 33 #[.agg #[.int .i64 now,.int .i64 shift,.slice ao n c,.slice bo m d],.string name] w λe w'=>(∃k:Int,e=.returned (.int .i64 k)/\fH f n name k)/\Below w.heap.size w w':=by
 have hbB:Below w.heap.size w (w.alloc (.cells #[.int .i64 now,.int .i64 shift,.slice ao n c,.slice bo m d] 32)):=(Below.refl _ w).alloc (Nat.le_refl _) _;have hbk:ar (w.alloc (.cells #[.int .i64 now,.int .i64 shift,.slice ao n c,.slice bo m d] 32)) w.heap.size now shift (.slice ao n c) (.slice bo m d):=heap_alloc_new _ _;go_enter Tryz0.func33,Tryz.ntmps33
 go_wp2;go_loopw [5] (λx W=>∃k:Nat,x=.int .i64 k/\k<=n/\Below w.heap.size w W/\ar W w.heap.size now shift (.slice ao n c) (.slice bo m d)/\∀i,i<k->aU (f i).name name=false) (λx _=>n-(intOf x).toNat)
 case atStart=>exact⟨0,rfl,Nat.zero_le _,hbB,hbk,λi hi=>absurd hi (Nat.not_lt_zero _)⟩
 case round=>
  clear hbB hbk;obtain⟨k,rfl,hk,hB,bk,hall⟩:=hrel;obtain⟨y0,y1,y2,y3,y4⟩:=bk.cells;by_cases hlt:k<n
  .obtain⟨b,rfl,hbs,hrow⟩:=hv.pos (by omega);have lb:=Nat.lt_of_lt_of_le hbs hB.size;have hlt':(k:Int)<n:=by omega
   have c0:=(hrow.below hB hbs k hlt).c0;simp only[Nat.zero_add]at c0;cases he:aU (f k).name name with
   |true=>
    have he':((f k).name.toList==name.toList)=true:=he;go_wp2;all_goals first|(exfalso;omega)|skip
    go_ret;exact⟨⟨k,rfl,.inr ⟨k,rfl,hlt,he,hall⟩⟩,hB⟩
   |false=>
    have he':((f k).name.toList==name.toList)=false:=he;go_wp2;all_goals first|(exfalso;omega)|skip
    go_roundw
    case rel=>exact⟨k+1,by go_num,by omega,hB,bk,λi hi=>by
     by_cases e:i=k
     .subst e;exact he
     .exact hall i (by omega)⟩
    case measure=>simp[intOf];omega
  .have hlt':¬(k:Int)<n:=by omega
   go_wp2;all_goals first|(exfalso;omega)|skip
   go_ret;exact⟨⟨-1,rfl,.inl ⟨rfl,λi hi=>hall i (by omega)⟩⟩,hB⟩
def BL (e:Ending):Prop:=∃x:Bool,e=.returned (.bool x)
def BI (w:World)(lo b n:Nat)(t:Nat->Int):Prop:=lo<=b/\(∃cs,w.heap[b]?=some (.cells cs 3 (0,0)))/\al w b 0 n t
theorem xQ (w:World)(x0 x1:Int)(x2:Option Addr)(l2 c2:Nat)(x3:Option Addr)(l3 c3:Nat):∃W,w.alloc (.cells #[.int .i64 x0,.int .i64 x1,.slice x2 l2 c2,.slice x3 l3 c3] 32)=W/\ar W w.heap.size x0 x1 (.slice x2 l2 c2) (.slice x3 l3 c3)/\Below w.heap.size w W/\W.heap.size=w.heap.size+1:=
 ⟨_,rfl,heap_alloc_new w _,(Below.refl _ w).alloc (Nat.le_refl _) _,by simp⟩
theorem lL {w W:World}{N R:Nat}{y0 y1:Int}{y2 y3:Value}(hr:ar W R y0 y1 y2 y3)(hb:Below N w W)(hR:N<=R)(x0 x1:Int)(x2:Option Addr)(l2 c2:Nat)(x3:Option Addr)(l3 c3:Nat):∃W',((((W.setCell ⟨R,0,none⟩ (.int .i64 x0)).setCell ⟨R,1,none⟩ (.int .i64 x1)).setCell ⟨R,2,none⟩ (.slice x2 l2 c2)).setCell ⟨R,3,none⟩ (.slice x3 l3 c3))=W'/\ar W' R x0 x1 (.slice x2 l2 c2) (.slice x3 l3 c3)/\Below N w W'/\W'.heap.size=W.heap.size/\∀k,k≠R->W'.heap[k]?=W.heap[k]?:=by
 refine⟨_,rfl,?_,(((hb.setCell hR _).setCell hR _).setCell hR _).setCell hR _,by simp,λk hk=>?_⟩
 .rw[ep hr];exact setRow_heap _ _ _ _ _ _ hr
 .rw[Below.heap_setCell _ _ _ _ (by simpa using hk),Below.heap_setCell _ _ _ _ (by simpa using hk),Below.heap_setCell _ _ _ _ (by simpa using hk),Below.heap_setCell _ _ _ _ (by simpa using hk)]
theorem xR (P:Nat->Bool):∀n,∃k,k<=n/\(∀j,j<k->P j=true)/\(k<n->P k=false)
 |0=>⟨0,Nat.le_refl _,λj hj=>absurd hj (Nat.not_lt_zero _),λh=>absurd h (Nat.not_lt_zero _)⟩
 |n+1=>by
  obtain⟨k,h1,h2,h3⟩:=xR P n;by_cases hk:k<n
  .exact⟨k,by omega,h2,λ_=>h3 hk⟩
  .have hkn:k=n:=by omega
   subst hkn;cases hp:P k with
   |false=>exact⟨k,by omega,h2,λ_=>hp⟩
   |true=>exact⟨k+1,by omega,λj hj=>by
     by_cases e:j=k
     .subst e;exact hp
     .exact h2 j (by omega),λh=>absurd h (Nat.lt_irrefl _)⟩
theorem fH.no {f:Nat->Mv}{n:Nat}{name:ByteArray}{k:Int}(h:∀j,j<n->aU (f j).name name=false)(hk:fH f n name k):k=-1:=by
 rcases hk with⟨h1,_⟩|⟨j,h1,h2,h3,_⟩
 .exact h1
 .rw[h j h2]at h3;cases h3
theorem fH.yes {f:Nat->Mv}{n:Nat}{name:ByteArray}{k:Int}{J:Nat}(hJ:J<n)(h1:aU (f J).name name=true)(h2:∀j,j<J->aU (f j).name name=false)(hk:fH f n name k):k=J:=by
 rcases hk with⟨_,h⟩|⟨j,rfl,h3,h4,h5⟩
 .rw[h J hJ]at h1;cases h1
 .rcases Nat.lt_trichotomy j J with h|h|h
  .rw[h2 j h]at h4;cases h4
  .rw[h]
  .rw[h5 J h]at h1;cases h1
theorem AS (f:Nat->Mv)(n:Nat)(name:ByteArray):(∃J,J<n/\aU (f J).name name=true/\∀j,j<J->aU (f j).name name=false)\/∀j,j<n->aU (f j).name name=false:=by
 obtain⟨k,h1,h2,h3⟩:=xR (λj=>!aU (f j).name name) n;simp only[Bool.not_eq_true',Bool.not_eq_false']at h2 h3;by_cases h:k<n
 .exact .inl ⟨k,h,h3 h,h2⟩
 .exact .inr λj hj=>h2 j (by omega)
structure Ad (w:World)(now shift:Int)(ao:Option Addr)(n c:Nat)(bo:Option Addr)(d R X Bx cx Bi ci:Nat)(f:Nat->Mv)(t:Nat->Int)(W:World):Prop where
 below:Below w.heap.size w W
 bk:ar W w.heap.size now shift (.slice ao n c) (.slice bo n d)
 rs:ar W R 0 0 (.slice none 0 0) (.slice none 0 0)
 hR:w.heap.size<R
 x:ar W X now shift (.slice (some ⟨Bx,0,none⟩) n cx) (.slice (some ⟨Bi,0,none⟩) n ci)
 hX:R<X
 om:W.ownsRow (R+1) 36 6 (.slice (some ⟨Bx,0,none⟩) n cx) n (cD f n)
 oi:W.ownsRow (R+1) 3 1 (.slice (some ⟨Bi,0,none⟩) n ci) n (dJ t n)
section
variable {w:World}{now shift:Int}{ao:Option Addr}{n c:Nat}{bo:Option Addr}{d R X Bx cx Bi ci:Nat}{f:Nat->Mv}{t:Nat->Int}{W W':World}
theorem Ad.grow (h:Ad w now shift ao n c bo d R X Bx cx Bi ci f t W)(b:Below W.heap.size W W'):Ad w now shift ao n c bo d R X Bx cx Bi ci f t W':=
 ⟨h.below.trans (b.mono h.below.size),h.bk.same (b.block _ h.bk.lt),h.rs.same (b.block _ h.rs.lt),h.hR,h.x.same (b.block _ h.x.lt),h.hX,bq h.om (λB hB=>b.block B (h.om.lt B hB).2),bq h.oi (λB hB=>b.block B (h.oi.lt B hB).2)⟩
end
inductive tD (f:Nat->Mv)(n:Nat)(t:Nat->Int)(m:Nat)(now shift:Int)(name:ByteArray)(N:Nat)(V':World):Value->Value->Value->Value->Int->Prop
 |bad:aP now shift f n t m=false->tD f n t m now shift name N V' (.int .i64 0) (.int .i64 0) (.slice none 0 0) (.slice none 0 0) 1
 |no {k cd:Int} {v u:Value}:aP now shift f n t m=true->bV f n name k->cU f n t now k=.no cd->V'.ownsRow N 36 6 v n (cD f n)->V'.ownsRow N 3 1 u m (dJ t m)->tD f n t m now shift name N V' (.int .i64 now) (.int .i64 shift) v u cd
 |yes {k:Int} {p:Nat} {T:Nat->Int} {v u:Value}:aP now shift f n t m=true->bV f n name k->cU f n t now k=.yes p T->V'.ownsRow N 36 6 v (af f t p n).length (cD (eF (af f t p n)) (af f t p n).length)->V'.ownsRow N 3 1 u (af f t p n).length (dJ T (af f t p n).length)->tD f n t m now shift name N V' (.int .i64 now) (.int .i64 shift) v u 0
theorem nT (now shift:Int)(b n c:Nat)(f:Nat->Mv)(b' m d:Nat)(t:Nat->Int)(name:ByteArray)(w:World)(hn1:n<=1048576)(hm1:m<=1048576)(hbs:b<w.heap.size)(hrow:an w b 0 n f)(hF:∀i,i<n->(f i).Fits)(hbs':b'<w.heap.size)(hrow':al w b' 0 m t):
  Calls Tryz0.prog 19 #[.agg #[.int .i64 now,.int .i64 shift,.slice (some ⟨b,0,none⟩) n c,.slice (some ⟨b',0,none⟩) m d],.string name] w λe w'=>(∃x0 x1 x2 x3 cd,e=.returned (.tuple #[.agg #[x0,x1,x2,x3],.int .i64 cd])/\tD f n t m now shift name w.heap.size w' x0 x1 x2 x3 cd)/\Below w.heap.size w w':=by
 obtain⟨W0,hW0⟩:∃W,W=(w.alloc (.cells #[.int .i64 now,.int .i64 shift,.slice (some ⟨b,0,none⟩) n c,.slice (some ⟨b',0,none⟩) m d] 32)).alloc (.cells #[.int .i64 0,.int .i64 0,.slice none 0 0,.slice none 0 0] 32):=⟨_,rfl⟩;have b0:Below w.heap.size w W0:=by rw[hW0];exact((Below.refl _ w).alloc (Nat.le_refl _) _).alloc (by simp) _
 have bk0:ar W0 w.heap.size now shift (.slice (some ⟨b,0,none⟩) n c) (.slice (some ⟨b',0,none⟩) m d):=by rw[hW0];exact(Below.heap_alloc _ _ _ (by simp)).trans (heap_alloc_new _ _)
 have rs0:ar W0 (w.heap.size+1) 0 0 (.slice none 0 0) (.slice none 0 0):=by rw[hW0];exact cm _ _ _
 have hz0:W0.heap.size=w.heap.size+2:=by rw[hW0];simp
 have HB:=p8 now shift b 0 n c f b' 0 m d t W0 hn1 (by unfold maxLen;omega) (Nat.lt_of_lt_of_le hbs b0.size) (hrow.below b0 hbs) hF (Nat.lt_of_lt_of_le hbs' b0.size) (hrow'.below b0 hbs');cases hb:aP now shift f n t m with
 |false=>
  rw[hb,hW0]at HB;go_enter Tryz0.func19,Tryz.ntmps19
  go_wp2_with(go_at_call 30;refine HB.mono ?_;clear HB;rintro e w1 ⟨rfl,b1⟩;rw[<-hW0]at b1;have r1:=rs0.same (b1.block _ rs0.lt);obtain⟨y0,y1,y2,y3,y4⟩:=r1.cells)
  obtain⟨W5,e5,k5,hb5,hz5,hn5⟩:=lL r1 (b0.trans (b1.mono b0.size)) (by omega) 0 0 none 0 0 none 0 0;rw[e5];obtain⟨q0,q1,q2,q3,q4⟩:=k5.cells;refine bodyPost_ret (v:=.tuple #[.agg #[.int .i64 0,.int .i64 0,.slice none 0 0,.slice none 0 0],.int .i64 1]) ?_ rfl ⟨⟨_,_,_,_,_,rfl,.bad hb⟩,hb5⟩;simp[results,Tryz.f19,go_sem,q0,q1,q2,q3]
 |true=>
  obtain⟨hm,hmn,hfit⟩:=ns hb;subst hmn;have h6:=aN hm;have hbH:Hid _:=hb;rw[hb,hW0]at HB;have HC1:=λW (hW:Below w.heap.size w W)=>nz now shift (some ⟨b,0,none⟩) m c f (some ⟨b',0,none⟩) m d t W (by omega) (by omega) ⟨(λh=>nomatch h),λad had=>by cases had;exact⟨b,rfl,Nat.lt_of_lt_of_le hbs hW.size,hrow.below hW hbs⟩⟩ ⟨(λh=>nomatch h),λad had=>by cases had;exact⟨b',rfl,Nat.lt_of_lt_of_le hbs' hW.size,hrow'.below hW hbs'⟩⟩
  have HA:=λW (hW:Below w.heap.size w W)=>xP now shift (some ⟨b,0,none⟩) m c f (some ⟨b',0,none⟩) m d name W h6 ⟨(λh=>nomatch h),λad had=>by cases had;exact⟨b,rfl,Nat.lt_of_lt_of_le hbs hW.size,hrow.below hW hbs⟩⟩
  have hgo:∀(P:Prop),(∀kc:Int,kc=3->Hid (cU f m t now (-1)=.no kc)->(∀k,fH f m name k->k=-1)->(∀W,Below w.heap.size w W->True)->P)->(∀(kc:Int) (J:Nat),kc=3->Hid (cU f m t now J=.no kc)->J<m->(∀k,fH f m name k->k=J)->(∀W,Below w.heap.size w W->W.cell? ⟨b,J*6+1,none⟩=some (.bool false))->P)->(∀(J:Nat),J<m->(f J).lands=true->(∀k,fH f m name k->k=J)->(∀W,Below w.heap.size w W->W.cell? ⟨b,J*6+1,none⟩=some (.bool true))->(∀W,Below w.heap.size w W->W.cell? ⟨b',J,none⟩=some (.int .i64 (t J)))->(∀W,Below w.heap.size w W->Calls Tryz0.prog 48 #[.agg #[.int .i64 now,.int .i64 shift,.slice (some ⟨b,0,none⟩) m c,.slice (some ⟨b',0,none⟩) m d],.int .i64 J] W λe w'=>oY f m t J shift (cy f m t J) W e w'/\Below W.heap.size W w')->P)->P:=λP a1 a2 a3=>by
   rcases AS f m name with⟨J,hJ,hat,hJ2⟩|hat
   .have HL:∀W,Below w.heap.size w W->W.cell? ⟨b,J*6+1,none⟩=some (.bool (f J).lands):=λW hW=>by
     have:=(hrow.below hW hbs J hJ).c1;rw[Nat.zero_add]at this;exact this
    cases hl:(f J).lands with
    |false=>rw[hl]at HL;exact a2 3 J rfl (show cU f m t now J=.no 3 by unfold cU;rw[if_neg (by omega),if_pos (by simpa using hl)]) hJ (λk hk=>hk.yes hJ hat hJ2) HL
    |true=>
     rw[hl]at HL;refine a3 J hJ hl (λk hk=>hk.yes hJ hat hJ2) HL (λW hW=>?_) (λW hW=>qe b m c b' d J f t now shift W hm hfit hJ (Nat.lt_of_lt_of_le hbs hW.size) (hrow.below hW hbs) (Nat.lt_of_lt_of_le hbs' hW.size) (hrow'.below hW hbs'));have:=hrow'.below hW hbs' J hJ;rw[Nat.zero_add]at this;exact this
   .exact a1 3 rfl (show cU f m t now (-1)=.no 3 by unfold cU;rw[if_pos (by omega)]) (λk hk=>hk.no hat) (λ_ _=>trivial)
  clear hb;refine hgo _ (λkc hc HD AT HL=>?_) (λkc J hc HD hJ AT HL=>?_) (λJ hJ hland AT HL HT HR=>?_);all_goals clear hgo
  all_goals
   go_enter Tryz0.func19,Tryz.ntmps19
   go_wp2_with(first
    |(go_at_call 30;refine HB.mono ?_;clear HB;rintro e w1 ⟨rfl,b1⟩;rw[<-hW0]at b1;have B1:=b0.trans (b1.mono b0.size);have bk:=bk0.same (b1.block _ bk0.lt);have rs:=rs0.same (b1.block _ rs0.lt);obtain⟨y0,y1,y2,y3,y4⟩:=bk.cells)
    |(go_at_call 31;refine(HC1 _ B1).mono ?_;clear HC1;rintro e w2 ⟨⟨Bx,cx,Bi,ci,rfl,oM,oI⟩,b2⟩;have z2:=b2.size;have z1:=b1.size;have bk:=bk.same (b2.block _ (by omega));have rs:=rs.same (b2.block _ (by omega));obtain⟨W3,e3,k3,b3,z3⟩:=xQ w2 now shift (some ⟨Bx,0,none⟩) m cx (some ⟨Bi,0,none⟩) m ci;have hA:Ad w now shift _ m c _ d (w.heap.size+1) w2.heap.size Bx cx Bi ci f t W3:=⟨(B1.trans (b2.mono B1.size)).trans (b3.mono (by omega)),bk.same (b3.block _ (by omega)),rs.same (b3.block _ (by omega)),by omega,k3,by omega,da (bq oM (λB hB=>b3.block B (oM.lt B hB).2)) (by omega),da (bq oI (λB hB=>b3.block B (oI.lt B hB).2)) (by omega)⟩;obtain⟨y0,y1,y2,y3,y4⟩:=hA.bk.cells;clear oM oI bk rs)
    |(go_at_call 33;refine(HA _ hA.below).mono ?_;clear HA;rintro e w5 ⟨⟨kk,rfl,hkk⟩,b5⟩;have z5:=b5.size;have hA:=hA.grow b5;obtain⟨y0,y1,y2,y3,y4⟩:=hA.bk.cells;obtain⟨x0,x1,x2,x3,x4⟩:=hA.x.cells;obtain⟨r0,r1,r2,r3,r4⟩:=hA.rs.cells;obtain rfl:=AT kk hkk;have c1:=HL _ hA.below))
   all_goals first|(exfalso;omega)|skip
   all_goals first
    |(obtain⟨W5,e5,k5,hb5,hz5,hn5⟩:=lL hA.rs hA.below (by omega) now shift (some ⟨Bx,0,none⟩) m cx (some ⟨Bi,0,none⟩) m ci;rw[e5];obtain⟨q0,q1,q2,q3,q4⟩:=k5.cells;exact bodyPost_ret (v:=.tuple #[.agg #[.int .i64 now,.int .i64 shift,.slice (some ⟨Bx,0,none⟩) m cx,.slice (some ⟨Bi,0,none⟩) m ci],.int .i64 kc]) (by simp[results,Tryz.f19,go_sem,q0,q1,q2,q3,hc]) rfl ⟨⟨_,_,_,_,_,rfl,.no hbH.out hkk HD.out (da (bq hA.om (λB hB=>hn5 B (by have:=(hA.om.lt B hB).1;omega))) (by omega)) (da (bq hA.oi (λB hB=>hn5 B (by have:=(hA.oi.lt B hB).1;omega))) (by omega))⟩,hb5⟩)
    |skip
  have hJ':(J:Int)<m:=by omega
  have tJ:=HT _ hA.below;have hne:=aq w5;have u0:=λx:ag w5=>x.cell y0
  have u3:=λx:ag w5=>x.cell y3
  have u5:=λx:ag w5=>x.cell tJ
  refine ae (by kernel_rfl) (by kernel_rfl) ?_;repeat(go_big_quiet_step (fail))
  refine wpQuiet_nil (ak ?_);intro w6 b6;clear hne u0 u3 u5 tJ y0 y1 y2 y3 y4 x0 x1 x2 x3 x4 r0 r1 r2 r3 r4 c1;have hA:=hA.grow b6;obtain⟨y0,y1,y2,y3,y4⟩:=hA.bk.cells;obtain⟨x0,x1,x2,x3,x4⟩:=hA.x.cells;obtain⟨r0,r1,r2,r3,r4⟩:=hA.rs.cells;have z6:=b6.size;have HR:=HR _ hA.below;by_cases ht:t J=now;focus
   have hq:(t J !=now)=false:=by simp[ht]
   have htH:Hid (t J=now):=ht;have hrd:cU f m t now J=match cy f m t J with|none=>.no 5|some T=>.yes J T:=by unfold cU;rw[if_neg (by omega),if_neg (by simp[hland]),if_pos (by simpa using ht)];rfl
   clear ht;rcases hR:cy f m t J with _|T;focus
    rw[hR]at HR;have HN:=HR;clear HR;obtain⟨kc,hc⟩:∃kc:Int,kc=5:=⟨_,rfl⟩;rw[hR]at hrd;have HD:Hid (cU f m t now J=.no kc):=(show cU f m t now J=.no kc by rw[hc];exact hrd);clear hrd
   rotate_left;focus
    rw[hR]at hrd;have HD:Hid (cU f m t now J=.yes J T):=hrd;clear hrd;have hlen:=dp f t J m;rw[hR]at HR;have HS:=HR;clear HR;have HC3:=λB c b' c' W (h2:B<W.heap.size) (h3:an W B 0 (af f t J m).length (eF (af f t J m))) (h4:b'<W.heap.size) (h5:al W b' 0 (af f t J m).length T)=>nz (t J) shift (some ⟨B,0,none⟩) (af f t J m).length c (eF (af f t J m)) (some ⟨b',0,none⟩) (af f t J m).length c' T W (by omega) (by omega) ⟨(λh=>nomatch h),λad had=>by cases had;exact⟨B,rfl,h2,h3⟩⟩ ⟨(λh=>nomatch h),λad had=>by cases had;exact⟨b',rfl,h4,h5⟩⟩
  rotate_right;focus
   have hq:(t J !=now)=true:=by simp[ht]
   obtain⟨kc,hc⟩:∃kc:Int,kc=6:=⟨_,rfl⟩;have HD:Hid (cU f m t now J=.no kc):=(show cU f m t now J=.no kc by rw[hc];unfold cU;rw[if_neg (by omega),if_neg (by simp[hland]),if_neg (by simpa using ht)])
  all_goals
   go_wp2_with(first
    |(go_at_call 48;refine HN.mono ?_;clear HN;rintro e w7 ⟨rfl,b7⟩;obtain⟨W8,e8,k8,b8,z8⟩:=xQ w7 0 0 none 0 0 none 0 0;have e8h:Hid (w7.alloc (.cells #[.int .i64 0,.int .i64 0,.slice none 0 0,.slice none 0 0] 32)=W8):=e8;clear e8;have hA7:=hA.grow b7;have hAo:=λo=>hA7.grow ((Below.refl _ w7).alloc (Nat.le_refl _) o);have x0:=λo=>(hAo o).x.cells.1;have x1:=λo=>(hAo o).x.cells.2.1;have x2:=λo=>(hAo o).x.cells.2.2.1;have x3:=λo=>(hAo o).x.cells.2.2.2.1;have r0:=λo=>(hAo o).rs.cells.1;have r1:=λo=>(hAo o).rs.cells.2.1;have r2:=λo=>(hAo o).rs.cells.2.2.1;have r3:=λo=>(hAo o).rs.cells.2.2.2.1;have r4:=λo=>(hAo o).rs.cells.2.2.2.2;have hA:=hA7.grow b8)
    |(go_at_call 48;refine HS.mono ?_;clear HS;rintro e w7 ⟨⟨BN,cN,BT,cT,rfl,hBN,rN,oT⟩,b7⟩;obtain⟨W8,e8,k8,b8,z8⟩:=xQ w7 (t J) shift (some ⟨BN,0,none⟩) (af f t J m).length cN (some ⟨BT,0,none⟩) (af f t J m).length cT;have hA:=(hA.grow b7).grow b8;have rN:=rN.below b8 hBN;have oT:=oZ oT (b8.block _ oT.lt);obtain⟨p0,p1,p2,p3,p4⟩:=k8.cells)
    |(go_at_call 31;refine(HC3 BN cN BT cT W8 (by omega) rN oT.lt oT.2).mono ?_;clear HC3;rintro e w9 ⟨⟨Bq,cq,Bv,cv,rfl,oQ,oV⟩,b9⟩;have z9:=hA.x.lt;have hA:=hA.grow b9;obtain⟨r0,r1,r2,r3,r4⟩:=hA.rs.cells))
   all_goals first|(exfalso;omega)|skip
   all_goals first
    |(obtain⟨W5,e5,k5,hb5,hz5,hn5⟩:=lL hA.rs hA.below (by omega) (t J) shift (some ⟨Bq,0,none⟩) (af f t J m).length cq (some ⟨Bv,0,none⟩) (af f t J m).length cv;rw[e5];obtain⟨q0,q1,q2,q3,q4⟩:=k5.cells;have hhR:=hA.hX;exact bodyPost_ret (v:=.tuple #[.agg #[.int .i64 (t J),.int .i64 shift,.slice (some ⟨Bq,0,none⟩) (af f t J m).length cq,.slice (some ⟨Bv,0,none⟩) (af f t J m).length cv],.int .i64 0]) (by simp[results,Tryz.f19,go_sem,q0,q1,q2,q3]) rfl ⟨⟨_,_,_,_,_,rfl,(by rw[htH.out];exact .yes hbH.out hkk HD.out (da (bq oQ (λB hB=>hn5 B (by have:=(oQ.lt B hB).1;omega))) (by omega)) (da (bq oV (λB hB=>hn5 B (by have:=(oV.lt B hB).1;omega))) (by omega)))⟩,hb5⟩)
    |(try rw[e8h.out]
      obtain⟨W5,e5,k5,hb5,hz5,hn5⟩:=lL hA.rs hA.below (by omega) now shift (some ⟨Bx,0,none⟩) m cx (some ⟨Bi,0,none⟩) m ci;rw[e5];obtain⟨q0,q1,q2,q3,q4⟩:=k5.cells;exact bodyPost_ret (v:=.tuple #[.agg #[.int .i64 now,.int .i64 shift,.slice (some ⟨Bx,0,none⟩) m cx,.slice (some ⟨Bi,0,none⟩) m ci],.int .i64 kc]) (by simp[results,Tryz.f19,go_sem,q0,q1,q2,q3,hc]) rfl ⟨⟨_,_,_,_,_,rfl,.no hbH.out hkk HD.out (da (bq hA.om (λB hB=>hn5 B (by have:=(hA.om.lt B hB).1;omega))) (by omega)) (da (bq hA.oi (λB hB=>hn5 B (by have:=(hA.oi.lt B hB).1;omega))) (by omega))⟩,hb5⟩)
    |trace_state
end Go.Proofs.YtlmcblcijndipabGreatDoor
