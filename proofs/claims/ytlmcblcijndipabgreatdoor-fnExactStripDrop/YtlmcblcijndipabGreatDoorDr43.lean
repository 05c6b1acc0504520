import Derived.Test.YtlmcblcijndipabGreatDoorDr42
import Derived.Test.YtlmcblcijndipabGreatDoorDr27
import Derived.Test.YtlmcblcijndipabGreatDoorDr32
import Derived.Test.YtlmcblcijndipabGreatDoorDr14
import Derived.Test.YtlmcblcijndipabGreatDoorDr39
import Derived.Deep.RegionLaw
import Derived.Test.YtlmcblcijndipabGreatDoorDr37
set_option linter.unusedVariables false
set_option maxHeartbeats 4000000
set_option maxRecDepth 10000
namespace Go.Proofs.YtlmcblcijndipabGreatDoor
open Go Go.RowKit
theorem fM:Tryz0.prog.underlying 23=some (.slice 3):=by kernel_rfl
section
variable {w w':World}{base base':Nat}{e:TypeId}{size:Nat}{v:Value}{n:Nat}{xs:List Value}
theorem aU (h:w.ownsRow base e size v n xs)(hs:∀B,v.ownBlock=some B->w'.heap[B]?=w.heap[B]?):w'.ownsRow base e size v n xs:=by
 obtain⟨h1,⟨rfl,rfl⟩|⟨g,cap,cur,rfl,h3,h4,h5⟩⟩:=h
 .exact⟨h1,.inl ⟨rfl,rfl⟩⟩
 .exact⟨h1,.inr ⟨g,cap,cur,rfl,h3,(hs g rfl).trans h4,h5⟩⟩
theorem gO (h:w.ownsRow base e size v n xs)(hb:base'<=base):w.ownsRow base' e size v n xs:=by
 obtain⟨h1,h2|⟨g,cap,cur,h2,h3,h4⟩⟩:=h
 .exact⟨h1,.inl h2⟩
 .exact⟨h1,.inr ⟨g,cap,cur,h2,Nat.le_trans hb h3,h4⟩⟩
theorem kZ (h:w.ownsRow base e size v n xs)(hn:v≠.slice none 0 0):∃B c,v=.slice (some ⟨B,0,none⟩) n c:=by
 obtain⟨h1,h2|⟨g,cap,cur,h2,h3,h4⟩⟩:=h
 .exact absurd h2.1 hn
 .exact⟨g,cap,h2⟩
theorem rl (h:w.ownsRow base e size v n xs){B:Nat}(hB:v.ownBlock=some B):∃cs,w.heap[B]?=some (.cells cs e (0,0)):=by
 obtain⟨h1,⟨rfl,rfl⟩|⟨g,c,cur,rfl,h3,h4,h5⟩⟩:=h
 .cases hB
 .simp[Value.ownBlock]at hB;subst hB;exact⟨_,h4⟩
theorem qf {v':Value}{n':Nat}{xs':List Value}{e':TypeId}{size':Nat}(h:w.ownsRow base e size v n xs)(h':w.ownsRow base' e' size' v' n' xs')(hne:e≠e'){B:Nat}(hB:v.ownBlock=some B):v'.ownBlock≠some B:=λx=>by
 obtain⟨c1,e1⟩:=rl h hB;obtain⟨c2,e2⟩:=rl h' x;rw[e1]at e2;simp at e2;exact hne e2.2
theorem oy (h:base<=w.heap.size):(w.alloc (.cells #[] e)).ownsRow base e size (.slice (some ⟨w.heap.size,0,none⟩) 0 0) 0 []:=⟨by simp,.inr ⟨w.heap.size,0,#[],rfl,h,heap_alloc_new w _,Nat.le_refl _,Nat.zero_le _,by simp,by simp⟩⟩
end
theorem aV {P:Program}{ops:Array Oper}{o:Oper}{a:Act}{w:World}{K:Act->World->Prop}{Q:Exit->Act->World->Prop}{E:Prop}
  (hg:o.guard=none)(s x:Operand)(t:TypeId)(hop:o.op=Op.call {callee:=Callee.builtin Builtin.append,args:=#[s,x],argTypes:=#[t,t]})
  (e:TypeId)(i:TypeInfo)(z:Value)(size bytes:Nat)(h1:P.underlying t=some (.slice e))(h2:P.info? e=some i)(h3:i.zero=some z)(h4:i.size=size)(h5:i.bytes=bytes)(h6:z.cells.size=size)(h7:0<size)
  (base:Nat)(v:Value)(n:Nat)(olds:List Value)(hs:a.eval s=v)(hown:w.ownsRow base e size v n olds)(hv:v≠.slice none 0 0)
  (ao:Option Addr)(m c:Nat)(news:List Value)(hx:a.eval x=.slice ao m c)(hn:news.length=m*size)(hnone:ao=none->m=0/\c=0)(hc:∀ad,ao=some ad->∀j u,news[j]?=some u->w.cell? (ad.add j)=some u)(h1c:∀u∈news,u.oneCell'=true)
  (b1:n+m<=maxLen)(b2:(n+m)*bytes<=140737488355328)(hb:base<=w.heap.size)
  (hK:∀v' w',w'.ownsRow base e size v' (n+m) (olds++news)->v'≠.slice none 0 0->w.grownBy w' v.ownBlock->K (a.put o.dst v') w'):
  if Region.wanted o (yielded ops a.tmps)=true then Oper.wp P o a w K Q else E:=by
 have hw:Region.wanted o (yielded ops a.tmps)=true:=by simp[Region.wanted,hg]
 rw[if_pos hw];cases ao with
 |some ad=>
  obtain⟨v',w',hrun,r1,r2,r3⟩:=run_append_own (P:=P) w base t o.type e i z size bytes h1 h2 h3 h4 h5 h6 h7 v n olds hown ad m c news hn (hc ad rfl) h1c b1 b2 hb;unfold Oper.wp;simp[execOp,hop,resolve,invoke,builtin,hs,hx,hrun,Result.andThen];exact hK v' w' r1 (λx=>hv (r3.1 x).1) r2
 |none=>
  obtain⟨rfl,rfl⟩:=hnone rfl;have hnews:news=[]:=List.eq_nil_of_length_eq_zero (by simpa using hn);subst hnews;have hrun:=run_append_owned_none (P:=P) w base t o.type e i size h1 h2 _ n olds hown;unfold Oper.wp;simp[execOp,hop,resolve,invoke,builtin,hs,hx,hrun,Result.andThen];exact hK _ _ (by simpa using hown) hv (World.grownBy.refl _ _)
def AE (w:World)(ao:Option Addr)(n c:Nat)(f:Nat->Mv):Prop:=(ao=none->n=0/\c=0)/\∀ad,ao=some ad->∃b,ad=⟨b,0,none⟩/\b<w.heap.size/\al w b 0 n f
def CW (w:World)(ao:Option Addr)(n c:Nat)(t:Nat->Int):Prop:=(ao=none->n=0/\c=0)/\∀ad,ao=some ad->∃b,ad=⟨b,0,none⟩/\b<w.heap.size/\ag w b 0 n t
theorem ku {w w':World}{ao:Option Addr}{n:Nat}{f:Nat->Mv}(h:∀ad,ao=some ad->∃b,ad=⟨b,0,none⟩/\b<w.heap.size/\al w b 0 n f)(hb:Below w.heap.size w w'):∀ad,ao=some ad->∀j u,(bu f n)[j]?=some u->w'.cell? (ad.add j)=some u:=λad had=>by
 obtain⟨b,rfl,hlt,hr⟩:=h ad had;exact dv (hr.below hb hlt)
theorem kv {w w':World}{ao:Option Addr}{n:Nat}{t:Nat->Int}(h:∀ad,ao=some ad->∃b,ad=⟨b,0,none⟩/\b<w.heap.size/\ag w b 0 n t)(hb:Below w.heap.size w w'):∀ad,ao=some ad->∀j u,(bH t n)[j]?=some u->w'.cell? (ad.add j)=some u:=λad had=>by
 obtain⟨b,rfl,hlt,hr⟩:=h ad had;exact mt (hr.below hb hlt)
structure Bx (N:Nat)(now shift:Int)(v u:Value)(W:World):Prop where
 c0:W.cell? ⟨N,0,none⟩=some (.int .i64 now)
 c1:W.cell? ⟨N,1,none⟩=some (.int .i64 shift)
 c2:W.cell? ⟨N,2,none⟩=some v
 c3:W.cell? ⟨N,3,none⟩=some u
theorem Bx.same {N:Nat}{now shift:Int}{v u:Value}{W W':World}(h:Bx N now shift v u W)(e:W'.heap[N]?=W.heap[N]?):Bx N now shift v u W':=
 ⟨(World.cell?_of_block (a:=⟨N,0,none⟩) e).trans h.c0,(World.cell?_of_block (a:=⟨N,1,none⟩) e).trans h.c1,(World.cell?_of_block (a:=⟨N,2,none⟩) e).trans h.c2,(World.cell?_of_block (a:=⟨N,3,none⟩) e).trans h.c3⟩
structure Cp (w:World)(now shift:Int)(v u:Value)(vm:Value)(nm:Nat)(xm:List Value)(vi:Value)(ni:Nat)(xi:List Value)(W:World):Prop where
 below:Below w.heap.size w W
 size:w.heap.size+2<=W.heap.size
 box:W.heap[w.heap.size]?=some (.cells #[.int .i64 now,.int .i64 shift,v,u] 32 (0,0))
 out:W.heap[w.heap.size+1]?=some (.cells #[.int .i64 0,.int .i64 0,.slice none 0 0,.slice none 0 0] 32 (0,0))
 om:W.ownsRow (w.heap.size+2) 36 6 vm nm xm
 oi:W.ownsRow (w.heap.size+2) 3 1 vi ni xi
section
variable {w:World}{now shift:Int}{v u:Value}{vm:Value}{nm:Nat}{xm:List Value}{vi:Value}{ni:Nat}{xi:List Value}{W:World}
theorem Cp.bx (h:Cp w now shift v u vm nm xm vi ni xi W):Bx w.heap.size now shift v u W:=by
 constructor<;>(rw[cell_of_row _ _ _ _ _ _ h.box];rfl)
theorem Cp.grow (h:Cp w now shift v u vm nm xm vi ni xi W){W':World}(b:Below W.heap.size W W'):Cp w now shift v u vm nm xm vi ni xi W':=
 ⟨h.below.trans (b.mono h.below.size),Nat.le_trans h.size b.size,(b.block _ (by have:=h.size;omega)).trans h.box,(b.block _ (by have:=h.size;omega)).trans h.out,aU h.om (λB hB=>b.block B (h.om.lt B hB).2),aU h.oi (λB hB=>b.block B (h.oi.lt B hB).2)⟩
theorem Cp.newM (h:Cp w now shift v u vm nm xm vi ni xi W):Cp w now shift v u (.slice (some ⟨W.heap.size,0,none⟩) 0 0) 0 [] vi ni xi (W.alloc (.cells #[] 36)):=by
 have g:=h.grow (W':=W.alloc (.cells #[] 36)) ((Below.refl _ _).alloc (Nat.le_refl _) _);exact⟨g.below,g.size,g.box,g.out,oy h.size,g.oi⟩
theorem Cp.newI (h:Cp w now shift v u vm nm xm vi ni xi W):Cp w now shift v u vm nm xm (.slice (some ⟨W.heap.size,0,none⟩) 0 0) 0 [] (W.alloc (.cells #[] 3)):=by
 have g:=h.grow (W':=W.alloc (.cells #[] 3)) ((Below.refl _ _).alloc (Nat.le_refl _) _);exact⟨g.below,g.size,g.box,g.out,g.om,oy h.size⟩
theorem Cp.appM (h:Cp w now shift v u vm nm xm vi ni xi W){v':Value}{n':Nat}{x':List Value}{W':World}(o:W'.ownsRow (w.heap.size+2) 36 6 v' n' x')(g:W.grownBy W' vm.ownBlock):Cp w now shift v u v' n' x' vi ni xi W':=by
 have hs:=h.size;exact⟨h.below.grown g h.below.size (λq hq=>by have:=(h.om.lt q hq).1;omega),Nat.le_trans h.size g.size,(g.block _ (by omega) (λe=>by have:=(h.om.lt _ e.symm).1;omega)).trans h.box,(g.block _ (by omega) (λe=>by have:=(h.om.lt _ e.symm).1;omega)).trans h.out,o,aU h.oi (λB hB=>g.block B (h.oi.lt B hB).2 (λe=>qf h.om h.oi (by decide) e.symm hB))⟩
theorem Cp.appI (h:Cp w now shift v u vm nm xm vi ni xi W){v':Value}{n':Nat}{x':List Value}{W':World}(o:W'.ownsRow (w.heap.size+2) 3 1 v' n' x')(g:W.grownBy W' vi.ownBlock):Cp w now shift v u vm nm xm v' n' x' W':=by
 have hs:=h.size;exact⟨h.below.grown g h.below.size (λq hq=>by have:=(h.oi.lt q hq).1;omega),Nat.le_trans h.size g.size,(g.block _ (by omega) (λe=>by have:=(h.oi.lt _ e.symm).1;omega)).trans h.box,(g.block _ (by omega) (λe=>by have:=(h.oi.lt _ e.symm).1;omega)).trans h.out,aU h.om (λB hB=>g.block B (h.om.lt B hB).2 (λe=>qf h.om h.oi (by decide) hB e.symm)),o⟩
end
theorem Cp.start (w:World)(now shift:Int)(v u:Value):Cp w now shift v u (.slice none 0 0) 0 [] (.slice none 0 0) 0 [] ((w.alloc (.cells #[.int .i64 now,.int .i64 shift,v,u] 32)).alloc (.cells #[.int .i64 0,.int .i64 0,.slice none 0 0,.slice none 0 0] 32)):=
 ⟨((Below.refl _ w).alloc (Nat.le_refl _) _).alloc (by simp) _,by simp,(Below.heap_alloc _ _ _ (by simp)).trans (heap_alloc_new w _),cI _ _ _,⟨rfl,.inl ⟨rfl,rfl⟩⟩,⟨rfl,.inl ⟨rfl,rfl⟩⟩⟩
theorem oz (now shift:Int)(ao:Option Addr)(n c:Nat)(f:Nat->Mv)(bo:Option Addr)(m d:Nat)(t:Nat->Int)(w:World)(hn:n<=1048576)(hm:m<=1048576)(hv:AE w ao n c f)(hu:CW w bo m d t):
  Calls Tryz0.prog 31 #[.agg #[.int .i64 now,.int .i64 shift,.slice ao n c,.slice bo m d]] w λe w'=>(∃B c B' c',e=.returned (.agg #[.int .i64 now,.int .i64 shift,.slice (some ⟨B,0,none⟩) n c,.slice (some ⟨B',0,none⟩) m c'])/\w'.ownsRow w.heap.size 36 6 (.slice (some ⟨B,0,none⟩) n c) n (bu f n)/\w'.ownsRow w.heap.size 3 1 (.slice (some ⟨B',0,none⟩) m c') m (bH t m))/\Below w.heap.size w w':=by
 obtain⟨iM,hI,hz0,hz1,hz2⟩:=fJ;obtain⟨i0,hI',hy0,hy1,hy2⟩:=kX;obtain⟨hvn,hvr⟩:=hv;obtain⟨hun,hur⟩:=hu;have hC:=Cp.start w now shift (.slice ao n c) (.slice bo m d);go_enter Tryz0.func31,Tryz.ntmps31
 go_wp2;have hC:=hC.grow (Below.refl _ _).drew;refine wp_region_held_drew (S:=Bx w.heap.size now shift (.slice ao n c) (.slice bo m d)) (by kernel_rfl) hC.bx (λhHeld=>?_);refine bT (i:=0) (v:=.pointer (some ⟨w.heap.size,0,none⟩)) 3 rfl rfl (by kernel_rfl) (by kernel_rfl) (by kernel_rfl) (λ_ _ _ h=>h) (Or.inl ⟨by rfl,λw' hSw=>by(obtain⟨s0,s1,s2,s3⟩:=hSw;go_simp)⟩) hHeld ?_;simp only[Act.put,List.setIfInBounds_toArray,List.set_cons_zero,List.set_cons_succ];refine bT (i:=1) (v:=.int .i64 now) 4 rfl rfl (by kernel_rfl) (by kernel_rfl) (by kernel_rfl) (λ_ _ _ h=>h) (Or.inl ⟨by rfl,λw' hSw=>by(obtain⟨s0,s1,s2,s3⟩:=hSw;go_simp)⟩) hHeld ?_;simp only[Act.put,List.setIfInBounds_toArray,List.set_cons_zero,List.set_cons_succ];refine bT (i:=2) (v:=.pointer (some ⟨w.heap.size,1,none⟩)) 5 rfl rfl (by kernel_rfl) (by kernel_rfl) (by kernel_rfl) (λ_ _ _ h=>h) (Or.inl ⟨by rfl,λw' hSw=>by(obtain⟨s0,s1,s2,s3⟩:=hSw;go_simp)⟩) hHeld ?_;simp only[Act.put,List.setIfInBounds_toArray,List.set_cons_zero,List.set_cons_succ];refine bT (i:=3) (v:=.int .i64 shift) 6 rfl rfl (by kernel_rfl) (by kernel_rfl) (by kernel_rfl) (λ_ _ _ h=>h) (Or.inl ⟨by rfl,λw' hSw=>by(obtain⟨s0,s1,s2,s3⟩:=hSw;go_simp)⟩) hHeld ?_;simp only[Act.put,List.setIfInBounds_toArray,List.set_cons_zero,List.set_cons_succ];refine bT (i:=5) (v:=.pointer (some ⟨w.heap.size,2,none⟩)) 8 rfl rfl (by kernel_rfl) (by kernel_rfl) (by kernel_rfl) (λ_ _ _ h=>h) (Or.inl ⟨by rfl,λw' hSw=>by(obtain⟨s0,s1,s2,s3⟩:=hSw;go_simp)⟩) hHeld ?_;simp only[Act.put,List.setIfInBounds_toArray,List.set_cons_zero,List.set_cons_succ];refine bT (i:=6) (v:=.slice ao n c) 9 rfl rfl (by kernel_rfl) (by kernel_rfl) (by kernel_rfl) (λ_ _ _ h=>h) (Or.inl ⟨by rfl,λw' hSw=>by(obtain⟨s0,s1,s2,s3⟩:=hSw;go_simp)⟩) hHeld ?_;simp only[Act.put,List.setIfInBounds_toArray,List.set_cons_zero,List.set_cons_succ];refine bT (i:=9) (v:=.pointer (some ⟨w.heap.size,3,none⟩)) 12 rfl rfl (by kernel_rfl) (by kernel_rfl) (by kernel_rfl) (λ_ _ _ h=>h) (Or.inl ⟨by rfl,λw' hSw=>by(obtain⟨s0,s1,s2,s3⟩:=hSw;go_simp)⟩) hHeld ?_;simp only[Act.put,List.setIfInBounds_toArray,List.set_cons_zero,List.set_cons_succ];refine bT (i:=10) (v:=.slice bo m d) 13 rfl rfl (by kernel_rfl) (by kernel_rfl) (by kernel_rfl) (λ_ _ _ h=>h) (Or.inl ⟨by rfl,λw' hSw=>by(obtain⟨s0,s1,s2,s3⟩:=hSw;go_simp)⟩) hHeld ?_;simp only[Act.put,List.setIfInBounds_toArray,List.set_cons_zero,List.set_cons_succ];refine wpAnyH_ready (rs:=[4,8]) (by kernel_rfl) (by simp) ?_;refine AllReadyH.cons rfl (λK hK=>?_) (AllReadyH.cons rfl (λK hK=>?_) AllReadyH.nil);focus
  go_simp
  have hC:=hC.newM;try simp only[World.size_alloc,World.size_drew]at hC
  refine hK.out _ _ hC.bx (λhHeld=>?_);clear hK K;refine wpAnyH_ready (rs:=[7,8]) (by kernel_rfl) (by simp) ?_;refine AllReadyH.cons rfl (λK hK=>?_) (AllReadyH.cons rfl (λK hK=>?_) AllReadyH.nil);focus
   refine aV rfl (.tmp 7) (.tmp 9) 30 rfl 36 iM _ 6 56 ba hI hz0 hz1 hz2 rfl (by decide) (w.heap.size+2) _ 0 [] (by rfl) hC.om (by intro h;cases h) ao n c (bu f n) (by rfl) (bg f n) hvn (ku hvr hC.below) (dX f n) (by unfold maxLen;omega) (by omega) hC.size ?_;intro v1 w1 ho1 hs1 hg1;simp only[Nat.zero_add,List.nil_append]at ho1;have hC:=hC.appM ho1 hg1;clear ho1 hg1;refine hK.out _ _ hC.bx (λhHeld=>?_);clear hK K;refine wpAnyH_ready (rs:=[8]) (by kernel_rfl) (by simp) ?_;refine AllReadyH.cons rfl (λK hK=>?_) AllReadyH.nil;go_simp
   have hC:=hC.newI;try simp only[World.size_alloc,World.size_drew]at hC
   refine hK.out _ _ hC.bx (λhHeld=>?_);clear hK K;refine wpAnyH_ready (rs:=[11]) (by kernel_rfl) (by simp) ?_;refine AllReadyH.cons rfl (λK hK=>?_) AllReadyH.nil;refine aV rfl (.tmp 11) (.tmp 13) 23 rfl 3 i0 _ 1 8 fM hI' hy0 hy1 hy2 rfl (by decide) (w.heap.size+2) _ 0 [] (by rfl) hC.oi (by intro h;cases h) bo m d (bH t m) (by rfl) (by rw[aQ];omega) hun (kv hur hC.below) (eC t m) (by unfold maxLen;omega) (by omega) hC.size ?_;intro u1 w2 ho2 hs2 hg2;simp only[Nat.zero_add,List.nil_append]at ho2;have hC:=hC.appI ho2 hg2;clear ho2 hg2;refine hK.out _ _ hC.bx (λhHeld=>?_);clear hK K
  rotate_left;focus
   go_simp
   have hC:=hC.newI;try simp only[World.size_alloc,World.size_drew]at hC
   refine hK.out _ _ hC.bx (λhHeld=>?_);clear hK K;refine wpAnyH_ready (rs:=[7]) (by kernel_rfl) (by simp) ?_;refine AllReadyH.cons rfl (λK hK=>?_) AllReadyH.nil;refine aV rfl (.tmp 7) (.tmp 9) 30 rfl 36 iM _ 6 56 ba hI hz0 hz1 hz2 rfl (by decide) (w.heap.size+2) _ 0 [] (by rfl) hC.om (by intro h;cases h) ao n c (bu f n) (by rfl) (bg f n) hvn (ku hvr hC.below) (dX f n) (by unfold maxLen;omega) (by omega) hC.size ?_;intro v1 w1 ho1 hs1 hg1;simp only[Nat.zero_add,List.nil_append]at ho1;have hC:=hC.appM ho1 hg1;clear ho1 hg1;refine hK.out _ _ hC.bx (λhHeld=>?_);clear hK K;refine wpAnyH_ready (rs:=[11]) (by kernel_rfl) (by simp) ?_;refine AllReadyH.cons rfl (λK hK=>?_) AllReadyH.nil;refine aV rfl (.tmp 11) (.tmp 13) 23 rfl 3 i0 _ 1 8 fM hI' hy0 hy1 hy2 rfl (by decide) (w.heap.size+2) _ 0 [] (by rfl) hC.oi (by intro h;cases h) bo m d (bH t m) (by rfl) (by rw[aQ];omega) hun (kv hur hC.below) (eC t m) (by unfold maxLen;omega) (by omega) hC.size ?_;intro u1 w2 ho2 hs2 hg2;simp only[Nat.zero_add,List.nil_append]at ho2;have hC:=hC.appI ho2 hg2;clear ho2 hg2;refine hK.out _ _ hC.bx (λhHeld=>?_);clear hK K
 rotate_left 2;focus
  go_simp
  have hC:=hC.newI;try simp only[World.size_alloc,World.size_drew]at hC
  refine hK.out _ _ hC.bx (λhHeld=>?_);clear hK K;refine wpAnyH_ready (rs:=[4]) (by kernel_rfl) (by simp) ?_;refine AllReadyH.cons rfl (λK hK=>?_) AllReadyH.nil;go_simp
  have hC:=hC.newM;try simp only[World.size_alloc,World.size_drew]at hC
  refine hK.out _ _ hC.bx (λhHeld=>?_);clear hK K;refine wpAnyH_ready (rs:=[7]) (by kernel_rfl) (by simp) ?_;refine AllReadyH.cons rfl (λK hK=>?_) AllReadyH.nil;refine aV rfl (.tmp 7) (.tmp 9) 30 rfl 36 iM _ 6 56 ba hI hz0 hz1 hz2 rfl (by decide) (w.heap.size+2) _ 0 [] (by rfl) hC.om (by intro h;cases h) ao n c (bu f n) (by rfl) (bg f n) hvn (ku hvr hC.below) (dX f n) (by unfold maxLen;omega) (by omega) hC.size ?_;intro v1 w1 ho1 hs1 hg1;simp only[Nat.zero_add,List.nil_append]at ho1;have hC:=hC.appM ho1 hg1;clear ho1 hg1;refine hK.out _ _ hC.bx (λhHeld=>?_);clear hK K;refine wpAnyH_ready (rs:=[11]) (by kernel_rfl) (by simp) ?_;refine AllReadyH.cons rfl (λK hK=>?_) AllReadyH.nil;refine aV rfl (.tmp 11) (.tmp 13) 23 rfl 3 i0 _ 1 8 fM hI' hy0 hy1 hy2 rfl (by decide) (w.heap.size+2) _ 0 [] (by rfl) hC.oi (by intro h;cases h) bo m d (bH t m) (by rfl) (by rw[aQ];omega) hun (kv hur hC.below) (eC t m) (by unfold maxLen;omega) (by omega) hC.size ?_;intro u1 w2 ho2 hs2 hg2;simp only[Nat.zero_add,List.nil_append]at ho2;have hC:=hC.appI ho2 hg2;clear ho2 hg2;refine hK.out _ _ hC.bx (λhHeld=>?_);clear hK K
 all_goals
  obtain⟨av,cv,rfl⟩:=kZ hC.om hs1;obtain⟨au,cu,rfl⟩:=kZ hC.oi hs2;refine bT (i:=12) (v:=(.agg #[.int .i64 now,.int .i64 shift,.slice (some ⟨av,0,none⟩) n cv,.slice (some ⟨au,0,none⟩) m cu])) 15 rfl rfl (by kernel_rfl) (by kernel_rfl) (by kernel_rfl) (λ_ _ _ h=>h) (Or.inl ⟨by rfl,λw' hSw=>by(obtain⟨s0,s1,s2,s3⟩:=hSw;go_simp)⟩) hHeld ?_;simp only[Act.put];refine wpAnyH_ready (rs:=[13]) (by kernel_rfl) (by simp) ?_;refine AllReadyH.cons rfl (λK hK=>?_) AllReadyH.nil;have r0:=cell_of_row w2 _ 0 _ _ _ hC.out;have r1:=cell_of_row w2 _ 1 _ _ _ hC.out;have r2:=cell_of_row w2 _ 2 _ _ _ hC.out;have r3:=cell_of_row w2 _ 3 _ _ _ hC.out;have rf:=λj=>frozen_of_row w2 _ j _ _ hC.out;simp at r0 r1 r2 r3
  go_simp
  refine hK.out _ _ (hC.bx.same (by repeat(first|exact rfl|exact Below.heap_setCell _ _ _ _ (by simp)|refine(Below.heap_setCell _ _ _ _ (by simp)).trans ?_))) (λhHeld=>?_);clear hK K;refine wpAnyH_done (by kernel_rfl) ?_ _;clear hHeld;go_wp2;have hm:=hC.om;have hi:=hC.oi;refine bodyPost_ret (v:=.agg #[.int .i64 now,.int .i64 shift,.slice (some ⟨av,0,none⟩) n cv,.slice (some ⟨au,0,none⟩) m cu]) (by simp[results,Tryz.results31,go_sem,r0,r1,r2,r3]) rfl ⟨⟨_,_,_,_,rfl,gO (aU hm (λB hB=>by have:=(hm.lt B hB).1;rw[Below.heap_setCell _ _ _ _ (by simp;omega),Below.heap_setCell _ _ _ _ (by simp;omega),Below.heap_setCell _ _ _ _ (by simp;omega),Below.heap_setCell _ _ _ _ (by simp;omega)])) (by omega),gO (aU hi (λB hB=>by have:=(hi.lt B hB).1;rw[Below.heap_setCell _ _ _ _ (by simp;omega),Below.heap_setCell _ _ _ _ (by simp;omega),Below.heap_setCell _ _ _ _ (by simp;omega),Below.heap_setCell _ _ _ _ (by simp;omega)])) (by omega)⟩,(((hC.below.setCell (by simp) _).setCell (by simp) _).setCell (by simp) _).setCell (by simp) _⟩
theorem AE.pos {w:World}{ao:Option Addr}{n c:Nat}{f:Nat->Mv}(h:AE w ao n c f)(hn:0<n):∃b,ao=some ⟨b,0,none⟩/\b<w.heap.size/\al w b 0 n f:=by
 cases ao with
 |none=>have:=(h.1 rfl).1;omega
 |some ad=>obtain⟨b,e,h1,h2⟩:=h.2 ad rfl;exact⟨b,by rw[e],h1,h2⟩
def ir (f:Nat->Mv)(n:Nat)(name:ByteArray)(k:Int):Prop:=k=-1/\(∀i,i<n->bd (f i).name name=false)\/∃j:Nat,k=(j:Int)/\j<n/\bd (f j).name name=true/\∀i,i<j->bd (f i).name name=false
theorem ze (now shift:Int)(ao:Option Addr)(n c:Nat)(f:Nat->Mv)(bo:Option Addr)(m d:Nat)(name:ByteArray)(w:World)(hn:n<=6)(hv:AE w ao n c f):
  Calls Tryz0.prog 33 #[.agg #[.int .i64 now,.int .i64 shift,.slice ao n c,.slice bo m d],.string name] w λe w'=>(∃k:Int,e=.returned (.int .i64 k)/\ir f n name k)/\Below w.heap.size w w':=by
 have hbB:Below w.heap.size w (w.alloc (.cells #[.int .i64 now,.int .i64 shift,.slice ao n c,.slice bo m d] 32)):=(Below.refl _ w).alloc (Nat.le_refl _) _;have hbk:am (w.alloc (.cells #[.int .i64 now,.int .i64 shift,.slice ao n c,.slice bo m d] 32)) w.heap.size now shift (.slice ao n c) (.slice bo m d):=heap_alloc_new _ _;go_enter Tryz0.func33,Tryz.ntmps33
 go_wp2;go_loopw [5] (λx W=>∃k:Nat,x=.int .i64 k/\k<=n/\Below w.heap.size w W/\am W w.heap.size now shift (.slice ao n c) (.slice bo m d)/\∀i,i<k->bd (f i).name name=false) (λx _=>n-(intOf x).toNat)
 case atStart=>exact⟨0,rfl,Nat.zero_le _,hbB,hbk,λi hi=>absurd hi (Nat.not_lt_zero _)⟩
 case round=>
  clear hbB hbk;obtain⟨k,rfl,hk,hB,bk,hall⟩:=hrel;obtain⟨y0,y1,y2,y3,y4⟩:=bk.cells;by_cases hlt:k<n
  .obtain⟨b,rfl,hbs,hrow⟩:=hv.pos (by omega);have lb:=Nat.lt_of_lt_of_le hbs hB.size;have hlt':(k:Int)<n:=by omega
   have c0:=(hrow.below hB hbs k hlt).c0;simp only[Nat.zero_add]at c0;cases he:bd (f k).name name with
   |true=>
    have he':((f k).name.toList==name.toList)=true:=he;go_wp2;all_goals first|(exfalso;omega)|skip
    go_ret;exact⟨⟨k,rfl,.inr ⟨k,rfl,hlt,he,hall⟩⟩,hB⟩
   |false=>
    have he':((f k).name.toList==name.toList)=false:=he;go_wp2;all_goals first|(exfalso;omega)|skip
    go_roundw
    case rel=>exact⟨k+1,by go_num,by omega,hB,bk,λi hi=>by
     by_cases e:i=k
     .subst e;exact he
     .exact hall i (by omega)⟩
    case measure=>simp[intOf];omega
  .have hlt':¬(k:Int)<n:=by omega
   go_wp2;all_goals first|(exfalso;omega)|skip
   go_ret;exact⟨⟨-1,rfl,.inl ⟨rfl,λi hi=>hall i (by omega)⟩⟩,hB⟩
def Dl (e:Ending):Prop:=∃x:Bool,e=.returned (.bool x)
def Dg (w:World)(lo b n:Nat)(t:Nat->Int):Prop:=lo<=b/\(∃cs,w.heap[b]?=some (.cells cs 3 (0,0)))/\ag w b 0 n t
theorem jl {w:World}{base:Nat}{e:TypeId}{size b m cap:Nat}{xs:List Value}(h:w.ownsRow base e size (.slice (some ⟨b,0,none⟩) m cap) m xs):base<=b/\b<w.heap.size/\m<=cap:=by
 obtain⟨h1,h2|⟨g,cap',cur,h2,h3,h4,h5⟩⟩:=h
 .exact absurd h2.1 (by simp)
 .simp at h2;obtain⟨rfl,rfl⟩:=h2;exact⟨h3,(Array.getElem?_eq_some_iff.1 h4).1,h5.1⟩
theorem A1 (w:World)(x0 x1:Int)(x2:Option Addr)(l2 c2:Nat)(x3:Option Addr)(l3 c3:Nat):∃W,w.alloc (.cells #[.int .i64 x0,.int .i64 x1,.slice x2 l2 c2,.slice x3 l3 c3] 32)=W/\am W w.heap.size x0 x1 (.slice x2 l2 c2) (.slice x3 l3 c3)/\Below w.heap.size w W/\W.heap.size=w.heap.size+1:=
 ⟨_,rfl,heap_alloc_new w _,(Below.refl _ w).alloc (Nat.le_refl _) _,by simp⟩
theorem mN {w W:World}{N R:Nat}{y0 y1:Int}{y2 y3:Value}(hr:am W R y0 y1 y2 y3)(hb:Below N w W)(hR:N<=R)(x0 x1:Int)(x2:Option Addr)(l2 c2:Nat)(x3:Option Addr)(l3 c3:Nat):∃W',((((W.setCell ⟨R,0,none⟩ (.int .i64 x0)).setCell ⟨R,1,none⟩ (.int .i64 x1)).setCell ⟨R,2,none⟩ (.slice x2 l2 c2)).setCell ⟨R,3,none⟩ (.slice x3 l3 c3))=W'/\am W' R x0 x1 (.slice x2 l2 c2) (.slice x3 l3 c3)/\Below N w W'/\W'.heap.size=W.heap.size/\∀k,k≠R->W'.heap[k]?=W.heap[k]?:=by
 refine⟨_,rfl,?_,(((hb.setCell hR _).setCell hR _).setCell hR _).setCell hR _,by simp,λk hk=>?_⟩
 .rw[eO hr];exact setRow_heap _ _ _ _ _ _ hr
 .rw[Below.heap_setCell _ _ _ _ (by simpa using hk),Below.heap_setCell _ _ _ _ (by simpa using hk),Below.heap_setCell _ _ _ _ (by simpa using hk),Below.heap_setCell _ _ _ _ (by simpa using hk)]
theorem zf (P:Nat->Bool):∀n,∃k,k<=n/\(∀j,j<k->P j=true)/\(k<n->P k=false)
 |0=>⟨0,Nat.le_refl _,λj hj=>absurd hj (Nat.not_lt_zero _),λh=>absurd h (Nat.not_lt_zero _)⟩
 |n+1=>by
  obtain⟨k,h1,h2,h3⟩:=zf P n;by_cases hk:k<n
  .exact⟨k,by omega,h2,λ_=>h3 hk⟩
  .have hkn:k=n:=by omega
   subst hkn;cases hp:P k with
   |false=>exact⟨k,by omega,h2,λ_=>hp⟩
   |true=>exact⟨k+1,by omega,λj hj=>by
     by_cases e:j=k
     .subst e;exact hp
     .exact h2 j (by omega),λh=>absurd h (Nat.lt_irrefl _)⟩
theorem ir.no {f:Nat->Mv}{n:Nat}{name:ByteArray}{k:Int}(h:∀j,j<n->bd (f j).name name=false)(hk:ir f n name k):k=-1:=by
 rcases hk with⟨h1,_⟩|⟨j,h1,h2,h3,_⟩
 .exact h1
 .rw[h j h2]at h3;cases h3
theorem ir.yes {f:Nat->Mv}{n:Nat}{name:ByteArray}{k:Int}{J:Nat}(hJ:J<n)(h1:bd (f J).name name=true)(h2:∀j,j<J->bd (f j).name name=false)(hk:ir f n name k):k=J:=by
 rcases hk with⟨_,h⟩|⟨j,rfl,h3,h4,h5⟩
 .rw[h J hJ]at h1;cases h1
 .rcases Nat.lt_trichotomy j J with h|h|h
  .rw[h2 j h]at h4;cases h4
  .rw[h]
  .rw[h5 J h]at h1;cases h1
theorem CA (f:Nat->Mv)(n:Nat)(name:ByteArray):(∃J,J<n/\bd (f J).name name=true/\∀j,j<J->bd (f j).name name=false)\/∀j,j<n->bd (f j).name name=false:=by
 obtain⟨k,h1,h2,h3⟩:=zf (λj=>!bd (f j).name name) n;simp only[Bool.not_eq_true',Bool.not_eq_false']at h2 h3;by_cases h:k<n
 .exact .inl ⟨k,h,h3 h,h2⟩
 .exact .inr λj hj=>h2 j (by omega)
theorem rm {W:World}{base:Nat}{e:TypeId}{size:Nat}{v:Value}{n:Nat}{xs:List Value}{Y:Nat}{x0 x1:Int}{y u:Value}(h:W.ownsRow base e size v n xs)(hy:am W Y x0 x1 y u)(hne:e≠32){B:Nat}(hB:v.ownBlock=some B):B≠Y:=λq=>by
 obtain⟨cs,h1⟩:=rl h hB;subst q;unfold am at hy;rw[h1]at hy;simp at hy;exact hne hy.2
theorem BX {w W:World}{N Y:Nat}{x0 x1:Int}{v u:Value}(h:am W Y x0 x1 v u)(hb:Below N w W)(hY:N<=Y)(v':Value):∃W',W.setCell ⟨Y,2,none⟩ v'=W'/\am W' Y x0 x1 v' u/\Below N w W'/\W'.heap.size=W.heap.size/\∀k,k≠Y->W'.heap[k]?=W.heap[k]?:=by
 refine⟨_,rfl,?_,hb.setCell hY _,by simp,λk hk=>Below.heap_setCell _ _ _ _ (by simpa using hk)⟩;have:=heap_setCell_same W Y 2 _ _ v' h;simpa[am]using this
theorem vy {w W:World}{N Y:Nat}{x0 x1:Int}{v u:Value}(h:am W Y x0 x1 v u)(hb:Below N w W)(hY:N<=Y)(v':Value):∃W',W.setCell ⟨Y,3,none⟩ v'=W'/\am W' Y x0 x1 v v'/\Below N w W'/\W'.heap.size=W.heap.size/\∀k,k≠Y->W'.heap[k]?=W.heap[k]?:=by
 refine⟨_,rfl,?_,hb.setCell hY _,by simp,λk hk=>Below.heap_setCell _ _ _ _ (by simpa using hk)⟩;have:=heap_setCell_same W Y 3 _ _ v' h;simpa[am]using this
structure Ad (w:World)(now shift:Int)(ao:Option Addr)(n c:Nat)(bo:Option Addr)(d R X Bx cx Bi ci:Nat)(f:Nat->Mv)(t:Nat->Int)(W:World):Prop where
 below:Below w.heap.size w W
 bk:am W w.heap.size now shift (.slice ao n c) (.slice bo n d)
 rs:am W R 0 0 (.slice none 0 0) (.slice none 0 0)
 hR:w.heap.size<R
 x:am W X now shift (.slice (some ⟨Bx,0,none⟩) n cx) (.slice (some ⟨Bi,0,none⟩) n ci)
 hX:R<X
 om:W.ownsRow (R+1) 36 6 (.slice (some ⟨Bx,0,none⟩) n cx) n (bu f n)
 oi:W.ownsRow (R+1) 3 1 (.slice (some ⟨Bi,0,none⟩) n ci) n (bH t n)
section
variable {w:World}{now shift:Int}{ao:Option Addr}{n c:Nat}{bo:Option Addr}{d R X Bx cx Bi ci:Nat}{f:Nat->Mv}{t:Nat->Int}{W W':World}
theorem Ad.grow (h:Ad w now shift ao n c bo d R X Bx cx Bi ci f t W)(b:Below W.heap.size W W'):Ad w now shift ao n c bo d R X Bx cx Bi ci f t W':=
 ⟨h.below.trans (b.mono h.below.size),h.bk.same (b.block _ h.bk.lt),h.rs.same (b.block _ h.rs.lt),h.hR,h.x.same (b.block _ h.x.lt),h.hX,aU h.om (λB hB=>b.block B (h.om.lt B hB).2),aU h.oi (λB hB=>b.block B (h.oi.lt B hB).2)⟩
end
theorem AF {m:Mv}(h:m.ok=true):m.Fits:=by
 have b:=Mv.ok_bd h;exact⟨by have:=AB h;unfold maxLen;omega,vw (by omega),vw (by omega),vw (by omega),vw (by omega)⟩
theorem oA {now shift:Int}{f:Nat->Mv}{n m:Nat}{t:Nat->Int}(h:aO now shift f n t m=true):0<=now/\now<=10000:=by
 cases hb:dE now 0 10000 with
 |false=>rw[lF hb]at h;cases h
 |true=>unfold dE at hb;simpa using hb
theorem uK {now shift:Int}{f:Nat->Mv}{n m:Nat}{t:Nat->Int}(h:aO now shift f n t m=true):0<=shift/\shift<=6:=by
 cases hb:dE shift 0 6 with
 |false=>rw[jf hb]at h;cases h
 |true=>unfold dE at hb;simpa using hb
theorem wY {w:World}{b n k:Nat}{f:Nat->Mv}(h:al w b 0 n f)(hk:k<=n):al w b 0 k f:=λi hi=>h i (by omega)
theorem o9 (b n cap k:Nat)(f:Nat->Mv)(w:World)(hn:n<=6)(hk:k<n)(hcap:n<=cap)(hbs:b<w.heap.size)(hrow:al w b 0 n f):
  Calls Tryz0.prog 46 #[.slice (some ⟨b,0,none⟩) n cap,.int .i64 k] w λe w'=>(∃B c,e=.returned (.slice (some ⟨B,0,none⟩) (n-1) c)/\w'.ownsRow w.heap.size 36 6 (.slice (some ⟨B,0,none⟩) (n-1) c) (n-1) (bu (aN f k) (n-1)))/\Below w.heap.size w w':=by
 obtain⟨iM,hI,hz0,hz1,hz2⟩:=fJ;have hkc:(k:Int)<=cap:=by omega
 have hk0:(0:Int)<=(k:Int)+1:=by omega
 have hk1:(k:Int)+1<=n:=by omega
 have hk2:(k:Int)+1<=cap:=by omega
 have hwr:IntKind.i64.wrap ((k:Int)+1)=(k:Int)+1:=by rw[IntKind.wrap_i64];omega
 have bA:Below w.heap.size w (w.alloc (.cells #[] 36)).drew:=((Below.refl _ w).alloc (Nat.le_refl _) _).drew;have o1:(w.alloc (.cells #[] 36)).drew.ownsRow w.heap.size 36 6 (.slice (some ⟨w.heap.size,0,none⟩) 0 0) 0 []:=oy (Nat.le_refl _);have hC:∀W,Below w.heap.size w W->∀ad,(if cap=k+1 then some (⟨b,0,none⟩:Addr)else some ⟨b,(k+1)*6,none⟩)=some ad->∀j u,(bu (λj=>f (k+1+j)) (n-(k+1)))[j]?=some u->W.cell? (ad.add j)=some u:=λW hW ad had=>by
  split at had
  .have:n-(k+1)=0:=by omega
   rw[this];intro j u h;simp[bu]at h
  .cases had;exact dv ((p9 hrow (by omega)).below hW hbs)
 go_enter Tryz0.func46,Tryz.ntmps46
 go_wp2;go_region_law (first
  |(refine aV rfl (.tmp 5) (.tmp 8) 30 rfl 36 iM _ 6 56 ba hI hz0 hz1 hz2 rfl (by decide) w.heap.size (.slice (some ⟨w.heap.size,0,none⟩) 0 0) 0 [] (by rfl) o1 (by intro h;cases h) (some ⟨b,0,none⟩) k cap (bu f k) (by rfl) (bg f k) (by intro h;cases h) (λad had=>by cases had;exact dv ((wY hrow (by omega)).below bA hbs)) (dX f k) (by unfold maxLen;omega) (by omega) bA.size ?_;intro v2 w2 ho2 hs2 hg2;simp only[Nat.zero_add,List.nil_append]at ho2;have B2:Below w.heap.size w w2:=bA.grown hg2 bA.size (λq hq=>by simp[Value.ownBlock]at hq;omega);clear hg2)
  |(refine aV rfl (.tmp 9) (.tmp 13) 30 rfl 36 iM _ 6 56 ba hI hz0 hz1 hz2 rfl (by decide) w.heap.size v2 k (bu f k) (by rfl) ho2 hs2 (if cap=k+1 then some (⟨b,0,none⟩:Addr)else some ⟨b,(k+1)*6,none⟩) (n-(k+1)) (cap-(k+1)) (bu (λj=>f (k+1+j)) (n-(k+1))) (by rfl) (bg _ _) (by split<;>(intro h;cases h)) (hC _ B2) (dX _ _) (by unfold maxLen;omega) (by omega) B2.size ?_;intro v3 w3 ho3 hs3 hg3;rw[te f k n hk,show k+(n-(k+1))=n-1 by omega]at ho3;have B3:Below w.heap.size w w3:=B2.grown hg3 B2.size (λq hq=>(ho2.lt q hq).1);obtain⟨b3,c3,rfl⟩:=kZ ho3 hs3;clear hg3 B2 ho2))
 go_wp2;all_goals
  go_ret;exact⟨⟨b3,c3,rfl,ho3⟩,B3⟩
theorem BZ (w:World):∃W,w.alloc (.cells #[] 3)=W/\W.heap[w.heap.size]?=some (.cells #[] 3 (0,0))/\Below w.heap.size w W/\W.heap.size=w.heap.size+1:=
 ⟨_,rfl,heap_alloc_new w _,(Below.refl _ w).alloc (Nat.le_refl _) _,by simp⟩
theorem ag.upto {w:World}{b n k:Nat}{t:Nat->Int}(h:ag w b 0 n t)(hk:k<=n):ag w b 0 k t:=λi hi=>h i (by omega)
theorem xb {w:World}{b n k d:Nat}{t:Nat->Int}(h:ag w b 0 n t)(hk:k<n)(hd:n<=d):∀ad,(if d=k+1 then some (⟨b,0,none⟩:Addr)else some ⟨b,k+1,none⟩)=some ad->∀j u,(bH (λj=>t (k+1+j)) (n-(k+1)))[j]?=some u->w.cell? (ad.add j)=some u:=λad had=>by
 split at had
 .have:n-(k+1)=0:=by omega
  rw[this];intro j u h;simp[bH]at h
 .cases had;intro j u hu;have hj:j<n-(k+1):=by rcases Nat.lt_or_ge j (n-(k+1))with h|h;exact h;rw[List.getElem?_eq_none (by rw[aQ];exact h)]at hu;cases hu
  rw[bz hj]at hu;have:=h (k+1+j) (by omega);rw[Nat.zero_add]at this;rw[od,this];exact hu
structure C3 (N:Nat)(sl:Value)(W:World):Prop where
 c3:W.cell? ⟨N,3,none⟩=some sl
structure Dd (w:World)(now shift:Int)(ao:Option Addr)(n c:Nat)(bo:Option Addr)(d R:Nat)(W:World):Prop where
 below:Below w.heap.size w W
 bk:am W w.heap.size now shift (.slice ao n c) (.slice bo n d)
 rs:am W R 0 0 (.slice none 0 0) (.slice none 0 0)
 hR:w.heap.size<R
section
variable {w:World}{now shift:Int}{ao:Option Addr}{n c:Nat}{bo:Option Addr}{d R:Nat}{W W':World}
theorem Dd.grow (h:Dd w now shift ao n c bo d R W)(b:Below W.heap.size W W'):Dd w now shift ao n c bo d R W':=
 ⟨h.below.trans (b.mono h.below.size),h.bk.same (b.block _ h.bk.lt),h.rs.same (b.block _ h.rs.lt),h.hR⟩
theorem Dd.set (h:Dd w now shift ao n c bo d R W){Y:Nat}(hY:R<Y)(hb:Below w.heap.size w W')(e:∀k,k≠Y->W'.heap[k]?=W.heap[k]?):Dd w now shift ao n c bo d R W':=by
 have h1:=h.hR;exact⟨hb,h.bk.same (e _ (by omega)),h.rs.same (e _ (by omega)),h.hR⟩
theorem Dd.c3 (h:Dd w now shift ao n c bo d R W):C3 w.heap.size (.slice bo n d) W:=⟨h.bk.cells.2.2.2.1⟩
end
end Go.Proofs.YtlmcblcijndipabGreatDoor
