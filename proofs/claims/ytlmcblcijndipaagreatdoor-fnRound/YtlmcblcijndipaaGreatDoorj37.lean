import Derived.Test.YtlmcblcijndipaaGreatDoorj36
import Derived.Test.YtlmcblcijndipaaGreatDoorj30
set_option linter.unusedVariables false
set_option linter.unusedSectionVars false
set_option maxHeartbeats 4000000
set_option maxRecDepth 100000
namespace Go.Proofs.YtlmcblcijndipaaGreatDoor
section
open RowKit
theorem ja:Tz.prog.underlying 27=some (.slice 3):=bR
theorem wo:∃i,Tz.prog.info? 3=some i/\i.zero=some (.int .i64 0)/\i.size=1/\i.bytes=8:=by
 have h:(Tz.prog.info? 3).map (λi=>(i.zero,i.size,i.bytes))=some (some (.int .i64 0),1,8):=bR;cases hI:Tz.prog.info? 3 with
 |none=>rw[hI]at h;simp at h
 |some i=>rw[hI]at h;simp only[Option.map_some,Option.some.injEq,Prod.mk.injEq]at h;exact⟨i,rfl,h.1,h.2.1,h.2.2⟩
section
variable {w w':World}{base tX:Nat}{e:TypeId}{size:Nat}{v:Value}{n:Nat}{xs:List Value}
theorem ay (h:w.ownsRow base e size v n xs)(hs:∀B,v.ownBlock=some B->w'.heap[B]?=w.heap[B]?):w'.ownsRow base e size v n xs:=by
 obtain⟨h1,⟨rfl,rfl⟩|⟨g,cap,cur,rfl,h3,h4,h5⟩⟩:=h
 .exact⟨h1,.inl ⟨rfl,rfl⟩⟩
 .exact⟨h1,.inr ⟨g,cap,cur,rfl,h3,(hs g rfl).trans h4,h5⟩⟩
theorem bG (h:w.ownsRow base e size v n xs)(hb:tX<=base):w.ownsRow tX e size v n xs:=by
 obtain⟨h1,h2|⟨g,cap,cur,h2,h3,h4⟩⟩:=h
 .exact⟨h1,.inl h2⟩
 .exact⟨h1,.inr ⟨g,cap,cur,h2,acn hb h3,h4⟩⟩
theorem pA (h:w.ownsRow base e size v n xs)(hn:v≠.slice none 0 0):∃B c,v=.slice (some ⟨B,0,none⟩) n c:=by
 obtain⟨h1,h2|⟨g,cap,cur,h2,h3,h4⟩⟩:=h
 .exact absurd h2.1 hn
 .exact⟨g,cap,h2⟩
theorem vg (h:w.ownsRow base e size v n xs){B:Nat}(hB:v.ownBlock=some B):∃cs,w.heap[B]?=some (.cells cs e (0,0)):=by
 obtain⟨h1,⟨rfl,rfl⟩|⟨g,c,cur,rfl,h3,h4,h5⟩⟩:=h
 .cases hB
 .simp[Value.ownBlock]at hB;subst hB;exact⟨_,h4⟩
theorem gQ {v':Value}{n':Nat}{xs':List Value}{e':TypeId}{Mq:Nat}(h:w.ownsRow base e size v n xs)(h':w.ownsRow tX e' Mq v' n' xs')(hne:e≠e'){B:Nat}(hB:v.ownBlock=some B):v'.ownBlock≠some B:=λx=>by
 obtain⟨c1,e1⟩:=vg h hB;obtain⟨c2,e2⟩:=vg h' x;rw[e1]at e2;simp at e2;exact hne e2.2
theorem sO (h:base<=w.heap.size):(w.alloc (.cells #[] e)).ownsRow base e size (.slice (some ⟨w.heap.size,0,none⟩) 0 0) 0 []:=⟨aH,.inr ⟨w.heap.size,0,#[],rfl,h,heap_alloc_new w _,ack _,acp _,aH,aH⟩⟩
end
theorem aZ {P:Program}{ops:Array Oper}{o:Oper}{a:Act}{w:World}{K:Act->World->Prop}{Q:Exit->Act->World->Prop}{E:Prop}
  (hg:o.guard=none)(s x:Operand)(t:TypeId)(bf:o.op=Op.call {callee:=Callee.builtin Builtin.append,args:=#[s,x],argTypes:=#[t,t]})
  (e:TypeId)(i:TypeInfo)(z:Value)(size bytes:Nat)(h1:P.underlying t=some (.slice e))(h2:P.info? e=some i)(h3:i.zero=some z)(h4:i.size=size)(h5:i.bytes=bytes)(h6:z.cells.size=size)(h7:0<size)
  (base:Nat)(v:Value)(n:Nat)(CQ:List Value)(hs:a.eval s=v)(aU:w.ownsRow base e size v n CQ)(hv:v≠.slice none 0 0)
  (ao:Option Addr)(m c:Nat)(news:List Value)(hx:a.eval x=.slice ao m c)(hn:news.length=m*size)(WW:ao=none->m=0/\c=0)(hc:∀ad,ao=some ad->∀j u,news[j]?=some u->w.cell? (ad.add j)=some u)(v_:∀u∈news,u.oneCell'=true)
  (b1:n+m<=maxLen)(b2:(n+m)*bytes<=140737488355328)(hb:base<=w.heap.size)
  (hK:∀v' w',w'.ownsRow base e size v' (n+m) (CQ++news)->v'≠.slice none 0 0->w.grownBy w' v.ownBlock->K (a.put o.dst v') w'):
  if Region.wanted o (yielded ops a.tmps)=true then Oper.wp P o a w K Q else E:=by
 have hw:Region.wanted o (yielded ops a.tmps)=true:=kD;rw[if_pos hw];cases ao with
 |some ad=>
  obtain⟨v',w',dW,r1,r2,r3⟩:=run_append_own (P:=P) w base t o.type e i z size bytes h1 h2 h3 h4 h5 h6 h7 v n CQ aU ad m c news hn (hc ad rfl) v_ b1 b2 hb;unfold Oper.wp;simp[execOp,bf,resolve,invoke,builtin,hs,hx,dW,Result.andThen];exact hK v' w' r1 (λx=>hv (r3.1 x).1) r2
 |none=>
  obtain⟨rfl,rfl⟩:=WW rfl;have oU:news=[]:=List.eq_nil_of_length_eq_zero (by simpa using hn);subst oU;have dW:=run_append_owned_none (P:=P) w base t o.type e i size h1 h2 _ n CQ aU;unfold Oper.wp;simp[execOp,bf,resolve,invoke,builtin,hs,hx,dW,Result.andThen];exact hK _ _ (by simpa using aU) hv (World.grownBy.refl _ _)
def ik (w:World)(ao:Option Addr)(n c:Nat)(f:Nat->Mv):Prop:=(ao=none->n=0/\c=0)/\∀ad,ao=some ad->∃b,ad=⟨b,0,none⟩/\b<w.heap.size/\aM w b 0 n f
def jG (w:World)(ao:Option Addr)(n c:Nat)(t:Nat->Int):Prop:=(ao=none->n=0/\c=0)/\∀ad,ao=some ad->∃b,ad=⟨b,0,none⟩/\b<w.heap.size/\aB w b 0 n t
theorem rC {w w':World}{ao:Option Addr}{n:Nat}{f:Nat->Mv}(h:∀ad,ao=some ad->∃b,ad=⟨b,0,none⟩/\b<w.heap.size/\aM w b 0 n f)(hb:Below w.heap.size w w'):∀ad,ao=some ad->∀j u,(cG f n)[j]?=some u->w'.cell? (ad.add j)=some u:=λad had=>by
 obtain⟨b,rfl,aI,hr⟩:=h ad had;exact eQ (hr.below hb aI)
theorem rB {w w':World}{ao:Option Addr}{n:Nat}{t:Nat->Int}(h:∀ad,ao=some ad->∃b,ad=⟨b,0,none⟩/\b<w.heap.size/\aB w b 0 n t)(hb:Below w.heap.size w w'):∀ad,ao=some ad->∀j u,(eN t n)[j]?=some u->w'.cell? (ad.add j)=some u:=λad had=>by
 obtain⟨b,rfl,aI,hr⟩:=h ad had;exact uj (hr.below hb aI)
structure Bx (N:Nat)(now shift:Int)(v u:Value)(W:World):Prop where
 c0:W.cell? ⟨N,0,none⟩=some (.int .i64 now)
 c1:W.cell? ⟨N,1,none⟩=some (.int .i64 shift)
 c2:W.cell? ⟨N,2,none⟩=some v
 c3:W.cell? ⟨N,3,none⟩=some u
theorem Bx.same {N:Nat}{now shift:Int}{v u:Value}{W W':World}(h:Bx N now shift v u W)(e:W'.heap[N]?=W.heap[N]?):Bx N now shift v u W':=
 ⟨(ach (a:=⟨N,0,none⟩) e).trans h.c0,(ach (a:=⟨N,1,none⟩) e).trans h.c1,(ach (a:=⟨N,2,none⟩) e).trans h.c2,(ach (a:=⟨N,3,none⟩) e).trans h.c3⟩
structure Cp (w:World)(now shift:Int)(v u:Value)(vm:Value)(nm:Nat)(xm:List Value)(vi:Value)(ni:Nat)(xi:List Value)(W:World):Prop where
 below:Below w.heap.size w W
 size:w.heap.size+2<=W.heap.size
 box:W.heap[w.heap.size]?=some (.cells #[.int .i64 now,.int .i64 shift,v,u] 29 (0,0))
 out:W.heap[w.heap.size+1]?=some (.cells #[.int .i64 0,.int .i64 0,.slice none 0 0,.slice none 0 0] 29 (0,0))
 om:W.ownsRow (w.heap.size+2) 31 6 vm nm xm
 oi:W.ownsRow (w.heap.size+2) 3 1 vi ni xi
section
variable {w:World}{now shift:Int}{v u:Value}{vm:Value}{nm:Nat}{xm:List Value}{vi:Value}{ni:Nat}{xi:List Value}{W:World}
theorem Cp.bx (h:Cp w now shift v u vm nm xm vi ni xi W):Bx w.heap.size now shift v u W:=by
 constructor<;>(rw[cell_of_row _ _ _ _ _ _ h.box];rfl)
theorem Cp.grow (h:Cp w now shift v u vm nm xm vi ni xi W){W':World}(b:Below W.heap.size W W'):Cp w now shift v u vm nm xm vi ni xi W':=
 ⟨h.below.trans (b.mono h.below.size),acn h.size b.size,(b.block _ (by have:=h.size;omega)).trans h.box,(b.block _ (by have:=h.size;omega)).trans h.out,ay h.om (λB hB=>b.block B (h.om.lt B hB).2),ay h.oi (λB hB=>b.block B (h.oi.lt B hB).2)⟩
theorem Cp.XQ (h:Cp w now shift v u vm nm xm vi ni xi W):Cp w now shift v u (.slice (some ⟨W.heap.size,0,none⟩) 0 0) 0 [] vi ni xi (W.alloc (.cells #[] 31)):=by
 have g:=h.grow (W':=W.alloc (.cells #[] 31)) ((aca _ _).alloc (ack _) _);exact⟨g.below,g.size,g.box,g.out,sO h.size,g.oi⟩
theorem Cp.Tt (h:Cp w now shift v u vm nm xm vi ni xi W):Cp w now shift v u vm nm xm (.slice (some ⟨W.heap.size,0,none⟩) 0 0) 0 [] (W.alloc (.cells #[] 3)):=by
 have g:=h.grow (W':=W.alloc (.cells #[] 3)) ((aca _ _).alloc (ack _) _);exact⟨g.below,g.size,g.box,g.out,g.om,sO h.size⟩
theorem Cp.Kf (h:Cp w now shift v u vm nm xm vi ni xi W){v':Value}{n':Nat}{x':List Value}{W':World}(o:W'.ownsRow (w.heap.size+2) 31 6 v' n' x')(g:W.grownBy W' vm.ownBlock):Cp w now shift v u v' n' x' vi ni xi W':=by
 have hs:=h.size;exact⟨h.below.grown g h.below.size (λq hq=>by have:=(h.om.lt q hq).1;omega),acn h.size g.size,(g.block _ ab (λe=>by have:=(h.om.lt _ e.symm).1;omega)).trans h.box,(g.block _ ab (λe=>by have:=(h.om.lt _ e.symm).1;omega)).trans h.out,o,ay h.oi (λB hB=>g.block B (h.oi.lt B hB).2 (λe=>gQ h.om h.oi bK e.symm hB))⟩
theorem Cp.RD (h:Cp w now shift v u vm nm xm vi ni xi W){v':Value}{n':Nat}{x':List Value}{W':World}(o:W'.ownsRow (w.heap.size+2) 3 1 v' n' x')(g:W.grownBy W' vi.ownBlock):Cp w now shift v u vm nm xm v' n' x' W':=by
 have hs:=h.size;exact⟨h.below.grown g h.below.size (λq hq=>by have:=(h.oi.lt q hq).1;omega),acn h.size g.size,(g.block _ ab (λe=>by have:=(h.oi.lt _ e.symm).1;omega)).trans h.box,(g.block _ ab (λe=>by have:=(h.oi.lt _ e.symm).1;omega)).trans h.out,ay h.om (λB hB=>g.block B (h.om.lt B hB).2 (λe=>gQ h.om h.oi bK hB e.symm)),o⟩
end
theorem Cp.start (w:World)(now shift:Int)(v u:Value):Cp w now shift v u (.slice none 0 0) 0 [] (.slice none 0 0) 0 [] ((w.alloc (.cells #[.int .i64 now,.int .i64 shift,v,u] 29)).alloc (.cells #[.int .i64 0,.int .i64 0,.slice none 0 0,.slice none 0 0] 29)):=
 ⟨((aca _ w).alloc (ack _) _).alloc aH _,aH,(acb _ _ _ aH).trans (heap_alloc_new w _),di _ _ _,⟨rfl,.inl ⟨rfl,rfl⟩⟩,⟨rfl,.inl ⟨rfl,rfl⟩⟩⟩
theorem fx (now shift:Int)(ao:Option Addr)(n c:Nat)(f:Nat->Mv)(bo:Option Addr)(m d:Nat)(t:Nat->Int)(w:World)(hn:n<=1048576)(hm:m<=1048576)(hv:ik w ao n c f)(hu:jG w bo m d t):
  Calls Tz.prog 40 #[.agg #[.int .i64 now,.int .i64 shift,.slice ao n c,.slice bo m d]] w λe w'=>(∃B c B' c',e=.returned (.agg #[.int .i64 now,.int .i64 shift,.slice (some ⟨B,0,none⟩) n c,.slice (some ⟨B',0,none⟩) m c'])/\w'.ownsRow w.heap.size 31 6 (.slice (some ⟨B,0,none⟩) n c) n (cG f n)/\w'.ownsRow w.heap.size 3 1 (.slice (some ⟨B',0,none⟩) m c') m (eN t m))/\Below w.heap.size w w':=by
 obtain⟨iM,hI,gI,fq,iF⟩:=jA;obtain⟨i0,GB,ID,D0,E9⟩:=wo;obtain⟨hvn,hvr⟩:=hv;obtain⟨hun,hur⟩:=hu;have hC:=Cp.start w now shift (.slice ao n c) (.slice bo m d);go_enter Tz.func40,Tryz.ntmps40
 go_wp2;have hC:=hC.grow (aca _ _).drew;refine wp_region_held_drew (S:=Bx w.heap.size now shift (.slice ao n c) (.slice bo m d)) bR hC.bx (λhHeld=>?_);refine aS 0 (.pointer (some ⟨w.heap.size,0,none⟩)) 3 rfl PN hHeld ?_;refine aS 1 (.int .i64 now) 4 rfl PN hHeld ?_;refine aS 2 (.pointer (some ⟨w.heap.size,1,none⟩)) 5 rfl PN hHeld ?_;refine aS 3 (.int .i64 shift) 6 rfl PN hHeld ?_;refine aS 5 (.pointer (some ⟨w.heap.size,2,none⟩)) 8 rfl PN hHeld ?_;refine aS 6 (.slice ao n c) 9 rfl PN hHeld ?_;refine aS 9 (.pointer (some ⟨w.heap.size,3,none⟩)) 12 rfl PN hHeld ?_;refine aS 10 (.slice bo m d) 13 rfl PN hHeld ?_;refine Po 4 8 rfl rfl (λK hK=>?_) (λK hK=>?_);focus
  go_simp
  have hC:=hC.XQ;try simp only[World.size_alloc,World.size_drew]at hC
  refine hK.out _ _ hC.bx (λhHeld=>?_);clear hK K;refine Po 7 8 rfl rfl (λK hK=>?_) (λK hK=>?_);focus
   refine aZ rfl (.tmp 7) (.tmp 9) 23 rfl 31 iM _ 6 56 bz hI gI fq iF rfl bK (w.heap.size+2) _ 0 [] bU hC.om m8 ao n c (cG f n) bU (dL f n) hvn (rC hvr hC.below) (fE f n) iI ab hC.size ?_;intro v1 w1 DV IB yR;simp only[Nat.zero_add,List.nil_append]at DV;have hC:=hC.Kf DV yR;clear DV yR;refine hK.out _ _ hC.bx (λhHeld=>?_);clear hK K;refine jE 8 rfl (λK hK=>?_);go_simp
   have hC:=hC.Tt;try simp only[World.size_alloc,World.size_drew]at hC
   refine hK.out _ _ hC.bx (λhHeld=>?_);clear hK K;refine jE 11 rfl (λK hK=>?_);refine aZ rfl (.tmp 11) (.tmp 13) 27 rfl 3 i0 _ 1 8 ja GB ID D0 E9 rfl bK (w.heap.size+2) _ 0 [] bU hC.oi m8 bo m d (eN t m) bU BJ hun (rB hur hC.below) (j0 t m) iI ab hC.size ?_;intro u1 w2 uS uU oR;simp only[Nat.zero_add,List.nil_append]at uS;have hC:=hC.RD uS oR;clear uS oR;refine hK.out _ _ hC.bx (λhHeld=>?_);clear hK K
  rotate_left;focus
   go_simp
   have hC:=hC.Tt;try simp only[World.size_alloc,World.size_drew]at hC
   refine hK.out _ _ hC.bx (λhHeld=>?_);clear hK K;refine jE 7 rfl (λK hK=>?_);refine aZ rfl (.tmp 7) (.tmp 9) 23 rfl 31 iM _ 6 56 bz hI gI fq iF rfl bK (w.heap.size+2) _ 0 [] bU hC.om m8 ao n c (cG f n) bU (dL f n) hvn (rC hvr hC.below) (fE f n) iI ab hC.size ?_;intro v1 w1 DV IB yR;simp only[Nat.zero_add,List.nil_append]at DV;have hC:=hC.Kf DV yR;clear DV yR;refine hK.out _ _ hC.bx (λhHeld=>?_);clear hK K;refine jE 11 rfl (λK hK=>?_);refine aZ rfl (.tmp 11) (.tmp 13) 27 rfl 3 i0 _ 1 8 ja GB ID D0 E9 rfl bK (w.heap.size+2) _ 0 [] bU hC.oi m8 bo m d (eN t m) bU BJ hun (rB hur hC.below) (j0 t m) iI ab hC.size ?_;intro u1 w2 uS uU oR;simp only[Nat.zero_add,List.nil_append]at uS;have hC:=hC.RD uS oR;clear uS oR;refine hK.out _ _ hC.bx (λhHeld=>?_);clear hK K
 rotate_left 2;focus
  go_simp
  have hC:=hC.Tt;try simp only[World.size_alloc,World.size_drew]at hC
  refine hK.out _ _ hC.bx (λhHeld=>?_);clear hK K;refine jE 4 rfl (λK hK=>?_);go_simp
  have hC:=hC.XQ;try simp only[World.size_alloc,World.size_drew]at hC
  refine hK.out _ _ hC.bx (λhHeld=>?_);clear hK K;refine jE 7 rfl (λK hK=>?_);refine aZ rfl (.tmp 7) (.tmp 9) 23 rfl 31 iM _ 6 56 bz hI gI fq iF rfl bK (w.heap.size+2) _ 0 [] bU hC.om m8 ao n c (cG f n) bU (dL f n) hvn (rC hvr hC.below) (fE f n) iI ab hC.size ?_;intro v1 w1 DV IB yR;simp only[Nat.zero_add,List.nil_append]at DV;have hC:=hC.Kf DV yR;clear DV yR;refine hK.out _ _ hC.bx (λhHeld=>?_);clear hK K;refine jE 11 rfl (λK hK=>?_);refine aZ rfl (.tmp 11) (.tmp 13) 27 rfl 3 i0 _ 1 8 ja GB ID D0 E9 rfl bK (w.heap.size+2) _ 0 [] bU hC.oi m8 bo m d (eN t m) bU BJ hun (rB hur hC.below) (j0 t m) iI ab hC.size ?_;intro u1 w2 uS uU oR;simp only[Nat.zero_add,List.nil_append]at uS;have hC:=hC.RD uS oR;clear uS oR;refine hK.out _ _ hC.bx (λhHeld=>?_);clear hK K
 all_goals
  obtain⟨av,cv,rfl⟩:=pA hC.om IB;obtain⟨au,cu,rfl⟩:=pA hC.oi uU;refine aS 12 ((.agg #[.int .i64 now,.int .i64 shift,.slice (some ⟨av,0,none⟩) n cv,.slice (some ⟨au,0,none⟩) m cu])) 15 rfl PN hHeld ?_;simp only[Act.put];refine jE 13 rfl (λK hK=>?_);have r0:=cell_of_row w2 _ 0 _ _ _ hC.out;have r1:=cell_of_row w2 _ 1 _ _ _ hC.out;have r2:=cell_of_row w2 _ 2 _ _ _ hC.out;have r3:=cell_of_row w2 _ 3 _ _ _ hC.out;have rf:=λj=>frozen_of_row w2 _ j _ _ hC.out;simp at r0 r1 r2 r3
  go_simp
  refine hK.out _ _ (hC.bx.same (by repeat(first|exact rfl|exact acd _ _ _ _ aH|refine(acd _ _ _ _ aH).trans ?_))) (λhHeld=>?_);clear hK K;refine wpAnyH_done bR ?_ _;clear hHeld;go_wp2;have hm:=hC.om;have hi:=hC.oi;refine bodyPost_ret (v:=.agg #[.int .i64 now,.int .i64 shift,.slice (some ⟨av,0,none⟩) n cv,.slice (some ⟨au,0,none⟩) m cu]) (by simp[results,Tryz.results40,go_sem,r0,r1,r2,r3]) rfl ⟨⟨_,_,_,_,rfl,bG (ay hm (λB hB=>by have:=(hm.lt B hB).1;rw[acd _ _ _ _ cC,acd _ _ _ _ cC,acd _ _ _ _ cC,acd _ _ _ _ cC])) ab,bG (ay hi (λB hB=>by have:=(hi.lt B hB).1;rw[acd _ _ _ _ cC,acd _ _ _ _ cC,acd _ _ _ _ cC,acd _ _ _ _ cC])) ab⟩,(((hC.below.setCell aH _).setCell aH _).setCell aH _).setCell aH _⟩
end
section
open RowKit
variable {w w':World}{ao:Option Addr}{n c:Nat}{f:Nat->Mv}{t:Nat->Int}
theorem ik.pos (h:ik w ao n c f)(hn:0<n):∃b,ao=some ⟨b,0,none⟩/\b<w.heap.size/\aM w b 0 n f:=by
 cases ao with
 |none=>have:=(h.1 rfl).1;omega
 |some ad=>obtain⟨b,e,h1,h2⟩:=h.2 ad rfl;exact⟨b,by rw[e],h1,h2⟩
theorem jG.pos (h:jG w ao n c t)(hn:0<n):∃b,ao=some ⟨b,0,none⟩/\b<w.heap.size/\aB w b 0 n t:=by
 cases ao with
 |none=>have:=(h.1 rfl).1;omega
 |some ad=>obtain⟨b,e,h1,h2⟩:=h.2 ad rfl;exact⟨b,by rw[e],h1,h2⟩
theorem ik.below (h:ik w ao n c f)(hb:Below w w w'):ik w' ao n c f:=
 ⟨h.1,λad had=>by obtain⟨b,e,h1,h2⟩:=h.2 ad had;exact⟨b,e,acl h1 hb.size,h2.below hb h1⟩⟩
theorem jG.below (h:jG w ao n c t)(hb:Below w w w'):jG w' ao n c t:=
 ⟨h.1,λad had=>by obtain⟨b,e,h1,h2⟩:=h.2 ad had;exact⟨b,e,acl h1 hb.size,h2.below hb h1⟩⟩
def hZ (f:Nat->Mv)(n:Nat)(name:ByteArray)(k:Int):Prop:=k=-1/\(∀i,i<n->bZ (f i).name name=false)\/∃j:Nat,k=(j:Int)/\j<n/\bZ (f j).name name=true/\∀i,i<j->bZ (f i).name name=false
theorem wu (now shift:Int)(ao:Option Addr)(n c:Nat)(f:Nat->Mv)(bo:Option Addr)(m d:Nat)(name:ByteArray)(w:World)(hn:n<=6)(hv:ik w ao n c f):
  Calls Tz.prog 42 #[.agg #[now,shift,.slice ao n c,.slice bo m d],name] w λe w'=>(∃k:Int,e=.returned (.int .i64 k)/\hZ f n name k)/\Below w w w':=by
 have rI:Below w w (w.alloc (.cells #[now,shift,.slice ao n c,.slice bo m d] 29)):=(aca _ w).alloc (ack _) _;have np:am (w.alloc (.cells #[now,shift,.slice ao n c,.slice bo m d] 29)) w.heap.size now shift (.slice ao n c) (.slice bo m d):=heap_alloc_new _ _;go_enter Tz.func42,Tryz.ntmps42
 go_wp2;go_loopw [5] (λx W=>∃k:Nat,x=.int .i64 k/\k<=n/\Below w w W/\am W w.heap.size now shift (.slice ao n c) (.slice bo m d)/\∀i,i<k->bZ (f i).name name=false) (λx _=>n-(intOf x).toNat)
 case atStart=>exact⟨0,rfl,acp _,rI,np,λi hi=>absurd hi (aco _)⟩
 case round=>
  clear rI np;obtain⟨k,rfl,hk,hB,bk,cP⟩:=hrel;obtain⟨y0,y1,y2,y3,y4⟩:=bk.cells;by_cases aI:k<n
  .obtain⟨b,rfl,bw,aq⟩:=hv.pos ab;have lb:=acl bw hB.size;have dG:(k:Int)<n:=ab;have c0:=(aq.below hB bw k aI).c0;simp only[Nat.zero_add]at c0;cases he:bZ (f k).name name with
   |true=>
    have OK:((f k).name.toList==name.toList)=true:=he;go_wp2;all_goals try(exfalso;omega)
    go_ret;exact⟨⟨k,rfl,.inr ⟨k,rfl,aI,he,cP⟩⟩,hB⟩
   |false=>
    have OK:((f k).name.toList==name.toList)=false:=he;go_wp2;all_goals try(exfalso;omega)
    go_roundw
    case rel=>exact⟨k+1,by go_num,ab,hB,bk,λi hi=>by
     by_cases e:i=k
     .subst e;exact he
     .exact cP i ab⟩
    case measure=>exact cf
  .have dG:¬(k:Int)<n:=by omega
   go_wp2;all_goals try(exfalso;omega)
   go_ret;exact⟨⟨-1,rfl,.inl ⟨rfl,λi hi=>cP i ab⟩⟩,hB⟩
def IsB (e:Ending):Prop:=∃x:Bool,e=.returned (.bool x)
theorem xS (b n c:Nat)(t:Nat->Int)(b' c':Nat)(t':Nat->Int)(w:World)(hn:n<=6)(bw:b<w)(hr:aB w b 0 n t)(bc:b'<w)(eM:aB w b' 0 n t'):
  Calls Tz.prog 46 #[.slice b n c,.slice b' n c'] w λe w'=>IsB e/\Below w w w':=by
 go_enter Tz.func46,Tryz.ntmps46
 go_wp2;go_loopw [5] (λx W=>∃k:Nat,x=.int .i64 k/\k<=n/\Below w w W) (λx _=>n-(intOf x).toNat)
 case atStart=>exact⟨0,rfl,acp _,aca _ _⟩
 case round=>
  obtain⟨k,rfl,hk,hB⟩:=hrel;by_cases aI:k<n
  .have dG:(k:Int)<n:=by omega
   have lb:=acl bw hB.size;have lb':=acl bc hB.size;have c0:=hr.below hB bw k aI;have c1:=eM.below hB bc k aI;simp only[Nat.zero_add]at c0 c1;have hne:=aE wr;have x0:=λx:aj wr=>x.cell c0
   have x1:=λx:aj wr=>x.cell c1
   go_wp2;refine ah ?_;repeat(go_big_quiet_step (fail))
   refine wpQuiet_nil (ak ?_);intro w2 cH;by_cases hle:t' k<t k
   .go_wp2;all_goals try(exfalso;omega)
    go_ret;exact⟨⟨_,rfl⟩,hB.trans (cH.mono hB.size)⟩
   .go_wp2;all_goals try(exfalso;omega)
    go_roundw
    case rel=>exact⟨k+1,by go_num,ab,hB.trans (cH.mono hB.size)⟩
    case measure=>exact cf
  .have dG:¬(k:Int)<n:=by omega
   go_wp2;all_goals try(exfalso;omega)
   go_ret;exact⟨⟨_,rfl⟩,hB⟩
theorem Md (f:Nat->Mv)(k n:Nat)(m:Mv)(hk:k<=n):(cG f k++m.cells.toList)++cG (λj=>f (k+j)) (n-k)=cG (lQ f k m) (n+1):=by
 have h1:cG f k=cG (lQ f k m) k:=nK λj hj=>by unfold lQ;rw[if_pos hj]
 have h2:cG f k++m.cells.toList=cG (lQ f k m) (k+1):=by
  rw[gb,h1,show lQ f k m k=m by unfold lQ;rw[if_neg (Nat.lt_irrefl _),if_pos rfl]]
 rw[h2];have h3:∀r,cG (lQ f k m) (k+1)++cG (λj=>f (k+j)) r=cG (lQ f k m) (k+1+r):=by
  intro r;induction r with
  |zero=>simp[cG]
  |succ r ih=>
   rw[gb (λj=>f (k+j)) r,<-List.append_assoc,ih,show k+1+(r+1)=k+1+r+1 by omega,gb _ (k+1+r)];congr 3;unfold lQ;rw[if_neg ab,if_neg ab];congr 1;omega
 rw[h3,show k+1+(n-k)=n+1 by omega]
end
section
open RowKit
def ky (w:World)(lo b n:Nat)(t:Nat->Int):Prop:=lo<=b/\(∃cs,w.heap[b]?=some (.cells cs 3 (0,0)))/\aB w b 0 n t
theorem ky.of {w:World}{lo b n c:Nat}{t:Nat->Int}(h:w.ownsRow lo 3 1 (.slice b n c) n (eN t n)):ky w lo b n t:=by
 refine⟨?_,vg h rfl,CY h⟩;obtain⟨h1,h2|⟨g,cap',cur,h2,h3,h4⟩⟩:=h
 .exact absurd h2.1 aH
 .simp at h2;omega
theorem ky.TA {w:World}{lo b n:Nat}{t:Nat->Int}(h:aJ w b n t)(hl:lo<=b):ky w lo b n t:=by
 obtain⟨⟨cs,h1,h2⟩,h3⟩:=h;exact⟨hl,⟨cs,h1⟩,h3⟩
theorem ky.lt {w:World}{lo b n:Nat}{t:Nat->Int}(h:ky w lo b n t):b<w:=by
 obtain⟨_,⟨cs,h1⟩,_⟩:=h;exact(acm.1 h1).1
theorem ky.same {w w':World}{lo b n:Nat}{t:Nat->Int}(h:ky w lo b n t)(e:w'.heap[b]?=w.heap[b]?):ky w' lo b n t:=by
 obtain⟨h1,⟨cs,h2⟩,h3⟩:=h;exact⟨h1,⟨cs,e.trans h2⟩,λi hi=>(ach (a:=⟨b,0+i,none⟩) e).trans (h3 i hi)⟩
theorem ee {w:World}{base:Nat}{e:TypeId}{size b m cap:Nat}{xs:List Value}(h:w.ownsRow base e size (.slice b m cap) m xs):base<=b/\b<w/\m<=cap:=by
 obtain⟨h1,h2|⟨g,cap',cur,h2,h3,h4,h5⟩⟩:=h
 .exact absurd h2.1 aH
 .simp at h2;obtain⟨rfl,rfl⟩:=h2;exact⟨h3,(acm.1 h4).1,h5.1⟩
theorem cI (w:World)(x0 x1:Int)(x2:Option Addr)(l2 c2:Nat)(x3:Option Addr)(l3 c3:Nat):∃W,w.alloc (.cells #[x0,x1,.slice x2 l2 c2,.slice x3 l3 c3] 29)=W/\am W w.heap.size x0 x1 (.slice x2 l2 c2) (.slice x3 l3 c3)/\Below w w W/\W.heap.size=w.heap.size+1:=
 ⟨_,rfl,heap_alloc_new w _,(aca _ w).alloc (ack _) _,aH⟩
theorem bT {w W:World}{N R:Nat}{y0 y1:Int}{y2 y3:Value}(hr:am W R y0 y1 y2 y3)(hb:Below N w W)(hR:N<=R)(x0 x1:Int)(x2:Option Addr)(l2 c2:Nat)(x3:Option Addr)(l3 c3:Nat):∃W',((((W.setCell R x0).setCell ⟨R,1,none⟩ x1).setCell ⟨R,2,none⟩ (.slice x2 l2 c2)).setCell ⟨R,3,none⟩ (.slice x3 l3 c3))=W'/\am W' R x0 x1 (.slice x2 l2 c2) (.slice x3 l3 c3)/\Below N w W'/\W'.heap.size=W.heap.size/\∀k,k≠R->W'.heap[k]?=W.heap[k]?:=by
 refine⟨_,rfl,?_,(((hb.setCell hR _).setCell hR _).setCell hR _).setCell hR _,aH,λk hk=>?_⟩
 .rw[sM hr];exact setRow_heap _ _ _ _ _ _ hr
 .rw[acd _ _ _ _ (by simpa using hk),acd _ _ _ _ (by simpa using hk),acd _ _ _ _ (by simpa using hk),acd _ _ _ _ (by simpa using hk)]
theorem FD (P:Nat->Bool):∀n,∃k,k<=n/\(∀j,j<k->P j=true)/\(k<n->P k=false)
 |0=>⟨0,ack _,λj hj=>absurd hj (aco _),λh=>absurd h (aco _)⟩
 |n+1=>by
  obtain⟨k,h1,h2,h3⟩:=FD P n;by_cases hk:k<n
  .exact⟨k,ab,h2,λ_=>h3 hk⟩
  .have qo:k=n:=by omega
   subst qo;cases hp:P k with
   |false=>exact⟨k,ab,h2,λ_=>hp⟩
   |true=>exact⟨k+1,ab,λj hj=>by
     by_cases e:j=k
     .subst e;exact hp
     .exact h2 j ab,λh=>absurd h (Nat.lt_irrefl _)⟩
theorem Pn {P:Nat->Bool}{n k k':Nat}(h1:k<=n)(h2:∀j,j<k->P j=true)(h3:k<n->P k=false)(g1:k'<=n)(g2:∀j,j<k'->P j=true)(g3:k'<n->P k'=false):k=k':=by
 rcases Nat.lt_trichotomy k k' with h|h|h
 .have a:=g2 k h;have b:=h3 ab;rw[a]at b;cases b
 .exact h
 .have a:=h2 k' h;have b:=g3 ab;rw[a]at b;cases b
theorem hZ.no {f:Nat->Mv}{n:Nat}{name:ByteArray}{k:Int}(h:∀j,j<n->bZ (f j).name name=false)(hk:hZ f n name k):k=-1:=by
 rcases hk with⟨h1,_⟩|⟨j,h1,h2,h3,_⟩
 .exact h1
 .rw[h j h2]at h3;cases h3
theorem hZ.yes {f:Nat->Mv}{n:Nat}{name:ByteArray}{k:Int}{J:Nat}(hJ:J<n)(h1:bZ (f J).name name=true)(h2:∀j,j<J->bZ (f j).name name=false)(hk:hZ f n name k):k=J:=by
 rcases hk with⟨_,h⟩|⟨j,rfl,h3,h4,h5⟩
 .rw[h J hJ]at h1;cases h1
 .rcases Nat.lt_trichotomy j J with h|h|h
  .rw[h2 j h]at h4;cases h4
  .rw[h]
  .rw[h5 J h]at h1;cases h1
theorem Ki (f:Nat->Mv)(n:Nat)(name:ByteArray):(∃J,J<n/\bZ (f J).name name=true/\∀j,j<J->bZ (f j).name name=false)\/∀j,j<n->bZ (f j).name name=false:=by
 obtain⟨k,h1,h2,h3⟩:=FD (λj=>!bZ (f j).name name) n;simp only[Bool.not_eq_true',Bool.not_eq_false']at h2 h3;by_cases h:k<n
 .exact .inl ⟨k,h,h3 h,h2⟩
 .exact .inr λj hj=>h2 j ab
theorem fy {W:World}{base:Nat}{e:TypeId}{size:Nat}{v:Value}{n:Nat}{xs:List Value}{Y:Nat}{x0 x1:Int}{y u:Value}(h:W.ownsRow base e size v n xs)(hy:am W Y x0 x1 y u)(hne:e≠29){B:Nat}(hB:v.ownBlock=some B):B≠Y:=λq=>by
 obtain⟨cs,h1⟩:=vg h hB;subst q;unfold am at hy;rw[h1]at hy;simp at hy;exact hne hy.2
theorem FL {w W:World}{N Y:Nat}{x0 x1:Int}{v u:Value}(h:am W Y x0 x1 v u)(hb:Below N w W)(hY:N<=Y)(v':Value):∃W',W.setCell ⟨Y,2,none⟩ v'=W'/\am W' Y x0 x1 v' u/\Below N w W'/\W'.heap.size=W.heap.size/\∀k,k≠Y->W'.heap[k]?=W.heap[k]?:=by
 refine⟨_,rfl,?_,hb.setCell hY _,aH,λk hk=>acd _ _ _ _ (by simpa using hk)⟩;have:=heap_setCell_same W Y 2 _ _ v' h;simpa[am]using this
theorem vh {w W:World}{N Y:Nat}{x0 x1:Int}{v u:Value}(h:am W Y x0 x1 v u)(hb:Below N w W)(hY:N<=Y)(v':Value):∃W',W.setCell ⟨Y,3,none⟩ v'=W'/\am W' Y x0 x1 v v'/\Below N w W'/\W'.heap.size=W.heap.size/\∀k,k≠Y->W'.heap[k]?=W.heap[k]?:=by
 refine⟨_,rfl,?_,hb.setCell hY _,aH,λk hk=>acd _ _ _ _ (by simpa using hk)⟩;have:=heap_setCell_same W Y 3 _ _ v' h;simpa[am]using this
structure Ad (w:World)(now shift:Int)(ao:Option Addr)(n c:Nat)(bo:Option Addr)(d R X Bx cx Bi ci:Nat)(f:Nat->Mv)(t:Nat->Int)(W:World):Prop where
 below:Below w w W
 bk:am W w.heap.size now shift (.slice ao n c) (.slice bo n d)
 rs:am W R 0 0 () ()
 hR:w.heap.size<R
 x:am W X now shift (.slice Bx n cx) (.slice Bi n ci)
 hX:R<X
 om:W.ownsRow (R+1) 31 6 (.slice Bx n cx) n (cG f n)
 oi:W.ownsRow (R+1) 3 1 (.slice Bi n ci) n (eN t n)
section
variable {w:World}{now shift:Int}{ao:Option Addr}{n c:Nat}{bo:Option Addr}{d R X Bx cx Bi ci:Nat}{f:Nat->Mv}{t:Nat->Int}{W W':World}
theorem Ad.grow (h:Ad w now shift ao n c bo d R X Bx cx Bi ci f t W)(b:Below W W W'):Ad w now shift ao n c bo d R X Bx cx Bi ci f t W':=
 ⟨h.below.trans (b.mono h.below.size),h.bk.same (b.block _ h.bk.lt),h.rs.same (b.block _ h.rs.lt),h.hR,h.x.same (b.block _ h.x.lt),h.hX,ay h.om (λB hB=>b.block B (h.om.lt B hB).2),ay h.oi (λB hB=>b.block B (h.oi.lt B hB).2)⟩
theorem Ad.set (h:Ad w now shift ao n c bo d R X Bx cx Bi ci f t W){Y:Nat}{x0 x1:Int}{y u:Value}(hy:am W Y x0 x1 y u)(hY:X<Y)(hb:Below w w W')(e:∀k,k≠Y->W'.heap[k]?=W.heap[k]?):Ad w now shift ao n c bo d R X Bx cx Bi ci f t W':=by
 have h1:=h.hR;have h2:=h.hX;exact⟨hb,h.bk.same (e _ ab),h.rs.same (e _ ab),h.hR,h.x.same (e _ ab),h.hX,ay h.om (λB hB=>e B (fy h.om hy bK hB)),ay h.oi (λB hB=>e B (fy h.oi hy bK hB))⟩
end
end
section
open RowKit
variable {now shift:Int}{f:Nat->Mv}{n m:Nat}{t:Nat->Int}
theorem pU {m:Mv}(h:m.ok=true):m.Fits:=by
 have b:=Mv.fR h;exact⟨by have:=G2 h;unfold maxLen;omega,od ab,od ab,od ab,od ab⟩
theorem pX {w:World}{b k:Nat}(h:aM w b 0 n f)(hk:k<=n):aM w b 0 k f:=λi hi=>h i ab
theorem xU (b n cap k:Nat)(f:Nat->Mv)(w:World)(hn:n<=6)(hk:k<n)(uP:n<=cap)(bw:b<w)(aq:aM w b 0 n f):
  Calls Tz.prog 45 #[.slice (some ⟨b,0,none⟩) n cap,.int .i64 k] w λe w'=>(∃B c,e=.returned (.slice (some ⟨B,0,none⟩) (n-1) c)/\w'.ownsRow w.heap.size 31 6 (.slice (some ⟨B,0,none⟩) (n-1) c) (n-1) (cG (jD f k) (n-1)))/\Below w.heap.size w w':=by
 obtain⟨iM,hI,gI,fq,iF⟩:=jA;have hkc:(k:Int)<=cap:=ab;have uZ:(0:Int)<=(k:Int)+1:=ab;have JQ:(k:Int)+1<=n:=ab;have jY:(k:Int)+1<=cap:=ab;have Ao:IntKind.i64.wrap ((k:Int)+1)=(k:Int)+1:=gH;have bA:Below w w (w.alloc (.cells #[] 31)).drew:=((aca _ w).alloc (ack _) _).drew;have o1:(w.alloc (.cells #[] 31)).drew.ownsRow w.heap.size 31 6 (.slice w.heap.size 0 0) 0 []:=sO (ack _);have hC:∀W,Below w w W->∀ad,(if cap=k+1 then some (b:Addr)else some ⟨b,(k+1)*6,none⟩)=some ad->∀j u,(cG (λj=>f (k+1+j)) (n-(k+1)))[j]?=some u->W.cell? (ad.add j)=some u:=λW hW ad had=>by
  split at had
  .have:n-(k+1)=0:=by omega
   rw[this];intro j u h;simp[cG]at h
  .cases had;exact eQ ((zq aq ab).below hW bw)
 go_enter Tz.func45,Tryz.ntmps45
 go_wp2;go_region_law (first
  |(refine aZ rfl (.tmp 5) (.tmp 8) 23 rfl 31 iM _ 6 56 bz hI gI fq iF rfl bK w.heap.size (.slice (some ⟨w.heap.size,0,none⟩) 0 0) 0 [] bU o1 m8 (some ⟨b,0,none⟩) k cap (cG f k) bU (dL f k) m8 (λad had=>by cases had;exact eQ ((pX aq ab).below bA bw)) (fE f k) iI ab bA.size ?_;intro v2 w2 uS uU oR;simp only[Nat.zero_add,List.nil_append]at uS;have B2:Below w.heap.size w w2:=bA.grown oR bA.size (λq hq=>Es);clear oR)
  |(refine aZ rfl (.tmp 9) (.tmp 13) 23 rfl 31 iM _ 6 56 bz hI gI fq iF rfl bK w.heap.size v2 k (cG f k) bU uS uU (if cap=k+1 then some (⟨b,0,none⟩:Addr)else some ⟨b,(k+1)*6,none⟩) (n-(k+1)) (cap-(k+1)) (cG (λj=>f (k+1+j)) (n-(k+1))) bU (dL _ _) (by split<;>(intro h;cases h)) (hC _ B2) (fE _ _) iI ab B2.size ?_;intro v3 w3 ho3 Ak hg3;rw[Me f k n hk,show k+(n-(k+1))=n-1 by omega]at ho3;have B3:Below w.heap.size w w3:=B2.grown hg3 B2.size (λq hq=>(uS.lt q hq).1);obtain⟨b3,c3,rfl⟩:=pA ho3 Ak;clear hg3 B2 uS))
 go_wp2;all_goals
  go_ret;exact⟨⟨b3,c3,rfl,ho3⟩,B3⟩
end
section
open Conc RowKit
def Chg (cv c0:Value)(fm:FuncId):Prop:=(∃name,cv=.iface 77 (.agg #[.string name])/\c0=.agg #[.string name]/\fm=292)\/(cv=.iface 71 (.agg #[])/\c0=.agg #[]/\fm=291)
theorem Yj (v:Value)(w:World):(Instr.typeAssert (.iface 77 v) 104 134 true).run Tz.prog w=.ok (.tuple #[.nilIface,false]) w:=run_typeAssert_lacksB (Tz.az Tryz.underlying134) bR bR v 104 w
theorem Yi (v:Value)(w:World):(Instr.typeAssert (.iface 71 v) 104 134 true).run Tz.prog w=.ok (.tuple #[.nilIface,false]) w:=run_typeAssert_lacksB (Tz.az Tryz.underlying134) bR bR v 104 w
theorem fT {fn:Func}{i j:Nat}(hr:fn.results=#[.cell i 29,.tmp j]){t:Array Value}{B:Nat}{e:Value}(h1:t[i]?=some (.pointer B))(h2:t[j]?=some e){a0 a1:Int}{v u:Value}{W:World}(hB:am W B a0 a1 v u):
  (results fn t).run Tz.prog W=.ok (.tuple #[.agg #[a0,a1,v,u],e]) W:=by
 obtain⟨q0,q1,q2,q3,_⟩:=hB.cells;simp[results,hr,go_sem,q0,q1,q2,q3,h1,h2]
structure P9 (MP:Nat->Value->Value->World->Prop):Prop where
 is:∀{N y e W},MP N y e W->(e=.nilIface/\∃a0 a1 s2 l2 c2 s3 l3 c3,y=.agg #[.int .i64 a0,.int .i64 a1,.slice s2 l2 c2,.slice s3 l3 c3])\/∃cd,1<cd/\e=.iface 131 (.agg #[.int .i64 cd])/\y=.agg #[.int .i64 0,.int .i64 0,(),()]
 to:∀{N N' y e W W'},MP N y e W->N'<=N->(∀k,N<=k->k<W.heap.size->W'.heap[k]?=W.heap[k]?)->MP N' y e W'
section
variable [Gl]{ok:Ctx}{c r0:Frame}{cs:List Frame}{V:World}{Q:Value->World->Prop}{cv c0:Value}{fm:FuncId}{bb:Bool}{now shift:Int}{ao:Option Addr}{n cp:Nat}{bo:Option Addr}{m dp:Nat}{MP:Nat->Value->Value->World->Prop}
theorem JF (E:eI Tz.prog ok c dt)(BZ:ok.bI 67=true)(jR:ok.bI r0.fn=true)(hc:Chg cv c0 fm)(SP:ok.bI fm=true)
  (EP:∀W,Bl V V W->Calls Tz.prog 16 #[.agg #[now,shift,.slice ao n cp,.slice bo m dp]] W λe w'=>e=.returned bb/\Below W.heap.size W w')(xI:P9 MP)
  (rT:bb=true->∀{W:World} {r:Frame} {cs:List Frame},ok.bI r.fn=true->Bl V V W->(∀y e W',Bl W.heap.size W W'->MP W.heap.size y e W'->aF Tz.prog ok c dt Q ⟨r.finish (.tuple #[y,e]),cs,W'⟩)->aF Tz.prog ok c dt Q ⟨Frame.enter Tz.prog fm #[c0,.agg #[now,shift,.slice ao n cp,.slice bo m dp]] .normal,r::cs,W⟩)
  (bh:∀y e W',Bl V V W'->(bb=false/\y=.agg #[.int .i64 0,.int .i64 0,(),()]/\e=.iface 131 (.agg #[.int .i64 1])\/bb=true/\MP V.heap.size y e W')->aF Tz.prog ok c dt Q ⟨r0.finish (.tuple #[y,e]),cs,W'⟩):
  aF Tz.prog ok c dt Q ⟨Frame.enter Tz.prog 67 #[.agg #[now,shift,.slice ao n cp,.slice bo m dp],cv] .normal,r0::cs,V⟩:=by
 replace rT:Hid _:=rT;replace bh:Hid _:=bh;replace EP:Hid _:=EP;refine aF.en Tz.func67 rfl Tryz.ntmps67 H0 ?_;refine aF.ck E BZ [_,_] _ λK R τ d hK hR=>?_
 obtain⟨W1,e1,k2,b1,-⟩:=cI (re V τ d) now shift ao n cp bo m dp;obtain⟨W2,e2,k4,b2,-⟩:=cI W1 0 0 none 0 0 none 0 0;have bW:=b1.trans (b2.mono b1.size);have H1:=EP.out W2 (Bl.pu bW);obtain⟨y0,y1,y2,y3,y4⟩:=(k2.same (b2.block _ k2.lt)).cells;simp only[aP];rcases Bool.eq_false_or_eq_true bb with hb|hb;all_goals rw[hb]at H1
 rotate_left
 .replace hb:Hid _:=hb;go_wp2_with(go_at_call 16;refine H1.mono ?_;clear H1;rintro e w3 ⟨rfl,b3⟩;have j4:=k4.same (b3.block _ k4.lt);obtain⟨z0,z1,z2,z3,z4⟩:=j4.cells;have bV:=bW.trans (b3.mono bW.size);obtain⟨W5,e5,k5,b5,-,o5⟩:=bT j4 bV b1.size 0 0 none 0 0 none 0 0)
  refine hR.out _ _ λtodo=>?_
  exact aF.lv E jR Tz.func67 (λτ d=>fT rfl rfl rfl (show am (re W5 τ d) _ _ _ _ _ from k5)) (bh.out _ _ _ (Bl.pu b5) (.inl ⟨hb.out,rfl,rfl⟩))
 replace hb:Hid _:=hb;go_wp2_with(go_at_call 16;refine H1.mono ?_;clear H1;rintro e w3 ⟨rfl,b3⟩)
 refine hK.out _ _ ?_;have p2:=(k2.same (b2.block _ k2.lt)).same (b3.block _ (acl k2.lt b2.size));have p4:=k4.same (b3.block _ k4.lt);have bV:=Bl.pu (bW.trans (b3.mono bW.size));have o4:V.heap.size<W1:=k2.lt;clear hK hR K R k2 k4 b1 b2 b3 bW y0 y1 y2 y3 y4 e1 e2;refine aF.seq E BZ (aF.rg E BZ (aF.oc E BZ 0 2 λK τ d hK=>?_));obtain⟨y0,y1,y2,y3,y4⟩:=(show am (re w3 τ d) _ _ _ _ _ from p2).cells;simp only[List.drop_zero,List.take_succ_cons,List.take_zero];go_wp2;refine hK.out _ _ (aF.un ?_);clear hK K y0 y1 y2 y3 y4;refine aF.fX E (i:=2) rfl rfl SP (λw=>by rcases hc with⟨name,rfl,rfl,rfl⟩|⟨rfl,rfl,rfl⟩<;>kernel_rfl) (rT.out hb.out BZ bV ?_);rintro y e W4 b4 hy;rw[dO rfl];have hTA:∀w,(Instr.typeAssert cv 104 134 true).run Tz.prog w=.ok (.tuple #[.nilIface,false]) w:=by rcases hc with⟨name,rfl,rfl,rfl⟩|⟨rfl,rfl,rfl⟩<;>intro w<;>first|exact Yj _ w|exact Yi _ w
 have l3:=p4.lt;have p4:=p4.same (b4.block _ l3);have l4:=p4.lt;have z4:=b4.size;have z0:=bV.size;have bV:=bV.trans b4 z0;rcases xI.is hy with⟨rfl,a0,a1,s2,l2,c2,s3,l3,c3,rfl⟩|⟨cd,Iu,rfl,rfl⟩;all_goals
  refine aF.oc E BZ 3 6 λK τ d hK=>?_
  simp only[List.drop_succ_cons,List.drop_zero,List.take_succ_cons,List.take_zero,Act.put];go_wp2;refine hK.out _ _ (aF.regionEnd E BZ ?_);clear hK K
 .obtain⟨W5,e5,k5,b5,-⟩:=cI (re W4 τ d) a0 a1 s2 l2 c2 s3 l3 c3;rw[e5];clear e5;have p4:=p4.same (b5.block _ l4);refine aF.ck E BZ [_,_,_] _ λK R τ d hK hR=>?_
  obtain⟨y0,y1,y2,y3,y4⟩:=(show am (re W5 τ d) _ _ _ _ _ from k5).cells;obtain⟨x0,x1,x2,x3,x4⟩:=(show am (re W5 τ d) _ _ _ _ _ from p4).cells;obtain⟨W8,e8,k8,-,z8,o8⟩:=bT (show am (re W5 τ d) _ _ _ _ _ from p4) (aca 0 _) (acp _) a0 a1 s2 l2 c2 s3 l3 c3;replace z8:Hid _:=z8;simp only[aP];go_wp2;have z5:W4.heap.size<=W5:=b5.size;have z8:W8.heap.size=W5.heap.size:=z8.out;refine hK.out _ _ (aF.ret E BZ (aF.lv E jR Tz.func67 (λτ d=>fT rfl rfl rfl (show am (re W8 τ d) _ _ _ _ _ from k8)) (bh.out _ _ _ ⟨ab,λk hk=>(o8 k ab).trans ((b5.block k (by show k<W4.heap.size;omega)).trans (bV.block k hk))⟩ (.inr ⟨hb.out,xI.to hy ab λk h1 h2=>(o8 k ab).trans (b5.block k h2)⟩))))
 .have b5:Bl W4 W4 ((re W4 τ d).alloc (.cells #[.int .i64 0,.int .i64 0,(),()] 29)):=⟨by show W4.heap.size<=(W4.heap.push _).size;simp,λk hk=>acb _ _ _ hk⟩;revert b5;generalize (re W4 τ d).alloc _=W5;intro b5;have p4:=p4.same (b5.block _ l4);refine aF.ck E BZ [_] _ λK R τ d hK hR=>?_
  obtain⟨x0,x1,x2,x3,x4⟩:=(show am (re W5 τ d) _ _ _ _ _ from p4).cells;obtain⟨W8,e8,k8,-,z8,o8⟩:=bT (show am (re W5 τ d) _ _ _ _ _ from p4) (aca 0 _) (acp _) 0 0 none 0 0 none 0 0;replace z8:Hid _:=z8;simp only[aP];go_wp2;have z5:=b5.size;have z8:W8.heap.size=W5.heap.size:=z8.out;exact hR.out _ _ λtodo=>aF.lv E jR Tz.func67 (λτ d=>fT rfl rfl rfl (show am (re W8 τ d) _ _ _ _ _ from k8)) (bh.out _ _ _ ⟨ab,λk hk=>(o8 k ab).trans ((b5.block k ab).trans (bV.block k hk))⟩ (.inr ⟨hb.out,xI.to hy ab λk h1 h2=>(o8 k ab).trans (b5.block k h2)⟩))
def Hr (MP:Nat->Value->Value->World->Prop)(CP:Nat->Value->World->Prop)(bb:Bool)(N:Nat)(y:Value)(cd:Int)(W:World):Prop:=
 bb=false/\y=.agg #[.int .i64 0,.int .i64 0,(),()]/\cd=1\/bb=true/\((MP N y .nilIface W/\cd=0)\/1<cd/\(∃W' N',MP N' (.agg #[.int .i64 0,.int .i64 0,(),()]) (.iface 131 (.agg #[cd])) W')/\CP N y W)
structure Uk (CP:Nat->Value->World->Prop)(now shift:Int):Prop where
 is:∀{N y W},CP N y W->∃s2 l2 c2 s3 l3 c3,y=.agg #[now,shift,.slice s2 l2 c2,.slice s3 l3 c3]
 to:∀{N N' y W W'},CP N y W->N'<=N->(∀k,N<=k->k<W.heap.size->W'.heap[k]?=W.heap[k]?)->CP N' y W'
theorem uE (E:eI Tz.prog ok c dt)(xG:ok.bI 38=true)(BZ:ok.bI 67=true)(VL:ok.bI 68=false)(jR:ok.bI r0.fn=true)(hc:Chg cv c0 fm)(SP:ok.bI fm=true)
  (EP:∀W,Bl V V W->Calls Tz.prog 16 #[.agg #[now,shift,.slice ao n cp,.slice bo m dp]] W λe w'=>e=.returned bb/\Below W.heap.size W w')(xI:P9 MP)
  (rT:bb=true->∀{W:World} {r:Frame} {cs:List Frame},ok.bI r.fn=true->Bl V V W->(∀y e W',Bl W.heap.size W W'->MP W.heap.size y e W'->aF Tz.prog ok c dt Q ⟨r.finish (.tuple #[y,e]),cs,W'⟩)->aF Tz.prog ok c dt Q ⟨Frame.enter Tz.prog fm #[c0,.agg #[now,shift,.slice ao n cp,.slice bo m dp]] .normal,r::cs,W⟩)
  {CP:Nat->Value->World->Prop}(DP:Uk CP now shift)(KY:∀W,Bl V V W->Calls Tz.prog 69 #[.agg #[now,shift,.slice ao n cp,.slice bo m dp]] W λe w'=>(∃y,e=.returned y/\CP W.heap.size y w')/\Below W.heap.size W w')
  (bh:∀y cd W',Bl V V W'->Hr MP CP bb V.heap.size y cd W'->aF Tz.prog ok c dt Q ⟨r0.finish (.tuple #[y,.int .i64 cd]),cs,W'⟩):
  aF Tz.prog ok c dt Q ⟨Frame.enter Tz.prog 38 #[.agg #[now,shift,.slice ao n cp,.slice bo m dp],cv] .normal,r0::cs,V⟩:=by
 replace rT:Hid _:=@rT;replace bh:Hid _:=bh;replace EP:Hid _:=EP;replace KY:Hid _:=KY;refine aF.en Tz.func38 rfl Tryz.ntmps38 H0 ?_;refine aF.ck E xG [_] _ λK R τ d hK hR=>?_
 obtain⟨W1,e1,k2,b1,-⟩:=cI (re V τ d) now shift ao n cp bo m dp;obtain⟨W2,e2,k4,b2,-⟩:=cI W1 0 0 none 0 0 none 0 0;have bW:=Bl.pu (b1.trans (b2.mono b1.size));simp only[aP];go_wp2;refine hK.out _ _ ?_;have p2:=k2.same (b2.block _ k2.lt);have o4:V.heap.size<W1:=k2.lt;clear hK hR K R k2 b1 b2 e1 e2;refine aF.seq E xG (aF.rg E xG (aF.oc E xG 0 2 λK τ d hK=>?_));obtain⟨y0,y1,y2,y3,y4⟩:=(show am (re W2 τ d) _ _ _ _ _ from p2).cells;simp only[List.drop_zero,List.take_succ_cons,List.take_zero];go_wp2;refine hK.out _ _ (aF.un ?_);clear hK K y0 y1 y2 y3 y4;refine aF.fX E (i:=2) rfl rfl BZ (λw=>Ia) (JF E BZ xG hc SP (λW hW=>EP.out W (bW.trans hW bW.size)) xI (λh W r cs hr hW=>rT.out h hr (bW.trans hW bW.size)) ?_);rintro y e W4 b4 hy;rw[dO rfl];have l2:=k4.lt;have k4:=k4.same (b4.block _ l2);have p2:=p2.same (b4.block _ p2.lt);have l4:=k4.lt;have z0:=bW.size;have z4:=b4.size;have bV:=bW.trans b4 z0;obtain⟨a0,a1,s2,l2,c2,s3,l3,c3,cd,rfl,he,h1,h2⟩:∃a0 a1 s2 l2 c2 s3 l3 c3 cd,y=.agg #[.int .i64 a0,.int .i64 a1,.slice s2 l2 c2,.slice s3 l3 c3]/\GX e cd/\(¬1<cd->Hr MP CP bb W2.heap.size y cd W4)/\(1<cd->bb=true/\MP W2.heap.size (.agg #[.int .i64 0,.int .i64 0,.slice none 0 0,.slice none 0 0]) (.iface 131 (.agg #[.int .i64 cd])) W4):=by
  rcases hy with⟨h0,rfl,rfl⟩|⟨h0,hy⟩
  .exact⟨_,_,_,_,_,_,_,_,1,rfl,.inr rfl,λ_=>.inl ⟨h0,rfl,rfl⟩,λh=>ab⟩
  .rcases xI.is hy with⟨rfl,a0,a1,s2,l2,c2,s3,l3,c3,rfl⟩|⟨cd,Iu,rfl,rfl⟩
   .exact⟨_,_,_,_,_,_,_,_,0,rfl,.inl ⟨rfl,rfl⟩,λ_=>.inr ⟨h0,.inl ⟨hy,rfl⟩⟩,λh=>ab⟩
   .exact⟨_,_,_,_,_,_,_,_,cd,rfl,.inr rfl,λh=>absurd Iu h,λ_=>⟨h0,hy⟩⟩
 replace h1:Hid _:=h1;replace h2:Hid _:=h2;clear hy;refine aF.oc E xG 3 6 λK τ d hK=>?_
 simp only[List.drop_succ_cons,List.drop_zero,List.take_succ_cons,List.take_zero,Act.put];go_wp2;refine hK.out _ _ (aF.regionEnd E xG ?_);clear hK K;obtain⟨W5,e5,k5,b5,-⟩:=cI (re W4 τ d) a0 a1 s2 l2 c2 s3 l3 c3;rw[e5];clear e5;have k4:=k4.same (b5.block _ l4);have p2:=p2.same (b5.block _ p2.lt);refine aF.seq E xG (aF.rg E xG (aF.oc E xG 0 1 λK τ d hK=>?_));simp only[List.drop_zero,List.take_succ_cons,List.take_zero];go_wp2;refine hK.out _ _ (aF.un ?_);clear hK K;refine aF.KC E (i:=1) rfl rfl VL (λw=>Ia) (λτ d=>.inr ⟨rfl,e,cd,rfl,he,rfl⟩) ?_;rintro τ d _ _ ⟨rfl,rfl⟩;refine aF.un (aF.oc E xG 2 1 λK τ d hK=>?_);simp only[List.drop_succ_cons,List.drop_zero,List.take_succ_cons,List.take_zero,Act.put];go_wp2;refine hK.out _ _ (aF.un (aF.regionEnd E xG ?_));clear hK K;have z5:W4.heap.size<=W5:=b5.size;by_cases Iu:1<cd
 .refine aF.ck E xG [_] _ λK R τ d hK hR=>?_
  have bV5:Bl V V (re W5 τ d):=⟨by show V.heap.size<=W5.heap.size;omega,λk hk=>(b5.block k (by show k<W4.heap.size;omega)).trans (bV.block k hk)⟩;have H1:=KY.out _ bV5;obtain⟨y0,y1,y2,y3,y4⟩:=(show am (re W5 τ d) _ _ _ _ _ from p2).cells;have q4:am (re W5 τ d) _ _ _ _ _:=k4;simp only[aP];go_wp2_with(go_at_call 69;refine H1.mono ?_;clear H1;rintro e w6 ⟨⟨y,rfl,hy⟩,b6⟩;obtain⟨s2,l2,c2,s3,l3,c3,rfl⟩:=DP.is hy;have j4:=q4.same (b6.block _ q4.lt);obtain⟨x0,x1,x2,x3,x4⟩:=j4.cells;obtain⟨W8,e8,k8,-,z8,o8⟩:=bT j4 (aca 0 _) (acp _) now shift s2 l2 c2 s3 l3 c3;replace z8:Hid _:=z8)
  have z8:W8.heap.size=w6.heap.size:=z8.out;have z6:W5.heap.size<=w6:=b6.size;exact hR.out _ _ λtodo=>aF.lv E jR Tz.func38 (λτ d=>fT rfl rfl rfl (show am (re W8 τ d) _ _ _ _ _ from k8)) (bh.out _ _ _ ⟨ab,λk hk=>(o8 k ab).trans ((b6.block k (by show k<W5.heap.size;omega)).trans (bV5.block k hk))⟩ (.inr ⟨(h2.out Iu).1,.inr ⟨Iu,⟨_,_,(h2.out Iu).2⟩,DP.to hy (by show V.heap.size<=W5.heap.size;omega) λk g1 g2=>o8 k (by have g1:W5.heap.size<=k:=g1;omega)⟩⟩))
 .refine aF.ck E xG [_,_] _ λK R τ d hK hR=>?_
  obtain⟨y0,y1,y2,y3,y4⟩:=(show am (re W5 τ d) _ _ _ _ _ from k5).cells;obtain⟨x0,x1,x2,x3,x4⟩:=(show am (re W5 τ d) _ _ _ _ _ from k4).cells;obtain⟨W8,e8,k8,-,z8,o8⟩:=bT (show am (re W5 τ d) _ _ _ _ _ from k4) (aca 0 _) (acp _) a0 a1 s2 l2 c2 s3 l3 c3;replace z8:Hid _:=z8;simp only[aP];go_wp2;have z8:W8.heap.size=W5.heap.size:=z8.out;refine hK.out _ _ (aF.ret E xG (aF.lv E jR Tz.func38 (λτ d=>fT rfl rfl rfl (show am (re W8 τ d) _ _ _ _ _ from k8)) (bh.out _ _ _ ⟨ab,λk hk=>(o8 k ab).trans ((b5.block k (by show k<W4.heap.size;omega)).trans (bV.block k hk))⟩ ?_)));rcases h1.out ab with h|⟨h0,⟨hy,rfl⟩|⟨h,_⟩⟩
  .exact .inl h
  .exact .inr ⟨h0,.inl ⟨xI.to hy z0 λk g1 g2=>(o8 k ab).trans (b5.block k g2),rfl⟩⟩
  .omega
end
section
variable [Gl]{ok:Ctx}{c r0:Frame}{cs:List Frame}{V:World}{Q:Value->World->Prop}{bb:Bool}{now shift:Int}{ao:Option Addr}{n cp:Nat}{bo:Option Addr}{m dp:Nat}{MP:Nat->Value->Value->World->Prop}{CP:Nat->Value->World->Prop}
theorem Hr.is {N:Nat}{y:Value}{cd:Int}{W:World}(h:Hr MP CP bb N y cd W)(xI:P9 MP)(DP:Uk CP now shift):∃a0 a1 s2 l2 c2 s3 l3 c3,y=.agg #[.int .i64 a0,.int .i64 a1,.slice s2 l2 c2,.slice s3 l3 c3]:=by
 rcases h with⟨_,rfl,_⟩|⟨_,⟨h,_⟩|⟨_,_,h⟩⟩
 .exact⟨_,_,_,_,_,_,_,_,rfl⟩
 .rcases xI.is h with⟨_,h⟩|⟨_,_,h,_⟩
  .exact h
  .cases h
 .obtain⟨_,_,_,_,_,_,rfl⟩:=DP.is h;exact⟨_,_,_,_,_,_,_,_,rfl⟩
theorem Hr.to {N N':Nat}{y:Value}{cd:Int}{W W':World}(h:Hr MP CP bb N y cd W)(xI:P9 MP)(DP:Uk CP now shift)(hN:N'<=N)(e:∀k,N<=k->k<W.heap.size->W'.heap[k]?=W.heap[k]?):Hr MP CP bb N' y cd W':=by
 rcases h with h|⟨h0,⟨h,h1⟩|⟨h1,h2,h⟩⟩
 .exact .inl h
 .exact .inr ⟨h0,.inl ⟨xI.to h hN e,h1⟩⟩
 .exact .inr ⟨h0,.inr ⟨h1,h2,DP.to h hN e⟩⟩
theorem JE {name:ByteArray}(E:eI Tz.prog ok c dt)(Ag:ok.bI 20=true)(xG:ok.bI 38=true)(BZ:ok.bI 67=true)(VL:ok.bI 68=false)(jR:ok.bI r0.fn=true)(SP:ok.bI 292=true)
  (EP:∀W,Bl V V W->Calls Tz.prog 16 #[.agg #[now,shift,.slice ao n cp,.slice bo m dp]] W λe w'=>e=.returned bb/\Below W.heap.size W w')(xI:P9 MP)
  (rT:bb=true->∀{W:World} {r:Frame} {cs:List Frame},ok.bI r.fn=true->Bl V V W->(∀y e W',Bl W.heap.size W W'->MP W.heap.size y e W'->aF Tz.prog ok c dt Q ⟨r.finish (.tuple #[y,e]),cs,W'⟩)->aF Tz.prog ok c dt Q ⟨Frame.enter Tz.prog 292 #[.agg #[name],.agg #[now,shift,.slice ao n cp,.slice bo m dp]] .normal,r::cs,W⟩)
  {CP:Nat->Value->World->Prop}(DP:Uk CP now shift)(KY:∀W,Bl V V W->Calls Tz.prog 69 #[.agg #[now,shift,.slice ao n cp,.slice bo m dp]] W λe w'=>(∃y,e=.returned y/\CP W.heap.size y w')/\Below W.heap.size W w')
  (bh:∀y cd W',Bl V V W'->Hr MP CP bb V.heap.size y cd W'->aF Tz.prog ok c dt Q ⟨r0.finish (.tuple #[y,.int .i64 cd]),cs,W'⟩):
  aF Tz.prog ok c dt Q ⟨Frame.enter Tz.prog 20 #[.agg #[now,shift,.slice ao n cp,.slice bo m dp],name] .normal,r0::cs,V⟩:=by
 replace rT:Hid _:=@rT;replace bh:Hid _:=bh;replace EP:Hid _:=EP;replace KY:Hid _:=KY;refine aF.en Tz.func20 rfl Tryz.ntmps20 H0 ?_;refine aF.ck E Ag [_] _ λK R τ0 uN hK hR=>?_
 obtain⟨W1,e1,k2,b1,-⟩:=cI (re V τ0 uN) now shift ao n cp bo m dp;obtain⟨W2,e2,k4,b2,-⟩:=cI W1 0 0 none 0 0 none 0 0;have bW:=Bl.pu (b1.trans (b2.mono b1.size));simp only[aP];go_wp2;refine hK.out _ _ ?_;have p2:=k2.same (b2.block _ k2.lt);have o4:V.heap.size<W1:=k2.lt;clear hK hR K R k2 b1 b2 e1 e2;refine aF.seq E Ag (aF.rg E Ag (aF.oc E Ag 0 4 λK τ d hK=>?_));obtain⟨y0,y1,y2,y3,y4⟩:=(show am (re W2 τ d) _ _ _ _ _ from p2).cells;simp only[List.drop_zero,List.take_succ_cons,List.take_zero];go_wp2;refine hK.out _ _ (aF.un ?_);clear hK K y0 y1 y2 y3 y4;refine aF.fX E (i:=4) rfl rfl xG (λw=>Ia) (uE E xG BZ VL Ag (.inl ⟨name,rfl,rfl,rfl⟩) SP (λW hW=>EP.out W (bW.trans hW bW.size)) xI (λh W r cs hr hW=>rT.out h hr (bW.trans hW bW.size)) DP (λW hW=>KY.out W (bW.trans hW bW.size)) ?_);rintro y cd W4 b4 hy;rw[dO rfl];obtain⟨a0,a1,s2,l2,c2,s3,l3,c3,rfl⟩:=hy.is xI DP;have l2':=k4.lt;have k4:=k4.same (b4.block _ l2');have z0:=bW.size;have z4:=b4.size;have bV:=bW.trans b4 z0;refine aF.oc E Ag 5 4 λK τ d hK=>?_
 obtain⟨x0,x1,x2,x3,x4⟩:=(show am (re W4 τ d) _ _ _ _ _ from k4).cells;obtain⟨W8,e8,k8,-,z8,o8⟩:=bT (show am (re W4 τ d) _ _ _ _ _ from k4) (aca 0 _) (acp _) a0 a1 s2 l2 c2 s3 l3 c3;replace z8:Hid _:=z8;simp only[List.drop_succ_cons,List.drop_zero,List.take_succ_cons,List.take_zero,Act.put];go_wp2;have z8:W8.heap.size=W4.heap.size:=z8.out;exact hK.out _ _ (aF.regionEnd E Ag (aF.ret E Ag (aF.lv E jR Tz.func20 (λτ d=>fT rfl rfl rfl (show am (re W8 τ d) _ _ _ _ _ from k8)) (bh.out _ _ _ ⟨ab,λk hk=>(o8 k ab).trans (bV.block k hk)⟩ (hy.to xI DP z0 λk g1 g2=>o8 k ab)))))
theorem zk {fn:Func}{i j l:Nat}(hr:fn.results=#[.cell i 29,.tmp j,.tmp l]){t:Array Value}{B:Nat}{e e':Value}(h1:t[i]?=some (.pointer B))(h2:t[j]?=some e)(h3:t[l]?=some e'){a0 a1:Int}{v u:Value}{W:World}(hB:am W B a0 a1 v u):
  (results fn t).run Tz.prog W=.ok (.tuple #[.agg #[a0,a1,v,u],e,e']) W:=by
 obtain⟨q0,q1,q2,q3,_⟩:=hB.cells;simp[results,hr,go_sem,q0,q1,q2,q3,h1,h2,h3]
theorem Nf (E:eI Tz.prog ok c dt)(Ag:ok.bI 13=true)(xG:ok.bI 38=true)(BZ:ok.bI 67=true)(VL:ok.bI 68=false)(jR:ok.bI r0.fn=true)(SP:ok.bI 291=true)
  (EP:∀W,Bl V V W->Calls Tz.prog 16 #[.agg #[now,shift,.slice ao n cp,.slice bo m dp]] W λe w'=>e=.returned bb/\Below W.heap.size W w')(xI:P9 MP)
  (rT:bb=true->∀{W:World} {r:Frame} {cs:List Frame},ok.bI r.fn=true->Bl V V W->(∀y e W',Bl W.heap.size W W'->MP W.heap.size y e W'->aF Tz.prog ok c dt Q ⟨r.finish (.tuple #[y,e]),cs,W'⟩)->aF Tz.prog ok c dt Q ⟨Frame.enter Tz.prog 291 #[.agg #[],.agg #[now,shift,.slice ao n cp,.slice bo m dp]] .normal,r::cs,W⟩)
  {CP:Nat->Value->World->Prop}(DP:Uk CP now shift)(KY:∀W,Bl V V W->Calls Tz.prog 69 #[.agg #[now,shift,.slice ao n cp,.slice bo m dp]] W λe w'=>(∃y,e=.returned y/\CP W.heap.size y w')/\Below W.heap.size W w')
  {NP:Nat->Option Addr->Nat->Nat->World->Prop}(H_:∀{N N' s l k W W'},NP N s l k W->N'<=N->(∀k,N<=k->k<W.heap.size->W'.heap[k]?=W.heap[k]?)->NP N' s l k W')(OD:bb=true->∀W,Bl V V W->Calls Tz.prog 47 #[.agg #[now,shift,.slice ao n cp,.slice bo m dp],now] W λe w'=>(∃s l k,e=.returned (.slice s l k)/\NP W.heap.size s l k w')/\Below W.heap.size W w')
  (bh:∀y s l k cd W',Bl V V W'->Hr MP CP bb V.heap.size y cd W'->(cd=0/\NP V.heap.size s l k W'\/cd≠0/\s=none/\l=0/\k=0)->aF Tz.prog ok c dt Q ⟨r0.finish (.tuple #[y,.slice s l k,.int .i64 cd]),cs,W'⟩):
  aF Tz.prog ok c dt Q ⟨Frame.enter Tz.prog 13 #[.agg #[now,shift,.slice ao n cp,.slice bo m dp]] .normal,r0::cs,V⟩:=by
 replace rT:Hid _:=@rT;replace bh:Hid _:=bh;replace EP:Hid _:=EP;replace KY:Hid _:=KY;replace OD:Hid _:=OD;replace H_:Hid _:=@H_;refine aF.en Tz.func13 rfl Tryz.ntmps13 H0 ?_;refine aF.ck E Ag [_] _ λK R τ0 uN hK hR=>?_
 obtain⟨W1,e1,k2,b1,-⟩:=cI (re V τ0 uN) now shift ao n cp bo m dp;obtain⟨W2,e2,k4,b2,-⟩:=cI W1 0 0 none 0 0 none 0 0;have bW:=Bl.pu (b1.trans (b2.mono b1.size));simp only[aP];go_wp2;refine hK.out _ _ ?_;have p2:=k2.same (b2.block _ k2.lt);have o4:V.heap.size<W1:=k2.lt;clear hK hR K R k2 b1 b2 e1 e2;refine aF.seq E Ag (aF.rg E Ag (aF.oc E Ag 0 3 λK τ d hK=>?_));obtain⟨y0,y1,y2,y3,y4⟩:=(show am (re W2 τ d) _ _ _ _ _ from p2).cells;simp only[List.drop_zero,List.take_succ_cons,List.take_zero];go_wp2;refine hK.out _ _ (aF.un ?_);clear hK K y0 y1 y2 y3 y4;refine aF.fX E (i:=3) rfl rfl xG (λw=>Ia) (uE E xG BZ VL Ag (.inr ⟨rfl,rfl,rfl⟩) SP (λW hW=>EP.out W (bW.trans hW bW.size)) xI (λh W r cs hr hW=>rT.out h hr (bW.trans hW bW.size)) DP (λW hW=>KY.out W (bW.trans hW bW.size)) ?_);rintro y cd W4 b4 hy;rw[dO rfl];obtain⟨a0,a1,s2,l2,c2,s3,l3,c3,rfl⟩:=hy.is xI DP;have l2':=k4.lt;have k4:=k4.same (b4.block _ l2');have p2:=p2.same (b4.block _ p2.lt);have z0:=bW.size;have z4:=b4.size;have bV:=bW.trans b4 z0;refine aF.oc E Ag 4 6 λK τ' d' hK=>?_
 simp only[List.drop_succ_cons,List.drop_zero,List.take_succ_cons,List.take_zero,Act.put];go_wp2;refine hK.out _ _ (aF.regionEnd E Ag ?_);clear hK K;obtain⟨W5,e5,k5,b5,-⟩:=cI (re W4 τ' d') a0 a1 s2 l2 c2 s3 l3 c3;rw[e5];clear e5;have l4:=k4.lt;have k4:=k4.same (b5.block _ l4);have p2:=p2.same (b5.block _ p2.lt);have hy:=hy.to xI DP (ack _) λk _ hk=>b5.block k hk
 have z5:W4.heap.size<=W5:=b5.size;replace bV:Bl V V W5:=⟨ab,λk hk=>(b5.block k (by show k<W4.heap.size;omega)).trans (bV.block k hk)⟩;by_cases Iu:cd=0
 .subst Iu;have U':bb=true:=by
   rcases hy with⟨_,_,h⟩|⟨h,_⟩
   .cases h
   .exact h
  replace U':Hid _:=U';refine aF.ck E Ag [_,_] _ λK R τ d hK hR=>?_
  obtain⟨y0,y1,y2,y3,y4⟩:=(show am (re W5 τ d) _ _ _ _ _ from k5).cells;obtain⟨x0,x1,x2,x3,x4⟩:=(show am (re W5 τ d) _ _ _ _ _ from p2).cells;have q4:am (re W5 τ d) _ _ _ _ _:=k4;have q5:am (re W5 τ d) _ _ _ _ _:=k5;have q2:am (re W5 τ d) _ _ _ _ _:=p2;have n5:(re W4 τ' d').heap.size≠W1.heap.size:=by show W4.heap.size≠_;omega
  have n2:(re V τ0 uN).heap.size≠W1.heap.size:=by show V.heap.size≠_;omega
  have H1:=OD.out U'.out (re W5 τ d).drew ⟨bV.size,bV.block⟩;simp only[aP];go_wp2;go_region_held3 (λw'=>(w'.cell? ⟨(re W4 τ' d').heap.size,0,none⟩=some (.int .i64 a0)/\w'.cell? ⟨(re W4 τ' d').heap.size,1,none⟩=some (.int .i64 a1)/\w'.cell? ⟨(re W4 τ' d').heap.size,2,none⟩=some (.slice s2 l2 c2)/\w'.cell? ⟨(re W4 τ' d').heap.size,3,none⟩=some (.slice s3 l3 c3))/\w'.cell? ⟨(re V τ0 uN).heap.size,0,none⟩=some (.int .i64 now)/\w'.cell? ⟨(re V τ0 uN).heap.size,1,none⟩=some (.int .i64 shift)/\w'.cell? ⟨(re V τ0 uN).heap.size,2,none⟩=some (.slice ao n cp)/\w'.cell? ⟨(re V τ0 uN).heap.size,3,none⟩=some (.slice bo m dp)) (go_keep)
   (first
    |(go_at_call 47;refine H1.mono ?_;clear H1;rintro e w6 ⟨⟨s,l,k,rfl,hs⟩,b6⟩;have j4:=q4.same (b6.block _ q4.lt);obtain⟨r0,r1,r2,r3,r4⟩:=j4.cells;have j5:=q5.same (b6.block _ q5.lt);have j2:=q2.same (b6.block _ q2.lt);obtain⟨u0,u1,u2,u3,u4⟩:=j5.cells;obtain⟨t0,t1,t2,t3,t4⟩:=j2.cells;obtain⟨W8,e8,k8,-,z8,o8⟩:=bT j4 (aca 0 _) (acp _) a0 a1 s2 l2 c2 s3 l3 c3;replace z8:Hid _:=z8;obtain⟨v0,v1,v2,v3,v4⟩:=(j5.same (o8 _ n5)).cells;obtain⟨g0,g1,g2,g3,g4⟩:=(j2.same (o8 _ n2)).cells))
  rename_i hh;clear hh;have z8:W8.heap.size=w6.heap.size:=z8.out;have z6:W5.heap.size<=w6:=b6.size;have zV:=bV.size;refine hK.out _ _ (aF.ret E Ag (aF.lv E jR Tz.func13 (λτ d=>zk rfl rfl rfl rfl (show am (re W8 τ d) _ _ _ _ _ from k8)) (bh.out _ _ _ _ _ _ ⟨ab,λk hk=>(o8 k ab).trans ((b6.block k (by show k<W5.heap.size;omega)).trans (bV.block k hk))⟩ (hy.to xI DP z0 λk g1 g2=>(o8 k ab).trans (b6.block k g2)) (.inl ⟨rfl,H_.out hs (by show V.heap.size<=W5.heap.size;omega) λk g1 g2=>o8 k (by have g1:W5.heap.size<=k:=g1;omega)⟩))))
 .refine aF.ck E Ag [_] _ λK R τ d hK hR=>?_
  obtain⟨y0,y1,y2,y3,y4⟩:=(show am (re W5 τ d) _ _ _ _ _ from k5).cells;obtain⟨x0,x1,x2,x3,x4⟩:=(show am (re W5 τ d) _ _ _ _ _ from k4).cells;obtain⟨W8,e8,k8,-,z8,o8⟩:=bT (show am (re W5 τ d) _ _ _ _ _ from k4) (aca 0 _) (acp _) a0 a1 s2 l2 c2 s3 l3 c3;replace z8:Hid _:=z8;simp only[aP];go_wp2;have z8:W8.heap.size=W5.heap.size:=z8.out;have zV:=bV.size;exact hR.out _ _ λtodo=>aF.lv E jR Tz.func13 (λτ d=>zk rfl rfl rfl rfl (show am (re W8 τ d) _ _ _ _ _ from k8)) (bh.out _ _ _ _ _ _ ⟨ab,λk hk=>(o8 k ab).trans (bV.block k hk)⟩ (hy.to xI DP z0 λk g1 g2=>o8 k ab) (.inr ⟨Iu,rfl,rfl,rfl⟩))
end
end
