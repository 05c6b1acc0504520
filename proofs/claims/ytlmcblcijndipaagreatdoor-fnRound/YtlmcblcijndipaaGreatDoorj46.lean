import Derived.Test.YtlmcblcijndipaaGreatDoorj45
set_option linter.unusedVariables false
set_option maxHeartbeats 4000000
set_option maxRecDepth 10000
namespace Go.Proofs.YtlmcblcijndipaaGreatDoor
open RowKit
theorem J5.fits {m:Mv}{s:ByteArray}(h:J5 m s)(h8:s.size<=8):m.Fits:=by
 have g:=h.span;have k:=h.aD;have p:=h.prom;exact⟨by rw[h.name];unfold maxLen;omega,od ab,od ab,od ab,od ab⟩
theorem Fy (R:Nat)(p:Int)(b:Nat)(cs:Array Value)(w:World)(aC:Nat)(h0:aC<=R)(hr:Rd w R p)(hp:p<=1000000)(EV:b≠R)(hb:w.heap[b]?=some (.cells cs 9 (0,0)))(hn:ZW cs):
  Calls Tz.prog 36 #[.pointer R,.slice b 6 6] w λe w'=>(∃s:ByteArray,e=.returned (.string s)/\s.size<=8)/\Rd w' R (p+1)/\fp R w w'/\Below aC w w':=by
 have H1:=bg R p 6 w aC h0 hr ab ab ab;have hl:b<w:=(acm.1 hb).1;go_enter Tz.func36,Tryz.ntmps36
 go_wp2_with(go_at_call 34;refine H1.mono ?_;clear H1;rintro e w1 ⟨⟨z,rfl,l1,u1⟩,r1,t1,b1⟩;obtain⟨k,rfl⟩:∃k:Nat,z=(k:Int):=⟨z.toNat,ab⟩;obtain⟨s,hs,h8⟩:=hn k ab;have hc:w1.cell? ⟨b,k,none⟩=some (.string s):=(kG t1 hl EV).trans ((cell_of_row _ _ _ _ _ _ hb).trans hs))
 go_ret;exact⟨⟨s,rfl,h8⟩,r1,t1,b1⟩
section
variable {w w':World}{lo R:Nat}{now shift:Int}{ao:Option Addr}{n c:Nat}{f:Nat->Mv}{bo:Option Addr}{d:Nat}{t:Nat->Int}
theorem nV.but (h:nV w lo now shift ao n c f bo d t)(hb:fp R w w')(hR:R<lo):nV w' lo now shift ao n c f bo d t:=h.same λb bF cH=>hb.block b cH ab
end
def P5 (lo:Nat)(e:Ending)(w':World):Prop:=∃(now shift:Int) (ao:Option Addr) (n c:Nat) (f:Nat->Mv) (bo:Option Addr) (d:Nat) (t:Nat->Int),e=.returned (.agg #[now,shift,.slice ao n c,.slice bo n d])/\nV w' lo now shift ao n c f bo d t
structure Rs (R aC:Nat)(w:World)(N M:Nat)(q:Int)(now shift:Int)(ao:Option Addr)(n c:Nat)(f:Nat->Mv)(bo:Option Addr)(d:Nat)(t:Nat->Int)(W:World):Prop where
 rd:Rd W R q
 but:fp R w W
 below:Below aC w W
 bx:am W N now shift (.slice ao n c) (.slice bo n d)
 rs:am W M 0 0 () ()
 Ep:nV W (R+1) now shift ao n c f bo d t
section
variable {R aC N M:Nat}{w W W':World}{q q':Int}{now shift:Int}{ao:Option Addr}{n c:Nat}{f:Nat->Mv}{bo:Option Addr}{d:Nat}{t:Nat->Int}
theorem Rs.to (h:Rs R aC w N M q now shift ao n c f bo d t W)(hN:R<N)(hM:R<M)(r:Rd W' R q')(b:fp R W W')(l:Below aC W W'):Rs R aC w N M q' now shift ao n c f bo d t W':=
 ⟨r,h.but.trans b,h.below.trans l,h.bx.same (b.block _ h.bx.lt ab),h.rs.same (b.block _ h.rs.lt ab),h.Ep.but b ab⟩
theorem Rs.grow (h:Rs R aC w N M q now shift ao n c f bo d t W)(h0:aC<=R)(b:Below W W W'):Rs R aC w N M q now shift ao n c f bo d t W':=by
 have hr:=h.rd.lt;exact⟨h.rd.below b,h.but.trans (fp.of b),h.below.trans (b.mono ab),h.bx.same (b.block _ h.bx.lt),h.rs.same (b.block _ h.rs.lt),h.Ep.below b⟩
theorem Rs.put (h:Rs R aC w N M q now shift ao n c f bo d t W)(h0:aC<=R)(hR:R<w)(hN:w.heap.size<=N)(hM:N≠M){pt fU:Int}{uI:Option Addr}{n' c':Nat}{f':Nat->Mv}{uJ:Option Addr}{d':Nat}{t':Nat->Int}(hb:nV W (R+1) pt fU uI n' c' f' uJ d' t'):∃W',((((W.setCell N pt).setCell ⟨N,1,none⟩ fU).setCell ⟨N,2,none⟩ (.slice uI n' c')).setCell ⟨N,3,none⟩ (.slice uJ n' d'))=W'/\Rs R aC w N M q pt fU uI n' c' f' uJ d' t' W':=by
 obtain⟨W',e,k,cZ,hz,hn⟩:=bT h.bx h.below ab pt fU uI n' c' uJ n' d';refine⟨W',e,?_,⟨by rw[hz];exact h.but.size,λi hi hne=>(hn i ab).trans (h.but.block i hi hne)⟩,cZ,k,h.rs.same (hn _ ab),?_⟩
 .rw[<-e];exact(((h.rd.set ab _ _).set ab _ _).set ab _ _).set ab _ _
 .refine⟨hb.now,hb.sh,hb.tK,hb.ok,?_⟩;rcases hb.mem with hm|⟨b,b',h1,h2,o1,hd,o2⟩
  .exact .inl hm
  .refine .inr ⟨b,b',h1,h2,ay o1 (λB hB=>hn B (fy o1 h.bx bK hB)),hd,o2.same (hn b' ?_)⟩;intro e';obtain⟨_,⟨cs,hc⟩,_⟩:=o2;have hx:=h.bx;unfold am at hx;rw[<-e',hc]at hx;simp at hx
end
structure C2 (N:Nat)(sl:Value)(W:World):Prop where
 c2:W.cell? ⟨N,2,none⟩=some sl
def O5 (K:Act->World->Prop):Exit->Act->World->Prop
 |.normal=>K
 |_=>λ_ _=>False
theorem lV {P:Program}{Q:Exit->Act->World->Prop}{T:Code}:∀(ss:List Code) {a:Act} {w:World} (K:Act->World->Prop),aP P (O5 K) ss a w->(∀a w,K a w->T.wp P Q a w)->(chain ss T).wp P Q a w
 |[],a,w,K,h,hK=>hK a w h
 |s::ss,a,w,K,h,hK=>by
  refine wp_seq (Code.wp_mono (λe a' w' q=>?_) h);cases e with
  |normal=>exact lV ss K q hK
  |_=>exact q.elim
theorem nV.off {w w':World}{lo:Nat}{now shift:Int}{ao:Option Addr}{n c:Nat}{f:Nat->Mv}{bo:Option Addr}{d:Nat}{t:Nat->Int}{Y:Nat}{x0 x1:Int}{v u:Value}(h:nV w lo now shift ao n c f bo d t)(hy:am w Y x0 x1 v u)(e:∀k,k≠Y->w'.heap[k]?=w.heap[k]?):nV w' lo now shift ao n c f bo d t:=by
 refine⟨h.now,h.sh,h.tK,h.ok,?_⟩;rcases h.mem with hm|⟨b,b',h1,h2,o1,hd,o2⟩
 .exact .inl hm
 .refine .inr ⟨b,b',h1,h2,ay o1 (λB hB=>e B (fy o1 hy bK hB)),hd,o2.same (e b' ?_)⟩;intro e';obtain⟨_,⟨cs,hc⟩,_⟩:=o2;unfold am at hy;rw[<-e',hc]at hy;simp at hy
theorem Rs.fin {R aC N M:Nat}{w W:World}{q:Int}{now shift:Int}{ao:Option Addr}{n c:Nat}{f:Nat->Mv}{bo:Option Addr}{d:Nat}{t:Nat->Int}(h:Rs R aC w N M q now shift ao n c f bo d t W)(h0:aC<=R)(hR:R<w.heap.size)(hM:w.heap.size<=M):∃W',((((W.setCell ⟨M,0,none⟩ (.int .i64 now)).setCell ⟨M,1,none⟩ (.int .i64 shift)).setCell ⟨M,2,none⟩ (.slice ao n c)).setCell ⟨M,3,none⟩ (.slice bo n d))=W'/\am W' M now shift (.slice ao n c) (.slice bo n d)/\nV W' (R+1) now shift ao n c f bo d t/\Rd W' R q/\fp R w W'/\Below aC w W':=by
 obtain⟨W',e,k,cZ,hz,hn⟩:=bT h.rs h.below ab now shift ao n c bo n d;refine⟨W',e,k,h.Ep.off h.rs hn,?_,⟨by rw[hz];exact h.but.size,λi hi hne=>(hn i ab).trans (h.but.block i hi hne)⟩,cZ⟩;rw[<-e];exact(((h.rd.set ab _ _).set ab _ _).set ab _ _).set ab _ _
theorem Ii (R:Nat)(p:Int)(now shift:Int)(ao:Option Addr)(n c:Nat)(f:Nat->Mv)(bo:Option Addr)(d:Nat)(t:Nat->Int)(w:World)(aC:Nat)(h0:aC<=R)(hr:Rd w R p)(hp:p<=600000)(hB:nV w (R+1) now shift ao n c f bo d t):
  Calls Tz.prog 112 #[.pointer (some ⟨R,0,none⟩),.agg #[.int .i64 now,.int .i64 shift,.slice ao n c,.slice bo n d]] w λe w'=>P5 (R+1) e w'/\zJ R p 20 aC w w':=by
 have hR:=hr.lt;have h6:=hB.tK;have vb:=hB.now;obtain⟨W0,iP⟩:∃W,W=(w.alloc (.cells #[.int .i64 now,.int .i64 shift,.slice ao n c,.slice bo n d] 29)).alloc (.cells #[.int .i64 0,.int .i64 0,.slice none 0 0,.slice none 0 0] 29):=⟨_,rfl⟩;have b0:Below w.heap.size w W0:=by rw[iP];exact((aca _ w).alloc (ack _) _).alloc aH _
 have hS:Rs R aC w w.heap.size (w.heap.size+1) p now shift ao n c f bo d t W0:=⟨hr.below b0,fp.of b0,b0.mono ab,by rw[iP];exact(acb _ _ _ aH).trans (heap_alloc_new _ _),by rw[iP];exact di _ _ _,hB.below b0⟩;have gI:W0.heap.size=w.heap.size+1+1:=by rw[iP];simp
 have NO:=yY W0;rw[gI,iP]at NO;go_enter Tz.func112,Tryz.ntmps112
 refine lV [_,_,_] (λa' w'=>∃(s:ByteArray) (q:Int),p<=q/\q<=p+3/\Rs R aC w w.heap.size (w.heap.size+1) q now shift ao n c f bo d t w'/\gd a' (rW 92 [(0,.pointer (some ⟨R,0,none⟩)),(3,.pointer (some ⟨w.heap.size,0,none⟩)),(4,.pointer (some ⟨w.heap.size+1,0,none⟩)),(5,.string s)])) ?_ ?_
 .simp only[aP];by_cases hn:n=0;focus
   subst hn;go_wp2_with(first
    |(go_at_call 37;refine NO.mono ?_;clear NO;rintro e w1 ⟨rfl,⟨cs,hcs,WV⟩,b1⟩;have b_:Below W0.heap.size W0 w1:=(by rw[gI,iP];exact b1);have hS:=hS.grow h0 b_;have P8:=Fy R p (w.heap.size+1+1) cs w1 aC h0 hS.rd ab ab hcs WV)
    |(go_at_call 36;refine P8.mono ?_;clear P8;rintro e w2 ⟨⟨s,rfl,h8⟩,r2,t2,b2⟩;have hS:=hS.to ab ab r2 t2 b2;obtain⟨y0,y1,y2,y3,y4⟩:=hS.bx.cells))
   exact⟨s,_,ab,ab,hS,rfl,rfl⟩
  have Cg:(0:Int)<n:=ab;obtain⟨b,rfl,bw,aq⟩:=hB.A0.pos ab;go_wp2_with(first
   |(go_at_call 37;refine NO.mono ?_;clear NO;rintro e w1 ⟨rfl,⟨cs,hcs,WV⟩,b1⟩;have b_:Below W0.heap.size W0 w1:=(by rw[gI,iP];exact b1);have hS:=hS.grow h0 b_;have P8:=Fy R p (w.heap.size+1+1) cs w1 aC h0 hS.rd ab ab hcs WV)
   |(go_at_call 36;refine P8.mono ?_;clear P8;rintro e w2 ⟨⟨s,rfl,h8⟩,r2,t2,b2⟩;have hS:=hS.to ab ab r2 t2 b2;obtain⟨y0,y1,y2,y3,y4⟩:=hS.bx.cells;have HP3:=bg R (p+1) 3 w2 aC h0 hS.rd ab ab ab)
   |(go_at_call 34;refine HP3.mono ?_;clear HP3;rintro e w3 ⟨⟨z3,rfl,l3,u3⟩,r3,t3,b3⟩;have hS:=hS.to ab ab r3 t3 b3;obtain⟨y0,y1,y2,y3,y4⟩:=hS.bx.cells))
  rotate_left
  .exact⟨s,_,ab,ab,hS,rfl,rfl⟩
  have hS:=hS.grow h0 (aca _ _).drew;obtain⟨y0,y1,y2,y3,y4⟩:=hS.bx.cells;have HPN:=bg R (p+1+1) n w3.drew aC h0 hS.rd ab ab ab;have n1:w.heap.size≠R:=ab;refine wp_region_held_drew (S:=C2 w.heap.size (.slice (some ⟨b,0,none⟩) n c)) bR ⟨y2⟩ (λhHeld=>?_);refine aS 0 (.pointer (some ⟨w.heap.size,2,none⟩)) 19 rfl DA hHeld ?_;refine aS 1 (.slice (some ⟨b,0,none⟩) n c) 20 rfl DA hHeld ?_;refine aS 2 (.pointer (some ⟨R,0,none⟩)) 21 rfl DA hHeld ?_;refine aS 3 (.pointer (some ⟨w.heap.size,2,none⟩)) 22 rfl DA hHeld ?_;refine aS 4 (.slice (some ⟨b,0,none⟩) n c) 23 rfl DA hHeld ?_;refine aS 5 (.int .i64 n) 24 rfl DA hHeld ?_;simp only[Act.put,List.setIfInBounds_toArray,List.set_cons_zero,List.set_cons_succ];refine jE 6 rfl (λK hK=>?_);go_wp2_with(go_at_call 34;refine HPN.mono ?_;clear HPN;rintro e w4 ⟨⟨z4,rfl,l4,u4⟩,r4,t4,b4⟩;obtain⟨k,rfl⟩:∃k:Nat,z4=(k:Int):=⟨z4.toNat,ab⟩;have hS:=hS.to ab ab r4 t4 b4;obtain⟨y0,y1,y2,y3,y4⟩:=hS.bx.cells;obtain⟨bq,eq1,lq,rq⟩:=hS.Ep.A0.pos ab;obtain rfl:b=bq:=(by cases eq1;rfl);have c0:=(rq k ab).c0;simp only[Nat.zero_add]at c0;have qo:(k:Int)<n:=ab)
  refine hK.out _ _ ⟨y2⟩ (λhHeld=>?_);clear hK K;refine aS 7 (.pointer (some ⟨b,k*6,none⟩)) 26 rfl DA hHeld ?_;refine aS 8 (.pointer (some ⟨b,k*6,none⟩)) 27 rfl DA hHeld ?_;simp only[Act.put,List.setIfInBounds_toArray,List.set_cons_zero,List.set_cons_succ];refine jE 9 rfl (λK hK=>?_);go_simp
  refine hK.out _ _ ⟨y2⟩ (λhHeld=>?_);clear hK K;refine jE 10 rfl (λK hK=>?_);go_simp
  refine hK.out _ _ ⟨y2⟩ (λhHeld=>?_);clear hK K;refine wpAnyH_done bR ?_ _;clear hHeld;go_wp2;exact⟨_,_,ab,ab,hS,rfl,rfl⟩
 clear hS NO gI b0 iP hr;rintro a' w1 ⟨s,q,E4,E5,hS,ew⟩;obtain⟨u,rfl⟩:=ew.open;clear ew;refine lV [_] (λa' w'=>∃(nw sf:Int) (xv:Option Addr) (n2 c2:Nat) (f2:Nat->Mv) (xy:Option Addr) (d2:Nat) (t2:Nat->Int) (q:Int),p<=q/\q<=p+20/\Rs R aC w w.heap.size (w.heap.size+1) q nw sf xv n2 c2 f2 xy d2 t2 w'/\gd a' (rW 92 [(3,.pointer (some ⟨w.heap.size,0,none⟩)),(4,.pointer (some ⟨w.heap.size+1,0,none⟩))])) ?_ ?_
 .simp only[aP];refine lV [_] (λa' w'=>∃z:Int,Rs R aC w w.heap.size (w.heap.size+1) (q+1) now shift ao n c f bo d t w'/\gd a' (rW 92 [(0,.pointer (some ⟨R,0,none⟩)),(3,.pointer (some ⟨w.heap.size,0,none⟩)),(4,.pointer (some ⟨w.heap.size+1,0,none⟩)),(5,.string s),(30,.int .i64 z)])) ?_ ?_
  .simp only[aP];have H9:=bg R q 9 w1 aC h0 hS.rd ab ab ab;go_wp2_with(go_at_call 34;refine H9.mono ?_;clear H9;rintro e w2 ⟨⟨z,rfl,lz,uz⟩,r2,t2,b2⟩;have hS:=hS.to ab ab r2 t2 b2)
   exact⟨z,hS,rfl,rfl⟩
  clear hS u;rintro a' w2 ⟨z,hS,ew⟩;obtain⟨u,rfl⟩:=ew.open;clear ew w1;refine wp_block ?_;refine lV [_] (λa' w'=>w'=w2/\∃bb:Bool,gd a' (rW 92 [(0,.pointer (some ⟨R,0,none⟩)),(3,.pointer (some ⟨w.heap.size,0,none⟩)),(4,.pointer (some ⟨w.heap.size+1,0,none⟩)),(5,.string s),(30,.int .i64 z),(37,.bool bb)])) ?_ ?_
  .simp only[aP];go_wp2;all_goals first|exact⟨rfl,_,rfl,rfl⟩|exact⟨rfl,true,rfl,rfl⟩|exact⟨rfl,false,rfl,rfl⟩
  rintro a' w' ⟨rfl,bb,ew⟩;clear u;obtain⟨u,rfl⟩:=ew.open;clear ew;cases bb with
  |true=>
   refine wp_cond_true rfl ?_;have hS:=hS.grow h0 (aca _ _).drew;obtain⟨y0,y1,y2,y3,y4⟩:=hS.bx.cells;have NO:=yY w'.drew;have lz:=hS.rd.lt;go_region_with
    (first
    |(go_at_call 37;refine NO.mono ?_;clear NO;rintro e w3 ⟨rfl,⟨cs,hcs,WV⟩,b3⟩;have pO:=hS.grow h0 b3;obtain⟨y0,y1,y2,y3,y4⟩:=pO.bx.cells;have P8:=Fy R (q+1) _ cs w3 aC h0 pO.rd ab ab hcs WV)
    |(go_at_call 36;refine P8.mono ?_;clear P8;rintro e w4 ⟨⟨s4,rfl,h84⟩,r4,t4,b4⟩;have eu:=pO.to ab ab r4 t4 b4;obtain⟨y0,y1,y2,y3,y4⟩:=eu.bx.cells;have HMV:=Fo R (q+1+1) s4 now w4 aC h0 eu.rd ab vb.1 vb.2)
    |(go_at_call 35;refine HMV.mono ?_;clear HMV;rintro e w5 ⟨⟨mm,rfl,hdr⟩,⟨q5,hq5,hq6,r5⟩,t5,b5⟩;have fM:=eu.to ab ab r5 t5 b5;obtain⟨y0,y1,y2,y3,y4⟩:=fM.bx.cells;have HAD:=NY now shift ao n c f bo d t mm w5 fM.Ep (hdr.fits h84))
    |(go_at_call 9;refine HAD.mono ?_;clear HAD;rintro e w6 ⟨⟨nw,sf,xv,n2,c2,f2,xy,d2,t2,k2,rfl,qL⟩,b6⟩;have mT:=fM.grow h0 b6;obtain⟨y0,y1,y2,y3,y4⟩:=mT.bx.cells;obtain⟨W,eW,vW⟩:=mT.put h0 hR (ack _) ab (qL.mono (by have:=fM.rd.lt;omega))))
   all_goals
    go_wp2;exact⟨nw,sf,xv,n2,c2,f2,xy,d2,t2,_,ab,ab,vW,rfl,rfl⟩
  |false=>
   refine wp_cond_false rfl ?_;obtain⟨y0,y1,y2,y3,y4⟩:=hS.bx.cells;go_wp2_with(first
    |(go_at_call 11;refine(KG now shift ao n c f bo d t s _ hS.Ep).mono ?_;rintro e w6 ⟨⟨nw,sf,xv,n2,c2,f2,xy,d2,t2,k2,rfl,qL⟩,b6⟩;have mT:=hS.grow h0 b6;obtain⟨y0,y1,y2,y3,y4⟩:=mT.bx.cells;obtain⟨W,eW,vW⟩:=mT.put h0 hR (ack _) ab (qL.mono (by have:=hS.rd.lt;omega)))
    |(go_at_call 14;refine(DD now shift ao n c f bo d t _ hS.Ep).mono ?_;rintro e w6 ⟨⟨nw,sf,xv,n2,c2,f2,xy,d2,t2,sa,sn,sc,k2,rfl,qL⟩,b6⟩;have mT:=hS.grow h0 b6;obtain⟨y0,y1,y2,y3,y4⟩:=mT.bx.cells;obtain⟨W,eW,vW⟩:=mT.put h0 hR (ack _) ab (qL.mono (by have:=hS.rd.lt;omega))))
   all_goals first
    |exact⟨nw,sf,xv,n2,c2,f2,xy,d2,t2,_,ab,ab,vW,rfl,rfl⟩
    |skip
   go_loopw [5,6] (λsv x W=>∃(k:Nat) (s:ByteArray),sv=.string s/\x=.int .i64 k/\k<=n/\Rs R aC w w.heap.size (w.heap.size+1) (q+1) now shift ao n c f bo d t W) (λ_ x _=>n-(intOf x).toNat)
   case atStart=>exact⟨0,s,rfl,rfl,acp _,hS⟩
   case round=>
    clear hS y0 y1 y2 y3 y4;obtain⟨k,s,rfl,rfl,hk,hS⟩:=hrel;obtain⟨y0,y1,y2,y3,y4⟩:=hS.bx.cells;by_cases aI:k<n
    .have dG:(k:Int)<n:=by omega
     obtain⟨b,rfl,lb,rb⟩:=hS.Ep.A0.pos ab;obtain⟨b',rfl,lb',rb'⟩:=hS.Ep.Jo.pos ab;have tk:=rb' k aI;simp only[Nat.zero_add]at tk;have hne:=aE wr;have x0:=λx:aj wr=>x.cell y0
     have x3:=λx:aj wr=>x.cell y3
     have y6:=λx:aj wr=>x.cell tk
     cases pa:(t k==now)with
     |true=>
      go_wp2;refine ah ?_;repeat(go_big_quiet_step (fail))
      refine wpQuiet_nil (ak ?_);intro w3 gZ;have c0:=(rb.below gZ lb k aI).c0;simp only[Nat.zero_add]at c0;have pO:=hS.grow h0 gZ;have lb3:=acl lb gZ.size;clear hne x0 x3 y6 y0 y1 y2 y3 y4;obtain⟨y0,y1,y2,y3,y4⟩:=pO.bx.cells;go_wp2;go_roundw
      case rel=>exact⟨k+1,_,rfl,by go_num,ab,pO⟩
      case measure=>simp[intOf];omega
     |false=>
      go_wp2;refine ah ?_;repeat(go_big_quiet_step (fail))
      refine wpQuiet_nil (ak ?_);intro w3 gZ;have pO:=hS.grow h0 gZ;clear hne x0 x3 y6 y0 y1 y2 y3 y4;go_wp2;go_roundw
      case rel=>exact⟨k+1,s,rfl,by go_num,ab,pO⟩
      case measure=>simp[intOf];omega
    .have dG:¬(k:Int)<n:=by omega
     go_wp2_with(go_at_call 25;refine(I7 now shift ao n c f bo d t s _ hS.Ep).mono ?_;rintro e w6 ⟨⟨nw,sf,xv,n2,c2,f2,xy,d2,t2,k2,rfl,qL⟩,b6⟩;have mT:=hS.grow h0 b6;obtain⟨y0,y1,y2,y3,y4⟩:=mT.bx.cells;obtain⟨W,eW,vW⟩:=mT.put h0 hR (ack _) ab (qL.mono (by have:=hS.rd.lt;omega)))
     all_goals try(exfalso;omega)
     exact⟨nw,sf,xv,n2,c2,f2,xy,d2,t2,_,ab,ab,vW,rfl,rfl⟩
 rintro a' w2 ⟨nw,sf,xv,n2,c2,f2,xy,d2,t2,q2,o0,Te,mu,ew⟩;clear u;obtain⟨u,rfl⟩:=ew.open;clear ew hS;obtain⟨y0,y1,y2,y3,y4⟩:=mu.bx.cells;obtain⟨r0,r1,r2,r3,r4⟩:=mu.rs.cells;go_wp2;obtain⟨W5,e5,k5,K5,E6,EZ,EX⟩:=mu.fin h0 hR ab;rw[e5];obtain⟨q0,q1,q2,q3,q4⟩:=k5.cells;exact bodyPost_ret (v:=.agg #[.int .i64 nw,.int .i64 sf,.slice xv n2 c2,.slice xy n2 d2]) (by simp[results,Tryz.f112,go_sem,q0,q1,q2,q3]) rfl ⟨⟨nw,sf,xv,n2,c2,f2,xy,d2,t2,rfl,K5⟩,⟨_,o0,Te,E6⟩,EZ,EX⟩
theorem y7 (w:World)(lo:Nat){now shift:Int}(h0:0<=now/\now<=10000)(h1:0<=shift/\shift<=6):nV w lo now shift none 0 0 (λ_=>rH) none 0 (λ_=>0):=⟨h0,h1,ab,λi hi=>absurd hi (aco _),.inl ⟨rfl,rfl,rfl,rfl,rfl⟩⟩
theorem Rs.now {R aC N M:Nat}{w W:World}{q:Int}{now shift:Int}{f:Nat->Mv}{t:Nat->Int}(h:Rs R aC w N M q now shift none 0 0 f none 0 t W)(h0:aC<=R)(hR:R<w.heap.size)(hN:w.heap.size<=N)(hM:N≠M){x:Int}(hx:0<=x/\x<=10000):∃W',W.setCell ⟨N,0,none⟩ (.int .i64 x)=W'/\Rs R aC w N M q x shift none 0 0 (λ_=>rH) none 0 (λ_=>0) W':=by
 refine⟨_,rfl,h.rd.set ab _ _,⟨by simpa using h.but.size,λi hi hne=>(acd _ _ _ _ cC).trans (h.but.block i hi hne)⟩,h.below.setCell cC _,?_,h.rs.same (acd _ _ _ _ (by simpa usingλe=>hM e.symm)),y7 _ _ hx h.Ep.sh⟩;have:=heap_setCell_same W N 0 _ _ (.int .i64 x) h.bx;simpa[am]using this
theorem HH (R:Nat)(p:Int)(w:World)(aC:Nat)(h0:aC<=R)(hr:Rd w R p)(hp:p<=500000):
  Calls Tz.prog 81 #[.pointer (some ⟨R,0,none⟩)] w λe w'=>P5 (R+1) e w'/\zJ R p 400 aC w w':=by
 have hR:=hr.lt;obtain⟨W0,e0,k0,b0,z0⟩:=cI w 0 0 none 0 0 none 0 0;have jR:=hr.below b0;go_enter Tz.func81,Tryz.ntmps81
 refine lV [_,_,_] (λa' w'=>∃(nw sf q:Int) (N:Nat),p<=q/\q<=p+4/\w.heap.size<N/\Rs R aC w N w.heap.size q nw sf none 0 0 (λ_=>rH) none 0 (λ_=>0) w'/\gd a' (rW 42 [(0,.pointer (some ⟨R,0,none⟩)),(2,.pointer (some ⟨w.heap.size,0,none⟩)),(3,.pointer (some ⟨N,0,none⟩))])) ?_ ?_
 .simp only[aP];have H1:=bg R p 3 W0 aC h0 jR ab ab ab;go_wp2_with(first
   |(go_at_call 34;refine H1.mono ?_;clear H1;rintro e w1 ⟨⟨z1,rfl,l1,u1⟩,r1,t1,b1⟩;have H2:=bg R (p+1) 4 w1 aC h0 r1 ab ab ab)
   |(go_at_call 34;refine H2.mono ?_;clear H2;rintro e w2 ⟨⟨z2,rfl,l2,u2⟩,r2,t2,b2⟩;obtain⟨W3,e3,k3,b3,z3⟩:=cI w2 z1 z2 none 0 0 none 0 0;have e3h:Hid (w2.alloc (.cells #[.int .i64 z1,.int .i64 z2,.slice none 0 0,.slice none 0 0] 29)=W3):=e3;clear e3;have T02:=((fp.of b0).trans t1).trans t2;have fq:=t1.size;have iF:=t2.size;have pO:Rs R aC w w2.heap.size w.heap.size (p+1+1) z1 z2 none 0 0 (λ_=>rH) none 0 (λ_=>0) W3:=⟨r2.below b3,T02.trans (fp.of b3),(((b0.mono ab).trans b1).trans b2).trans (b3.mono ab),k3,k0.same ((b3.block _ ab).trans ((t2.block _ ab ab).trans (t1.block _ ab ab))),y7 _ _ ab ab⟩;have H3:=bg R (p+1+1) 30 W3 aC h0 pO.rd ab ab ab;rw[<-e3h.out]at H3)
   |(go_at_call 34;refine H3.mono ?_;clear H3;rintro e w4 ⟨⟨z4,rfl,l4,u4⟩,r4,t4,b4⟩;rw[e3h.out]at t4 b4;have eu:=pO.to ab ab r4 t4 b4;obtain⟨y0,y1,y2,y3,y4⟩:=eu.bx.cells;have H5:=bg R (p+1+1+1) 40 w4 aC h0 eu.rd ab ab ab)
   |(go_at_call 34;refine H5.mono ?_;clear H5;rintro e w5 ⟨⟨z5,rfl,l5,u5⟩,r5,t5,b5⟩;have fM:=eu.to ab ab r5 t5 b5;obtain⟨y0,y1,y2,y3,y4⟩:=fM.bx.cells;have Ao:IntKind.i64.wrap (10000-z5)=10000-z5:=gH;obtain⟨W6,e6,mT⟩:=fM.now h0 hR ab ab (x:=10000-z5) ab))
  all_goals first
   |exact⟨_,_,_,_,ab,ab,ab,mT,rfl,rfl⟩
   |exact⟨_,_,_,_,ab,ab,ab,eu,rfl,rfl⟩
 rintro a' w1 ⟨nw0,sf0,q0,N,E4,E5,hN,hS,ew⟩;obtain⟨u,rfl⟩:=ew.open;clear ew;refine lV [_] (λa' w'=>∃(nw sf:Int) (xv:Option Addr) (n2 c2:Nat) (f2:Nat->Mv) (xy:Option Addr) (d2:Nat) (t2:Nat->Int) (q:Int),p<=q/\q<=p+400/\Rs R aC w N w.heap.size q nw sf xv n2 c2 f2 xy d2 t2 w'/\gd a' (rW 42 [(2,.pointer (some ⟨w.heap.size,0,none⟩)),(3,.pointer (some ⟨N,0,none⟩))])) ?_ ?_
 .simp only[aP];have H1:=bg R q0 14 w1 aC h0 hS.rd ab ab ab;go_wp2_with(go_at_call 34;refine H1.mono ?_;clear H1;rintro e w2 ⟨⟨z,rfl,lz,uz⟩,r2,t2,b2⟩;obtain⟨k,rfl⟩:∃k:Nat,z=(k:Int):=⟨z.toNat,ab⟩)
  have mu:=hS.to ab ab r2 t2 b2;clear hS;go_loopw [4] (λx W=>∃(k:Nat) (nw sf:Int) (xv:Option Addr) (n2 c2:Nat) (f2:Nat->Mv) (xy:Option Addr) (d2:Nat) (t2:Nat->Int) (q:Int),x=.int .i64 k/\k<=13/\p<=q/\q+22*k<=p+300/\Rs R aC w N w.heap.size q nw sf xv n2 c2 f2 xy d2 t2 W) (λx _=>(intOf x).toNat)
  case atStart=>exact⟨k,_,_,_,_,_,_,_,_,_,_,rfl,ab,ab,ab,mu⟩
  case round=>
   clear mu;obtain⟨k,nw,sf,xv,n2,c2,f2,xy,d2,t2,q,rfl,hk,o0,Te,hS⟩:=hrel;obtain⟨y0,y1,y2,y3,y4⟩:=hS.bx.cells;have h6:=hS.Ep.tK;by_cases uZ:0<k
   .have nZ:(0:Int)<k:=by omega
    have Nv:IntKind.i64.wrap ((k:Int)-1)=(k:Int)-1:=gH;have HE:=λq' (h1:q<=q') (h2:q'<=q+1) W (hS':Rs R aC w N w.heap.size q' nw sf xv n2 c2 f2 xy d2 t2 W)=>Ii R q' nw sf xv n2 c2 f2 xy d2 t2 W aC h0 hS'.rd ab hS'.Ep
    by_cases h4:4<n2;focus
     have h4':(4:Int)<n2:=ab;have H6:=bg R q 6 wr aC h0 hS.rd ab ab ab;go_wp2_with(first
      |(go_at_call 34;refine H6.mono ?_;clear H6;rintro e w3 ⟨⟨z3,rfl,l3,u3⟩,r3,t3,b3⟩;have pO:=hS.to ab ab r3 t3 b3;obtain⟨y0,y1,y2,y3,y4⟩:=pO.bx.cells)
      |(go_at_call 14;refine(DD nw sf xv n2 c2 f2 xy d2 t2 _ pO.Ep).mono ?_;rintro e w6 ⟨⟨nw3,sf3,ao3,n3,c3,f3,YE,d3,t3',sa,sn,sc,k3,rfl,qL⟩,b6⟩;have mT:=pO.grow h0 b6;obtain⟨y0,y1,y2,y3,y4⟩:=mT.bx.cells;obtain⟨W,eW,vW⟩:=mT.put h0 hR ab ab (qL.mono (by have:=pO.rd.lt;omega)))
      |(go_at_call 112;refine(HE (q+1) ab ab _ pO).mono ?_;rintro e w6 ⟨⟨nw3,sf3,ao3,n3,c3,f3,YE,d3,t3',rfl,qL⟩,⟨q6,hq6,hq7,r6⟩,t6,b6⟩;have mT:=pO.to ab ab r6 t6 b6;obtain⟨y0,y1,y2,y3,y4⟩:=mT.bx.cells;obtain⟨W,eW,vW⟩:=mT.put h0 hR ab ab qL))
    rotate_right;focus
     have h4':¬(4:Int)<n2:=ab;go_wp2_with(go_at_call 112;refine(HE q ab ab _ hS).mono ?_;rintro e w6 ⟨⟨nw3,sf3,ao3,n3,c3,f3,YE,d3,t3',rfl,qL⟩,⟨q6,hq6,hq7,r6⟩,t6,b6⟩;have mT:=hS.to ab ab r6 t6 b6;obtain⟨y0,y1,y2,y3,y4⟩:=mT.bx.cells;obtain⟨W,eW,vW⟩:=mT.put h0 hR ab ab qL)
    all_goals try(exfalso;omega)
    all_goals
     go_roundw
     case rel=>exact⟨k-1,_,_,_,_,_,_,_,_,_,_,by first|(rw[Nv];congr 1;omega)|(congr 1;omega)|(simp;omega),ab,ab,ab,vW⟩
     case measure=>exact cf
   .have nZ:¬(0:Int)<k:=by omega
    go_wp2;all_goals try(exfalso;omega)
    exact⟨_,_,_,_,_,_,_,_,_,_,ab,ab,hS,rfl,rfl⟩
 rintro a' w2 ⟨nw,sf,xv,n2,c2,f2,xy,d2,t2,q2,o0,Te,mu,ew⟩;clear u hS;obtain⟨u,rfl⟩:=ew.open;clear ew;obtain⟨y0,y1,y2,y3,y4⟩:=mu.bx.cells;obtain⟨r0,r1,r2,r3,r4⟩:=mu.rs.cells;go_wp2;obtain⟨W5,e5,k5,K5,E6,EZ,EX⟩:=mu.fin h0 hR ab;rw[e5];obtain⟨q0',TP,q2',q3',q4'⟩:=k5.cells;exact bodyPost_ret (v:=.agg #[.int .i64 nw,.int .i64 sf,.slice xv n2 c2,.slice xy n2 d2]) (by simp[results,Tryz.f81,go_sem,q0',TP,q2',q3']) rfl ⟨⟨nw,sf,xv,n2,c2,f2,xy,d2,t2,rfl,K5⟩,⟨_,o0,Te,E6⟩,EZ,EX⟩
