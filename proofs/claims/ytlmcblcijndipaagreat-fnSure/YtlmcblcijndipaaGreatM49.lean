import Derived.Test.YtlmcblcijndipaaGreatM48
import Derived.Test.YtlmcblcijndipaaGreatM31
set_option linter.unusedVariables false
set_option maxHeartbeats 8000000
set_option maxRecDepth 10000
namespace Go.Proofs.YtlmcblcijndipaaGreat
open Go Go.RowKit
theorem vD {lo:Nat}(now shift:Int)(ao:Option Addr)(n c:Nat)(f:Nat->Mv)(bo:Option Addr)(d:Nat)(t:Nat->Int)(name:ByteArray)(w:World)(hB:iE w lo now shift ao n c f bo d t):
  Calls Tryz0.prog 150 #[.agg #[.int .i64 now,.int .i64 shift,.slice ao n c,.slice bo n d],.string name] w λe w'=>Ev w e w'/\Below w.heap.size w w':=by
 obtain⟨W0,hW0⟩:∃W,W=(w.alloc (.cells #[.int .i64 now,.int .i64 shift,.slice ao n c,.slice bo n d] 38)).alloc (.cells #[.int .i64 0,.int .i64 0,.slice none 0 0,.slice none 0 0] 38):=⟨_,rfl⟩;have b0:Below w.heap.size w W0:=by rw[hW0];exact((Below.refl _ w).alloc (Nat.le_refl _) _).alloc (by simp) _
 have bk0:ar W0 w.heap.size now shift (.slice ao n c) (.slice bo n d):=by rw[hW0];exact(Below.heap_alloc _ _ _ (by simp)).trans (heap_alloc_new _ _)
 have rs0:ar W0 (w.heap.size+1) 0 0 (.slice none 0 0) (.slice none 0 0):=by rw[hW0];exact be _ _ _
 have hz0:W0.heap.size=w.heap.size+2:=by rw[hW0];simp
 have HB:=(hB.below b0).book;have h6:=hB.six;have hnw:=hB.now;have hsh:=hB.sh;have hoks:=hB.ok;cases hb:bc now shift f n t n with
 |false=>
  rw[hb,hW0]at HB;go_enter Tryz0.func150,Tryz.ntmps150
  go_wp2_with(go_at_call 18;refine HB.mono ?_;clear HB;rintro e w1 ⟨rfl,b1⟩;rw[<-hW0]at b1;have r1:=rs0.same (b1.block _ rs0.lt);obtain⟨y0,y1,y2,y3,y4⟩:=r1.cells)
  obtain⟨W5,e5,k5,hb5,hz5,hn5⟩:=bg r1 (b0.trans (b1.mono b0.size)) (by omega) 0 0 none 0 0 none 0 0;rw[e5];obtain⟨q0,q1,q2,q3,q4⟩:=k5.cells;refine bodyPost_ret (v:=.tuple #[.agg #[.int .i64 0,.int .i64 0,.slice none 0 0,.slice none 0 0],.int .i64 1]) ?_ rfl ⟨⟨0,0,none,0,0,_,none,0,_,1,rfl,qI _ _⟩,hb5⟩;simp[results,Tryz.f150,go_sem,q0,q1,q2,q3]
 |true=>
  obtain⟨hm,-,hfit⟩:=dD hb;rw[hb,hW0]at HB;have HC1:=λW (hW:Below w.heap.size w W)=>cU now shift ao n c f bo n d t W (by omega) (by omega) (hB.below hW).srcM (hB.below hW).srcI
  have HA:=λW (hW:Below w.heap.size w W)=>oe now shift ao n c f bo n d name W h6 (hB.below hW).srcM
  have hgo:∀(P:Prop),(∀kc:Int,kc=3->(∀k,er f n name k->k=-1)->(∀W,Below w.heap.size w W->True)->P)->(∀(kc:Int) (J b:Nat),kc=3->J<n->(∀k,er f n name k->k=J)->ao=some ⟨b,0,none⟩->(∀W,Below w.heap.size w W->W.cell? ⟨b,J*6+1,none⟩=some (.bool false))->P)->(∀(J b b':Nat),J<n->(∀k,er f n name k->k=J)->ao=some ⟨b,0,none⟩->bo=some ⟨b',0,none⟩->(∀W,Below w.heap.size w W->W.cell? ⟨b,J*6+1,none⟩=some (.bool true))->(∀W,Below w.heap.size w W->W.cell? ⟨b',J,none⟩=some (.int .i64 (t J)))->(∀W,Below w.heap.size w W->Calls Tryz0.prog 41 #[.agg #[.int .i64 now,.int .i64 shift,.slice (some ⟨b,0,none⟩) n c,.slice (some ⟨b',0,none⟩) n d],.int .i64 J] W λe w'=>jr f n t J shift (bd f n t J) W e w'/\Below W.heap.size W w')->P)->P:=λP a1 a2 a3=>by
   rcases xE f n name with⟨J,hJ,hat,hJ2⟩|hat
   .obtain⟨b,e1,hbs,hrow⟩:=hB.srcM.pos (by omega);obtain⟨b',e2,hbs',hrow'⟩:=hB.srcI.pos (by omega);have HL:∀W,Below w.heap.size w W->W.cell? ⟨b,J*6+1,none⟩=some (.bool (f J).lands):=λW hW=>by
     have:=(hrow.below hW hbs J hJ).c1;rw[Nat.zero_add]at this;exact this
    cases hl:(f J).lands with
    |false=>rw[hl]at HL;exact a2 3 J b rfl hJ (λk hk=>hk.yes hJ hat hJ2) e1 HL
    |true=>
     rw[hl]at HL;refine a3 J b b' hJ (λk hk=>hk.yes hJ hat hJ2) e1 e2 HL (λW hW=>?_) (λW hW=>kY b n c b' d J f t now shift W hm hfit hJ (Nat.lt_of_lt_of_le hbs hW.size) (hrow.below hW hbs) (Nat.lt_of_lt_of_le hbs' hW.size) (hrow'.below hW hbs'));have:=hrow'.below hW hbs' J hJ;rw[Nat.zero_add]at this;exact this
   .exact a1 3 rfl (λk hk=>hk.no hat) (λ_ _=>trivial)
  clear hb;refine hgo _ (λkc hc AT HL=>?_) (λkc J b hc hJ AT e1 HL=>?_) (λJ b b' hJ AT e1 e2 HL HT HR=>?_);all_goals clear hgo
  rotate_left;focus
   subst e1
  rotate_left;focus
   subst e1 e2
  all_goals
   go_enter Tryz0.func150,Tryz.ntmps150
   go_wp2_with(first
    |(go_at_call 18;refine HB.mono ?_;clear HB;rintro e w1 ⟨rfl,b1⟩;rw[<-hW0]at b1;have B1:=b0.trans (b1.mono b0.size);have bk:=bk0.same (b1.block _ bk0.lt);have rs:=rs0.same (b1.block _ rs0.lt);obtain⟨y0,y1,y2,y3,y4⟩:=bk.cells)
    |(go_at_call 131;refine(HC1 _ B1).mono ?_;clear HC1;rintro e w2 ⟨⟨Bx,cx,Bi,ci,rfl,oM,oI⟩,b2⟩;have z2:=b2.size;have z1:=b1.size;have bk:=bk.same (b2.block _ (by omega));have rs:=rs.same (b2.block _ (by omega));obtain⟨W3,e3,k3,b3,z3⟩:=dN w2 now shift (some ⟨Bx,0,none⟩) n cx (some ⟨Bi,0,none⟩) n ci;have hA:Ad w now shift _ n c _ d (w.heap.size+1) w2.heap.size Bx cx Bi ci f t W3:=⟨(B1.trans (b2.mono B1.size)).trans (b3.mono (by omega)),bk.same (b3.block _ (by omega)),rs.same (b3.block _ (by omega)),by omega,k3,by omega,aU (ai oM (λB hB=>b3.block B (oM.lt B hB).2)) (by omega),aU (ai oI (λB hB=>b3.block B (oI.lt B hB).2)) (by omega)⟩;obtain⟨y0,y1,y2,y3,y4⟩:=hA.bk.cells;clear oM oI bk rs)
    |(go_at_call 152;refine(HA _ hA.below).mono ?_;clear HA;rintro e w5 ⟨⟨kk,rfl,hkk⟩,b5⟩;have z5:=b5.size;have hA:=hA.grow b5;obtain⟨y0,y1,y2,y3,y4⟩:=hA.bk.cells;obtain⟨x0,x1,x2,x3,x4⟩:=hA.x.cells;obtain⟨r0,r1,r2,r3,r4⟩:=hA.rs.cells;obtain rfl:=AT kk hkk;have c1:=HL _ hA.below))
   all_goals first|(exfalso;omega)|skip
   all_goals first
    |(obtain⟨W5,e5,k5,hb5,hz5,hn5⟩:=bg hA.rs hA.below (by omega) now shift (some ⟨Bx,0,none⟩) n cx (some ⟨Bi,0,none⟩) n ci;rw[e5];obtain⟨q0,q1,q2,q3,q4⟩:=k5.cells;exact bodyPost_ret (v:=.tuple #[.agg #[.int .i64 now,.int .i64 shift,.slice (some ⟨Bx,0,none⟩) n cx,.slice (some ⟨Bi,0,none⟩) n ci],.int .i64 kc]) (by simp[results,Tryz.f150,go_sem,q0,q1,q2,q3,hc]) rfl ⟨hA.ev hnw hsh h6 hoks hn5 kc,hb5⟩)
    |skip
  have hJ':(J:Int)<n:=by omega
  have tJ:=HT _ hA.below;have hne:=ax w5;have u0:=λx:af w5=>x.cell y0
  have u3:=λx:af w5=>x.cell y3
  have u5:=λx:af w5=>x.cell tJ
  refine ac (by kernel_rfl) (by kernel_rfl) ?_;repeat(go_big_quiet_step (fail))
  refine wpQuiet_nil (ag ?_);intro w6 b6;clear hne u0 u3 u5 tJ y0 y1 y2 y3 y4 x0 x1 x2 x3 x4 r0 r1 r2 r3 r4 c1;have hA:=hA.grow b6;obtain⟨y0,y1,y2,y3,y4⟩:=hA.bk.cells;obtain⟨x0,x1,x2,x3,x4⟩:=hA.x.cells;obtain⟨r0,r1,r2,r3,r4⟩:=hA.rs.cells;have z6:=b6.size;have HR:=HR _ hA.below;by_cases ht:t J=now;focus
   have hq:(t J !=now)=false:=by simp[ht]
   have htb:0<=t J/\t J<=10000:=by omega
   clear ht;rcases hR:bd f n t J with _|T;focus
    rw[hR]at HR;have HN:=HR;clear HR;obtain⟨kc,hc⟩:∃kc:Int,kc=5:=⟨_,rfl⟩
   rotate_left;focus
    have hle:t J+6<=(f J).late:=by
     by_cases h:t J+6<=(f J).late
     .exact h
     .rw[od h]at hR;cases hR
    have hlen:=dr f t J n;have hoF:∀i,i<(ah f t J n).length->(eR (ah f t J n) i).ok=true:=λi hi=>j0 hm hfit hJ hle hi
    rw[hR]at HR;have HS:=HR;clear HR;have HC3:=λB c b' c' W (h2:B<W.heap.size) (h3:aw W B 0 (ah f t J n).length (eR (ah f t J n))) (h4:b'<W.heap.size) (h5:ak W b' 0 (ah f t J n).length T)=>cU (t J) shift (some ⟨B,0,none⟩) (ah f t J n).length c (eR (ah f t J n)) (some ⟨b',0,none⟩) (ah f t J n).length c' T W (by omega) (by omega) ⟨(λh=>nomatch h),λad had=>by cases had;exact⟨B,rfl,h2,h3⟩⟩ ⟨(λh=>nomatch h),λad had=>by cases had;exact⟨b',rfl,h4,h5⟩⟩
  rotate_right;focus
   have hq:(t J !=now)=true:=by simp[ht]
   obtain⟨kc,hc⟩:∃kc:Int,kc=6:=⟨_,rfl⟩
  all_goals
   go_wp2_with(first
    |(go_at_call 41;refine HN.mono ?_;clear HN;rintro e w7 ⟨rfl,b7⟩;obtain⟨W8,e8,k8,b8,z8⟩:=dN w7 0 0 none 0 0 none 0 0;have e8h:Hid (w7.alloc (.cells #[.int .i64 0,.int .i64 0,.slice none 0 0,.slice none 0 0] 38)=W8):=e8;clear e8;have hA7:=hA.grow b7;have hAo:=λo=>hA7.grow ((Below.refl _ w7).alloc (Nat.le_refl _) o);have x0:=λo=>(hAo o).x.cells.1;have x1:=λo=>(hAo o).x.cells.2.1;have x2:=λo=>(hAo o).x.cells.2.2.1;have x3:=λo=>(hAo o).x.cells.2.2.2.1;have r0:=λo=>(hAo o).rs.cells.1;have r1:=λo=>(hAo o).rs.cells.2.1;have r2:=λo=>(hAo o).rs.cells.2.2.1;have r3:=λo=>(hAo o).rs.cells.2.2.2.1;have r4:=λo=>(hAo o).rs.cells.2.2.2.2;have hA:=hA7.grow b8)
    |(go_at_call 41;refine HS.mono ?_;clear HS;rintro e w7 ⟨⟨BN,cN,BT,cT,rfl,hBN,rN,oT⟩,b7⟩;obtain⟨W8,e8,k8,b8,z8⟩:=dN w7 (t J) shift (some ⟨BN,0,none⟩) (ah f t J n).length cN (some ⟨BT,0,none⟩) (ah f t J n).length cT;have hA:=(hA.grow b7).grow b8;have rN:=rN.below b8 hBN;have oT:=du oT (b8.block _ oT.lt);obtain⟨p0,p1,p2,p3,p4⟩:=k8.cells)
    |(go_at_call 131;refine(HC3 BN cN BT cT W8 (by omega) rN oT.lt oT.2).mono ?_;clear HC3;rintro e w9 ⟨⟨Bq,cq,Bv,cv,rfl,oQ,oV⟩,b9⟩;have z9:=hA.x.lt;have hA:=hA.grow b9;obtain⟨r0,r1,r2,r3,r4⟩:=hA.rs.cells))
   all_goals first|(exfalso;omega)|skip
   all_goals first
    |(obtain⟨W5,e5,k5,hb5,hz5,hn5⟩:=bg hA.rs hA.below (by omega) (t J) shift (some ⟨Bq,0,none⟩) (ah f t J n).length cq (some ⟨Bv,0,none⟩) (ah f t J n).length cv;rw[e5];obtain⟨q0,q1,q2,q3,q4⟩:=k5.cells;have hhR:=hA.hX;exact bodyPost_ret (v:=.tuple #[.agg #[.int .i64 (t J),.int .i64 shift,.slice (some ⟨Bq,0,none⟩) (ah f t J n).length cq,.slice (some ⟨Bv,0,none⟩) (ah f t J n).length cv],.int .i64 0]) (by simp[results,Tryz.f150,go_sem,q0,q1,q2,q3]) rfl ⟨⟨t J,shift,_,_,cq,_,_,cv,T,0,rfl,htb,hsh,by omega,hoF,.inr ⟨Bq,Bv,rfl,rfl,aU (ai oQ (λB hB=>hn5 B (by have:=(oQ.lt B hB).1;omega))) (by omega),(cj oV).2.2,gh.of (aU (ai oV (λB hB=>hn5 B (by have:=(oV.lt B hB).1;omega))) (by omega))⟩⟩,hb5⟩)
    |(try rw[e8h.out]
      obtain⟨W5,e5,k5,hb5,hz5,hn5⟩:=bg hA.rs hA.below (by omega) now shift (some ⟨Bx,0,none⟩) n cx (some ⟨Bi,0,none⟩) n ci;rw[e5];obtain⟨q0,q1,q2,q3,q4⟩:=k5.cells;exact bodyPost_ret (v:=.tuple #[.agg #[.int .i64 now,.int .i64 shift,.slice (some ⟨Bx,0,none⟩) n cx,.slice (some ⟨Bi,0,none⟩) n ci],.int .i64 kc]) (by simp[results,Tryz.f150,go_sem,q0,q1,q2,q3,hc]) rfl ⟨hA.ev hnw hsh h6 hoks hn5 kc,hb5⟩)
    |trace_state
theorem Ap (w:World):∃W,w.alloc (.cells #[] 3)=W/\W.heap[w.heap.size]?=some (.cells #[] 3 (0,0))/\Below w.heap.size w W/\W.heap.size=w.heap.size+1:=
 ⟨_,rfl,heap_alloc_new w _,(Below.refl _ w).alloc (Nat.le_refl _) _,by simp⟩
theorem ak.upto {w:World}{b n k:Nat}{t:Nat->Int}(h:ak w b 0 n t)(hk:k<=n):ak w b 0 k t:=λi hi=>h i (by omega)
theorem vE {w:World}{b n k d:Nat}{t:Nat->Int}(h:ak w b 0 n t)(hk:k<n)(hd:n<=d):∀ad,(if d=k+1 then some (⟨b,0,none⟩:Addr)else some ⟨b,k+1,none⟩)=some ad->∀j u,(dh (λj=>t (k+1+j)) (n-(k+1)))[j]?=some u->w.cell? (ad.add j)=some u:=λad had=>by
 split at had
 .have:n-(k+1)=0:=by omega
  rw[this];intro j u h;simp[dh]at h
 .cases had;intro j u hu;have hj:j<n-(k+1):=by rcases Nat.lt_or_ge j (n-(k+1))with h|h;exact h;rw[List.getElem?_eq_none (by rw[ck];exact h)]at hu;cases hu
  rw[eO hj]at hu;have:=h (k+1+j) (by omega);rw[Nat.zero_add]at this;rw[nX,this];exact hu
structure C3 (N:Nat)(sl:Value)(W:World):Prop where
 c3:W.cell? ⟨N,3,none⟩=some sl
structure Dd (w:World)(now shift:Int)(ao:Option Addr)(n c:Nat)(bo:Option Addr)(d R:Nat)(W:World):Prop where
 below:Below w.heap.size w W
 bk:ar W w.heap.size now shift (.slice ao n c) (.slice bo n d)
 rs:ar W R 0 0 (.slice none 0 0) (.slice none 0 0)
 hR:w.heap.size<R
section
variable {w:World}{now shift:Int}{ao:Option Addr}{n c:Nat}{bo:Option Addr}{d R:Nat}{W W':World}
theorem Dd.grow (h:Dd w now shift ao n c bo d R W)(b:Below W.heap.size W W'):Dd w now shift ao n c bo d R W':=
 ⟨h.below.trans (b.mono h.below.size),h.bk.same (b.block _ h.bk.lt),h.rs.same (b.block _ h.rs.lt),h.hR⟩
theorem Dd.set (h:Dd w now shift ao n c bo d R W){Y:Nat}(hY:R<Y)(hb:Below w.heap.size w W')(e:∀k,k≠Y->W'.heap[k]?=W.heap[k]?):Dd w now shift ao n c bo d R W':=by
 have h1:=h.hR;exact⟨hb,h.bk.same (e _ (by omega)),h.rs.same (e _ (by omega)),h.hR⟩
theorem Dd.c3 (h:Dd w now shift ao n c bo d R W):C3 w.heap.size (.slice bo n d) W:=⟨h.bk.cells.2.2.2.1⟩
end
theorem xF {lo:Nat}(now shift:Int)(ao:Option Addr)(n c:Nat)(f:Nat->Mv)(bo:Option Addr)(d:Nat)(t:Nat->Int)(name:ByteArray)(w:World)(hB:iE w lo now shift ao n c f bo d t):
  Calls Tryz0.prog 149 #[.agg #[.int .i64 now,.int .i64 shift,.slice ao n c,.slice bo n d],.string name] w λe w'=>Ev w e w'/\Below w.heap.size w w':=by
 obtain⟨W0,hW0⟩:∃W,W=(w.alloc (.cells #[.int .i64 now,.int .i64 shift,.slice ao n c,.slice bo n d] 38)).alloc (.cells #[.int .i64 0,.int .i64 0,.slice none 0 0,.slice none 0 0] 38):=⟨_,rfl⟩;have b0:Below w.heap.size w W0:=by rw[hW0];exact((Below.refl _ w).alloc (Nat.le_refl _) _).alloc (by simp) _
 have bk0:ar W0 w.heap.size now shift (.slice ao n c) (.slice bo n d):=by rw[hW0];exact(Below.heap_alloc _ _ _ (by simp)).trans (heap_alloc_new _ _)
 have rs0:ar W0 (w.heap.size+1) 0 0 (.slice none 0 0) (.slice none 0 0):=by rw[hW0];exact be _ _ _
 have hz0:W0.heap.size=w.heap.size+2:=by rw[hW0];simp
 have HB:=(hB.below b0).book;have h6:=hB.six;have hnw:=hB.now;have hsh:=hB.sh;have hoks:=hB.ok;cases hb:bc now shift f n t n with
 |false=>
  rw[hb,hW0]at HB;go_enter Tryz0.func149,Tryz.ntmps149
  go_wp2_with(go_at_call 18;refine HB.mono ?_;clear HB;rintro e w1 ⟨rfl,b1⟩;rw[<-hW0]at b1;have r1:=rs0.same (b1.block _ rs0.lt);obtain⟨y0,y1,y2,y3,y4⟩:=r1.cells)
  obtain⟨W5,e5,k5,hb5,hz5,hn5⟩:=bg r1 (b0.trans (b1.mono b0.size)) (by omega) 0 0 none 0 0 none 0 0;rw[e5];obtain⟨q0,q1,q2,q3,q4⟩:=k5.cells;refine bodyPost_ret (v:=.tuple #[.agg #[.int .i64 0,.int .i64 0,.slice none 0 0,.slice none 0 0],.int .i64 1]) ?_ rfl ⟨⟨0,0,none,0,0,_,none,0,_,1,rfl,qI _ _⟩,hb5⟩;simp[results,Tryz.f149,go_sem,q0,q1,q2,q3]
 |true=>
  obtain⟨hm,-,hfit⟩:=dD hb;rw[hb,hW0]at HB;clear hb;have HC1:=λW (hW:Below w.heap.size w W)=>cU now shift ao n c f bo n d t W (by omega) (by omega) (hB.below hW).srcM (hB.below hW).srcI
  have HA:=λW (hW:Below w.heap.size w W)=>oe now shift ao n c f bo n d name W h6 (hB.below hW).srcM
  rcases xE f n name with⟨J,hJ,hat,hJ2⟩|hat;focus
   have AT:∀k,er f n name k->k=J:=λk hk=>hk.yes hJ hat hJ2
   have hN:0<n:=by omega
   obtain⟨b',eb',hbs',hrow'⟩:=hB.srcI.pos hN;have hd:n<=d:=by
    rcases hB.mem with⟨_,_,h,_⟩|⟨_,_,_,_,_,h,_⟩
    .omega
    .exact h
   subst eb';have HW:=λB c W (h1:n<=c) (h2:B<W.heap.size) (h3:aw W B 0 n f)=>oK B n c J f W h6 hJ h1 h2 h3
   have hneg:¬(J:Int)<0:=by omega
  rotate_left;focus
   have AT:∀k,er f n name k->k=-1:=λk hk=>hk.no hat
   obtain⟨kc,hc⟩:∃kc:Int,kc=3:=⟨_,rfl⟩
  all_goals
   go_enter Tryz0.func149,Tryz.ntmps149
   go_wp2_with(first
    |(go_at_call 18;refine HB.mono ?_;clear HB;rintro e w1 ⟨rfl,b1⟩;rw[<-hW0]at b1;have B1:=b0.trans (b1.mono b0.size);have bk:=bk0.same (b1.block _ bk0.lt);have rs:=rs0.same (b1.block _ rs0.lt);obtain⟨y0,y1,y2,y3,y4⟩:=bk.cells)
    |(go_at_call 131;refine(HC1 _ B1).mono ?_;clear HC1;rintro e w2 ⟨⟨Bx,cx,Bi,ci,rfl,oM,oI⟩,b2⟩;have z2:=b2.size;have z1:=b1.size;have bk:=bk.same (b2.block _ (by omega));have rs:=rs.same (b2.block _ (by omega));obtain⟨W3,e3,k3,b3,z3⟩:=dN w2 now shift (some ⟨Bx,0,none⟩) n cx (some ⟨Bi,0,none⟩) n ci;have hA:Ad w now shift _ n c _ d (w.heap.size+1) w2.heap.size Bx cx Bi ci f t W3:=⟨(B1.trans (b2.mono B1.size)).trans (b3.mono (by omega)),bk.same (b3.block _ (by omega)),rs.same (b3.block _ (by omega)),by omega,k3,by omega,aU (ai oM (λB hB=>b3.block B (oM.lt B hB).2)) (by omega),aU (ai oI (λB hB=>b3.block B (oI.lt B hB).2)) (by omega)⟩;obtain⟨y0,y1,y2,y3,y4⟩:=hA.bk.cells;clear oM oI bk rs)
    |(go_at_call 152;refine(HA _ hA.below).mono ?_;clear HA;rintro e w5 ⟨⟨kk,rfl,hkk⟩,b5⟩;have z5:=b5.size;have hA:=hA.grow b5;obtain⟨x0,x1,x2,x3,x4⟩:=hA.x.cells;obtain⟨r0,r1,r2,r3,r4⟩:=hA.rs.cells;obtain rfl:=AT kk hkk)
    |(go_at_call 154;refine(HW Bx cx w5 (cj hA.om).2.2 (cj hA.om).2.1 (bI hA.om)).mono ?_;clear HW;rintro e w6 ⟨⟨B6,c6,rfl,o6⟩,b6⟩;have hRX:=hA.hX;have hRw:=hA.hR;have lX:=hA.x.lt;have hD:Dd w now shift ao n c (some ⟨b',0,none⟩) d (w.heap.size+1) w6:=⟨(hA.grow b6).below,(hA.grow b6).bk,(hA.grow b6).rs,hA.hR⟩;have x6:=(hA.grow b6).x;obtain⟨p0,p1,p2,p3,p4⟩:=x6.cells;obtain⟨W7,e7,x7,hb7,z7,h7⟩:=tP x6 hD.below (by omega) (.slice (some ⟨B6,0,none⟩) (n-1) c6);have hD:=hD.set hRX hb7 h7;have o7:=ai o6 (λB hB=>h7 B (cW o6 x6 (by decide) hB))))
   all_goals first|(exfalso;omega)|skip
   all_goals first
    |(obtain⟨W5,e5,k5,hb5,hz5,hn5⟩:=bg hA.rs hA.below (by omega) now shift (some ⟨Bx,0,none⟩) n cx (some ⟨Bi,0,none⟩) n ci;rw[e5];obtain⟨q0,q1,q2,q3,q4⟩:=k5.cells;exact bodyPost_ret (v:=.tuple #[.agg #[.int .i64 now,.int .i64 shift,.slice (some ⟨Bx,0,none⟩) n cx,.slice (some ⟨Bi,0,none⟩) n ci],.int .i64 kc]) (by simp[results,Tryz.f149,go_sem,q0,q1,q2,q3,hc]) rfl ⟨hA.ev hnw hsh h6 hoks hn5 kc,hb5⟩)
    |skip
  have hJ0:(0:Int)<=J:=by omega
  have hJd:(J:Int)<=d:=by omega
  have hJ1:(0:Int)<=(J:Int)+1:=by omega
  have hJn:(J:Int)+1<=n:=by omega
  have hJd1:(J:Int)+1<=d:=by omega
  have hwJ:IntKind.i64.wrap ((J:Int)+1)=(J:Int)+1:=by rw[IntKind.wrap_i64];omega
  obtain⟨i0,hI',hy0,hy1,hy2⟩:=ob;have hD:=hD.grow (Below.refl _ _).drew;have x8:=x7.same (w':=W7.drew) rfl;have o8:=ai o7 (w':=W7.drew) (λ_ _=>rfl);refine wp_region_held_drew (S:=C3 w.heap.size (.slice (some ⟨b',0,none⟩) n d)) (by kernel_rfl) hD.c3 (λhHeld=>?_);revert hHeld hD x8 o8;generalize W7.drew=W8;intro hD x8 o8 hHeld;refine aB (i:=1) (v:=(.pointer (some ⟨w.heap.size,3,none⟩))) 29 rfl rfl (by kernel_rfl) (by kernel_rfl) (by kernel_rfl) (λ_ _ _ h=>h) (Or.inl ⟨by rfl,λw' hSw=>by(obtain⟨s0⟩:=hSw;go_simp)⟩) hHeld ?_;simp only[Act.put,List.setIfInBounds_toArray,List.set_cons_zero,List.set_cons_succ];refine aB (i:=2) (v:=(.slice (some ⟨b',0,none⟩) n d)) 30 rfl rfl (by kernel_rfl) (by kernel_rfl) (by kernel_rfl) (λ_ _ _ h=>h) (Or.inl ⟨by rfl,λw' hSw=>by(obtain⟨s0⟩:=hSw;go_simp)⟩) hHeld ?_;simp only[Act.put,List.setIfInBounds_toArray,List.set_cons_zero,List.set_cons_succ];refine aB (i:=3) (v:=.int .i64 (J:Int)) 31 rfl rfl (by kernel_rfl) (by kernel_rfl) (by kernel_rfl) (λ_ _ _ h=>h) (Or.inl ⟨by rfl,λw' hSw=>by(obtain⟨s0⟩:=hSw;go_simp)⟩) hHeld ?_;simp only[Act.put,List.setIfInBounds_toArray,List.set_cons_zero,List.set_cons_succ];refine aB (i:=4) (v:=(.slice (some ⟨b',0,none⟩) J d)) 32 rfl rfl (by kernel_rfl) (by kernel_rfl) (by kernel_rfl) (λ_ _ _ h=>h) (Or.inl ⟨by rfl,λw' hSw=>by(obtain⟨s0⟩:=hSw;go_simp)⟩) hHeld ?_;simp only[Act.put,List.setIfInBounds_toArray,List.set_cons_zero,List.set_cons_succ];refine aB (i:=6) (v:=(.pointer (some ⟨w.heap.size,3,none⟩))) 34 rfl rfl (by kernel_rfl) (by kernel_rfl) (by kernel_rfl) (λ_ _ _ h=>h) (Or.inl ⟨by rfl,λw' hSw=>by(obtain⟨s0⟩:=hSw;go_simp)⟩) hHeld ?_;simp only[Act.put,List.setIfInBounds_toArray,List.set_cons_zero,List.set_cons_succ];refine aB (i:=7) (v:=(.slice (some ⟨b',0,none⟩) n d)) 35 rfl rfl (by kernel_rfl) (by kernel_rfl) (by kernel_rfl) (λ_ _ _ h=>h) (Or.inl ⟨by rfl,λw' hSw=>by(obtain⟨s0⟩:=hSw;go_simp)⟩) hHeld ?_;simp only[Act.put,List.setIfInBounds_toArray,List.set_cons_zero,List.set_cons_succ];refine aB (i:=8) (v:=.int .i64 (J:Int)) 36 rfl rfl (by kernel_rfl) (by kernel_rfl) (by kernel_rfl) (λ_ _ _ h=>h) (Or.inl ⟨by rfl,λw' hSw=>by(obtain⟨s0⟩:=hSw;go_simp)⟩) hHeld ?_;simp only[Act.put,List.setIfInBounds_toArray,List.set_cons_zero,List.set_cons_succ];refine aB (i:=9) (v:=.int .i64 ((J:Int)+1)) 37 rfl rfl (by kernel_rfl) (by kernel_rfl) (by kernel_rfl) (λ_ _ _ h=>h) (Or.inl ⟨by rfl,λw' hSw=>by(obtain⟨s0⟩:=hSw;go_simp)⟩) hHeld ?_;simp only[Act.put,List.setIfInBounds_toArray,List.set_cons_zero,List.set_cons_succ];refine aB (i:=10) (v:=(.slice (if d=J+1 then some ⟨b',0,none⟩else some ⟨b',J+1,none⟩) (n-(J+1)) (d-(J+1)))) 38 rfl rfl (by kernel_rfl) (by kernel_rfl) (by kernel_rfl) (λ_ _ _ h=>h) (Or.inl ⟨by rfl,λw' hSw=>by(obtain⟨s0⟩:=hSw;go_simp)⟩) hHeld ?_;simp only[Act.put,List.setIfInBounds_toArray,List.set_cons_zero,List.set_cons_succ];refine wpAnyH_ready (rs:=[0]) (by kernel_rfl) (by simp) ?_;refine AllReadyH.cons rfl (λK hK=>?_) AllReadyH.nil;go_simp
  obtain⟨WE,eE,kE,bE,zE⟩:=Ap W8;rw[eE];have oE:WE.ownsRow W8.heap.size 3 1 (.slice (some ⟨W8.heap.size,0,none⟩) 0 0) 0 []:=⟨rfl,.inr ⟨W8.heap.size,0,#[],rfl,Nat.le_refl _,kE,Nat.le_refl _,Nat.zero_le _,rfl,rfl⟩⟩;have hDE:=hD.grow bE;refine hK.out _ _ hDE.c3 (λhHeld=>?_);clear hK K;refine wpAnyH_ready (rs:=[5]) (by kernel_rfl) (by simp) ?_;refine AllReadyH.cons rfl (λK hK=>?_) AllReadyH.nil;refine aD rfl (.tmp 28) (.tmp 32) 26 rfl 3 i0 _ 1 8 eP hI' hy0 hy1 hy2 rfl (by decide) W8.heap.size (.slice (some ⟨W8.heap.size,0,none⟩) 0 0) 0 [] (by rfl) oE (by intro h;cases h) (some ⟨b',0,none⟩) J d (dh t J) (by rfl) (by rw[ck];omega) (by intro h;cases h) (λad had=>by cases had;exact mn (ak.upto (hrow'.below hDE.below hbs') (by omega))) (gN t J) (by unfold maxLen;omega) (by omega) bE.size ?_;intro v9 w9 ho9 hs9 hg9;simp only[Nat.zero_add,List.nil_append]at ho9;have B9:Below W8.heap.size W8 w9:=bE.grown hg9 bE.size (λq hq=>by simp[Value.ownBlock]at hq;omega);have hD9:=hD.grow B9;refine hK.out _ _ hD9.c3 (λhHeld=>?_);clear hK K;refine wpAnyH_ready (rs:=[11]) (by kernel_rfl) (by simp) ?_;refine AllReadyH.cons rfl (λK hK=>?_) AllReadyH.nil;refine aD rfl (.tmp 33) (.tmp 38) 26 rfl 3 i0 _ 1 8 eP hI' hy0 hy1 hy2 rfl (by decide) W8.heap.size v9 J (dh t J) (by rfl) ho9 hs9 (if d=J+1 then some (⟨b',0,none⟩:Addr)else some ⟨b',J+1,none⟩) (n-(J+1)) (d-(J+1)) (dh (λj=>t (J+1+j)) (n-(J+1))) (by rfl) (by rw[ck];omega) (by split<;>(intro h;cases h)) (vE (hrow'.below hD9.below hbs') hJ hd) (gN _ _) (by unfold maxLen;omega) (by omega) B9.size ?_;intro v10 w10 ho10 hs10 hg10;rw[vy t J n hJ,show J+(n-(J+1))=n-1 by omega]at ho10;have B10:Below W8.heap.size W8 w10:=B9.grown hg10 B9.size (λq hq=>(ho9.lt q hq).1);obtain⟨B8,c8,rfl⟩:=je ho10 hs10;have hD10:=hD.grow B10;have x10:=x8.same (B10.block _ x8.lt);have o10:=ai o8 (λB hB=>B10.block B (o8.lt B hB).2);obtain⟨p0,p1,p2,p3,p4⟩:=x10.cells;refine hK.out _ _ hD10.c3 (λhHeld=>?_);clear hK K;refine wpAnyH_ready (rs:=[12]) (by kernel_rfl) (by simp) ?_;refine AllReadyH.cons rfl (λK hK=>?_) AllReadyH.nil;go_simp
  refine hK.out _ _ hD10.c3 (λhHeld=>?_);clear hK K;refine wpAnyH_ready (rs:=[13]) (by kernel_rfl) (by simp) ?_;refine AllReadyH.cons rfl (λK hK=>?_) AllReadyH.nil;go_simp
  obtain⟨W11,e11,x11,hb11,z11,h11⟩:=mJ x10 hD10.below (by omega) (.slice (some ⟨B8,0,none⟩) (n-1) c8);rw[e11];have hD:=hD10.set hRX hb11 h11;have oM:=ai o10 (λB hB=>h11 B (cW o10 x10 (by decide) hB));have oI:=ai ho10 (λB hB=>h11 B (cW ho10 x10 (by decide) hB));refine hK.out _ _ hD.c3 (λhHeld=>?_);clear hK K;refine wpAnyH_done (by kernel_rfl) ?_ _;clear hHeld;obtain⟨y0,y1,y2,y3,y4⟩:=hD.bk.cells;obtain⟨x0,x1,x2,x3,x4⟩:=x11.cells;have lX11:=x11.lt;have hX5:w5.heap.size<=B6:=(oM.lt B6 rfl).1;have hX8:W8.heap.size<=B8:=(oI.lt B8 rfl).1;have hF:=vw hm hJ;have hoF:∀i,i<n-1->(fg f J i).ok=true:=λi hi=>aE hF i hi
  have HPL:=j9 B6 (n-1) c6 (fg f J) now shift W11 (by omega) hoF hnw.1 (by omega) hsh.1 hsh.2 (λhr=>mo hF (by omega) hr) (cj oM).2.1 (bI oM);have HC3:=λW (h2:B6<W.heap.size) (h3:aw W B6 0 (n-1) (fg f J)) (h4:B8<W.heap.size) (h5:ak W B8 0 (n-1) (fg t J))=>cU now shift (some ⟨B6,0,none⟩) (n-1) c6 (fg f J) (some ⟨B8,0,none⟩) (n-1) c8 (fg t J) W (by omega) (by omega) ⟨(λh=>nomatch h),λad had=>by cases had;exact⟨B6,rfl,h2,h3⟩⟩ ⟨(λh=>nomatch h),λad had=>by cases had;exact⟨B8,rfl,h4,h5⟩⟩
  have hrows:∀W,Below W11.heap.size W11 W->(B6<W.heap.size/\aw W B6 0 (n-1) (fg f J))/\(B8<W.heap.size/\ak W B8 0 (n-1) (fg t J))/\Dd w now shift ao n c (some ⟨b',0,none⟩) d (w.heap.size+1) W/\ar W w2.heap.size now shift (.slice (some ⟨B6,0,none⟩) (n-1) c6) (.slice (some ⟨B8,0,none⟩) (n-1) c8):=λW hW=>
   ⟨⟨Nat.lt_of_lt_of_le (cj oM).2.1 hW.size,(bI oM).below hW (cj oM).2.1⟩,⟨Nat.lt_of_lt_of_le (cj oI).2.1 hW.size,(sr oI).below hW (cj oI).2.1⟩,hD.grow hW,x11.same (hW.block _ lX11)⟩
  clear o7 o8 o10 ho10 x7 x8 x10;rcases hpl:eD (fg f J) (n-1) now shift with _|T;focus
   rw[hpl]at HPL;have HN:=HPL;clear HPL
  rotate_left;focus
   rw[hpl]at HPL;have HS:=HPL;clear HPL;have HNL:=λB c W (h2:B<W.heap.size) (h3:ak W B 0 (n-1) T) (h4:B8<W.heap.size) (h5:ak W B8 0 (n-1) (fg t J))=>oG B (n-1) c T B8 c8 (fg t J) W (by omega) h2 h3 h4 h5
   have HSU:=λB c b' c' W (h2:B<W.heap.size) (h3:aw W B 0 (n-1) (fg f J)) (h4:b'<W.heap.size) (h5:ak W b' 0 (n-1) T)=>ir now shift B (n-1) c (fg f J) b' (n-1) c' T W (by omega) (by unfold maxLen;omega) h2 h3 (λi hi=>qG (hoF i hi)) h4 h5
   obtain⟨sb,hsb⟩:∃sb,eG now shift (fg f J) (n-1) T (n-1)=sb:=⟨_,rfl⟩;rw[hsb]at HSU;clear hsb
  all_goals
   go_wp2_with(first
    |(go_at_call 78;refine HN.mono ?_;clear HN;rintro e w12 ⟨⟨a12,c12,rfl⟩,b12⟩;have bb:=b12;obtain⟨⟨f1,f2⟩,⟨f3,f4⟩,hD,xx⟩:=hrows _ bb;obtain⟨x0,x1,x2,x3,x4⟩:=xx.cells)
    |(go_at_call 78;refine HS.mono ?_;clear HS;rintro e w12 ⟨⟨BT,cT,hBT,rfl,oT,hcT⟩,b12⟩;have bb:=b12;have HT:Hid (w12.heap.size=w12.heap.size):=rfl;obtain⟨⟨f1,f2⟩,⟨f3,f4⟩,hD,xx⟩:=hrows _ bb;obtain⟨x0,x1,x2,x3,x4⟩:=xx.cells)
    |(go_at_call 155;refine(HNL BT cT _ oT.lt oT.2 f3 f4).mono ?_;clear HNL;rintro e w13 ⟨⟨nl,rfl⟩,b13⟩;have oT:=du oT (b13.block _ oT.lt);have bb:=bb.trans (b13.mono bb.size);obtain⟨⟨f1,f2⟩,⟨f3,f4⟩,hD,xx⟩:=hrows _ bb;obtain⟨x0,x1,x2,x3,x4⟩:=xx.cells)
    |(go_at_call 16;refine(HSU By cy BT cT W16 (cj oY16).2.1 (bI oY16) oT16.lt oT16.2).mono ?_;clear HSU;rintro e w17 ⟨rfl,b17⟩;have oTs:=du oT16 (b17.block _ oT16.lt);have oYs:=ai oY16 (λB hB=>b17.block B (oY16.lt B hB).2);have yb:=y16.same (b17.block _ y16.lt);have bb:=bb16.trans (b17.mono bb16.size);obtain⟨⟨f1,f2⟩,⟨f3,f4⟩,hD,xx⟩:=hrows _ bb;have oT:=oTs;obtain⟨x0,x1,x2,x3,x4⟩:=xx.cells;obtain⟨p0,p1,p2,p3,p4⟩:=yb.cells;obtain⟨r0,r1,r2,r3,r4⟩:=hD.rs.cells)
    |(go_at_call 131;refine(HC3 _ f1 f2 f3 f4).mono ?_;rintro e w14 ⟨⟨By,cy,Bz,cz,rfl,oY,oZ⟩,b14⟩;have oT:=du oT (b14.block _ oT.lt);have zb:=bb.size;have z14:=b14.size;have bb:=bb.trans (b14.mono bb.size);obtain⟨_,_,hD,xx⟩:=hrows _ bb;obtain⟨r0,r1,r2,r3,r4⟩:=hD.rs.cells;obtain⟨W15,e15,k15,b15,z15⟩:=dN w14 now shift (some ⟨By,0,none⟩) (n-1) cy (some ⟨Bz,0,none⟩) (n-1) cz;obtain⟨p0,p1,p2,p3,p4⟩:=k15.cells;obtain⟨W16,e16,y16,bb16,z16,h16⟩:=mJ k15 (bb.trans (b15.mono bb.size)) bb.size (.slice (some ⟨BT,0,none⟩) (n-1) cT);have oT16:=du oT ((h16 BT (by have:=oT.lt;omega)).trans (b15.block _ oT.lt));have oY15:=ai oY (λB hB=>b15.block B (oY.lt B hB).2);have oY16:=ai oY15 (λB hB=>h16 B (cW oY15 k15 (by decide) hB));obtain⟨p0,p1,p2,p3,p4⟩:=y16.cells)
    |(go_at_call 131;refine(HC3 _ f1 f2 f3 f4).mono ?_;rintro e w14 ⟨⟨By,cy,Bz,cz,rfl,oY,oZ⟩,b14⟩;have zb:=bb.size;have bb:=bb.trans (b14.mono bb.size);obtain⟨_,_,hD,xx⟩:=hrows _ bb;obtain⟨r0,r1,r2,r3,r4⟩:=hD.rs.cells))
   all_goals first|(exfalso;omega)|skip
   all_goals first
    |(obtain⟨W5,e5,k5,hb5,hz5,hn5⟩:=bg hD.rs hD.below (by omega) now shift (some ⟨By,0,none⟩) (n-1) cy (some ⟨Bz,0,none⟩) (n-1) cz;rw[e5];obtain⟨q0,q1,q2,q3,q4⟩:=k5.cells;have hl:=hD.rs.lt;exact bodyPost_ret (v:=.tuple #[.agg #[.int .i64 now,.int .i64 shift,.slice (some ⟨By,0,none⟩) (n-1) cy,.slice (some ⟨Bz,0,none⟩) (n-1) cz],.int .i64 0]) (by simp[results,Tryz.f149,go_sem,q0,q1,q2,q3]) rfl ⟨⟨now,shift,_,n-1,cy,_,_,cz,_,0,rfl,hnw,hsh,by omega,hoF,.inr ⟨By,Bz,rfl,rfl,aU (ai oY (λB hB=>hn5 B (by have:=(oY.lt B hB).1;omega))) (by omega),(cj oZ).2.2,gh.of (aU (ai oZ (λB hB=>hn5 B (by have:=(oZ.lt B hB).1;omega))) (by omega))⟩⟩,hb5⟩)
    |(obtain⟨W5,e5,k5,hb5,hz5,hn5⟩:=bg hD.rs hD.below (by omega) now shift (some ⟨By,0,none⟩) (n-1) cy (some ⟨BT,0,none⟩) (n-1) cT;rw[e5];obtain⟨q0,q1,q2,q3,q4⟩:=k5.cells;have hl:=hD.rs.lt;exact bodyPost_ret (v:=.tuple #[.agg #[.int .i64 now,.int .i64 shift,.slice (some ⟨By,0,none⟩) (n-1) cy,.slice (some ⟨BT,0,none⟩) (n-1) cT],.int .i64 0]) (by simp[results,Tryz.f149,go_sem,q0,q1,q2,q3]) rfl ⟨⟨now,shift,_,n-1,cy,_,_,cT,_,0,rfl,hnw,hsh,by omega,hoF,.inr ⟨By,BT,rfl,rfl,aU (ai oYs (λB hB=>hn5 B (by have:=(oYs.lt B hB).1;omega))) (by omega),hcT,gh.ofInts (du oTs (hn5 BT (by omega))) (by omega)⟩⟩,hb5⟩)
    |trace_state
def BM (w:World)(e:Ending)(w':World):Prop:=∃(now shift:Int) (ao:Option Addr) (n c:Nat) (f:Nat->Mv) (bo:Option Addr) (d:Nat) (t:Nat->Int) (sa:Option Addr) (sn sc:Nat) (k:Int),e=.returned (.tuple #[.agg #[.int .i64 now,.int .i64 shift,.slice ao n c,.slice bo n d],.slice sa sn sc,.int .i64 k])/\iE w' w.heap.size now shift ao n c f bo d t
theorem xG:∃i,Tryz0.prog.info? 9=some i/\i.zero=some (.string ByteArray.empty)/\i.size=1/\i.bytes=16:=by
 have h:(Tryz0.prog.info? 9).map (λi=>(i.zero,i.size,i.bytes))=some (some (.string ByteArray.empty),1,16):=by kernel_rfl
 cases hI:Tryz0.prog.info? 9 with
 |none=>rw[hI]at h;simp at h
 |some i=>rw[hI]at h;simp only[Option.map_some,Option.some.injEq,Prod.mk.injEq]at h;exact⟨i,rfl,h.1,h.2.1,h.2.2⟩
theorem tQ:Tryz0.prog.underlying 115=some (.slice 9):=by kernel_rfl
theorem tR {W:World}{base:Nat}{e:TypeId}{size:Nat}{v:Value}{n:Nat}{xs:List Value}(h:W.ownsRow base e size v n xs):∃a c,v=.slice a n c/\(a=none->n=0/\c=0)/\∀ad,a=some ad->∃b,ad=⟨b,0,none⟩/\b<W.heap.size:=by
 obtain⟨h1,⟨rfl,rfl⟩|⟨g,c,cur,rfl,h3,h4,h5⟩⟩:=h
 .exact⟨none,0,rfl,λ_=>⟨rfl,rfl⟩,λad had=>by cases had⟩
 .exact⟨_,c,rfl,(λh=>nomatch h),λad had=>by cases had;exact⟨g,rfl,(Array.getElem?_eq_some_iff.1 h4).1⟩⟩
def tS (I:List Int):List Value:=I.map λx=>.int .i64 x
theorem yY {f:Nat->Mv}{n:Nat}{t:Nat->Int}(hm:ap f n=true)(hf:cZ f t n){k:Nat}(hk:k<n):({f k with prom:=t k}:Mv).ok=true:=by
 have b:=Mv.ok_bd (aE hm k hk);have s:=cY (hf.1 k hk);refine Mv.ok_of (aE hm k hk) rfl rfl b.1 b.2.1 b.2.2.1 (.inr ⟨?_,?_⟩)<;>simp only<;>omega
structure Tc (w:World)(now shift:Int)(ao:Option Addr)(n c:Nat)(bo:Option Addr)(d NX:Nat)(v u:Value)(L:List Mv)(I:List Int)(s:Value)(js:Nat)(xs:List Value)(W:World):Prop where
 below:Below w.heap.size w W
 bk:ar W w.heap.size now shift (.slice ao n c) (.slice bo n d)
 rs:ar W (w.heap.size+1) 0 0 (.slice none 0 0) (.slice none 0 0)
 nx:ar W NX (now+1) shift v u
 hN:w.heap.size+2<NX
 om:W.ownsRow (NX+1) 42 6 v L.length (aS (eR L) L.length)
 oi:W.ownsRow (NX+1) 3 1 u I.length (tS I)
 os:W.ownsRow (w.heap.size+2) 9 1 s js xs
section
variable {w:World}{now shift:Int}{ao:Option Addr}{n c:Nat}{bo:Option Addr}{d NX:Nat}{v u:Value}{L:List Mv}{I:List Int}{s:Value}{js:Nat}{xs:List Value}{W W':World}
theorem Tc.grow (h:Tc w now shift ao n c bo d NX v u L I s js xs W)(b:Below W.heap.size W W'):Tc w now shift ao n c bo d NX v u L I s js xs W':=
 ⟨h.below.trans (b.mono h.below.size),h.bk.same (b.block _ h.bk.lt),h.rs.same (b.block _ h.rs.lt),h.nx.same (b.block _ h.nx.lt),h.hN,ai h.om (λB hB=>b.block B (h.om.lt B hB).2),ai h.oi (λB hB=>b.block B (h.oi.lt B hB).2),ai h.os (λB hB=>b.block B (h.os.lt B hB).2)⟩
theorem Tc.names (h:Tc w now shift ao n c bo d NX v u L I s js xs W){s':Value}{js':Nat}{xs':List Value}(o:W'.ownsRow (w.heap.size+2) 9 1 s' js' xs')(g:W.grownBy W' s.ownBlock):Tc w now shift ao n c bo d NX v u L I s' js' xs' W':=by
 have hN:=h.hN;have h1:=h.bk.lt;have h2:=h.rs.lt;exact⟨h.below.grown g h.below.size (λq hq=>by have:=(h.os.lt q hq).1;omega),h.bk.same (g.block _ h1 (λe=>by have:=(h.os.lt _ e.symm).1;omega)),h.rs.same (g.block _ h2 (λe=>by have:=(h.os.lt _ e.symm).1;omega)),h.nx.same (g.block _ h.nx.lt (λe=>cW h.os h.nx (by decide) e.symm rfl)),h.hN,ai h.om (λB hB=>g.block B (h.om.lt B hB).2 (λe=>dM h.om h.os (by decide) hB e.symm)),ai h.oi (λB hB=>g.block B (h.oi.lt B hB).2 (λe=>dM h.oi h.os (by decide) hB e.symm)),o⟩
theorem Tc.moves (h:Tc w now shift ao n c bo d NX v u L I s js xs W){v':Value}{m:Mv}(o:W'.ownsRow (NX+1) 42 6 v' (L.length+1) (aS (eR L) L.length++m.cells.toList))(g:W.grownBy W' v.ownBlock):ar W' NX (now+1) shift v u/\Tc w now shift ao n c bo d NX v' u (L++[m]) I s js xs (W'.setCell ⟨NX,2,none⟩ v'):=by
 have hN:=h.hN;have hn:ar W' NX (now+1) shift v u:=h.nx.same (g.block _ h.nx.lt (λe=>cW h.om h.nx (by decide) e.symm rfl));have b1:Below w.heap.size w W':=h.below.grown g h.below.size (λq hq=>by have:=(h.om.lt q hq).1;omega);obtain⟨X,rfl,y,hb,z,e⟩:=tP hn b1 (by omega) v';have oi':=ai h.oi (w':=W') (λB hB=>g.block B (h.oi.lt B hB).2 (λe=>dM h.oi h.om (by decide) hB e.symm));have os':=ai h.os (w':=W') (λB hB=>g.block B (h.os.lt B hB).2 (λe=>dM h.os h.om (by decide) hB e.symm));refine⟨hn,hb,h.bk.same ((e _ (by omega)).trans (g.block _ h.bk.lt (λe=>by have:=(h.om.lt _ e.symm).1;omega))),h.rs.same ((e _ (by omega)).trans (g.block _ h.rs.lt (λe=>by have:=(h.om.lt _ e.symm).1;omega))),y,h.hN,?_,ai oi' (λB hB=>e B (cW oi' hn (by decide) hB)),ai os' (λB hB=>e B (cW os' hn (by decide) hB))⟩;rw[List.length_append,List.length_singleton,n8];exact ai o (λB hB=>e B (cW o hn (by decide) hB))
theorem Tc.ticks (h:Tc w now shift ao n c bo d NX v u L I s js xs W){u':Value}{x:Int}(o:W'.ownsRow (NX+1) 3 1 u' (I.length+1) (tS I++[.int .i64 x]))(g:W.grownBy W' u.ownBlock):ar W' NX (now+1) shift v u/\Tc w now shift ao n c bo d NX v u' L (I++[x]) s js xs (W'.setCell ⟨NX,3,none⟩ u'):=by
 have hN:=h.hN;have hn:ar W' NX (now+1) shift v u:=h.nx.same (g.block _ h.nx.lt (λe=>cW h.oi h.nx (by decide) e.symm rfl));have b1:Below w.heap.size w W':=h.below.grown g h.below.size (λq hq=>by have:=(h.oi.lt q hq).1;omega);obtain⟨X,rfl,y,hb,z,e⟩:=mJ hn b1 (by omega) u';have om':=ai h.om (w':=W') (λB hB=>g.block B (h.om.lt B hB).2 (λe=>dM h.om h.oi (by decide) hB e.symm));have os':=ai h.os (w':=W') (λB hB=>g.block B (h.os.lt B hB).2 (λe=>dM h.os h.oi (by decide) hB e.symm));refine⟨hn,hb,h.bk.same ((e _ (by omega)).trans (g.block _ h.bk.lt (λe=>by have:=(h.oi.lt _ e.symm).1;omega))),h.rs.same ((e _ (by omega)).trans (g.block _ h.rs.lt (λe=>by have:=(h.oi.lt _ e.symm).1;omega))),y,h.hN,ai om' (λB hB=>e B (cW om' hn (by decide) hB)),?_,ai os' (λB hB=>e B (cW os' hn (by decide) hB))⟩;rw[List.length_append,List.length_singleton,show tS (I++[x])=tS I++[.int .i64 x] by simp[tS]];exact ai o (λB hB=>e B (cW o hn (by decide) hB))
end
theorem qJ (w:World)(m:Mv):∃W,w.alloc (.cells #[.string m.name,.bool m.lands,.int .i64 m.wake,.int .i64 m.est,.int .i64 m.late,.int .i64 m.prom] 42)=W/\aP W w.heap.size m/\Below w.heap.size w W/\W.heap.size=w.heap.size+1:=
 ⟨_,rfl,heap_alloc_new w _,(Below.refl _ w).alloc (Nat.le_refl _) _,by simp⟩
theorem xH (w:World)(x:Int):∃W,w.alloc (.cells #[.int .i64 x] 3)=W/\W.heap[w.heap.size]?=some (.cells #[.int .i64 x] 3 (0,0))/\Below w.heap.size w W/\W.heap.size=w.heap.size+1:=
 ⟨_,rfl,heap_alloc_new w _,(Below.refl _ w).alloc (Nat.le_refl _) _,by simp⟩
theorem Aq (w:World)(x:ByteArray):∃W,w.alloc (.cells #[.string x] 9)=W/\W.heap[w.heap.size]?=some (.cells #[.string x] 9 (0,0))/\Below w.heap.size w W/\W.heap.size=w.heap.size+1:=
 ⟨_,rfl,heap_alloc_new w _,(Below.refl _ w).alloc (Nat.le_refl _) _,by simp⟩
theorem yZ {w:World}{base:Nat}{T:TypeId}{size:Nat}{v:Value}{n:Nat}{xs:List Value}(h:w.ownsRow base T size v (n+1) xs):∃B c,v=.slice (some ⟨B,0,none⟩) (n+1) c:=by
 obtain⟨h1,h2|⟨g,cap,cur,h2,h3,h4⟩⟩:=h
 .omega
 .exact⟨g,cap,h2⟩
structure Bg (N:Nat)(sl:Value)(b' k:Nat)(x:Int)(W:World):Prop where
 c3:W.cell? ⟨N,3,none⟩=some sl
 tk:W.cell? ⟨b',k,none⟩=some (.int .i64 x)
section
variable {w:World}{now shift:Int}{ao:Option Addr}{n c d NX:Nat}{v u:Value}{L:List Mv}{I:List Int}{s:Value}{js:Nat}{xs:List Value}{W W':World}{b' k:Nat}{t:Nat->Int}
theorem Tc.st (h:Tc w now shift ao n c (some ⟨b',0,none⟩) d NX v u L I s js xs W)(hbs:b'<w.heap.size)(hr:ak w b' 0 n t)(hk:k<n):Bg w.heap.size (.slice (some ⟨b',0,none⟩) n d) b' k (t k) W:=
 ⟨h.bk.cells.2.2.2.1,by have:=hr.below h.below hbs k hk;rw[Nat.zero_add]at this;exact this⟩
theorem zw (hb:Below w.heap.size w W)(h:Tc w now shift ao n c (some ⟨b',0,none⟩) d NX v u L I s js xs W)(g:W.grownBy W' u.ownBlock)(hbs:b'<w.heap.size)(hr:ak w b' 0 n t)(hk:k<n):Bg w.heap.size (.slice (some ⟨b',0,none⟩) n d) b' k (t k) W':=by
 have hN:=h.hN;have b1:Below w.heap.size w W':=hb.grown g hb.size (λq hq=>by have:=(h.oi.lt q hq).1;omega);exact⟨(h.bk.same (g.block _ h.bk.lt (λe=>by have:=(h.oi.lt _ e.symm).1;omega))).cells.2.2.2.1,by have:=hr.below b1 hbs k hk;rw[Nat.zero_add]at this;exact this⟩
end
theorem sw {lo:Nat}(now shift:Int)(ao:Option Addr)(n c:Nat)(f:Nat->Mv)(bo:Option Addr)(d:Nat)(t:Nat->Int)(w:World)(hB:iE w lo now shift ao n c f bo d t):
  Calls Tryz0.prog 129 #[.agg #[.int .i64 now,.int .i64 shift,.slice ao n c,.slice bo n d]] w λe w'=>BM w e w'/\Below w.heap.size w w':=by
 obtain⟨W0,hW0⟩:∃W,W=((w.alloc (.cells #[.int .i64 now,.int .i64 shift,.slice ao n c,.slice bo n d] 38)).alloc (.cells #[.int .i64 0,.int .i64 0,.slice none 0 0,.slice none 0 0] 38)).alloc (.cells #[] 9):=⟨_,rfl⟩;have b0:Below w.heap.size w W0:=by rw[hW0];exact(((Below.refl _ w).alloc (Nat.le_refl _) _).alloc (by simp) _).alloc (by simp;omega) _
 have bk0:ar W0 w.heap.size now shift (.slice ao n c) (.slice bo n d):=by rw[hW0];exact(Below.heap_alloc _ _ _ (by simp;omega)).trans ((Below.heap_alloc _ _ _ (by simp)).trans (heap_alloc_new _ _))
 have rs0:ar W0 (w.heap.size+1) 0 0 (.slice none 0 0) (.slice none 0 0):=by rw[hW0];exact(Below.heap_alloc _ _ _ (by simp)).trans (be _ _ _)
 have dn0:W0.heap[w.heap.size+2]?=some (.cells #[] 9 (0,0)):=by
  rw[hW0];have:=be (w.alloc (.cells #[.int .i64 now,.int .i64 shift,.slice ao n c,.slice bo n d] 38)) (.cells #[.int .i64 0,.int .i64 0,.slice none 0 0,.slice none 0 0] 38) (.cells #[] 9);rw[World.size_alloc]at this;exact this
 have hz0:W0.heap.size=w.heap.size+3:=by rw[hW0];simp
 have HB:=(hB.below b0).book;have h6:=hB.six;have hnw:=hB.now;have hsh:=hB.sh;have hoks:=hB.ok;cases hb:bc now shift f n t n with
 |false=>
  rw[hb,hW0]at HB;go_enter Tryz0.func129,Tryz.ntmps129
  go_wp2_with(go_at_call 18;refine HB.mono ?_;clear HB;rintro e w1 ⟨rfl,b1⟩;rw[<-hW0]at b1;have r1:=rs0.same (b1.block _ rs0.lt);obtain⟨y0,y1,y2,y3,y4⟩:=r1.cells)
  obtain⟨W5,e5,k5,hb5,hz5,hn5⟩:=bg r1 (b0.trans (b1.mono b0.size)) (by omega) 0 0 none 0 0 none 0 0;rw[e5];obtain⟨q0,q1,q2,q3,q4⟩:=k5.cells;refine bodyPost_ret (v:=.tuple #[.agg #[.int .i64 0,.int .i64 0,.slice none 0 0,.slice none 0 0],.slice (some ⟨w.heap.size+1+1,0,none⟩) 0 0,.int .i64 1]) ?_ rfl ⟨⟨0,0,none,0,0,_,none,0,_,_,_,_,1,rfl,qI _ _⟩,hb5⟩;simp[results,Tryz.f129,go_sem,q0,q1,q2,q3]
 |true=>
  obtain⟨hm,-,hfit⟩:=dD hb;rw[hb,hW0]at HB;clear hb;have HC1:=λW (hW:Below w.heap.size w W)=>cU now shift ao n c f bo n d t W (by omega) (by omega) (hB.below hW).srcM (hB.below hW).srcI
  obtain⟨iM,hI,hz0',hz1,hz2⟩:=ep;obtain⟨i0,hI',hy0,hy1,hy2⟩:=ob;obtain⟨iS,hIS,hs0,hs1,hs2⟩:=xG;by_cases hge:now=10000
  .have hge':10000<=now:=by omega
   have HNW:Hid (now=10000):=hge;clear hge;go_enter Tryz0.func129,Tryz.ntmps129
   go_wp2_with(first
    |(go_at_call 18;refine HB.mono ?_;clear HB;rintro e w1 ⟨rfl,b1⟩;rw[<-hW0]at b1;have B1:=b0.trans (b1.mono b0.size);have bk:=bk0.same (b1.block _ bk0.lt);have rs:=rs0.same (b1.block _ rs0.lt);obtain⟨y0,y1,y2,y3,y4⟩:=bk.cells)
    |(go_at_call 131;refine(HC1 _ B1).mono ?_;clear HC1;rintro e w2 ⟨⟨Bx,cx,Bi,ci,rfl,oM,oI⟩,b2⟩;have z2:=b2.size;have z1:=b1.size;have bk:=bk.same (b2.block _ (by omega));have rs:=rs.same (b2.block _ (by omega));obtain⟨W3,e3,k3,b3,z3⟩:=dN w2 now shift (some ⟨Bx,0,none⟩) n cx (some ⟨Bi,0,none⟩) n ci;have hA:Ad w now shift ao n c bo d (w.heap.size+1) w2.heap.size Bx cx Bi ci f t W3:=⟨(B1.trans (b2.mono B1.size)).trans (b3.mono (by omega)),bk.same (b3.block _ (by omega)),rs.same (b3.block _ (by omega)),by omega,k3,by omega,aU (ai oM (λB hB=>b3.block B (oM.lt B hB).2)) (by omega),aU (ai oI (λB hB=>b3.block B (oI.lt B hB).2)) (by omega)⟩;obtain⟨y0,y1,y2,y3,y4⟩:=hA.bk.cells;obtain⟨x0,x1,x2,x3,x4⟩:=hA.x.cells;obtain⟨r0,r1,r2,r3,r4⟩:=hA.rs.cells;clear oM oI bk rs))
   all_goals first|(exfalso;omega)|skip
   obtain⟨W5,e5,k5,hb5,hz5,hn5⟩:=bg hA.rs hA.below (by omega) now shift (some ⟨Bx,0,none⟩) n cx (some ⟨Bi,0,none⟩) n ci;rw[e5];obtain⟨q0,q1,q2,q3,q4⟩:=k5.cells;obtain⟨now',sh',ao',n',c',f',bo',d',t',kk,he,hbok⟩:=hA.ev hnw hsh h6 hoks hn5 2;refine bodyPost_ret (v:=.tuple #[.agg #[.int .i64 now,.int .i64 shift,.slice (some ⟨Bx,0,none⟩) n cx,.slice (some ⟨Bi,0,none⟩) n ci],.slice (some ⟨w.heap.size+1+1,0,none⟩) 0 0,.int .i64 2]) (by simp[results,Tryz.f129,go_sem,q0,q1,q2,q3]) rfl ⟨?_,hb5⟩;simp only[Ending.returned.injEq,Value.tuple.injEq,Array.mk.injEq,List.cons.injEq,Value.agg.injEq,Value.int.injEq,Value.slice.injEq,true_and,and_true]at he;obtain⟨⟨rfl,rfl,⟨rfl,rfl,rfl⟩,⟨rfl,_,rfl⟩⟩,rfl⟩:=he;exact⟨_,_,_,_,_,_,_,_,_,_,_,_,_,rfl,hbok⟩
  .have hge':¬10000<=now:=by omega
   have hwr:IntKind.i64.wrap (now+1)=now+1:=by rw[IntKind.wrap_i64];omega
   have hwr4:IntKind.i64.wrap (now+1+4)=now+1+4:=by rw[IntKind.wrap_i64];omega
   go_enter Tryz0.func129,Tryz.ntmps129
   go_wp2_with(first
    |(go_at_call 18;refine HB.mono ?_;clear HB;rintro e w1 ⟨rfl,b1⟩;rw[<-hW0]at b1;have B1:=b0.trans (b1.mono b0.size);have bk:=bk0.same (b1.block _ bk0.lt);have rs:=rs0.same (b1.block _ rs0.lt);have dn:=(b1.block _ (by omega)).trans dn0;obtain⟨y0,y1,y2,y3,y4⟩:=bk.cells)
    |(go_at_call 131;refine(HC1 _ B1).mono ?_;clear HC1;rintro e w2 ⟨⟨Bx,cx,Bi,ci,rfl,oM,oI⟩,b2⟩;have z2:=b2.size;have z1:=b1.size;obtain⟨W3,e3,k3,b3,z3⟩:=dN w2 now shift (some ⟨Bx,0,none⟩) n cx (some ⟨Bi,0,none⟩) n ci;have bk:=(bk.same (b2.block _ (by omega))).same (b3.block _ (by omega));have rs:=(rs.same (b2.block _ (by omega))).same (b3.block _ (by omega));have dn:=(b3.block _ (by omega)).trans ((b2.block _ (by omega)).trans dn);have B3:=(B1.trans (b2.mono B1.size)).trans (b3.mono (by omega));obtain⟨y0,y1,y2,y3,y4⟩:=bk.cells;obtain⟨W4,e4,k4,b4,z4⟩:=dN W3 (now+1) shift none 0 0 none 0 0;have z3h:Hid (W3.heap.size=w2.heap.size+1):=z3;clear z3;have z4h:Hid (W4.heap.size=W3.heap.size+1):=z4;clear z4;have e4h:Hid (W3.alloc (.cells #[.int .i64 (now+1),.int .i64 shift,.slice none 0 0,.slice none 0 0] 38)=W4):=e4;clear e4))
   rw[e4h.out];have z3:=z3h.out;have z4:=z4h.out;obtain⟨NX,hNX⟩:∃NX,NX=W3.heap.size:=⟨_,rfl⟩;rw[<-hNX]at k4⊢;have hT0:Tc w now shift ao n c bo d NX (.slice none 0 0) (.slice none 0 0) [] [] (.slice (some ⟨w.heap.size+1+1,0,none⟩) 0 0) 0 [] W4:=⟨B3.trans (b4.mono (by omega)),bk.same (b4.block _ (by omega)),rs.same (b4.block _ (by omega)),k4,by omega,⟨rfl,.inl ⟨rfl,rfl⟩⟩,⟨rfl,.inl ⟨rfl,rfl⟩⟩,⟨rfl,.inr ⟨w.heap.size+2,0,#[],rfl,Nat.le_refl _,(b4.block _ (by omega)).trans dn,Nat.le_refl _,Nat.zero_le _,rfl,rfl⟩⟩⟩;clear bk rs dn b4 k4 B3 oM oI k3 b3 b2 b1 hNX z3 z4 z3h z4h e3 e4h;go_loopw [5,8] (λs x W=>∃(k:Nat) (v u:Value) (L:List Mv) (I:List Int) (js:Nat) (xs:List Value),x=.int .i64 k/\k<=n/\L.length=I.length/\L.length<=k/\js<=k/\(∀m∈L,m.ok=true)/\Tc w now shift ao n c bo d NX v u L I s js xs W) (λ_ x _=>n-(intOf x).toNat)
   case atStart=>exact⟨0,_,_,[],[],0,[],rfl,Nat.zero_le _,rfl,Nat.le_refl _,Nat.le_refl _,λm hm=>by simp at hm,hT0⟩
   case round=>
    clear hT0;obtain⟨k,v,u,L,I,js,xs,rfl,hk,hlen,hLk,hjk,hok,hT⟩:=hrel;have HLN:Hid (L.length=I.length):=hlen;have hIk:I.length<=k:=by omega
    clear hlen;obtain⟨y0,y1,y2,y3,y4⟩:=hT.bk.cells;obtain⟨p0,p1,p2,p3,p4⟩:=hT.nx.cells;by_cases hlt:k<n
    .have hlt':(k:Int)<n:=by omega
     obtain⟨b,rfl,hbs,hrow⟩:=hB.srcM.pos (by omega);obtain⟨b',rfl,hbs',hrow'⟩:=hB.srcI.pos (by omega);obtain⟨c0,c1,c2,c3,c4,c5⟩:=hrow.below hT.below hbs k hlt;simp only[Nat.zero_add]at c0 c1 c2 c3 c4 c5;obtain⟨Wm,em,hM,bm,zm⟩:=qJ wr (f k);have lb:=Nat.lt_of_lt_of_le hbs hT.below.size;have hTm:=hT.grow bm;have hne:=ax Wm;have sm:=hTm.st hbs' hrow' hlt;have x0:=λx:af Wm=>x.cell hTm.bk.cells.1
     have x3:=λx:af Wm=>x.cell sm.c3
     have y6:=λx:af Wm=>x.cell sm.tk
     by_cases htk:t k=now
     .have d0:(t k==now)=true:=by simpa using htk
      clear htk;go_wp2;refine ac (by kernel_rfl) (by kernel_rfl) ?_;repeat(go_big_quiet_step (fail))
      refine wpQuiet_nil (ag ?_);intro w3 hb3;have hT3:=hTm.grow hb3;have hM3:=hM.keep (hb3.block _ (by omega));have m0:=(fh hM3).c0;clear x0 x3 y6 hne sm;obtain⟨Wo,eo,ko,bo3,zo⟩:=Aq w3 (f k).name;have hTo:=hT3.grow bo3;go_wp2_with(at_builtin;refine wpList_append_own _ rfl (.tmp 49) (.tmp 52) 115 rfl (w.heap.size+2) 9 iS _ 1 16 tQ hIS hs0 hs1 hs2 rfl (by decide) _ js xs (by rfl) hTo.os ⟨w3.heap.size,0,none⟩ 1 1 [.string (f k).name] (by rfl) rfl (ff ko) (by simp[Value.oneCell']) (by unfold maxLen;omega) (by omega) (by have:=hTo.rs.lt;have:=hTo.nx.lt;have:=hTo.hN;omega) ?_;intro s5 w5 ho5 hg5 _)
      have hT5:=hTo.names ho5 hg5;go_roundw
      case rel=>exact⟨k+1,v,u,L,I,js+1,_,by go_num,by omega,HLN.out,by omega,by omega,hok,hT5⟩
      case measure=>simp[intOf];omega
     .have d0:(t k==now)=false:=by simpa using htk
      clear htk;go_wp2;refine ac (by kernel_rfl) (by kernel_rfl) ?_;repeat(go_big_quiet_step (fail))
      refine wpQuiet_nil (ag ?_);intro w3 hb3;have hT3:=hTm.grow hb3;have hM3:=hM.keep (hb3.block _ (by omega));have z3w:=hb3.size;clear x0 x3 y6 hne sm d0;have s3:=hT3.st hbs' hrow' hlt;have hne:=ax w3;have x3:=λx:af w3=>x.cell s3.c3
      have y6:=λx:af w3=>x.cell s3.tk
      have x0:=λx:af w3=>x.cell hT3.nx.cells.1
      go_wp2;by_cases hpr:t k<now+1+4;focus
       refine ac (by kernel_rfl) (by kernel_rfl) ?_;repeat(go_big_quiet_step (fail))
       refine wpQuiet_nil (ag ?_);intro w4 hb4;have hT4:=hT3.grow hb4;have hM4:=hM3.keep (hb4.block _ (by omega));obtain⟨a0,a1,a2,a3,a4,a5⟩:=fh hM4;have uf:=hM4.frozen 5;obtain⟨y0,y1,y2,y3,y4⟩:=hT4.bk.cells;have t4:=(hT4.st hbs' hrow' hlt).tk;have hlb':b'<w4.heap.size:=Nat.lt_of_lt_of_le hbs' hT4.below.size;obtain⟨Wq,eq,hM5,hT5⟩:∃Wq,w4.setCell ⟨wr.heap.size,5,none⟩ (.int .i64 (t k))=Wq/\aP Wq wr.heap.size {f k with prom:=t k}/\Tc w now shift (some ⟨b,0,none⟩) n c (some ⟨b',0,none⟩) d NX v u L I _ js xs Wq:=by
        refine⟨_,rfl,?_,hT.grow ?_⟩
        .have:=heap_setCell_same w4 wr.heap.size 5 _ _ (.int .i64 (t k)) hM4;simpa[aP]using this
        .exact((bm.trans (hb3.mono (by omega))).trans (hb4.mono (by omega))).setCell (Nat.le_refl _) _
       obtain⟨m',hm'⟩:∃m',m'=({f k with prom:=t k}:Mv):=⟨_,rfl⟩;have hok':m'.ok=true:=by rw[hm'];exact yY hm hfit hlt
       rw[<-hm']at hM5;clear hm' hM4 hT4
      rotate_left;focus
       refine ac (by kernel_rfl) (by kernel_rfl) ?_;repeat(go_big_quiet_step (fail))
       refine wpQuiet_nil (ag ?_);intro Wq hb4;have hT5:=hT3.grow hb4;have hM5:=hM3.keep (hb4.block _ (by omega));obtain⟨m',hm'⟩:∃m',m'=f k:=⟨_,rfl⟩;have hok':m'.ok=true:=by rw[hm'];exact hoks k hlt
       rw[<-hm']at hM5;clear hm'
      all_goals
       clear x0 x3 y6 hne s3 hM3 hT3 hT hTm hM;obtain⟨g0,g1,g2,g3,g4,g5⟩:=fh hM5;obtain⟨p0,p1,p2,p3,p4⟩:=hT5.nx.cells;obtain⟨Wo,eo,ko,bo5,zo⟩:=qJ Wq m';have hTo:=hT5.grow bo5;go_wp2_with(at_builtin;refine wpList_append_own _ rfl (.tmp 70) (.tmp 72) 23 rfl (NX+1) 42 iM _ 6 56 aG hI hz0' hz1 hz2 rfl (by decide) v L.length (aS (eR L) L.length) (by rfl) hTo.om ⟨Wq.heap.size,0,none⟩ 1 1 m'.cells.toList (by rfl) rfl (oF ko) (eh m') (by unfold maxLen;omega) (by omega) (by have:=hTo.nx.lt;omega) ?_;intro v6 w6 ho6 hg6 _;obtain⟨n6,hT⟩:=hTo.moves ho6 hg6;obtain⟨B6,c6,rfl⟩:=eN ho6;obtain⟨q0,q1,q2,q3,q4⟩:=n6.cells;obtain⟨W7,e7⟩:∃W,w6.setCell ⟨NX,2,none⟩ (.slice (some ⟨B6,0,none⟩) (L.length+1) c6)=W:=⟨_,rfl⟩;rw[e7]at hT)
       clear q0 q1 q2 q3 q4 n6 ho6 hg6 hTo hT5 p0 p1 p2 p3 p4 g0 g1 g2 g3 g4 g5;have hT:=hT.grow (Below.refl _ _).drew;refine wp_region_held_drew (S:=Bg w.heap.size (.slice (some ⟨b',0,none⟩) n d) b' k (t k)) (by kernel_rfl) (hT.st hbs' hrow' hlt) (λhHeld=>?_);revert hHeld hT;generalize W7.drew=W8;intro hT hHeld;obtain⟨p0,p1,p2,p3,p4⟩:=hT.nx.cells;refine aB (i:=0) (v:=.pointer (some ⟨NX,3,none⟩)) 75 rfl rfl (by kernel_rfl) (by kernel_rfl) (by kernel_rfl) (λ_ _ _ h=>h) (Or.inl ⟨by rfl,λw' hSw=>by(obtain⟨s0,s1⟩:=hSw;go_simp)⟩) hHeld ?_;simp only[Act.put,List.setIfInBounds_toArray,List.set_cons_zero,List.set_cons_succ];refine aB (i:=2) (v:=.pointer (some ⟨w.heap.size,3,none⟩)) 77 rfl rfl (by kernel_rfl) (by kernel_rfl) (by kernel_rfl) (λ_ _ _ h=>h) (Or.inl ⟨by rfl,λw' hSw=>by(obtain⟨s0,s1⟩:=hSw;go_simp)⟩) hHeld ?_;simp only[Act.put,List.setIfInBounds_toArray,List.set_cons_zero,List.set_cons_succ];refine aB (i:=3) (v:=(.slice (some ⟨b',0,none⟩) n d)) 78 rfl rfl (by kernel_rfl) (by kernel_rfl) (by kernel_rfl) (λ_ _ _ h=>h) (Or.inl ⟨by rfl,λw' hSw=>by(obtain⟨s0,s1⟩:=hSw;go_simp)⟩) hHeld ?_;simp only[Act.put,List.setIfInBounds_toArray,List.set_cons_zero,List.set_cons_succ];refine aB (i:=4) (v:=.int .i64 (k:Int)) 79 rfl rfl (by kernel_rfl) (by kernel_rfl) (by kernel_rfl) (λ_ _ _ h=>h) (Or.inl ⟨by rfl,λw' hSw=>by(obtain⟨s0,s1⟩:=hSw;go_simp)⟩) hHeld ?_;simp only[Act.put,List.setIfInBounds_toArray,List.set_cons_zero,List.set_cons_succ];refine aB (i:=5) (v:=(.pointer (some ⟨b',k,none⟩))) 80 rfl rfl (by kernel_rfl) (by kernel_rfl) (by kernel_rfl) (λ_ _ _ h=>h) (Or.inl ⟨by rfl,λw' hSw=>by(obtain⟨s0,s1⟩:=hSw;go_simp)⟩) hHeld ?_;simp only[Act.put,List.setIfInBounds_toArray,List.set_cons_zero,List.set_cons_succ];refine aB (i:=6) (v:=.int .i64 (t k)) 81 rfl rfl (by kernel_rfl) (by kernel_rfl) (by kernel_rfl) (λ_ _ _ h=>h) (Or.inl ⟨by rfl,λw' hSw=>by(obtain⟨s0,s1⟩:=hSw;go_simp)⟩) hHeld ?_;simp only[Act.put,List.setIfInBounds_toArray,List.set_cons_zero,List.set_cons_succ];refine wpAnyH_ready (rs:=[1,7]) (by kernel_rfl) (by simp) ?_;refine AllReadyH.cons rfl (λK hK=>?_) (AllReadyH.cons rfl (λK hK=>?_) AllReadyH.nil);focus
        go_simp
        refine hK.out _ _ (hT.st hbs' hrow' hlt) (λhHeld=>?_);clear hK K;refine wpAnyH_ready (rs:=[7]) (by kernel_rfl) (by simp) ?_;refine AllReadyH.cons rfl (λK hK=>?_) AllReadyH.nil;go_simp
        obtain⟨Wi,ei,ki,bi,zi⟩:=xH W8 (t k);rw[ei];have hT:=hT.grow bi;obtain⟨p0,p1,p2,p3,p4⟩:=hT.nx.cells;refine hK.out _ _ (hT.st hbs' hrow' hlt) (λhHeld=>?_);clear hK K
       rotate_left;focus
        go_simp
        obtain⟨Wi,ei,ki,bi,zi⟩:=xH W8 (t k);rw[ei];have hT:=hT.grow bi;obtain⟨p0,p1,p2,p3,p4⟩:=hT.nx.cells;refine hK.out _ _ (hT.st hbs' hrow' hlt) (λhHeld=>?_);clear hK K;refine wpAnyH_ready (rs:=[1]) (by kernel_rfl) (by simp) ?_;refine AllReadyH.cons rfl (λK hK=>?_) AllReadyH.nil;go_simp
        refine hK.out _ _ (hT.st hbs' hrow' hlt) (λhHeld=>?_);clear hK K
       all_goals
        refine wpAnyH_ready (rs:=[8]) (by kernel_rfl) (by simp) ?_;refine AllReadyH.cons rfl (λK hK=>?_) AllReadyH.nil;refine bT rfl (.tmp 76) (.tmp 82) 26 rfl 3 i0 (.int .i64 0) 1 8 eP hI' hy0 hy1 hy2 rfl (by decide) (NX+1) u I.length (tS I) (by rfl) hT.oi ⟨W8.heap.size,0,none⟩ 1 1 [.int .i64 (t k)] (by rfl) rfl (ff ki) (by simp[Value.oneCell']) (by unfold maxLen;omega) (by omega) (by have:=hT.nx.lt;omega) ?_;intro u9 w9 ho9 hg9;obtain⟨n9,hT9⟩:=hT.ticks ho9 hg9;obtain⟨B9,c9,rfl⟩:=yZ ho9;obtain⟨p0,p1,p2,p3,p4⟩:=n9.cells;refine hK.out _ _ (zw hT.below hT hg9 hbs' hrow' hlt) (λhHeld=>?_);clear hK K;refine wpAnyH_ready (rs:=[9]) (by kernel_rfl) (by simp) ?_;refine AllReadyH.cons rfl (λK hK=>?_) AllReadyH.nil;go_simp
        refine hK.out _ _ (zw hT.below hT hg9 hbs' hrow' hlt) (λhHeld=>?_);clear hK K;refine wpAnyH_ready (rs:=[10]) (by kernel_rfl) (by simp) ?_;refine AllReadyH.cons rfl (λK hK=>?_) AllReadyH.nil;go_simp
        refine hK.out _ _ (hT9.st hbs' hrow' hlt) (λhHeld=>?_);clear hK K;refine wpAnyH_done (by kernel_rfl) ?_ _;clear hHeld;revert hT9;generalize w9.setCell ⟨NX,3,none⟩ (.slice (some ⟨B9,0,none⟩) (I.length+1) c9)=WZ;intro hT9;go_wp2;go_roundw
        case rel=>exact⟨k+1,_,_,L++[m'],I++[t k],js,xs,by go_num,by omega,by have:=HLN.out;simp;omega,by simp;omega,by omega,λm hm=>by
         rcases List.mem_append.1 hm with h|h
         .exact hok m h
         .simp at h;rw[h];exact hok',hT9⟩
        case measure=>simp[intOf];omega
    .have hlt':¬(k:Int)<n:=by omega
     have hlen:=HLN.out;obtain⟨av,cv,rfl,hv1,hv2⟩:=tR hT.om;obtain⟨au,cu,rfl,hu1,hu2⟩:=tR hT.oi;have hsI:xw wr au L.length cu (λj=>I.getD j 0):=by
      rw[hlen];refine⟨hu1,λad had=>?_⟩;obtain⟨bb,e,hl⟩:=hu2 ad had;subst had e;refine⟨bb,rfl,hl,λi hi=>?_⟩;rw[Nat.zero_add,hT.oi.cellAt i (by omega)];simp[tS,hi]
     have hsM:vu wr av L.length cv (eR L):=by
      refine⟨hv1,λad had=>?_⟩;obtain⟨bb,e,hl⟩:=hv2 ad had;subst had e;exact⟨bb,rfl,hl,bI hT.om⟩
     have HC:=cU (now+1) shift av L.length cv (eR L) au L.length cu (λj=>I.getD j 0) wr (by omega) (by omega) hsM hsI;rw[<-hlen]at p3;clear hlen;obtain⟨sa,sc,rfl,_⟩:=tR hT.os;have hrs:=hT.rs;have hbw:=hT.below;have hNN:=hT.hN;have hnl:=hT.nx.lt;clear hT hsM hsI;go_wp2_with(go_at_call 131;refine HC.mono ?_;clear HC;rintro e w3 ⟨⟨Bq,cq,Bv,cv',rfl,oQ,oV⟩,b3⟩;have hrs:=hrs.same (b3.block _ hrs.lt);obtain⟨r0,r1,r2,r3,r4⟩:=hrs.cells)
     all_goals first|(exfalso;omega)|skip
     obtain⟨W5,e5,k5,hb5,hz5,hn5⟩:=bg hrs (hbw.trans (b3.mono hbw.size)) (by omega) (now+1) shift (some ⟨Bq,0,none⟩) L.length cq (some ⟨Bv,0,none⟩) L.length cv';rw[e5];obtain⟨q0,q1,q2,q3,q4⟩:=k5.cells;exact bodyPost_ret (v:=.tuple #[.agg #[.int .i64 (now+1),.int .i64 shift,.slice (some ⟨Bq,0,none⟩) L.length cq,.slice (some ⟨Bv,0,none⟩) L.length cv'],.slice sa js sc,.int .i64 0]) (by simp[results,Tryz.f129,go_sem,q0,q1,q2,q3]) rfl ⟨⟨now+1,shift,_,L.length,cq,eR L,_,cv',_,sa,js,sc,0,rfl,by omega,hsh,by omega,λi hi=>hok _ (mH hi),.inr ⟨Bq,Bv,rfl,rfl,aU (ai oQ (λB hB=>hn5 B (by have:=(oQ.lt B hB).1;omega))) (by omega),(cj oV).2.2,gh.of (aU (ai oV (λB hB=>hn5 B (by have:=(oV.lt B hB).1;omega))) (by omega))⟩⟩,hb5⟩
end Go.Proofs.YtlmcblcijndipaaGreat
