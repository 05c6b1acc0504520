import Derived.Test.YtlmcblcijndipaaGreatM21
import Derived.Test.YtlmcblcijndipaaGreatM26
import Derived.Deep.RegionWith
import Derived.Deep.RegionHeld3
set_option linter.unusedVariables false
set_option maxHeartbeats 4000000
set_option maxRecDepth 10000
namespace Go.Proofs.YtlmcblcijndipaaGreat
open Go.RowKit
def Am (f:Nat->Mv)(n:Nat):List Value:=(List.range n).flatMap λj=>(f j).cells.toList
def Be (cs:Array Value):Prop:=∀i,i<6->∃s:ByteArray,cs[i]?=some (.string s)/\s.size<=8
theorem pK (w:World):
  Calls Tryz0.prog 80 #[] w λe w'=>e=.returned (.slice (some ⟨w.heap.size,0,none⟩) 6 6)/\(∃cs,w'.heap[w.heap.size]?=some (.cells cs 9 (0,0))/\Be cs)/\Below w.heap.size w w':=by
 go_enter Tryz0.func80,Tryz.ntmps80
 go_wp2;go_ret;refine⟨rfl,⟨_,heap_alloc_new _ _,λi hi=>?_⟩,(Below.refl _ _).alloc (Nat.le_refl _) _⟩;match i,hi with
 |0,_=>exact⟨_,rfl,by decide⟩
 |1,_=>exact⟨_,rfl,by decide⟩
 |2,_=>exact⟨_,rfl,by decide⟩
 |3,_=>exact⟨_,rfl,by decide⟩
 |4,_=>exact⟨_,rfl,by decide⟩
 |5,_=>exact⟨_,rfl,by decide⟩
structure Ds (R Bn n₀:Nat)(w:World)(v:Value)(n:Nat)(f:Nat->Mv)(q:Int)(W:World):Prop where
 own:W.ownsRow w.heap.size 42 6 v n (Am f n)
 nm:∃cs,W.heap[Bn]?=some (.cells cs 9 (0,0))/\Be cs
 rd:Rd W R q
 but:dg R w W
 below:Below n₀ w W
 pl:fV W v
theorem aP.but {R:Nat}{w w':World}{b:Nat}{m:Mv}(h:aP w b m)(hb:dg R w w')(hne:b≠R):aP w' b m:=(hb.block b (Array.getElem?_eq_some_iff.1 h).1 hne).trans h
theorem aP.lt {w:World}{b:Nat}{m:Mv}(h:aP w b m):b<w.heap.size:=(Array.getElem?_eq_some_iff.1 h).1
theorem gO {R b o:Nat}{w w':World}(hb:dg R w w')(hlt:b<w.heap.size)(hne:b≠R):w'.cell? ⟨b,o,none⟩=w.cell? ⟨b,o,none⟩:=World.cell?_of_block (a:=⟨b,o,none⟩) (hb.block b hlt hne)
structure Ms (R Bn n₀:Nat)(w:World)(v:Value)(n:Nat)(f:Nat->Mv)(q:Int)(Bm:Nat)(m:Mv)(W:World):Prop where
 ds:Ds R Bn n₀ w v n f q W
 mv:aP W Bm m
 lo:w.heap.size<=Bm
 nn:Bm≠Bn
 no:v.ownBlock≠some Bm
structure Good (m:Mv):Prop where
 name:m.name.size<=8
 wake:1<=m.wake/\m.wake<=3
 span:0<=m.est/\m.est<=m.late/\m.late<=10000
 prom:-1<=m.prom/\m.prom<=10000
structure eu (m:Mv):Prop where
 name:m.name.size<=8
 wake:-9223372036854775808<=m.wake/\m.wake<=9223372036854775807
 est:-9223372036854775808<=m.est/\m.est<=9223372036854775807
 late:-9223372036854775808<=m.late/\m.late<=9223372036854775807
 prom:-9223372036854775808<=m.prom/\m.prom<=9223372036854775807
theorem Good.fitting {m:Mv}(h:Good m):eu m:=by
 obtain⟨h1,h2,h3,h4⟩:=h;exact⟨h1,by omega,by omega,by omega,by omega⟩
theorem dE.to {R Br Bm n₀:Nat}{w W W':World}{m:Mv}{q q':Int}(h:dE R Br Bm n₀ w m q W)(hr:R<w.heap.size)(h1:w.heap.size<=Br)(h2:w.heap.size<=Bm)(hRd:Rd W' R q')(hb:dg R W W')(hB:Below n₀ W W'):dE R Br Bm n₀ w m q' W':=by
 have hs:=h.below.size;obtain⟨m0,hm0⟩:=h.res;exact⟨h.mv.but hb (by omega),⟨m0,hm0.but hb (by omega)⟩,hRd,λk hk hne=>(hb.block k (by omega) hne).trans (h.but k hk hne),h.below.trans hB⟩
theorem dE.alloc {R Br Bm n₀:Nat}{w W:World}{m:Mv}{q:Int}(h:dE R Br Bm n₀ w m q W)(hr:R<w.heap.size)(h0:n₀<=R)(h1:w.heap.size<=Br)(h2:w.heap.size<=Bm)(o:Obj):dE R Br Bm n₀ w m q (W.alloc o):=by
 have hb:Below W.heap.size W (W.alloc o):=(Below.refl _ _).alloc (Nat.le_refl _) _;exact h.to hr h1 h2 (h.rd.below hb) (dg.of hb) (hb.mono (by have:=h.rd.lt;omega))
theorem dE.turn {R Br Bm n₀:Nat}{w W:World}{m m':Mv}{q:Int}(h:dE R Br Bm n₀ w m q W)(hr:R<w.heap.size)(h0:n₀<=R)(h1:w.heap.size<=Br)(h2:w.heap.size<=Bm)(hne:Br≠Bm)(k:Nat)(v:Value)(hv:aP (W.setCell ⟨Bm,k,none⟩ v) Bm m'):dE R Br Bm n₀ w m' q (W.setCell ⟨Bm,k,none⟩ v):=by
 obtain⟨m0,hm0⟩:=h.res;exact⟨hv,⟨m0,(Below.heap_setCell W _ _ Br (by simpa using hne)).trans hm0⟩,h.rd.set (by omega) _ _,λk hk hne=>(Below.heap_setCell W _ _ k (by simp;omega)).trans (h.but k hk hne),h.below.setCell (by simp;omega) _⟩
theorem aP.name {W:World}{b:Nat}{m:Mv}(h:aP W b m)(x:ByteArray):aP (W.setCell ⟨b,0,none⟩ (.string x)) b {m with name:=x}:=by
 have:=heap_setCell_same W b 0 _ _ (.string x) h;simpa[aP]using this
theorem aP.wake {W:World}{b:Nat}{m:Mv}(h:aP W b m)(x:Int):aP (W.setCell ⟨b,2,none⟩ (.int .i64 x)) b {m with wake:=x}:=by
 have:=heap_setCell_same W b 2 _ _ (.int .i64 x) h;simpa[aP]using this
theorem aP.est {W:World}{b:Nat}{m:Mv}(h:aP W b m)(x:Int):aP (W.setCell ⟨b,3,none⟩ (.int .i64 x)) b {m with est:=x}:=by
 have:=heap_setCell_same W b 3 _ _ (.int .i64 x) h;simpa[aP]using this
theorem aP.late {W:World}{b:Nat}{m:Mv}(h:aP W b m)(x:Int):aP (W.setCell ⟨b,4,none⟩ (.int .i64 x)) b {m with late:=x}:=by
 have:=heap_setCell_same W b 4 _ _ (.int .i64 x) h;simpa[aP]using this
theorem aP.prom {W:World}{b:Nat}{m:Mv}(h:aP W b m)(x:Int):aP (W.setCell ⟨b,5,none⟩ (.int .i64 x)) b {m with prom:=x}:=by
 have:=heap_setCell_same W b 5 _ _ (.int .i64 x) h;simpa[aP]using this
theorem AM (a b c:Int)(k:Nat)(hk:k<3):∃v:Int,(#[.int .i64 a,.int .i64 b,.int .i64 c]:Array Value)[k]?=some (.int .i64 v)/\(v=a\/v=b\/v=c):=by
 match k,hk with
 |0,_=>exact⟨a,rfl,.inl rfl⟩
 |1,_=>exact⟨b,rfl,.inr (.inl rfl)⟩
 |2,_=>exact⟨c,rfl,.inr (.inr rfl)⟩
theorem BK (a b c d:Int)(k:Nat)(hk:k<4):∃v:Int,(#[.int .i64 a,.int .i64 b,.int .i64 c,.int .i64 d]:Array Value)[k]?=some (.int .i64 v)/\(v=a\/v=b\/v=c\/v=d):=by
 match k,hk with
 |0,_=>exact⟨a,rfl,.inl rfl⟩
 |1,_=>exact⟨b,rfl,.inr (.inl rfl)⟩
 |2,_=>exact⟨c,rfl,.inr (.inr (.inl rfl))⟩
 |3,_=>exact⟨d,rfl,.inr (.inr (.inr rfl))⟩
theorem Bp (a b c d e:Int)(k:Nat)(hk:k<5):∃v:Int,(#[.int .i64 a,.int .i64 b,.int .i64 c,.int .i64 d,.int .i64 e]:Array Value)[k]?=some (.int .i64 v)/\(v=a\/v=b\/v=c\/v=d\/v=e):=by
 match k,hk with
 |0,_=>exact⟨a,rfl,.inl rfl⟩
 |1,_=>exact⟨b,rfl,.inr (.inl rfl)⟩
 |2,_=>exact⟨c,rfl,.inr (.inr (.inl rfl))⟩
 |3,_=>exact⟨d,rfl,.inr (.inr (.inr (.inl rfl)))⟩
 |4,_=>exact⟨e,rfl,.inr (.inr (.inr (.inr rfl)))⟩
theorem Ao (R:Nat)(p:Int)(b:Nat)(f:Nat->ByteArray)(w:World)(n₀:Nat)(h0:n₀<=R)(hr:Rd w R p)(hp:p<=1000000)(hbR:b≠R)(hb:b<w.heap.size)(hf:∀i,i<4->w.cell? ⟨b,i,none⟩=some (.string (f i))):
  Calls Tryz0.prog 82 #[.pointer (some ⟨R,0,none⟩),.slice (some ⟨b,0,none⟩) 4 4] w λe w'=>(∃i,i<4/\e=.returned (.string (f i)))/\Rd w' R (p+1)/\dg R w w'/\Below n₀ w w':=by
 have H1:=aH R p 4 w n₀ h0 hr (by omega) (by omega) (by omega);go_enter Tryz0.func82,Tryz.ntmps82
 go_wp2_with(go_at_call 22;refine H1.mono ?_;clear H1;rintro e w1 ⟨⟨z,rfl,l1,u1⟩,r1,t1,b1⟩;obtain⟨k,rfl⟩:∃k:Nat,z=(k:Int):=⟨z.toNat,(by omega)⟩;have hc:w1.cell? ⟨b,k,none⟩=some (.string (f k)):=(gO t1 hb hbR).trans (hf k (by omega)))
 go_ret;exact⟨⟨k,by omega,rfl⟩,r1,t1,b1⟩
def jh:Nat->ByteArray
 |0=>⟨#[]⟩
 |1=>⟨#[65]⟩
 |2=>⟨#[122,122]⟩
 |_=>⟨#[97,49]⟩
theorem vz (k:Nat):(jh k).size<=8:=by
 match k with
 |0=>decide
 |1=>decide
 |2=>decide
 |_+3=>exact(by decide:(⟨#[97,49]⟩:ByteArray).size<=8)
theorem yU (W:World):∀i,i<4->(W.alloc (.cells #[.string ⟨#[]⟩,.string ⟨#[65]⟩,.string ⟨#[122,122]⟩,.string ⟨#[97,49]⟩] 9)).cell? ⟨W.heap.size,i,none⟩=some (.string (jh i)):=λi hi=>by
 rw[World.cell?_alloc_at _ _ _ _ rfl];match i,hi with
 |0,_=>rfl
 |1,_=>rfl
 |2,_=>rfl
 |3,_=>rfl
theorem vA (R:Nat)(p:Int)(m:Mv)(w:World)(n₀:Nat)(h0:n₀<=R)(hr:Rd w R p)(hp:p<=900000)(hg:Good m):
  Calls Tryz0.prog 44 #[.pointer (some ⟨R,0,none⟩),.agg #[.string m.name,.bool m.lands,.int .i64 m.wake,.int .i64 m.est,.int .i64 m.late,.int .i64 m.prom]] w λe w'=>(∃m':Mv,e=.returned (.agg #[.string m'.name,.bool m'.lands,.int .i64 m'.wake,.int .i64 m'.est,.int .i64 m'.late,.int .i64 m'.prom])/\eu m')/\qF R p 7 n₀ w w':=by
 have hR:=hr.lt;have hS0:dE R (w.heap.size+1) w.heap.size n₀ w m p ((w.alloc (.cells #[.string m.name,.bool m.lands,.int .i64 m.wake,.int .i64 m.est,.int .i64 m.late,.int .i64 m.prom] 42)).alloc (.cells #[.string ByteArray.empty,.bool false,.int .i64 0,.int .i64 0,.int .i64 0,.int .i64 0] 42)):=by
  have bA:Below w.heap.size w (w.alloc (.cells #[.string m.name,.bool m.lands,.int .i64 m.wake,.int .i64 m.est,.int .i64 m.late,.int .i64 m.prom] 42)):=(Below.refl _ _).alloc (Nat.le_refl _) _;have bB:Below w.heap.size w ((w.alloc (.cells #[.string m.name,.bool m.lands,.int .i64 m.wake,.int .i64 m.est,.int .i64 m.late,.int .i64 m.prom] 42)).alloc (.cells #[.string ByteArray.empty,.bool false,.int .i64 0,.int .i64 0,.int .i64 0,.int .i64 0] 42)):=bA.alloc (by simp) _;have bC:∀o,Below (w.heap.size+1) (w.alloc (.cells #[.string m.name,.bool m.lands,.int .i64 m.wake,.int .i64 m.est,.int .i64 m.late,.int .i64 m.prom] 42)) ((w.alloc (.cells #[.string m.name,.bool m.lands,.int .i64 m.wake,.int .i64 m.est,.int .i64 m.late,.int .i64 m.prom] 42)).alloc o):=λo=>(Below.refl _ _).alloc (by simp) _
  exact⟨((bC _).block _ (by omega)).trans (heap_alloc_new _ _),⟨⟨ByteArray.empty,false,0,0,0,0⟩,by have:=heap_alloc_new (w.alloc (.cells #[.string m.name,.bool m.lands,.int .i64 m.wake,.int .i64 m.est,.int .i64 m.late,.int .i64 m.prom] 42)) (.cells #[.string ByteArray.empty,.bool false,.int .i64 0,.int .i64 0,.int .i64 0,.int .i64 0] 42);simpa[aP]using this⟩,hr.below bB,λk hk _=>bB.block k hk,bB.mono (by omega)⟩
 have H1:=aH R p 5 _ n₀ h0 hS0.rd (by omega) (by omega) (by omega);go_enter Tryz0.func44,Tryz.ntmps44
 go_wp2_with(go_at_call 22;refine H1.mono ?_;clear H1;rintro e w1 ⟨⟨z1,rfl,l1,u1⟩,r1,t1,b1⟩;have hS1:=hS0.to hR (by omega) (by omega) r1 t1 b1)
 .have hS2:=hS1.alloc hR h0 (by omega) (by omega) (.cells #[.string ⟨#[]⟩,.string ⟨#[65]⟩,.string ⟨#[122,122]⟩,.string ⟨#[97,49]⟩] 9);have H2:=Ao R (p+1) w1.heap.size jh _ n₀ h0 hS2.rd (by omega) (by have:=hS1.rd.lt;omega) (by simp) (yU w1);go_wp2_with(go_at_call 82;refine H2.mono ?_;clear H2;rintro e w4 ⟨⟨k,hk,rfl⟩,r4,t4,b4⟩;have hS4:=hS2.to hR (by omega) (by omega) r4 t4 b4;obtain⟨d0,d1,d2,d3,d4,d5⟩:=hS4.mv.at_;simp only[Nat.zero_add]at d0 d1 d2 d3 d4 d5;have fr:=hS4.mv.frozen 0;obtain⟨m0,hm0⟩:=hS4.res;obtain⟨k0,k1,k2,k3,k4,k5⟩:=hm0.at_;simp only[Nat.zero_add]at k0 k1 k2 k3 k4 k5;have fr0:=hm0.frozen)
  have hf:eu {m with name:=jh k}:=⟨vz k,hg.fitting.wake,hg.fitting.est,hg.fitting.late,hg.fitting.prom⟩;have hS5:=hS4.turn hR h0 (by omega) (by omega) (by omega) 0 _ (hS4.mv.name (jh k));obtain⟨m1,hm1⟩:=hS5.res;have q:=cP (w4.setCell ⟨w.heap.size,0,none⟩ (.string (jh k))) (w.heap.size+1) 0 {m with name:=jh k} _ _ hm1 (by simp);obtain⟨q0,q1,q2,q3,q4,q5⟩:=q;simp only[Nat.zero_add]at q0 q1 q2 q3 q4 q5;change bodyPost _ _ _ _ _ (setMv (w4.setCell ⟨w.heap.size,0,none⟩ (.string (jh k))) (w.heap.size+1) 0 {m with name:=jh k});exact bodyPost_ret (v:=.agg #[.string (jh k),.bool m.lands,.int .i64 m.wake,.int .i64 m.est,.int .i64 m.late,.int .i64 m.prom]) (by simp[results,Tryz.results44,go_sem,q0,q1,q2,q3,q4,q5]) rfl ⟨⟨{m with name:=jh k},rfl,hf⟩,hS5.went h0 (by omega) (by omega) _ (by omega)⟩
 .have hS2:=hS1.alloc hR h0 (by omega) (by omega) (.cells #[.int .i64 0,.int .i64 3,.int .i64 4,.int .i64 (-9223372036854775808)] 3);have H2:=aH R (p+1) 4 _ n₀ h0 hS2.rd (by omega) (by omega) (by omega);go_wp2_with(go_at_call 22;refine H2.mono ?_;clear H2;rintro e w4 ⟨⟨z,rfl,l4,u4⟩,r4,t4,b4⟩;have hS4:=hS2.to hR (by omega) (by omega) r4 t4 b4;obtain⟨k,rfl⟩:∃k:Nat,z=(k:Int):=⟨z.toNat,(by omega)⟩;obtain⟨v,hv,hvs⟩:=BK 0 3 4 (-9223372036854775808) k (by omega);obtain⟨d0,d1,d2,d3,d4,d5⟩:=hS4.mv.at_;simp only[Nat.zero_add]at d0 d1 d2 d3 d4 d5;have fr:=hS4.mv.frozen 2;obtain⟨m0,hm0⟩:=hS4.res;obtain⟨k0,k1,k2,k3,k4,k5⟩:=hm0.at_;simp only[Nat.zero_add]at k0 k1 k2 k3 k4 k5;have fr0:=hm0.frozen;have hcv:w4.cell? ⟨w1.heap.size,k,none⟩=some (.int .i64 v):=(gO t4 (by simp) (by have:=hS1.rd.lt;omega)).trans ((World.cell?_alloc_at _ _ _ _ rfl).trans hv))
  have hf:eu {m with wake:=v}:=⟨hg.fitting.name,by simp only;omega,hg.fitting.est,hg.fitting.late,hg.fitting.prom⟩;have hS5:=hS4.turn hR h0 (by omega) (by omega) (by omega) 2 _ (hS4.mv.wake v);obtain⟨m1,hm1⟩:=hS5.res;have q:=cP (w4.setCell ⟨w.heap.size,2,none⟩ (.int .i64 v)) (w.heap.size+1) 0 {m with wake:=v} _ _ hm1 (by simp);obtain⟨q0,q1,q2,q3,q4,q5⟩:=q;simp only[Nat.zero_add]at q0 q1 q2 q3 q4 q5;change bodyPost _ _ _ _ _ (setMv (w4.setCell ⟨w.heap.size,2,none⟩ (.int .i64 v)) (w.heap.size+1) 0 {m with wake:=v});exact bodyPost_ret (v:=.agg #[.string m.name,.bool m.lands,.int .i64 v,.int .i64 m.est,.int .i64 m.late,.int .i64 m.prom]) (by simp[results,Tryz.results44,go_sem,q0,q1,q2,q3,q4,q5]) rfl ⟨⟨{m with wake:=v},rfl,hf⟩,hS5.went h0 (by omega) (by omega) _ (by omega)⟩
 .obtain⟨c0,c1,c2,c3,c4,c5⟩:=hS1.mv.at_;simp only[Nat.zero_add]at c0 c1 c2 c3 c4 c5;have hS2:=hS1.drew;have hwl:IntKind.i64.wrap (m.late+1)=m.late+1:=by have:=hg.span;rw[IntKind.wrap_i64];omega
  have n1:w.heap.size≠w1.heap.size:=Nat.ne_of_lt hS1.mv.lt;have n2:=n1.symm;have HP:∀W,dE R (w.heap.size+1) w.heap.size n₀ w m (p+1) W->Calls Tryz0.prog 22 #[.pointer (some ⟨R,0,none⟩),.int .i64 3] W λe w'=>∃z:Nat,e=.returned (.int .i64 (z:Int))/\z<3/\dE R (w.heap.size+1) w.heap.size n₀ w m (p+1+1) w'/\dg R W w':=λW hW=>
   (aH R (p+1) 3 W n₀ h0 hW.rd (by omega) (by omega) (by omega)).mono (λe w' ⟨⟨z,h1,h2,h3⟩,h4,h5,h6⟩=>⟨z.toNat,by rw[h1];congr 2;omega,by omega,hW.to hR (by omega) (by omega) h4 h5 h6,h5⟩)
  go_region_with
   (first
    |(go_at_call 22;refine(HP _ hS2).mono ?_;clear HP;rintro e w4 ⟨k,rfl,hk,hS4,t4⟩;obtain⟨v,hv,hvs⟩:=AM (-1) m.late (m.late+1) k hk;have hk1:(k:Int)<3:=(by omega);have hk2:(0:Int)<=(k:Int):=(by omega);obtain⟨d0,d1,d2,d3,d4,d5⟩:=hS4.mv.at_;simp only[Nat.zero_add]at d0 d1 d2 d3 d4 d5;have fr:=hS4.mv.frozen 3;have n4:=Nat.ne_of_lt hS4.mv.lt;have n5:=n4.symm;have cA:∀o,(w4.alloc o).cell? ⟨w.heap.size,3,none⟩=some (.int .i64 m.est):=λo=>(by have:=(hS4.alloc hR h0 (by omega) (by omega) o).mv.at_.c3;simpa using this);have fA:∀o,(w4.alloc o).frozen? ⟨w.heap.size,3,none⟩=false:=λo=>(hS4.alloc hR h0 (by omega) (by omega) o).mv.frozen 3;have cV:(w4.alloc (.cells #[.int .i64 (-1),.int .i64 m.late,.int .i64 (m.late+1)] 3)).cell? ⟨w4.heap.size,k,none⟩=some (.int .i64 v):=(World.cell?_alloc_at _ _ _ _ rfl).trans hv;have hvl:[Value.int .i64 (-1),Value.int .i64 m.late,Value.int .i64 (m.late+1)][k]?=some (.int .i64 v):=(by simpa using hv))
    |(go_at_call 22;refine(HP _ (hS2.alloc hR h0 (by omega) (by omega) _)).mono ?_;clear HP;rintro e w4 ⟨k,rfl,hk,hS4,t4⟩;obtain⟨v,hv,hvs⟩:=AM (-1) m.late (m.late+1) k hk;have hk1:(k:Int)<3:=(by omega);have hk2:(0:Int)<=(k:Int):=(by omega);obtain⟨d0,d1,d2,d3,d4,d5⟩:=hS4.mv.at_;simp only[Nat.zero_add]at d0 d1 d2 d3 d4 d5;have fr:=hS4.mv.frozen 3;have hcv:w4.cell? ⟨w1.heap.size,k,none⟩=some (.int .i64 v):=(gO t4 (by simp) (by have:=hS1.rd.lt;omega)).trans ((World.cell?_alloc_at _ _ _ _ rfl).trans hv)))
  all_goals have hf:eu {m with est:=v}:=⟨hg.fitting.name,hg.fitting.wake,by have:=hg.span;simp only;omega,hg.fitting.late,hg.fitting.prom⟩
  all_goals first
   |(have hS5:=hS4.turn hR h0 (by omega) (by omega) (by omega) 3 _ (hS4.mv.est v)
     revert hS5 hf;generalize w4.setCell ⟨w.heap.size,3,none⟩ (.int .i64 v)=W5;generalize ({m with est:=v}:Mv)=m';intro hf hS5;clear hcv)
   |(have hS5:=(hS4.alloc hR h0 (by omega) (by omega) (.cells #[.int .i64 (-1),.int .i64 m.late,.int .i64 (m.late+1)] 3)).turn hR h0 (by omega) (by omega) (by omega) 3 _ ((hS4.alloc hR h0 (by omega) (by omega) (.cells #[.int .i64 (-1),.int .i64 m.late,.int .i64 (m.late+1)] 3)).mv.est v)
     revert hS5 hf;generalize (w4.alloc (.cells #[.int .i64 (-1),.int .i64 m.late,.int .i64 (m.late+1)] 3)).setCell ⟨w.heap.size,3,none⟩ (.int .i64 v)=W5;generalize ({m with est:=v}:Mv)=m';intro hf hS5;clear cA fA cV hvl n4 n5)
  all_goals
   clear hv hvs d0 d1 d2 d3 d4 d5 fr t4 hS4 hS2 hS1 c0 c1 c2 c3 c4 c5 n1 n2;obtain⟨d0,d1,d2,d3,d4,d5⟩:=hS5.mv.at_;simp only[Nat.zero_add]at d0 d1 d2 d3 d4 d5;obtain⟨m0,hm0⟩:=hS5.res;obtain⟨k0,k1,k2,k3,k4,k5⟩:=hm0.at_;simp only[Nat.zero_add]at k0 k1 k2 k3 k4 k5;have fr:=hm0.frozen;go_wp2;have q:=cP W5 (w.heap.size+1) 0 m' _ _ hm0 (by simp);obtain⟨q0,q1,q2,q3,q4,q5⟩:=q;simp only[Nat.zero_add]at q0 q1 q2 q3 q4 q5;change bodyPost _ _ _ _ _ (setMv W5 (w.heap.size+1) 0 m');exact bodyPost_ret (v:=.agg #[.string m'.name,.bool m'.lands,.int .i64 m'.wake,.int .i64 m'.est,.int .i64 m'.late,.int .i64 m'.prom]) (by simp[results,Tryz.results44,go_sem,q0,q1,q2,q3,q4,q5]) rfl ⟨⟨m',rfl,hf⟩,hS5.went h0 (by omega) (by omega) _ (by omega)⟩
 .obtain⟨c0,c1,c2,c3,c4,c5⟩:=hS1.mv.at_;simp only[Nat.zero_add]at c0 c1 c2 c3 c4 c5;have hS2:=hS1.drew;have n1:w.heap.size≠w1.heap.size:=Nat.ne_of_lt hS1.mv.lt;have n2:=n1.symm;have HP:∀W,dE R (w.heap.size+1) w.heap.size n₀ w m (p+1) W->Calls Tryz0.prog 22 #[.pointer (some ⟨R,0,none⟩),.int .i64 3] W λe w'=>∃z:Nat,e=.returned (.int .i64 (z:Int))/\z<3/\dE R (w.heap.size+1) w.heap.size n₀ w m (p+1+1) w'/\dg R W w':=λW hW=>
   (aH R (p+1) 3 W n₀ h0 hW.rd (by omega) (by omega) (by omega)).mono (λe w' ⟨⟨z,h1,h2,h3⟩,h4,h5,h6⟩=>⟨z.toNat,by rw[h1];congr 2;omega,by omega,hW.to hR (by omega) (by omega) h4 h5 h6,h5⟩)
  go_region_with
   (first
    |(go_at_call 22;refine(HP _ hS2).mono ?_;clear HP;rintro e w4 ⟨k,rfl,hk,hS4,t4⟩;obtain⟨v,hv,hvs⟩:=AM 10000 10001 m.est k hk;have hk1:(k:Int)<3:=(by omega);have hk2:(0:Int)<=(k:Int):=(by omega);obtain⟨d0,d1,d2,d3,d4,d5⟩:=hS4.mv.at_;simp only[Nat.zero_add]at d0 d1 d2 d3 d4 d5;have fr:=hS4.mv.frozen 4;have d34:∀v,(w4.setCell ⟨w.heap.size,4,none⟩ v).cell? ⟨w.heap.size,3,none⟩=some (.int .i64 m.est):=λv=>(World.cell?_setCell_other _ _ _ _ (by simp)).trans d3;have n4:=Nat.ne_of_lt hS4.mv.lt;have n5:=n4.symm;have cA:∀o,(w4.alloc o).cell? ⟨w.heap.size,4,none⟩=some (.int .i64 m.late):=λo=>(by have:=(hS4.alloc hR h0 (by omega) (by omega) o).mv.at_.c4;simpa using this);have fA:∀o,(w4.alloc o).frozen? ⟨w.heap.size,4,none⟩=false:=λo=>(hS4.alloc hR h0 (by omega) (by omega) o).mv.frozen 4;have dA:∀o v,((w4.alloc o).setCell ⟨w.heap.size,4,none⟩ v).cell? ⟨w.heap.size,3,none⟩=some (.int .i64 m.est):=λo v=>(World.cell?_setCell_other _ _ _ _ (by simp)).trans ((World.cell?_alloc_past _ _ _ hS4.mv.lt).trans d3);have cV:(w4.alloc (.cells #[.int .i64 10000,.int .i64 10001,.int .i64 m.est] 3)).cell? ⟨w4.heap.size,k,none⟩=some (.int .i64 v):=(World.cell?_alloc_at _ _ _ _ rfl).trans hv;have hvl:[Value.int .i64 10000,Value.int .i64 10001,Value.int .i64 m.est][k]?=some (.int .i64 v):=(by simpa using hv))
    |(go_at_call 22;refine(HP _ (hS2.alloc hR h0 (by omega) (by omega) _)).mono ?_;clear HP;rintro e w4 ⟨k,rfl,hk,hS4,t4⟩;obtain⟨v,hv,hvs⟩:=AM 10000 10001 m.est k hk;have hk1:(k:Int)<3:=(by omega);have hk2:(0:Int)<=(k:Int):=(by omega);obtain⟨d0,d1,d2,d3,d4,d5⟩:=hS4.mv.at_;simp only[Nat.zero_add]at d0 d1 d2 d3 d4 d5;have fr:=hS4.mv.frozen 4;have d34:∀v,(w4.setCell ⟨w.heap.size,4,none⟩ v).cell? ⟨w.heap.size,3,none⟩=some (.int .i64 m.est):=λv=>(World.cell?_setCell_other _ _ _ _ (by simp)).trans d3;have hcv:w4.cell? ⟨w1.heap.size,k,none⟩=some (.int .i64 v):=(gO t4 (by simp) (by have:=hS1.rd.lt;omega)).trans ((World.cell?_alloc_at _ _ _ _ rfl).trans hv)))
  all_goals have hf:eu {m with late:=v}:=⟨hg.fitting.name,hg.fitting.wake,hg.fitting.est,by have:=hg.span;simp only;omega,hg.fitting.prom⟩
  all_goals first
   |(have hS5:=hS4.turn hR h0 (by omega) (by omega) (by omega) 4 _ (hS4.mv.late v)
     revert hS5 hf;generalize w4.setCell ⟨w.heap.size,4,none⟩ (.int .i64 v)=W5;generalize ({m with late:=v}:Mv)=m';intro hf hS5;clear hcv)
   |(have hS5:=(hS4.alloc hR h0 (by omega) (by omega) (.cells #[.int .i64 10000,.int .i64 10001,.int .i64 m.est] 3)).turn hR h0 (by omega) (by omega) (by omega) 4 _ ((hS4.alloc hR h0 (by omega) (by omega) (.cells #[.int .i64 10000,.int .i64 10001,.int .i64 m.est] 3)).mv.late v)
     revert hS5 hf;generalize (w4.alloc (.cells #[.int .i64 10000,.int .i64 10001,.int .i64 m.est] 3)).setCell ⟨w.heap.size,4,none⟩ (.int .i64 v)=W5;generalize ({m with late:=v}:Mv)=m';intro hf hS5;clear cA fA dA cV hvl n4 n5)
  all_goals
   clear hv hvs d0 d1 d2 d3 d4 d5 fr d34 t4 hS4 hS2 hS1 c0 c1 c2 c3 c4 c5 n1 n2;obtain⟨d0,d1,d2,d3,d4,d5⟩:=hS5.mv.at_;simp only[Nat.zero_add]at d0 d1 d2 d3 d4 d5;obtain⟨m0,hm0⟩:=hS5.res;obtain⟨k0,k1,k2,k3,k4,k5⟩:=hm0.at_;simp only[Nat.zero_add]at k0 k1 k2 k3 k4 k5;have fr:=hm0.frozen;go_wp2;have q:=cP W5 (w.heap.size+1) 0 m' _ _ hm0 (by simp);obtain⟨q0,q1,q2,q3,q4,q5⟩:=q;simp only[Nat.zero_add]at q0 q1 q2 q3 q4 q5;change bodyPost _ _ _ _ _ (setMv W5 (w.heap.size+1) 0 m');exact bodyPost_ret (v:=.agg #[.string m'.name,.bool m'.lands,.int .i64 m'.wake,.int .i64 m'.est,.int .i64 m'.late,.int .i64 m'.prom]) (by simp[results,Tryz.results44,go_sem,q0,q1,q2,q3,q4,q5]) rfl ⟨⟨m',rfl,hf⟩,hS5.went h0 (by omega) (by omega) _ (by omega)⟩
 .obtain⟨c0,c1,c2,c3,c4,c5⟩:=hS1.mv.at_;simp only[Nat.zero_add]at c0 c1 c2 c3 c4 c5;have hS2:=hS1.drew;have hw1:IntKind.i64.wrap (m.est-1)=m.est-1:=by have:=hg.span;rw[IntKind.wrap_i64];omega
  have hw2:IntKind.i64.wrap (m.late+1)=m.late+1:=by have:=hg.span;rw[IntKind.wrap_i64];omega
  have n1:w.heap.size≠w1.heap.size:=Nat.ne_of_lt hS1.mv.lt;have n2:=n1.symm;have HP:∀W,dE R (w.heap.size+1) w.heap.size n₀ w m (p+1) W->Calls Tryz0.prog 22 #[.pointer (some ⟨R,0,none⟩),.int .i64 5] W λe w'=>∃z:Nat,e=.returned (.int .i64 (z:Int))/\z<5/\dE R (w.heap.size+1) w.heap.size n₀ w m (p+1+1) w'/\dg R W w':=λW hW=>
   (aH R (p+1) 5 W n₀ h0 hW.rd (by omega) (by omega) (by omega)).mono (λe w' ⟨⟨z,h1,h2,h3⟩,h4,h5,h6⟩=>⟨z.toNat,by rw[h1];congr 2;omega,by omega,hW.to hR (by omega) (by omega) h4 h5 h6,h5⟩)
  refine wp_region_held_drew (S:=λw'=>w'.cell? ⟨w.heap.size,3,none⟩=some (.int .i64 m.est)/\w'.cell? ⟨w.heap.size,4,none⟩=some (.int .i64 m.late)) (by kernel_rfl) ⟨c3,c4⟩ (λhHeld=>?_);refine aB (i:=0) (v:=.pointer (some ⟨w.heap.size,3,none⟩)) 7 rfl rfl (by kernel_rfl) (by kernel_rfl) (by kernel_rfl) (λ_ _ _ h=>h) (Or.inl ⟨by rfl,λw' hSw=>by(obtain⟨hs3,hs4⟩:=hSw;go_simp)⟩) hHeld ?_;simp only[Act.put,List.setIfInBounds_toArray,List.set_cons_zero,List.set_cons_succ];refine aB (i:=1) (v:=.int .i64 m.est) 8 rfl rfl (by kernel_rfl) (by kernel_rfl) (by kernel_rfl) (λ_ _ _ h=>h) (Or.inl ⟨by rfl,λw' hSw=>by(obtain⟨hs3,hs4⟩:=hSw;go_simp)⟩) hHeld ?_;simp only[Act.put,List.setIfInBounds_toArray,List.set_cons_zero,List.set_cons_succ];refine aB (i:=2) (v:=.int .i64 (m.est-1)) 9 rfl rfl (by kernel_rfl) (by kernel_rfl) (by kernel_rfl) (λ_ _ _ h=>h) (Or.inl ⟨by rfl,λw' hSw=>by(obtain⟨hs3,hs4⟩:=hSw;go_simp)⟩) hHeld ?_;simp only[Act.put,List.setIfInBounds_toArray,List.set_cons_zero,List.set_cons_succ];refine aB (i:=3) (v:=.pointer (some ⟨w.heap.size,3,none⟩)) 10 rfl rfl (by kernel_rfl) (by kernel_rfl) (by kernel_rfl) (λ_ _ _ h=>h) (Or.inl ⟨by rfl,λw' hSw=>by(obtain⟨hs3,hs4⟩:=hSw;go_simp)⟩) hHeld ?_;simp only[Act.put,List.setIfInBounds_toArray,List.set_cons_zero,List.set_cons_succ];refine aB (i:=4) (v:=.int .i64 m.est) 11 rfl rfl (by kernel_rfl) (by kernel_rfl) (by kernel_rfl) (λ_ _ _ h=>h) (Or.inl ⟨by rfl,λw' hSw=>by(obtain⟨hs3,hs4⟩:=hSw;go_simp)⟩) hHeld ?_;simp only[Act.put,List.setIfInBounds_toArray,List.set_cons_zero,List.set_cons_succ];refine aB (i:=5) (v:=.pointer (some ⟨w.heap.size,4,none⟩)) 12 rfl rfl (by kernel_rfl) (by kernel_rfl) (by kernel_rfl) (λ_ _ _ h=>h) (Or.inl ⟨by rfl,λw' hSw=>by(obtain⟨hs3,hs4⟩:=hSw;go_simp)⟩) hHeld ?_;simp only[Act.put,List.setIfInBounds_toArray,List.set_cons_zero,List.set_cons_succ];refine aB (i:=6) (v:=.int .i64 m.late) 13 rfl rfl (by kernel_rfl) (by kernel_rfl) (by kernel_rfl) (λ_ _ _ h=>h) (Or.inl ⟨by rfl,λw' hSw=>by(obtain⟨hs3,hs4⟩:=hSw;go_simp)⟩) hHeld ?_;simp only[Act.put,List.setIfInBounds_toArray,List.set_cons_zero,List.set_cons_succ];refine aB (i:=7) (v:=.pointer (some ⟨w.heap.size,4,none⟩)) 14 rfl rfl (by kernel_rfl) (by kernel_rfl) (by kernel_rfl) (λ_ _ _ h=>h) (Or.inl ⟨by rfl,λw' hSw=>by(obtain⟨hs3,hs4⟩:=hSw;go_simp)⟩) hHeld ?_;simp only[Act.put,List.setIfInBounds_toArray,List.set_cons_zero,List.set_cons_succ];refine aB (i:=8) (v:=.int .i64 m.late) 15 rfl rfl (by kernel_rfl) (by kernel_rfl) (by kernel_rfl) (λ_ _ _ h=>h) (Or.inl ⟨by rfl,λw' hSw=>by(obtain⟨hs3,hs4⟩:=hSw;go_simp)⟩) hHeld ?_;simp only[Act.put,List.setIfInBounds_toArray,List.set_cons_zero,List.set_cons_succ];refine aB (i:=9) (v:=.int .i64 (m.late+1)) 16 rfl rfl (by kernel_rfl) (by kernel_rfl) (by kernel_rfl) (λ_ _ _ h=>h) (Or.inl ⟨by rfl,λw' hSw=>by(obtain⟨hs3,hs4⟩:=hSw;go_simp)⟩) hHeld ?_;simp only[Act.put,List.setIfInBounds_toArray,List.set_cons_zero,List.set_cons_succ];refine aB (i:=11) (v:=.pointer (some ⟨R,0,none⟩)) 18 rfl rfl (by kernel_rfl) (by kernel_rfl) (by kernel_rfl) (λ_ _ _ h=>h) (Or.inl ⟨by rfl,λw' hSw=>by(obtain⟨hs3,hs4⟩:=hSw;go_simp)⟩) hHeld ?_;simp only[Act.put,List.setIfInBounds_toArray,List.set_cons_zero,List.set_cons_succ];refine wpAnyH_ready (rs:=[10,12]) (by kernel_rfl) (by simp) ?_;refine AllReadyH.cons rfl (λK hK=>?_) (AllReadyH.cons rfl (λK hK=>?_) AllReadyH.nil)
  .go_simp
   have hSA:=(hS1.alloc hR h0 (by omega) (by omega) (.cells #[.int .i64 (-2),.int .i64 (m.est-1),.int .i64 m.est,.int .i64 m.late,.int .i64 (m.late+1)] 3)).drew;obtain⟨a0,a1,a2,a3,a4,a5⟩:=hSA.mv.at_;simp only[Nat.zero_add]at a0 a1 a2 a3 a4 a5;refine hK.out _ _ ⟨a3,a4⟩ (λhHeld=>?_);clear hK K;refine wpAnyH_ready (rs:=[12]) (by kernel_rfl) (by simp) ?_;refine AllReadyH.cons rfl (λK hK=>?_) AllReadyH.nil;go_simp
   go_at_call 22
   refine(HP _ hSA).mono ?_;rintro e w4 ⟨k,rfl,hk,hS4,t4⟩;obtain⟨v,hv,hvs⟩:=Bp (-2) (m.est-1) m.est m.late (m.late+1) k hk;have hk1:(k:Int)<5:=by omega
   have hk2:(0:Int)<=(k:Int):=by omega
   obtain⟨d0,d1,d2,d3,d4,d5⟩:=hS4.mv.at_;simp only[Nat.zero_add]at d0 d1 d2 d3 d4 d5;have hcv:w4.cell? ⟨w1.heap.size,k,none⟩=some (.int .i64 v):=(gO t4 (by simp) (by have:=hS1.rd.lt;omega)).trans ((World.cell?_alloc_at _ _ _ _ rfl).trans hv);have fr5:=hS4.mv.frozen 5;go_wp2_with fail
   refine hK.out _ _ ⟨d3,d4⟩ (λhHeld=>?_);clear hK K;refine wpAnyH_ready (rs:=[13]) (by kernel_rfl) (by simp) ?_;refine AllReadyH.cons rfl (λK hK=>?_) AllReadyH.nil;go_simp
   refine hK.out _ _ ⟨d3,d4⟩ (λhHeld=>?_);clear hK K;refine wpAnyH_ready (rs:=[14]) (by kernel_rfl) (by simp) ?_;refine AllReadyH.cons rfl (λK hK=>?_) AllReadyH.nil;go_simp
   refine hK.out _ _ ⟨d3,d4⟩ (λhHeld=>?_);clear hK K;refine wpAnyH_ready (rs:=[15]) (by kernel_rfl) (by simp) ?_;refine AllReadyH.cons rfl (λK hK=>?_) AllReadyH.nil;go_simp
   refine hK.out _ _ ⟨d3,d4⟩ (λhHeld=>?_);clear hK K;refine wpAnyH_ready (rs:=[16]) (by kernel_rfl) (by simp) ?_;refine AllReadyH.cons rfl (λK hK=>?_) AllReadyH.nil;go_simp
   have hS5:=hS4.turn hR h0 (by omega) (by omega) (by omega) 5 _ (hS4.mv.prom v);obtain⟨b0,b1,b2,b3,b4,b5⟩:=hS5.mv.at_;simp only[Nat.zero_add]at b0 b1 b2 b3 b4 b5;refine hK.out _ _ ⟨b3,b4⟩ (λhHeld=>?_);clear hK K;have hf:eu {m with prom:=v}:=⟨hg.fitting.name,hg.fitting.wake,hg.fitting.est,hg.fitting.late,by have:=hg.span;simp only;omega⟩;refine wpAnyH_done (by kernel_rfl) ?_ _;revert hS5 hf;generalize w4.setCell ⟨w.heap.size,5,none⟩ (.int .i64 v)=W5;generalize ({m with prom:=v}:Mv)=m';intro hS5 hf;clear hv hvs d0 d1 d2 d3 d4 d5 b0 b1 b2 b3 b4 b5 a0 a1 a2 a3 a4 a5 fr5 hcv hHeld t4 hS4 hSA hS2 hS1 c0 c1 c2 c3 c4 c5 n1 n2 HP;obtain⟨d0,d1,d2,d3,d4,d5⟩:=hS5.mv.at_;simp only[Nat.zero_add]at d0 d1 d2 d3 d4 d5;obtain⟨m0,hm0⟩:=hS5.res;obtain⟨k0,k1,k2,k3,k4,k5⟩:=hm0.at_;simp only[Nat.zero_add]at k0 k1 k2 k3 k4 k5;have fr:=hm0.frozen;go_wp2;have q:=cP W5 (w.heap.size+1) 0 m' _ _ hm0 (by simp);obtain⟨q0,q1,q2,q3,q4,q5⟩:=q;simp only[Nat.zero_add]at q0 q1 q2 q3 q4 q5;change bodyPost _ _ _ _ _ (setMv W5 (w.heap.size+1) 0 m');exact bodyPost_ret (v:=.agg #[.string m'.name,.bool m'.lands,.int .i64 m'.wake,.int .i64 m'.est,.int .i64 m'.late,.int .i64 m'.prom]) (by simp[results,Tryz.results44,go_sem,q0,q1,q2,q3,q4,q5]) rfl ⟨⟨m',rfl,hf⟩,hS5.went h0 (by omega) (by omega) _ (by omega)⟩
  .go_simp
   go_at_call 22
   refine(HP _ hS2).mono ?_;rintro e w4 ⟨k,rfl,hk,hS4,t4⟩;obtain⟨v,hv,hvs⟩:=Bp (-2) (m.est-1) m.est m.late (m.late+1) k hk;have hk1:(k:Int)<5:=by omega
   have hk2:(0:Int)<=(k:Int):=by omega
   obtain⟨d0,d1,d2,d3,d4,d5⟩:=hS4.mv.at_;simp only[Nat.zero_add]at d0 d1 d2 d3 d4 d5;go_wp2_with fail
   refine hK.out _ _ ⟨d3,d4⟩ (λhHeld=>?_);clear hK K;have hSB:=hS4.alloc hR h0 (by omega) (by omega) (.cells #[.int .i64 (-2),.int .i64 (m.est-1),.int .i64 m.est,.int .i64 m.late,.int .i64 (m.late+1)] 3);obtain⟨a0,a1,a2,a3,a4,a5⟩:=hSB.mv.at_;simp only[Nat.zero_add]at a0 a1 a2 a3 a4 a5;have n4:=Nat.ne_of_lt hS4.mv.lt;have n5:=n4.symm;have cV:(w4.alloc (.cells #[.int .i64 (-2),.int .i64 (m.est-1),.int .i64 m.est,.int .i64 m.late,.int .i64 (m.late+1)] 3)).cell? ⟨w4.heap.size,k,none⟩=some (.int .i64 v):=(World.cell?_alloc_at _ _ _ _ rfl).trans hv;have hvl:[Value.int .i64 (-2),Value.int .i64 (m.est-1),Value.int .i64 m.est,Value.int .i64 m.late,Value.int .i64 (m.late+1)][k]?=some (.int .i64 v):=by simpa using hv
   have fr5:=hSB.mv.frozen 5;refine wpAnyH_ready (rs:=[10]) (by kernel_rfl) (by simp) ?_;refine AllReadyH.cons rfl (λK hK=>?_) AllReadyH.nil;go_simp
   refine hK.out _ _ ⟨a3,a4⟩ (λhHeld=>?_);clear hK K;refine wpAnyH_ready (rs:=[13]) (by kernel_rfl) (by simp) ?_;refine AllReadyH.cons rfl (λK hK=>?_) AllReadyH.nil;go_simp
   refine hK.out _ _ ⟨a3,a4⟩ (λhHeld=>?_);clear hK K;refine wpAnyH_ready (rs:=[14]) (by kernel_rfl) (by simp) ?_;refine AllReadyH.cons rfl (λK hK=>?_) AllReadyH.nil;go_simp
   refine hK.out _ _ ⟨a3,a4⟩ (λhHeld=>?_);clear hK K;refine wpAnyH_ready (rs:=[15]) (by kernel_rfl) (by simp) ?_;refine AllReadyH.cons rfl (λK hK=>?_) AllReadyH.nil;go_simp
   refine hK.out _ _ ⟨a3,a4⟩ (λhHeld=>?_);clear hK K;refine wpAnyH_ready (rs:=[16]) (by kernel_rfl) (by simp) ?_;refine AllReadyH.cons rfl (λK hK=>?_) AllReadyH.nil;go_simp
   have hS5:=hSB.turn hR h0 (by omega) (by omega) (by omega) 5 _ (hSB.mv.prom v);obtain⟨b0,b1,b2,b3,b4,b5⟩:=hS5.mv.at_;simp only[Nat.zero_add]at b0 b1 b2 b3 b4 b5;refine hK.out _ _ ⟨b3,b4⟩ (λhHeld=>?_);clear hK K;have hf:eu {m with prom:=v}:=⟨hg.fitting.name,hg.fitting.wake,hg.fitting.est,hg.fitting.late,by have:=hg.span;simp only;omega⟩;refine wpAnyH_done (by kernel_rfl) ?_ _;revert hS5 hf;generalize (w4.alloc (.cells #[.int .i64 (-2),.int .i64 (m.est-1),.int .i64 m.est,.int .i64 m.late,.int .i64 (m.late+1)] 3)).setCell ⟨w.heap.size,5,none⟩ (.int .i64 v)=W5;generalize ({m with prom:=v}:Mv)=m';intro hS5 hf;clear hv hvs hvl cV n4 n5 d0 d1 d2 d3 d4 d5 b0 b1 b2 b3 b4 b5 a0 a1 a2 a3 a4 a5 fr5 hHeld t4 hS4 hSB hS2 hS1 c0 c1 c2 c3 c4 c5 n1 n2 HP;obtain⟨d0,d1,d2,d3,d4,d5⟩:=hS5.mv.at_;simp only[Nat.zero_add]at d0 d1 d2 d3 d4 d5;obtain⟨m0,hm0⟩:=hS5.res;obtain⟨k0,k1,k2,k3,k4,k5⟩:=hm0.at_;simp only[Nat.zero_add]at k0 k1 k2 k3 k4 k5;have fr:=hm0.frozen;go_wp2;have q:=cP W5 (w.heap.size+1) 0 m' _ _ hm0 (by simp);obtain⟨q0,q1,q2,q3,q4,q5⟩:=q;simp only[Nat.zero_add]at q0 q1 q2 q3 q4 q5;change bodyPost _ _ _ _ _ (setMv W5 (w.heap.size+1) 0 m');exact bodyPost_ret (v:=.agg #[.string m'.name,.bool m'.lands,.int .i64 m'.wake,.int .i64 m'.est,.int .i64 m'.late,.int .i64 m'.prom]) (by simp[results,Tryz.results44,go_sem,q0,q1,q2,q3,q4,q5]) rfl ⟨⟨m',rfl,hf⟩,hS5.went h0 (by omega) (by omega) _ (by omega)⟩
theorem xI {w:World}{base B n c:Nat}{T:TypeId}{size:Nat}{xs:List Value}(h:w.ownsRow base T size (.slice (some ⟨B,0,none⟩) n c) n xs):
  base<=B/\B<w.heap.size/\∃cur,w.heap[B]?=some (.cells cur T (0,0))/\xs.length<=cur.size:=by
 obtain⟨h1,h2|⟨g,cap,cur,h2,h3,h4,h5,h6,h7,h8⟩⟩:=h
 .exact absurd h2.1 (by simp)
 .simp at h2;obtain⟨rfl,rfl⟩:=h2;refine⟨h3,(Array.getElem?_eq_some_iff.1 h4).1,cur,h4,?_⟩;rw[h1,h7];exact Nat.mul_le_mul_right _ h5
theorem za {w:World}{B n k:Nat}{f:Nat->Mv}{cur:Array Value}{T:TypeId}(h:aw w B 0 n f)(hg:w.heap[B]?=some (.cells cur T (0,0)))(hs:n*6<=cur.size)(hk:k<n)(m:Mv):aw (setMv w B (k*6) m) B 0 n (λj=>if j=k then m else f j):=by
 intro i hi;by_cases e:i=k
 .subst e;simp only[if_true];rw[Nat.zero_add];exact cP w B (i*6) m cur T hg (by omega)
 .simp only[if_neg e];obtain⟨c0,c1,c2,c3,c4,c5⟩:=h i hi;have o:∀j,j<6->(setMv w B (k*6) m).cell? ⟨B,0+i*6+j,none⟩=w.cell? ⟨B,0+i*6+j,none⟩:=λj hj=>rG w B (k*6) m _ (by omega)
  exact⟨(o 0 (by omega)).trans c0,(o 1 (by omega)).trans c1,(o 2 (by omega)).trans c2,(o 3 (by omega)).trans c3,(o 4 (by omega)).trans c4,(o 5 (by omega)).trans c5⟩
theorem vH {R:Nat}{w W:World}(h:dg R w W){B:Nat}(hB:w.heap.size<=B)(o:Nat)(m:Mv):dg R w (setMv W B o m):=
 ⟨by have:=h.size;simpa[setMv]using this,λk hk hne=>(jg W B o m k (by omega)).trans (h.block k hk hne)⟩
end Go.Proofs.YtlmcblcijndipaaGreat
