import Derived.Test.YtlmcblcijndipabGreatDoorAd44
import Derived.Test.YtlmcblcijndipabGreatDoorAd19
import Derived.Lib.AppendZerosOnto
set_option linter.unusedVariables false
set_option linter.unusedSimpArgs false
set_option maxHeartbeats 4000000
set_option maxRecDepth 100000
namespace Go.Proofs.YtlmcblcijndipabGreatDoor
section
open Go Go.RowKit
theorem Ar (f:Nat->Mv)(n:Nat)(m:Mv):aG f n++m.cells.toList=aG (bz f n m) (n+1):=by
 have:=pg f n n m (Gm _);rw[Nat.sub_self]at this;simpa[aG]using this
theorem vE (B n c N Bv:Nat)(f:Nat->Mv)(m:Mv)(w:World)(hn:n<=1048576)(hN:N<=w.heap.size)(ho:w.ownsRow N 36 6 (.slice (some ⟨B,0,none⟩) n c) n (aG f n))(hv:w.heap[Bv]?=some (.cells m.cells 36 (0,0))):
  Calls Tz.prog 277 #[.slice (some ⟨B,0,none⟩) n c,.int .i64 n,.slice (some ⟨Bv,0,none⟩) 1 1] w λe w'=>(∃B' c',e=.returned (.slice (some ⟨B',0,none⟩) (n+1) c')/\w'.ownsRow N 36 6 (.slice (some ⟨B',0,none⟩) (n+1) c') (n+1) (aG (bz f n m) (n+1)))/\w.grownBy w' (some B):=by
 obtain⟨i0,hI,hz0,hz1,hz2⟩:=dh;obtain⟨cur,hg,hnc,hcm,hcs,hNB,hcell⟩:=cr ho;have hnci:(n:Int)<=c:=by omega
 have hnew:=o0 hv;clear hg hcell hcs hv;go_enter Tz.func277,Tryz.ntmps277
 go_wp2_with(at_builtin;refine wpList_append_own _ rfl (.tmp 23) (.tmp 24) 30 rfl N 36 i0 _ 6 56 aC hI hz0 hz1 hz2 rfl (by decide) (.slice (some ⟨B,0,none⟩) n c) n (aG f n) (by rfl) ho ⟨Bv,0,none⟩ 1 1 m.cells.toList (by rfl) rfl hnew (dA m) (by unfold maxLen;omega) (by omega) hN ?_;intro v2 w2 ho2 hg2 hs2)
 all_goals
  have hne:v2≠.slice none 0 0:=λe=>by have:=hs2.1 e;simp at this
  obtain⟨B',c',rfl⟩:=lD ho2 hne;go_ret;rw[Ar]at ho2;exact⟨⟨B',c',rfl,ho2⟩,hg2⟩
theorem D9 {W:World}{B n c k N:Nat}{f:Nat->Mv}{m:Mv}{cur:Array Value}(hk:k<=n)(hNB:N<=B)(hg:W.heap[B]?=some (.cells cur 36 (0,0)))(hs:cur.size=c*6)(hroom:n+1<=c)(hcm:c<=maxLen)
  (h1:∀j u,(aG f k)[j]?=some u->W.cell? ⟨B,j,none⟩=some u)(h2:∀j u,m.cells.toList[j]?=some u->W.cell? ⟨B,k*6+j,none⟩=some u)(h3:∀j u,(aG (λj=>f (k+j)) (n-k))[j]?=some u->W.cell? ⟨B,(k+1)*6+j,none⟩=some u):
  W.ownsRow N 36 6 (.slice (some ⟨B,0,none⟩) (n+1) c) (n+1) (aG (bz f k m) (n+1)):=by
 have lm:m.cells.toList.length=6:=rfl;have la:(aG f k++m.cells.toList).length=k*6+6:=by rw[List.length_append,aU,lm]
 refine py hNB hg hs hroom hcm (aU _ _) λj u hu=>?_
 rw[<-pg f k n m hk]at hu;by_cases c1:j<k*6
 .rw[Gy (by omega),Gy (by rw[aU];exact c1)]at hu;exact h1 j u hu
 by_cases c2:j<k*6+6
 .rw[Gy (by omega),Gz (by rw[aU];omega),aU]at hu;have:=h2 _ u hu;rwa [show k*6+(j-k*6)=j by omega]at this
 .rw[Gz (by omega),la]at hu;have:=h3 _ u hu;rwa [show(k+1)*6+(j-(k*6+6))=j by omega]at this
theorem sg {w:World}{B o:Nat}{T:TypeId}{cur:Array Value}{xs:List Value}(hg:w.heap[B]?=some (.cells cur T (0,0)))(hl:o+xs.length<=cur.size):∀j u,xs[j]?=some u->(w.setCells B o xs).cell? ⟨B,o+j,none⟩=some u:=λj u hu=>by
 obtain⟨hj,e⟩:=Gw.1 hu;rw[World.cell?_setCells_in B xs o w (λi hi=>by
  have:w.cell? ⟨B,o+i,none⟩=cur[o+i]?:=by simp[World.cell?,hg]
  rw[this,Gu (by omega)];rfl) j hj,<-e]
theorem jM {w:World}{B o:Nat}{xs:List Value}(p:Nat)(h:p<o\/o+xs.length<=p):(w.setCells B o xs).cell? ⟨B,p,none⟩=w.cell? ⟨B,p,none⟩:=World.cell?_setCells_out B _ _ _ _ (λ_ _=>h)
theorem pi {xs:List Value}{j:Nat}{u:Value}(h:xs[j]?=some u):j<xs.length:=(Gw.1 h).1
theorem yt {w:World}{B n c k N:Nat}{f:Nat->Mv}(hn:n<=1048576)(hk:k<n)(hc:c<n+1)(ho:w.ownsRow N 36 6 (.slice (some ⟨B,0,none⟩) n c) n (aG f n)):
  ∃c' W,(∀ty,(Builtin.append_ #[30,3] ty #[.slice (some ⟨B,0,none⟩) k c,.int .i64 ((n:Int)+1-k)]).run Tz.prog w=.ok (.slice (some ⟨w.heap.size,0,none⟩) (n+1) c') W)/\n+1<=c'/\c'<=maxLen/\
   (∃cur,W.heap[w.heap.size]?=some (.cells cur 36 (0,0))/\cur.size=c'*6)/\(∀j u,(aG f k)[j]?=some u->W.cell? ⟨w.heap.size,j,none⟩=some u)/\Below w.heap.size w W/\W.heap.size=w.heap.size+1:=by
 obtain⟨i,hI,hz0,hz1,hz2⟩:=dh;obtain⟨cur,hg,hnc,hcm,hcs,hNB,hcell⟩:=cr ho;have e1:k+(n+1-k)=n+1:=by omega
 have e2:((n:Int)+1-k)=((n+1-k:Nat):Int):=by omega
 have hcn:c=n:=by omega
 have hfc:=run_firstCells_some (P:=Tz.prog) (w:=w.drew) 6 k ⟨B,0,none⟩ k c (aG f k) (aU f k) (λj v hv=>by
  have:=hcell j v ((sY f (GF hk) (by have:=pi hv;rw[aU]at this;exact this)).trans hv);rw[kN,Nat.zero_add];exact this)
 have hr:∀ty,_:=λty=>by
  have:=Lib.run_append_grow_zeros (P:=Tz.prog) w 30 3 ty 36 i _ .i64 .i64 aC (Tz.tr_underlying Tryz.underlying3) hI hz0 (some ⟨B,0,none⟩) k c (aG f k) (by rw[hz1];exact hfc) (n+1-k) (by omega) (by omega) (by omega) (by omega) (by rw[hz2];omega) (by rw[hz2];exact growslice_fits (by omega) (by omega));rw[e1,<-e2]at this;exact this
 refine⟨_,_,hr,grownCap_ge _ _ _ _,grownCap_le_maxLen _ _ _ _ (by unfold maxLen;omega),?_,?_,?_,?_⟩
 .exact⟨_,heap_alloc_new _ _,by simp[Builtin.zeroCells,Value.cells,aU];have:=grownCap_ge w (n+1) c 36;omega⟩
 .intro j u hu;have hj:=pi hu;have:∀xs:Array Value,(w.drew.alloc (.cells ((aG f k).toArray++xs) 36)).cell? ⟨w.heap.size,j,none⟩=some u:=λxs=>by
   have h0:=heap_alloc_new w.drew (.cells ((aG f k).toArray++xs) 36);simp only[World.cell?];rw[show w.heap.size=w.drew.heap.size from rfl,h0];simp[Array.getElem?_append,hj,List.getElem?_eq_getElem hj]at hu⊢;exact hu
  rw[Array.append_assoc];exact this _
 .exact(Gb _ w).drew.alloc (Gm _) _
 .exact Gg _ _
end
section
open Go Go.Conc Go.RowKit
theorem mW (B:Nat):∀(vs:List Value) (o:Nat) {w w':World},w.heap=w'.heap->(w.setCells B o vs).heap=(w'.setCells B o vs).heap
 |[],_,_,_,h=>h
 |v::vs,o,w,w',h=>mW B vs (o+1) (by simp only[World.setCell];rw[h])
theorem yu {W:World}{B n c k N:Nat}{f:Nat->Mv}{m:Mv}(hk:k<n)(hroom:n+1<=c)(ho:W.ownsRow N 36 6 (.slice (some ⟨B,0,none⟩) n c) n (aG f n)):
  ((W.setCells B ((k+1)*6) (aG (λj=>f (k+j)) (n-k))).setCells B (k*6) m.cells.toList).ownsRow N 36 6 (.slice (some ⟨B,0,none⟩) (n+1) c) (n+1) (aG (bz f k m) (n+1)):=by
 obtain⟨cur,hg,hnc,hcm,hcs,hNB,hcell⟩:=cr ho;obtain⟨cur1,hg1,hs1⟩:=cG B _ (aG (λj=>f (k+j)) (n-k)) ((k+1)*6) W cur hg;obtain⟨cur2,hg2,hs2⟩:=cG B _ m.cells.toList (k*6) _ cur1 hg1;have lm:m.cells.toList.length=6:=rfl;have lr:=aU (λj=>f (k+j)) (n-k);refine D9 (by omega) hNB hg2 (by omega) hroom hcm (λj u hu=>?_) (sg hg1 (by omega)) (λj u hu=>?_)
 .have hj:=pi hu;rw[aU]at hj;rw[jM _ (.inl (by omega)),jM _ (.inl (by omega))];exact hcell j u ((sY f (by omega) hj).trans hu)
 .rw[jM _ (.inr (by omega))];exact sg hg (by omega) j u hu
section
variable [g:Gl]{ok:Ctx}{Fm:Frame}{Q:Value->World->Prop}
theorem vF (E:bG Tz.prog ok Fm Dr24)(hIn:ok.inn 277=true)(hov:g.ov=278){r0:Frame}{cs:List Frame}{V:World}(hr0:ok.inn r0.fn=true)
  {B n c k N Bv:Nat}{f:Nat->Mv}{m:Mv}(hn:n<=1048576)(hk:k<n)(hroom:n+1<=c)(ho:V.ownsRow N 36 6 (.slice (some ⟨B,0,none⟩) n c) n (aG f n))(hBv:Bv≠B)(hv:V.heap[Bv]?=some (.cells m.cells 36 (0,0)))
  (hcont:∀V',V'.ownsRow N 36 6 (.slice (some ⟨B,0,none⟩) (n+1) c) (n+1) (aG (bz f k m) (n+1))->V'.heap.size=V.heap.size->(∀i,i≠B->V'.heap[i]?=V.heap[i]?)->ap Tz.prog ok Fm Dr24 Q ⟨r0.finish (.slice (some ⟨B,0,none⟩) (n+1) c),cs,V'⟩):
  ap Tz.prog ok Fm Dr24 Q ⟨Frame.enter Tz.prog 277 #[.slice (some ⟨B,0,none⟩) n c,.int .i64 k,.slice (some ⟨Bv,0,none⟩) 1 1] .normal,r0::cs,V⟩:=by
 have hE:=enter_at (P:=Tz.prog) #[.slice (some ⟨B,0,none⟩) n c,.int .i64 k,.slice (some ⟨Bv,0,none⟩) 1 1] Tz.func277 rfl;simp only[Tryz.ntmps277,List.size_toArray,List.length_cons,List.length_nil,Nat.reduceAdd,Nat.reduceSub,Array.replicate_succ,Array.replicate_zero,List.push_toArray,List.append_toArray,List.nil_append,List.cons_append]at hE;rw[hE];clear hE;obtain⟨cur,hg,hnc,hcm,hcs,hNB,hcell⟩:=cr ho;have e1:(k:Int)<=c:=by omega
 have e2:(k:Int)<=n:=by omega
 have e3:¬(k:Int)=n:=by omega
 have e4:¬((n:Int)+1>c):=by omega
 have e5:((n:Int)+1)<=c:=by omega
 have w1:IntKind.i64.wrap ((n:Int)+1)=(n:Int)+1:=by rw[IntKind.wrap_i64];unfold maxLen at hcm;omega
 have w2:IntKind.i64.wrap ((k:Int)+1)=(k:Int)+1:=by rw[IntKind.wrap_i64];unfold maxLen at hcm;omega
 have e6:(k:Int)+1<=c:=by omega
 have e7:(k:Int)+1<=(n:Int)+1:=by omega
 have e8:¬c=k+1:=by omega
 have e10:(0:Int)<=(k:Int)+1:=by omega
 have e11:(k:Int)<=(n:Int)+1:=by omega
 have e9:¬c=k:=by omega
 refine ap.chain E hIn [_,_,_,_,_,_,_,_] _ (λa' w'=>(∃τ d,w'=re V τ d)/\aZ a' (rW 95 [(0,.slice (some ⟨B,0,none⟩) (n+1) c),(1,.int .i64 k),(2,.slice (some ⟨Bv,0,none⟩) 1 1),(7,.int .i64 1),(8,.int .i64 n)])) (λ_ _=>False) ?_ ?_ (λ_ _ _ h=>h.elim)
 .intro τ d;clear hcont ho hg hcell hv;simp only[aD];go_wp2;all_goals first|(exfalso;omega)|skip
  exact⟨⟨τ,d,rfl⟩,rfl,rfl⟩
 rintro a' w' ⟨⟨τ1,d1,rfl⟩,hfr⟩;obtain⟨u,rfl⟩:=hfr.open;clear hfr;refine ap.seq E hIn (ap.seq E hIn (ap.region E hIn ?_));rw[bh];refine ap.opsFrom E hIn 0 6 (by simp) (λa' w'=>(∃τ d,w'=re V τ d)/\aZ a' (rW 95 [(0,.slice (some ⟨B,0,none⟩) (n+1) c),(1,.int .i64 k),(2,.slice (some ⟨Bv,0,none⟩) 1 1),(7,.int .i64 1),(8,.int .i64 n),(61,.slice (some ⟨Bv,0,none⟩) 1 1),(66,.slice (some ⟨B,(k+1)*6,none⟩) (n-k) (c-(k+1)))])) ?_ ?_
 .intro τ d;clear hcont ho hg hcell hv;simp only[List.drop_zero,List.take_succ_cons,List.take_zero];go_wp2;exact⟨⟨_,_,rfl⟩,rfl,rfl⟩
 rintro a' w' ⟨⟨τ2,d2,rfl⟩,hfr⟩;clear u;obtain⟨u,rfl⟩:=hfr.open;clear hfr;refine ap.extOp hIn rfl (by rw[hov];decide) (i:=6) rfl rfl (x:=61) (y:=66) (by rw[hov];rfl) (p:=⟨Bv,0,none⟩) (q:=⟨B,(k+1)*6,none⟩) rfl rfl hBv hv (show(6:Nat)≠0 by decide) hg (by omega) ?_;refine ap.opsFrom E hIn 7 1 (by simp) (λa' w'=>(∃τ d,w'=re V τ d)/\aZ a' (rW 95 [(0,.slice (some ⟨B,0,none⟩) (n+1) c),(1,.int .i64 k),(2,.slice (some ⟨Bv,0,none⟩) 1 1),(7,.int .i64 1),(8,.int .i64 n),(68,.bool true)])) ?_ ?_
 .intro τ d;clear hcont ho hg hcell hv;simp only[List.drop_succ_cons,List.drop_zero,List.take_succ_cons,List.take_zero,Act.put];go_wp2;exact⟨⟨_,_,rfl⟩,rfl,rfl⟩
 rintro a' w' ⟨⟨τ3,d3,rfl⟩,hfr⟩;clear u;obtain⟨u,rfl⟩:=hfr.open;clear hfr;refine ap.regionEnd E hIn (ap.cond E hIn (t:=true) rfl ?_);refine ap.chainM E hIn [_] _ (λa' w'=>(∃W:World,W.heap=V.heap/\w'.heap=(W.setCells B ((k+1)*6) (aG (λj=>f (k+j)) (n-k))).heap)/\aZ a' (rW 95 [(0,.slice (some ⟨B,0,none⟩) (n+1) c),(1,.int .i64 k),(2,.slice (some ⟨Bv,0,none⟩) 1 1),(7,.int .i64 1),(8,.int .i64 n),(68,.bool true)])) (λ_ _=>False) ?_ ?_ (λ_ _ _ hh=>hh.elim)
 .intro τ d;obtain⟨i0,hI,hz0,hz1,hz2⟩:=dh;have ho1:(re (re V τ3 d3) τ d).drew.ownsRow N 36 6 (.slice (some ⟨B,0,none⟩) n c) n (aG f n):=ga ho rfl;have hv1:(re (re V τ3 d3) τ d).drew.heap[Bv]?=some (.cells m.cells 36 (0,0)):=hv;have hhp:(re (re V τ3 d3) τ d).drew.heap=V.heap:=rfl;revert ho1 hv1 hhp;generalize re (re V τ3 d3) τ d=w;intro ho1 hv1 hhp;clear hcont hg hcell ho hv hv1;obtain⟨cur',hg',_,_,hcs',_,hcell'⟩:=cr ho1;obtain⟨xs,hxs⟩:∃xs,xs=aG (λj=>f (k+j)) (n-k):=⟨_,rfl⟩;have hlen:xs.length=(n-k)*6:=by rw[hxs,aU]
  have hone:Hid (∀u∈xs,u.oneCell'=true):=by rw[hxs];exact cV _ _
  have hsrc:Hid (∀t u,xs[t]?=some u->w.drew.cell? ((⟨B,k*6,none⟩:Addr).add t)=some u):=λt u hu=>by
   rw[hxs]at hu;exact cm (lJ (dg ho1) (show k<=n by omega)) t u hu
  have hmin:Hid (xs.length=Nat.min (n+1-k) (n-k)*6):=by have e:Nat.min (n+1-k) (n-k)=n-k:=Nat.min_eq_right (by omega);rw[hlen,e];exact rfl
  have hs1:Hid (∀t,t<xs.length->(w.drew.cell? ⟨B,(k+1)*6+t,none⟩).isSome=true):=λt ht=>by
   have:w.drew.cell? ⟨B,(k+1)*6+t,none⟩=cur'[(k+1)*6+t]?:=by simp only[World.cell?,hg'];simp
   rw[this,Gu (by omega)];rfl
  have hf1:Hid (∀t,t<xs.length->w.drew.frozen? ⟨B,(k+1)*6+t,none⟩=false):=λt ht=>by simp only[World.frozen?,hg'];simp
  have hheap:Hid (w.drew.heap=V.heap):=hhp;obtain⟨W1,hW1⟩:∃W1,W1=w.drew.setCells B ((k+1)*6) xs:=⟨_,rfl⟩;have hend:Hid (W1.heap=(w.drew.setCells B ((k+1)*6) (aG (λj=>f (k+j)) (n-k))).heap):=by rw[hW1,hxs];exact rfl
  have hWH:Hid (W1=w.drew.setCells B ((k+1)*6) xs):=hW1;clear hW1 hxs hlen hg' hcell' ho1 hcs' hhp;simp only[aD];go_wp2_with fail
  go_region_law (refine iX rfl (.tmp 73) (.tmp 76) 30 30 rfl 36 i0 6 aC hI hz1 B ((k+1)*6) (n-k) (c-(k+1)) ⟨B,k*6,none⟩ (n+1-k) (c-k) (by simp[Act.eval,Act.put]) (by simp[Act.eval,Act.put]) xs hmin.out hsrc.out hone.out hs1.out hf1.out ?_;rw[<-hWH.out])
  all_goals exact⟨⟨w.drew,hheap.out,hend.out⟩,rfl,rfl⟩
 rintro a' w1 ⟨⟨W,hWV,hw1⟩,hfr⟩;clear u;obtain⟨u,rfl⟩:=hfr.open;clear hfr;refine ap.last E hIn [_,_] (λa' w'=>w'.ownsRow N 36 6 (.slice (some ⟨B,0,none⟩) (n+1) c) (n+1) (aG (bz f k m) (n+1))/\w'.heap.size=V.heap.size/\(∀i:Nat,i≠B->w'.heap[i]?=V.heap[i]?)/\a'.defers=[]/\a'.tmps[6]?=some (.slice (some ⟨B,0,none⟩) (n+1) c)) ?_ ?_
 .intro τ d;obtain⟨i0,hI,hz0,hz1,hz2⟩:=dh;have hw2:(re w1 τ d).heap=(W.setCells B ((k+1)*6) (aG (λj=>f (k+j)) (n-k))).heap:=hw1;revert hw2;generalize re w1 τ d=w;intro hw2;have hoW:W.ownsRow N 36 6 (.slice (some ⟨B,0,none⟩) n c) n (aG f n):=ga ho (by rw[hWV]);obtain⟨cur1,hg1,hs1'⟩:∃cur1,w.heap[B]?=some (.cells cur1 36 (0,0))/\cur1.size=cur.size:=by rw[hw2];exact cG B _ _ _ _ _ (by rw[hWV];exact hg)
  have hv2:w.heap[Bv]?=some (.cells m.cells 36 (0,0)):=by rw[hw2,cR _ _ _ _ _ hBv,hWV];exact hv
  have hsrc2:Hid (∀t u,m.cells.toList[t]?=some u->w.cell? ((⟨Bv,0,none⟩:Addr).add t)=some u):=o0 hv2;have hs2:Hid (∀t,t<m.cells.toList.length->(w.cell? ⟨B,k*6+t,none⟩).isSome=true):=λt ht=>by
   have ht':t<6:=ht;have:w.cell? ⟨B,k*6+t,none⟩=cur1[k*6+t]?:=by simp only[World.cell?,hg1];simp
   rw[this,Gu (by omega)];rfl
  have hf2:Hid (∀t,t<m.cells.toList.length->w.frozen? ⟨B,k*6+t,none⟩=false):=λt ht=>by simp only[World.frozen?,hg1];simp
  have hmin2:Hid (m.cells.toList.length=Nat.min 1 (n+1-k)*6):=(show(6:Nat)=Nat.min 1 (n+1-k)*6 by have e:Nat.min 1 (n+1-k)=1:=Nat.min_eq_left (by omega);rw[e]);obtain⟨W2,hW2⟩:∃W2,W2=w.setCells B (k*6) m.cells.toList:=⟨_,rfl⟩;have hp:=yu (m:=m) hk hroom hoW;have hq:W2.heap=((W.setCells B ((k+1)*6) (aG (λj=>f (k+j)) (n-k))).setCells B (k*6) m.cells.toList).heap:=by rw[hW2];exact mW B _ _ hw2
  have hend:Hid (W2.ownsRow N 36 6 (.slice (some ⟨B,0,none⟩) (n+1) c) (n+1) (aG (bz f k m) (n+1))/\W2.heap.size=V.heap.size/\∀i:Nat,i≠B->W2.heap[i]?=V.heap[i]?):=⟨ga hp (by rw[hq]),by rw[hq,dt,dt,hWV],λi hi=>by rw[hq,cR _ _ _ _ _ hi,cR _ _ _ _ _ hi,hWV]⟩;have hcp:∀ty,(Builtin.copy_ #[30,30] ty #[.slice (some ⟨B,k*6,none⟩) (n+1-k) (c-k),.slice (some ⟨Bv,0,none⟩) 1 1]).run Tz.prog w=.ok (goInt (Nat.min 1 (n+1-k))) W2:=λty=>by rw[hW2];exact gA w _ _ ty _ i0 6 aC hI hz1 B (k*6) (n+1-k) (c-k) ⟨Bv,0,none⟩ 1 1 m.cells.toList hmin2.out hsrc2.out (dA m) hs2.out hf2.out
  clear hsrc2 hs2 hf2 hmin2;clear hW2 hcont hg hcell ho hv hg1 hs1' hv2 hw2 hw1 hoW hp hq hWV hcs;simp only[aD];go_wp2;exact hend.out
 .rintro a' w' todo ⟨h1,h2,h3,h4,h5⟩;refine ap.leave E hr0 (v:=.slice (some ⟨B,0,none⟩) (n+1) c) (λτ d=>⟨rfl,h4,rfl,_,Tz.func277,?_⟩) (hcont w' h1 h2 h3);have:=results_tmp (fn:=Tryz.f277) rfl a'.tmps Tz.prog (re w' τ d);rw[fC h5]at this;exact this
end
end
section
open Go Go.RowKit
theorem uf (B n c k N Bv:Nat)(f:Nat->Mv)(m:Mv)(w:World)(hn:n<=1048576)(hk:k<n)(hc:c<n+1)(hN:N<=w.heap.size)(ho:w.ownsRow N 36 6 (.slice (some ⟨B,0,none⟩) n c) n (aG f n))(hv:w.heap[Bv]?=some (.cells m.cells 36 (0,0))):
  Calls Tz.prog 277 #[.slice (some ⟨B,0,none⟩) n c,.int .i64 k,.slice (some ⟨Bv,0,none⟩) 1 1] w λe w'=>(∃B' c',e=.returned (.slice (some ⟨B',0,none⟩) (n+1) c')/\w'.ownsRow N 36 6 (.slice (some ⟨B',0,none⟩) (n+1) c') (n+1) (aG (bz f k m) (n+1)))/\w.heap.size<=w'.heap.size/\∀i,i<w.heap.size->w'.heap[i]?=w.heap[i]?:=by
 obtain⟨i0,hI,hz0,hz1,hz2⟩:=dh;obtain⟨cur,hg,hnc,hcm,hcs,hNB,hcell⟩:=cr ho;obtain⟨c',W,hr,h1,h2,⟨cur1,hg1,hs1⟩,hpre,bW,hzW⟩:=yt hn hk hc ho;obtain⟨B',hB'⟩:∃x,w.heap.size=x:=⟨_,rfl⟩;have lB:B<w.heap.size:=(Gp.1 hg).1;have lv:Bv<w.heap.size:=(Gp.1 hv).1;have gB:=(bW.block B lB).trans hg;have gv:=(bW.block Bv lv).trans hv;have hbl:=bW.block;rw[hB']at hr hg1 hpre lB lv hzW hN hbl;obtain⟨xs,hxs⟩:∃xs,xs=aG (λj=>f (k+j)) (n-k):=⟨_,rfl⟩;have hlen:xs.length=(n-k)*6:=by rw[hxs,aU]
 have lm:m.cells.toList.length=6:=rfl;have cell1:∀t,t<c'*6->W.cell? ⟨B',t,none⟩=cur1[t]?:=λt ht=>by simp only[World.cell?,hg1];simp
 have cell2:∀t,t<c'*6->(W.cell? ⟨B',t,none⟩).isSome=true:=λt ht=>by rw[cell1 t ht,Gu (by omega)];rfl
 obtain⟨W2,hW2⟩:∃W2,W2=W.setCells B' (k*6) m.cells.toList:=⟨_,rfl⟩;have hcp:∀ty,(Builtin.copy_ #[30,30] ty #[.slice (some ⟨B',k*6,none⟩) (n+1-k) (c'-k),.slice (some ⟨Bv,0,none⟩) 1 1]).run Tz.prog W=.ok (goInt (Nat.min 1 (n+1-k))) W2:=λty=>by
  rw[hW2];exact gA W _ _ ty _ i0 6 aC hI hz1 B' (k*6) (n+1-k) (c'-k) ⟨Bv,0,none⟩ 1 1 m.cells.toList (show(6:Nat)=Nat.min 1 (n+1-k)*6 by have e:Nat.min 1 (n+1-k)=1:=Nat.min_eq_left (by omega);rw[e]) (o0 gv) (dA m) (λt ht=>cell2 _ (by rw[lm]at ht;omega)) (λt ht=>by simp only[World.frozen?,hg1];simp)
 obtain⟨cur2,hg2,hs2⟩:=cG B' _ m.cells.toList (k*6) W cur1 hg1;rw[<-hW2]at hg2;have gB2:W2.heap[B]?=some (.cells cur 36 (0,0)):=by rw[hW2,cR _ _ _ _ _ (by omega)];exact gB
 have row0:=dg ho;have hone:Hid (∀u∈xs,u.oneCell'=true):=by rw[hxs];exact cV _ _
 have hsrc:Hid (∀t u,xs[t]?=some u->W2.drew.cell? ((⟨B,k*6,none⟩:Addr).add t)=some u):=λt u hu=>by
  rw[hxs]at hu;have:=cm (lJ row0 (show k<=n by omega)) t u hu;rw[kN]at this⊢;exact(Gi (a:=⟨B,k*6+t,none⟩) (gB2.trans hg.symm)).trans this
 have hmin:Hid (xs.length=Nat.min (n-k) (n+1-(k+1))*6):=by have e:Nat.min (n-k) (n+1-(k+1))=n-k:=Nat.min_eq_left (by omega);rw[hlen,e];exact rfl
 have hd1:Hid (∀t,t<xs.length->(W2.drew.cell? ⟨B',(k+1)*6+t,none⟩).isSome=true):=λt ht=>by
  have:W2.drew.cell? ⟨B',(k+1)*6+t,none⟩=cur2[(k+1)*6+t]?:=by show W2.cell? _=_;simp only[World.cell?,hg2];simp
  rw[this,Gu (by omega)];rfl
 have hf1:Hid (∀t,t<xs.length->W2.drew.frozen? ⟨B',(k+1)*6+t,none⟩=false):=λt ht=>by show W2.frozen? _=_;simp only[World.frozen?,hg2];simp
 obtain⟨W3,hW3⟩:∃W3,W3=W2.drew.setCells B' ((k+1)*6) xs:=⟨_,rfl⟩;have hWH:Hid (W3=W2.drew.setCells B' ((k+1)*6) xs):=hW3;have hend:Hid (W3.ownsRow N 36 6 (.slice (some ⟨B',0,none⟩) (n+1) c') (n+1) (aG (bz f k m) (n+1))/\w.heap.size<=W3.heap.size/\∀i,i<w.heap.size->W3.heap[i]?=w.heap[i]?):=by
  have hg2d:W2.drew.heap[B']?=some (.cells cur2 36 (0,0)):=hg2;obtain⟨cur3,hg3,hs3⟩:=cG B' _ xs ((k+1)*6) W2.drew cur2 hg2d;rw[<-hW3]at hg3;refine⟨D9 (by omega) hN hg3 (by omega) h1 h2 (λj u hu=>?_) (λj u hu=>?_) (λj u hu=>?_),?_⟩
  .have hj:=pi hu;rw[aU]at hj;rw[hW3,jM _ (.inl (by omega))];show W2.cell? _=_;rw[hW2,jM _ (.inl (by omega))];exact hpre j u hu
  .have hj:=pi hu;rw[hW3,jM _ (.inl (by omega))];show W2.cell? _=_;rw[hW2];exact sg hg1 (by omega) j u hu
  .rw[hW3];rw[<-hxs]at hu;exact sg hg2d (by omega) j u hu
  .have z3:W3.heap.size=W.heap.size:=by rw[hW3,dt];show W2.heap.size=_;rw[hW2,dt]
   refine⟨by omega,λi hi=>?_⟩;rw[hW3,cR _ _ _ _ _ (by omega)];show W2.heap[i]?=_;rw[hW2,cR _ _ _ _ _ (by omega)];exact hbl i (by omega)
 have e1:(k:Int)<=c:=by omega
 have e2:(k:Int)<=n:=by omega
 have e3:¬(k:Int)=n:=by omega
 have e4:((n:Int)+1>c):=by omega
 have w1:IntKind.i64.wrap ((n:Int)+1)=(n:Int)+1:=by rw[IntKind.wrap_i64];omega
 have w2:IntKind.i64.wrap ((k:Int)+1)=(k:Int)+1:=by rw[IntKind.wrap_i64];omega
 have w3:IntKind.i64.wrap ((n:Int)+1-k)=(n:Int)+1-k:=by rw[IntKind.wrap_i64];omega
 have e6:(k:Int)+1<=c':=by omega
 have e5:(k:Int)<=c':=by omega
 have e7:(k:Int)+1<=(n:Int)+1:=by omega
 have e8:¬c'=k+1:=by omega
 have e10:(0:Int)<=(k:Int)+1:=by omega
 have e11:(k:Int)<=(n:Int)+1:=by omega
 have e9:¬c=k:=by omega
 have e12:¬c'=k:=by omega
 clear hg hcell hcs hv hg1 hs1 hpre hzW gB gv cell1 cell2 hW2 hg2 hs2 gB2 row0 hW3 hxs hlen ho hbl bW;go_enter Tz.func277,Tryz.ntmps277
 go_wp2_with(at_builtin;refine Lib.wpList_append_run _ rfl (.tmp 34) (.tmp 39) _ _ rfl _ _ rfl rfl _ _ (hr _) ?_)
 all_goals first|(exfalso;omega)|skip
 go_region_law (refine iX rfl (.tmp 50) (.tmp 53) 30 30 rfl 36 i0 6 aC hI hz1 B' ((k+1)*6) (n+1-(k+1)) (c'-(k+1)) ⟨B,k*6,none⟩ (n-k) (c-k) (by simp[Act.eval,Act.put]) (by simp[Act.eval,Act.put]) xs hmin.out hsrc.out hone.out hd1.out hf1.out ?_;rw[<-hWH.out])
 all_goals
  go_wp2;go_ret;exact⟨⟨B',c',rfl,hend.out.1⟩,hend.out.2⟩
end
section
open Go Go.Conc Go.RowKit
section
variable [g:Gl]{ok:Ctx}{Fm:Frame}{Q:Value->World->Prop}
theorem ap.loneR {P0:Program}{Dr:FuncId->Array Value->World->(Value->World->Prop)->Prop}(E:bG P0 ok Fm Dr){fb:Frame}{a:Act}{k:List Item}{cs:List Frame}{V:World}(hb:ok.inn fb.fn=true){ops:Array Oper}{i:Nat}{r:List Nat}{o:Oper}(ho:ops[i]?=some o)(hw:Region.wanted o (yielded ops a.tmps)=true){f:FuncId}{xs:Array Value}(hx:∀w,(execOp a.eval o).run P0 w=.ok (.enter f xs) w){R:Value->World->Prop}
  (hc:∀τ d,Calls P0 f xs (re V τ d) λe w'=>∃v,e=.returned v/\R v w')(hcont:∀v V',R v V'->ap P0 ok Fm Dr Q ⟨fb.at (a.put o.dst v) (.inRegion ops r::k),cs,V'⟩):ap P0 ok Fm Dr Q ⟨fb.at a (.inRegion ops (i::r)::k),cs,V⟩:=by
 refine ap.ops E hb i [o] r (λa' w'=>∃v,a'=a.put o.dst v/\R v w') (λj hj=>?_) (λτ d=>?_) (λa' w' h=>?_)
 .simp only[List.length_singleton,Nat.lt_one_iff]at hj;subst hj;simp[ho]
 .unfold wpList;rw[if_pos hw];left;unfold Oper.wp;rw[hx];refine(hc τ d).mono ?_;rintro e w' ⟨v,rfl,h⟩;exact⟨rfl,v,rfl,h⟩
 .obtain⟨v,rfl,h⟩:=h;exact hcont v w' h
theorem ap.insertOp (E:bG Tz.prog ok Fm Dr24)(hIn:ok.inn 277=true)(hov:g.ov=278){fb:Frame}{a:Act}{k:List Item}{cs:List Frame}{V:World}(hb:ok.inn fb.fn=true){ops:Array Oper}{i:Nat}{r:List Nat}{o:Oper}(ho:ops[i]?=some o)(hw:Region.wanted o (yielded ops a.tmps)=true)
  {B n c p N Bv:Nat}{f:Nat->Mv}{m:Mv}(hx:∀w,(execOp a.eval o).run Tz.prog w=.ok (.enter 277 #[.slice (some ⟨B,0,none⟩) n c,.int .i64 p,.slice (some ⟨Bv,0,none⟩) 1 1]) w)
  (hn:n<=1048576)(hp:p<=n)(hN:N<=V.heap.size)(hr:V.ownsRow N 36 6 (.slice (some ⟨B,0,none⟩) n c) n (aG f n))(hBv:Bv≠B)(hv:V.heap[Bv]?=some (.cells m.cells 36 (0,0)))
  (hcont:∀BN cN V',V'.ownsRow N 36 6 (.slice (some ⟨BN,0,none⟩) (n+1) cN) (n+1) (aG (bz f p m) (n+1))->V.heap.size<=V'.heap.size->(∀i,i<V.heap.size->i≠B->V'.heap[i]?=V.heap[i]?)->ap Tz.prog ok Fm Dr24 Q ⟨fb.at (a.put o.dst (.slice (some ⟨BN,0,none⟩) (n+1) cN)) (.inRegion ops r::k),cs,V'⟩):ap Tz.prog ok Fm Dr24 Q ⟨fb.at a (.inRegion ops (i::r)::k),cs,V⟩:=by
 have hlone:(∀τ d,Calls Tz.prog 277 #[.slice (some ⟨B,0,none⟩) n c,.int .i64 p,.slice (some ⟨Bv,0,none⟩) 1 1] (re V τ d) λe w'=>∃v,e=.returned v/\∃BN cN,v=.slice (some ⟨BN,0,none⟩) (n+1) cN/\w'.ownsRow N 36 6 (.slice (some ⟨BN,0,none⟩) (n+1) cN) (n+1) (aG (bz f p m) (n+1))/\V.heap.size<=w'.heap.size/\∀i,i<V.heap.size->i≠B->w'.heap[i]?=V.heap[i]?)->ap Tz.prog ok Fm Dr24 Q ⟨fb.at a (.inRegion ops (i::r)::k),cs,V⟩:=λh=>
  ap.loneR E hb ho hw hx h (by rintro v V' ⟨BN,cN,rfl,h1,h2,h3⟩;exact hcont BN cN V' h1 h2 h3)
 by_cases e1:p=n
 .subst e1;refine hlone λτ d=>(vE B p c N Bv f m (re V τ d) hn hN (ga hr rfl) hv).mono ?_
  rintro e w' ⟨⟨BN,cN,rfl,h1⟩,h2⟩;exact⟨_,rfl,BN,cN,rfl,h1,h2.size,λi hi hB=>h2.block i hi (λe=>hB (by cases e;rfl))⟩
 by_cases e2:c<n+1
 .refine hlone λτ d=>(uf B n c p N Bv f m (re V τ d) hn (by omega) e2 hN (ga hr rfl) hv).mono ?_
  rintro e w' ⟨⟨BN,cN,rfl,h1⟩,h2,h3⟩;exact⟨_,rfl,BN,cN,rfl,h1,h2,λi hi hB=>h3 i hi⟩
 .exact ap.enterOp E ho hw hIn hx (vF E hIn hov (r0:=fb.at a (.inRegion ops (i::r)::k)) hb hn (by omega) (by omega) hr hBv hv (λV' h1 h2 h3=>by rw[cD ho];exact hcont B c V' h1 (by omega) (λi hi hB=>h3 i hB)))
end
end
