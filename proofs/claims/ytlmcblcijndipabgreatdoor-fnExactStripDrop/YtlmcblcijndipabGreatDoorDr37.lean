import Derived.Test.YtlmcblcijndipabGreatDoorDr10
import Derived.Test.YtlmcblcijndipabGreatDoorDr12e
import Derived.Test.YtlmcblcijndipabGreatDoorDr18
import Derived.Test.YtlmcblcijndipabGreatDoorDr14
import Derived.Test.YtlmcblcijndipabGreatDoorDr32
import Derived.Laws.IdiomCopy
import Derived.Deep.RegionLaw
import Derived.Lib.SliceRun
import Derived.Test.YtlmcblcijndipabGreatDoorDr15
import Derived.Test.YtlmcblcijndipabGreatDoorDr11
set_option linter.unusedVariables false
set_option maxHeartbeats 4000000
set_option maxRecDepth 100000
namespace Go.Proofs.YtlmcblcijndipabGreatDoor
section
open Go.RowKit
def co (f:Nat->Mv)(n:Nat)(name:ByteArray)(k:Int):Prop:=k=-1/\(∀i,i<n->bd (f i).name name=false)\/∃j:Nat,k=(j:Int)/\j<n/\bd (f j).name name=true/\∀i,i<j->bd (f i).name name=false
theorem oo (m:Mv)(B:Nat)(name:ByteArray)(w:World)(hB:B<w.heap.size)(hc:w.cell? ⟨B,0,none⟩=some (.string name)):
  Calls Tryz0.prog 276 #[.agg #[.string m.name,.bool m.lands,.int .i64 m.wake,.int .i64 m.est,.int .i64 m.late,.int .i64 m.prom],.pointer (some ⟨B,0,none⟩)] w λe w'=>e=.returned (.bool (bd m.name name))/\Below w.heap.size w w':=by
 have hc':(w.alloc (.cells #[.string m.name,.bool m.lands,.int .i64 m.wake,.int .i64 m.est,.int .i64 m.late,.int .i64 m.prom] 36)).cell? ⟨B,0,none⟩=some (.string name):=by
  rw[World.cell?_alloc_lt _ _ ⟨B,0,none⟩ hB];exact hc
 go_enter Tryz0.func276,Tryz.ntmps276
 go_wp2;go_ret;exact⟨rfl,(Below.refl _ w).alloc (Nat.le_refl _) _⟩
theorem wR (b off n cap:Nat)(f:Nat->Mv)(B:Nat)(name:ByteArray)(w:World)(hn:n<=1048576)(hbs:b<w.heap.size)(hrow:al w b off n f)(hB:B<w.heap.size)(hc:w.cell? ⟨B,0,none⟩=some (.string name)):
  Calls Tryz0.prog 275 #[.slice (some ⟨b,off,none⟩) n cap,.func (.func 276) #[] #[.pointer (some ⟨B,0,none⟩)]] w λe w'=>(∃k:Int,e=.returned (.int .i64 k)/\co f n name k)/\Below w.heap.size w w':=by
 go_enter Tryz0.func275,Tryz.ntmps275
 go_wp2;go_loopw [8] (λx W=>∃k:Nat,x=.int .i64 k/\k<=n/\Below w.heap.size w W/\∀i,i<k->bd (f i).name name=false) (λx _=>n-(intOf x).toNat)
 case atStart=>exact⟨0,rfl,Nat.zero_le _,Below.refl _ _,λi hi=>absurd hi (Nat.not_lt_zero _)⟩
 case round=>
  obtain⟨k,rfl,hk,hb,hall⟩:=hrel;by_cases hlt:k<n
  .have hlt':(k:Int)<n:=by omega
   have hr:=hrow.below hb hbs k hlt;obtain⟨c0,c1,c2,c3,c4,c5⟩:=hr;have H1:=λ(w1:World)=>oo (f k) B name w1
   cases he:bd (f k).name name with
   |true=>
    go_wp2_with(go_at_call 276;refine(oo (f k) B name wr (Nat.lt_of_lt_of_le hB hb.size) ((hb.cell (p:=⟨B,0,none⟩) hB).trans hc)).mono ?_;rintro e w1 ⟨rfl,b1⟩;rw[he])
    all_goals first|(exfalso;omega)|skip
    go_ret;exact⟨⟨k,rfl,.inr ⟨k,rfl,hlt,he,hall⟩⟩,hb.trans (b1.mono hb.size)⟩
   |false=>
    go_wp2_with(go_at_call 276;refine(oo (f k) B name wr (Nat.lt_of_lt_of_le hB hb.size) ((hb.cell (p:=⟨B,0,none⟩) hB).trans hc)).mono ?_;rintro e w1 ⟨rfl,b1⟩;rw[he])
    all_goals first|(exfalso;omega)|skip
    go_roundw
    case rel=>exact⟨k+1,by go_num,by omega,hb.trans (b1.mono hb.size),λi hi=>by
     by_cases e:i=k
     .subst e;exact he
     .exact hall i (by omega)⟩
    case measure=>simp[intOf];omega
  .have hlt':¬(k:Int)<n:=by omega
   go_wp2;all_goals first|(exfalso;omega)|skip
   go_ret;exact⟨⟨-1,rfl,.inl ⟨rfl,λi hi=>hall i (by omega)⟩⟩,hb⟩
theorem td (b off n cap:Nat)(f:Nat->Mv)(name:ByteArray)(w:World)(hn:n<=1048576)(hbs:b<w.heap.size)(hrow:al w b off n f):
  Calls Tryz0.prog 273 #[.slice (some ⟨b,off,none⟩) n cap,.string name] w λe w'=>(∃k:Int,e=.returned (.int .i64 k)/\co f n name k)/\Below w.heap.size w w':=by
 have b0:Below w.heap.size w (w.alloc (.cells #[.string name] 9)):=(Below.refl _ w).alloc (Nat.le_refl _) _;have hI:=wR b off n cap f w.heap.size name (w.alloc (.cells #[.string name] 9)) hn (by simp;omega) (hrow.below b0 hbs) (by simp) (by simp);go_enter Tryz0.func273,Tryz.ntmps273
 go_wp2_with(go_at_call 275;refine hI.mono ?_;rintro e w1 ⟨⟨k,rfl,hk⟩,b1⟩)
 go_ret;exact⟨⟨k,rfl,hk⟩,b0.trans (b1.mono b0.size)⟩
end
section
open Go Go.RowKit
def aN {α:Type}(f:Nat->α)(k i:Nat):α:=if i<k then f i else f (i+1)
theorem te (f:Nat->Mv)(k n:Nat)(hk:k<n):bu f k++bu (λj=>f (k+1+j)) (n-(k+1))=bu (aN f k) (n-1):=by
 have h1:bu f k=bu (aN f k) k:=ki λj hj=>by unfold aN;rw[if_pos hj]
 rw[h1];have h3:∀r,bu (aN f k) k++bu (λj=>f (k+1+j)) r=bu (aN f k) (k+r):=by
  intro r;induction r with
  |zero=>simp[bu]
  |succ r ih=>
   rw[fo (λj=>f (k+1+j)) r,<-List.append_assoc,ih,show k+(r+1)=k+r+1 by omega,fo _ (k+r)];congr 3;unfold aN;rw[if_neg (by omega)];congr 1;omega
 rw[h3,show k+(n-(k+1))=n-1 by omega]
theorem p8 (t:Nat->Int)(k n:Nat)(hk:k<n):bH t k++bH (λj=>t (k+1+j)) (n-(k+1))=bH (aN t k) (n-1):=by
 apply List.ext_getElem?;intro j;rw[List.getElem?_append];by_cases h1:j<k
 .rw[if_pos (by rw[aQ];exact h1),bz h1,bz (by omega)];unfold aN;rw[if_pos h1]
 .rw[if_neg (by rw[aQ];exact h1),aQ];by_cases h2:j<n-1
  .rw[bz (by omega),bz h2];unfold aN;rw[if_neg h1,show k+1+(j-k)=j+1 by omega]
  .rw[List.getElem?_eq_none (by rw[aQ];omega),List.getElem?_eq_none (by rw[aQ];omega)]
theorem da (B:Nat)(T:TypeId):∀(vs:List Value) (o:Nat) (w:World) (cur:Array Value),w.heap[B]?=some (.cells cur T (0,0))->∃cur',(w.setCells B o vs).heap[B]?=some (.cells cur' T (0,0))/\cur'.size=cur.size
 |[],o,w,cur,h=>⟨cur,h,rfl⟩
 |v::vs,o,w,cur,h=>by
  obtain⟨c,h1,h2⟩:=da B T vs (o+1) (w.setCell ⟨B,o,none⟩ v) _ (heap_setCell_same w B o cur T v h);exact⟨c,h1,by simpa using h2⟩
theorem dq (B:Nat):∀(vs:List Value) (o:Nat) (w:World),(w.setCells B o vs).heap.size=w.heap.size
 |[],_,_=>rfl
 |v::vs,o,w=>by show((w.setCell _ v).setCells B (o+1) vs).heap.size=_;rw[dq B vs];simp
theorem dZ (B:Nat):∀(vs:List Value) (o:Nat) (w:World) (i:Nat),i≠B->(w.setCells B o vs).heap[i]?=w.heap[i]?
 |[],_,_,_,_=>rfl
 |v::vs,o,w,i,h=>(dZ B vs (o+1) (w.setCell ⟨B,o,none⟩ v) i h).trans (Below.heap_setCell w _ _ _ (by simpa using h))
theorem jM {w:World}{N B c n s:Nat}{T:TypeId}{xs:List Value}{cur:Array Value}(hb:N<=B)(hg:w.heap[B]?=some (.cells cur T (0,0)))(hcur:cur.size=c*s)(hn:n<=c)(hc:c<=maxLen)(hl:xs.length=n*s)(h:∀j u,xs[j]?=some u->w.cell? ⟨B,j,none⟩=some u):
  w.ownsRow N T s (.slice (some ⟨B,0,none⟩) n c) n xs:=by
 refine⟨hl,.inr ⟨B,c,cur,rfl,hb,hg,hn,hc,hcur,?_⟩⟩;have hle:n*s<=c*s:=Nat.mul_le_mul_right s hn;apply List.ext_getElem?;intro j;by_cases hj:j<n*s
 .obtain⟨u,hu⟩:∃u,xs[j]?=some u:=⟨_,List.getElem?_eq_getElem (by omega)⟩;have:=h j u hu;simp only[World.cell?,hg]at this;rw[hu,List.getElem?_take,if_pos hj];simpa using this
 .rw[List.getElem?_eq_none (by simp;omega),List.getElem?_eq_none (by omega)]
theorem dr {w:World}{N B c n s:Nat}{T:TypeId}{xs:List Value}(h:w.ownsRow N T s (.slice (some ⟨B,0,none⟩) n c) n xs):∃cur,w.heap[B]?=some (.cells cur T (0,0))/\n<=c/\c<=maxLen/\cur.size=c*s/\N<=B/\∀j u,xs[j]?=some u->w.cell? ⟨B,j,none⟩=some u:=by
 obtain⟨h1,⟨h2,_⟩|⟨g,cap,cur,h2,h3,h4,h5,h6,h7,h8⟩⟩:=h
 .cases h2
 .cases h2;refine⟨cur,h4,h5,h6,h7,h3,λj u hu=>?_⟩;rw[<-h8,List.getElem?_take]at hu;split at hu
  .simp only[World.cell?,h4];simpa using hu
  .cases hu
theorem y9 (f:Nat->Mv){k n j:Nat}(hk:k<=n)(hj:j<k*6):(bu f n)[j]?=(bu f k)[j]?:=by
 have h1:=ji f n (j/6) (j%6) (by omega) (by omega);have h2:=ji f k (j/6) (j%6) (by omega) (by omega);rw[show j/6*6+j%6=j by omega]at h1 h2;rw[h1,h2]
theorem p9 {w:World}{b n k:Nat}{f:Nat->Mv}(h:al w b 0 n f)(hk:k<=n):al w b (k*6) (n-k) (λj=>f (k+j)):=λi hi=>by
 have:=h (k+i) (by omega);rw[show 0+(k+i)*6=k*6+i*6 by omega]at this;exact this
theorem kX:∃i,Tryz0.prog.info? 3=some i/\i.zero=some (.int .i64 0)/\i.size=1/\i.bytes=8:=by
 have h:(Tryz0.prog.info? 3).map (λi=>(i.zero,i.size,i.bytes))=some (some (.int .i64 0),1,8):=by kernel_rfl
 cases hI:Tryz0.prog.info? 3 with
 |none=>rw[hI]at h;simp at h
 |some i=>rw[hI]at h;simp only[Option.map_some,Option.some.injEq,Prod.mk.injEq]at h;exact⟨i,rfl,h.1,h.2.1,h.2.2⟩
theorem jj {P:Program}(w:World)(t e ty:TypeId)(z:Value)(ht:P.underlying t=some (.slice e))(hv:∀w,(zeroValue e).run P w=.ok z w)(h1:∀v∈z.cells,v.oneCell'=true)(b o n c:Nat)(hn:0<n)
  (hc:∀j,j<(Builtin.zeroCells z.cells n).toList.length->(w.cell? ⟨b,o+j,none⟩).isSome=true)(hf:∀j,j<(Builtin.zeroCells z.cells n).toList.length->w.frozen? ⟨b,o+j,none⟩=false):
  (Builtin.clear_ #[t] ty #[.slice (some ⟨b,o,none⟩) n c]).run P w=.ok (.tuple #[]) (w.setCells b o (Builtin.zeroCells z.cells n).toList):=by
 have hone:∀v∈(Builtin.zeroCells z.cells n).toList,v.oneCell'=true:=λv hv'=>by
  by_cases h0:z.cells.size=0
  .simp[Builtin.zeroCells,h0]at hv'
  .simp only[Builtin.zeroCells,Array.toList_map,List.mem_map]at hv';obtain⟨i,_,rfl⟩:=hv';have hlt:i%z.cells.size<z.cells.size:=Nat.mod_lt _ (by omega);refine h1 _ ?_;rw[getElem!_pos z.cells _ hlt];exact Array.getElem_mem hlt
 have hst:=run_storeCells_cells (P:=P) b o _ 0 w (by simpa using hc) (by simpa using hf) hone;simp only[Nat.add_zero]at hst;obtain⟨m,rfl⟩:∃m,n=m+1:=⟨n-1,by omega⟩;simp[Builtin.clear_,run_underlying ht,hv,hst]
theorem wS (B n c k N:Nat)(f:Nat->Mv)(w:World)(hn:n<=1048576)(hk:k<n)(ho:w.ownsRow N 36 6 (.slice (some ⟨B,0,none⟩) n c) n (bu f n)):
  Calls Tryz0.prog 283 #[.slice (some ⟨B,0,none⟩) n c,.int .i64 k,.int .i64 ((k:Int)+1)] w λe w'=>e=.returned (.slice (some ⟨B,0,none⟩) (n-1) c)/\w'.ownsRow N 36 6 (.slice (some ⟨B,0,none⟩) (n-1) c) (n-1) (bu (aN f k) (n-1))/\w'.heap.size=w.heap.size/\∀i,i≠B->w'.heap[i]?=w.heap[i]?:=by
 obtain⟨cur,hg,hnc,hcm,hcs,hNB,hcell⟩:=dr ho;have hlenX:=bg f n;obtain⟨i0,hI,hz0,hz1,hz2⟩:=fJ;obtain⟨news,hnews⟩:∃news,news=bu (λj=>f (k+1+j)) (n-(k+1)):=⟨_,rfl⟩;have hlen:news.length=(n-(k+1))*6:=by rw[hnews,bg];try omega
 have hone:Hid (∀u∈news,u.oneCell'=true):=by rw[hnews];exact dX _ _
 have hgd:w.drew.heap[B]?=some (.cells cur 36 (0,0)):=hg;have hfz:∀j,w.drew.frozen? ⟨B,j,none⟩=false:=λj=>by simp[World.frozen?,hgd]
 have hsome:∀j,j<c*6->(w.drew.cell? ⟨B,j,none⟩).isSome=true:=λj hj=>by
  have:w.drew.cell? ⟨B,j,none⟩=cur[j]?:=by simp[World.cell?,hgd]
  rw[this,Array.getElem?_eq_getElem (by omega)];rfl
 obtain⟨A,hA,hsrc⟩:∃A:Addr,(if c=k+1 then some (⟨B,0,none⟩:Addr)else some ⟨B,(k+1)*6,none⟩)=some A/\Hid (∀t u,news[t]?=some u->w.drew.cell? (A.add t)=some u):=by
  by_cases h:c=k+1
  .refine⟨⟨B,0,none⟩,by simp[h],λt u hu=>?_⟩;have h0:news.length=0:=by rw[hlen];omega
   rw[List.length_eq_zero_iff.1 h0]at hu;simp at hu
  .refine⟨⟨B,(k+1)*6,none⟩,by simp[h],λt u hu=>?_⟩;rw[hnews]at hu;exact(by have hr:=dv (p9 (dW ho) (show k+1<=n by omega)) t u hu;exact hr)
 obtain⟨W1,hW1⟩:∃W1,W1=w.drew.setCells B (0+k*6) news:=⟨_,rfl⟩;obtain⟨cur1,hg1,hs1⟩:∃cur1,W1.heap[B]?=some (.cells cur1 36 (0,0))/\cur1.size=cur.size:=by rw[hW1];exact da B _ _ _ _ _ hg
 have hl1:k+(n-(k+1))=n-1:=by omega
 obtain⟨zs,hzs⟩:∃zs,zs=(Builtin.zeroCells (.agg #[.string ByteArray.empty,.bool false,.int .i64 0,.int .i64 0,.int .i64 0,.int .i64 0]:Value).cells 1).toList:=⟨_,rfl⟩;have hzl:zs.length=6:=by rw[hzs];simp[Builtin.zeroCells,Value.cells]
 have hf1:∀j,W1.frozen? ⟨B,j,none⟩=false:=λj=>by simp[World.frozen?,hg1]
 have hc1:∀j,j<c*6->(W1.cell? ⟨B,j,none⟩).isSome=true:=λj hj=>by
  have:W1.cell? ⟨B,j,none⟩=cur1[j]?:=by simp[World.cell?,hg1]
  rw[this,Array.getElem?_eq_getElem (by omega)];rfl
 have hn1:(n-1)*6+6<=c*6:=by omega
 have hcl:∀ty,(Builtin.clear_ #[30] ty #[.slice (some ⟨B,(n-1)*6,none⟩) (n-(n-1)) (c-(n-1))]).run Tryz0.prog W1=.ok (.tuple #[]) (W1.setCells B ((n-1)*6) zs):=λty=>by
  rw[hzs,show n-(n-1)=1 by omega];exact jj W1 _ _ ty (.agg #[.string ByteArray.empty,.bool false,.int .i64 0,.int .i64 0,.int .i64 0,.int .i64 0]) (Tryz0.tr_underlying Tryz.underlying30) (λw=>(Tryz0.tr_zeroValue Tryz.zeroValue36) w) (by simp[Value.cells,Value.oneCell']) B _ 1 _ (by omega) (λj hj=>hc1 _ (by rw[<-hzs,hzl]at hj;omega)) (λj hj=>hf1 _)
 obtain⟨W2,hW2⟩:∃W2,W2=W1.setCells B ((n-1)*6) zs:=⟨_,rfl⟩;rw[<-hW2]at hcl;have hend:W2.ownsRow N 36 6 (.slice (some ⟨B,0,none⟩) (n-1) c) (n-1) (bu (aN f k) (n-1))/\W2.heap.size=w.heap.size/\∀i,i≠B->W2.heap[i]?=w.heap[i]?:=by
  obtain⟨cur2,hg2,hs2⟩:∃cur2,W2.heap[B]?=some (.cells cur2 36 (0,0))/\cur2.size=cur1.size:=by rw[hW2];exact da B _ _ _ _ _ hg1
  refine⟨jM hNB hg2 (by omega) (by omega) hcm (by rw[bg];try omega) λj u hu=>?_,by rw[hW2,hW1,dq,dq];rfl,λi hi=>by rw[hW2,hW1,dZ _ _ _ _ _ hi,dZ _ _ _ _ _ hi];rfl⟩;have hj:j<(n-1)*6:=by
   have:=(List.getElem?_eq_some_iff.1 hu).1;rw[bg]at this;omega
  rw[<-te f k n hk,<-hnews]at hu;rw[hW2,World.cell?_setCells_out B _ _ _ _ (λ_ _=>.inl hj),hW1];by_cases hlt:j<k*6
  .rw[World.cell?_setCells_out B _ _ _ _ (λ_ _=>.inl (by show j<_;omega))];rw[List.getElem?_append_left (by rw[bg];omega)]at hu;refine hcell j u ?_;rw[<-hu];have:(bu f n)[j]?=(bu f k)[j]?:=y9 f (by omega) hlt;exact this
  .rw[List.getElem?_append_right (by rw[bg];omega),bg]at hu;have hjn:=(List.getElem?_eq_some_iff.1 hu).1;have:=World.cell?_setCells_in B news (0+k*6) w.drew (λi hi=>hsome _ (by omega)) (j-k*6) (by simpa using hjn);rw[show 0+k*6+(j-k*6)=j by omega]at this;rw[this];rw[<-hu,List.getElem?_eq_getElem (by simpa using hjn)];try simp
 have hspare:Hid (∀t,t<news.length->(w.drew.cell? ⟨B,0+k*6+t,none⟩).isSome=true/\w.drew.frozen? ⟨B,0+k*6+t,none⟩=false):=λt ht=>⟨hsome _ (by omega),hfz _⟩
 have hlenH:Hid (news.length=(n-(k+1))*6):=hlen;have hWH:Hid (W1=w.drew.setCells B (0+k*6) news):=hW1;clear hgd hW1 hW2 hlen hnews hfz hsome hcell hg hg1 hs1 hzs hzl hf1 hc1 ho hlenX hcs;have hkc:(k:Int)<=c:=by omega
 have hk0:(0:Int)<=(k:Int)+1:=by omega
 have hk1:(k:Int)+1<=n:=by omega
 have hk2:(k:Int)+1<=c:=by omega
 have hwr:IntKind.i64.wrap ((k:Int)+1)=(k:Int)+1:=by rw[IntKind.wrap_i64];omega
 go_enter Tryz0.func283,Tryz.ntmps283
 go_wp2_with fail
 go_region_law (refine step_append_room rfl (.tmp 22) (.tmp 25) 30 rfl 36 i0 6 (Tryz0.tr_underlying Tryz.underlying30) hI hz1 B 0 k c (by simp[Act.eval,Act.put]) A (n-(k+1)) (c-(k+1)) news (by simp[Act.eval,Act.put]) hlenH.out hsrc.out hone.out (by omega) hspare.out ?_;rw[<-hWH.out])
 go_wp2;go_ret;exact⟨rfl,hend⟩
theorem za (B n c k N:Nat)(f:Nat->Int)(w:World)(hn:n<=1048576)(hk:k<n)(ho:w.ownsRow N 3 1 (.slice (some ⟨B,0,none⟩) n c) n (bH f n)):
  Calls Tryz0.prog 284 #[.slice (some ⟨B,0,none⟩) n c,.int .i64 k,.int .i64 ((k:Int)+1)] w λe w'=>e=.returned (.slice (some ⟨B,0,none⟩) (n-1) c)/\w'.ownsRow N 3 1 (.slice (some ⟨B,0,none⟩) (n-1) c) (n-1) (bH (aN f k) (n-1))/\w'.heap.size=w.heap.size/\∀i,i≠B->w'.heap[i]?=w.heap[i]?:=by
 obtain⟨cur,hg,hnc,hcm,hcs,hNB,hcell⟩:=dr ho;have hlenX:=aQ f n;obtain⟨i0,hI,hz0,hz1,hz2⟩:=kX;obtain⟨news,hnews⟩:∃news,news=bH (λj=>f (k+1+j)) (n-(k+1)):=⟨_,rfl⟩;have hlen:news.length=(n-(k+1))*1:=by rw[hnews,aQ];try omega
 have hone:Hid (∀u∈news,u.oneCell'=true):=by rw[hnews];exact eC _ _
 have hgd:w.drew.heap[B]?=some (.cells cur 3 (0,0)):=hg;have hfz:∀j,w.drew.frozen? ⟨B,j,none⟩=false:=λj=>by simp[World.frozen?,hgd]
 have hsome:∀j,j<c*1->(w.drew.cell? ⟨B,j,none⟩).isSome=true:=λj hj=>by
  have:w.drew.cell? ⟨B,j,none⟩=cur[j]?:=by simp[World.cell?,hgd]
  rw[this,Array.getElem?_eq_getElem (by omega)];rfl
 obtain⟨A,hA,hsrc⟩:∃A:Addr,(if c=k+1 then some (⟨B,0,none⟩:Addr)else some ⟨B,(k+1),none⟩)=some A/\Hid (∀t u,news[t]?=some u->w.drew.cell? (A.add t)=some u):=by
  by_cases h:c=k+1
  .refine⟨⟨B,0,none⟩,by simp[h],λt u hu=>?_⟩;have h0:news.length=0:=by rw[hlen];omega
   rw[List.length_eq_zero_iff.1 h0]at hu;simp at hu
  .refine⟨⟨B,(k+1),none⟩,by simp[h],λt u hu=>?_⟩;rw[hnews]at hu;exact(by have h1:t<n-(k+1):=(by have:=(List.getElem?_eq_some_iff.1 hu).1;rw[aQ]at this;exact this);rw[bz h1]at hu;have:=hcell (k+1+t) _ (bz (by omega));rw[Addr.add_lit,<-hu];exact this)
 obtain⟨W1,hW1⟩:∃W1,W1=w.drew.setCells B (0+k*1) news:=⟨_,rfl⟩;obtain⟨cur1,hg1,hs1⟩:∃cur1,W1.heap[B]?=some (.cells cur1 3 (0,0))/\cur1.size=cur.size:=by rw[hW1];exact da B _ _ _ _ _ hg
 have hl1:k+(n-(k+1))=n-1:=by omega
 obtain⟨zs,hzs⟩:∃zs,zs=(Builtin.zeroCells (.int .i64 0:Value).cells 1).toList:=⟨_,rfl⟩;have hzl:zs.length=1:=by rw[hzs];simp[Builtin.zeroCells,Value.cells]
 have hf1:∀j,W1.frozen? ⟨B,j,none⟩=false:=λj=>by simp[World.frozen?,hg1]
 have hc1:∀j,j<c*1->(W1.cell? ⟨B,j,none⟩).isSome=true:=λj hj=>by
  have:W1.cell? ⟨B,j,none⟩=cur1[j]?:=by simp[World.cell?,hg1]
  rw[this,Array.getElem?_eq_getElem (by omega)];rfl
 have hn1:(n-1)*1+1<=c*1:=by omega
 have hcl:∀ty,(Builtin.clear_ #[23] ty #[.slice (some ⟨B,n-1,none⟩) (n-(n-1)) (c-(n-1))]).run Tryz0.prog W1=.ok (.tuple #[]) (W1.setCells B ((n-1)*1) zs):=λty=>by
  rw[hzs,show n-(n-1)=1 by omega];rw[Nat.mul_one];exact jj W1 _ _ ty (.int .i64 0) (Tryz0.tr_underlying Tryz.underlying23) (λw=>(Tryz0.tr_zeroValue Tryz.zeroValue3) w) (by simp[Value.cells,Value.oneCell']) B _ 1 _ (by omega) (λj hj=>hc1 _ (by rw[<-hzs,hzl]at hj;omega)) (λj hj=>hf1 _)
 obtain⟨W2,hW2⟩:∃W2,W2=W1.setCells B ((n-1)*1) zs:=⟨_,rfl⟩;rw[<-hW2]at hcl;have hend:W2.ownsRow N 3 1 (.slice (some ⟨B,0,none⟩) (n-1) c) (n-1) (bH (aN f k) (n-1))/\W2.heap.size=w.heap.size/\∀i,i≠B->W2.heap[i]?=w.heap[i]?:=by
  obtain⟨cur2,hg2,hs2⟩:∃cur2,W2.heap[B]?=some (.cells cur2 3 (0,0))/\cur2.size=cur1.size:=by rw[hW2];exact da B _ _ _ _ _ hg1
  refine⟨jM hNB hg2 (by omega) (by omega) hcm (by rw[aQ];try omega) λj u hu=>?_,by rw[hW2,hW1,dq,dq];rfl,λi hi=>by rw[hW2,hW1,dZ _ _ _ _ _ hi,dZ _ _ _ _ _ hi];rfl⟩;have hj:j<(n-1)*1:=by
   have:=(List.getElem?_eq_some_iff.1 hu).1;rw[aQ]at this;omega
  rw[<-p8 f k n hk,<-hnews]at hu;rw[hW2,World.cell?_setCells_out B _ _ _ _ (λ_ _=>.inl hj),hW1];by_cases hlt:j<k*1
  .rw[World.cell?_setCells_out B _ _ _ _ (λ_ _=>.inl (by show j<_;omega))];rw[List.getElem?_append_left (by rw[aQ];omega)]at hu;refine hcell j u ?_;rw[<-hu];have:(bH f n)[j]?=(bH f k)[j]?:=(by rw[bz (by omega),bz (by omega)]);exact this
  .rw[List.getElem?_append_right (by rw[aQ];omega),aQ]at hu;have hjn:=(List.getElem?_eq_some_iff.1 hu).1;have:=World.cell?_setCells_in B news (0+k*1) w.drew (λi hi=>hsome _ (by omega)) (j-k*1) (by simpa using hjn);rw[show 0+k*1+(j-k*1)=j by omega]at this;rw[this];rw[<-hu,List.getElem?_eq_getElem (by simpa using hjn)];try simp
 have hspare:Hid (∀t,t<news.length->(w.drew.cell? ⟨B,0+k*1+t,none⟩).isSome=true/\w.drew.frozen? ⟨B,0+k*1+t,none⟩=false):=λt ht=>⟨hsome _ (by omega),hfz _⟩
 have hlenH:Hid (news.length=(n-(k+1))*1):=hlen;have hWH:Hid (W1=w.drew.setCells B (0+k*1) news):=hW1;clear hgd hW1 hW2 hlen hnews hfz hsome hcell hg hg1 hs1 hzs hzl hf1 hc1 ho hlenX hcs;have hkc:(k:Int)<=c:=by omega
 have hk0:(0:Int)<=(k:Int)+1:=by omega
 have hk1:(k:Int)+1<=n:=by omega
 have hk2:(k:Int)+1<=c:=by omega
 have hwr:IntKind.i64.wrap ((k:Int)+1)=(k:Int)+1:=by rw[IntKind.wrap_i64];omega
 go_enter Tryz0.func284,Tryz.ntmps284
 go_wp2_with fail
 go_region_law (refine step_append_room rfl (.tmp 22) (.tmp 25) 23 rfl 3 i0 1 (Tryz0.tr_underlying Tryz.underlying23) hI hz1 B 0 k c (by simp[Act.eval,Act.put]) A (n-(k+1)) (c-(k+1)) news (by simp[Act.eval,Act.put]) hlenH.out hsrc.out hone.out (by omega) hspare.out ?_;rw[<-hWH.out])
 go_wp2;go_ret;exact⟨rfl,hend⟩
def ip (t t':Nat->Int)(n:Nat):Bool:=(List.range n).any λi=>decide (t' i<t i)
theorem oq {t t':Nat->Int}{n k:Nat}(hk:k<n)(h:t' k<t k):ip t t' n=true:=by
 unfold ip;rw[List.any_eq_true];exact⟨k,by simpa using hk,by simpa using h⟩
theorem qa {t t':Nat->Int}{n:Nat}(h:∀i,i<n->t i<=t' i):ip t t' n=false:=by
 unfold ip;rw[List.any_eq_false];intro i hi;simpa using h i (by simpa using hi)
def At (w:World)(a:Option Addr)(n:Nat)(t:Nat->Int):Prop:=n=0\/∃b,a=some ⟨b,0,none⟩/\b<w.heap.size/\ag w b 0 n t
theorem jN (a:Option Addr)(n c:Nat)(t:Nat->Int)(a':Option Addr)(c':Nat)(t':Nat->Int)(w:World)(hn:n<=1048576)(hr:At w a n t)(hr':At w a' n t'):
  Calls Tryz0.prog 285 #[.slice a n c,.slice a' n c'] w λe w'=>e=.returned (.bool (ip t t' n))/\Below w.heap.size w w':=by
 go_enter Tryz0.func285,Tryz.ntmps285
 go_wp2;go_loopw [9] (λx W=>∃k:Nat,x=.int .i64 k/\k<=n/\Below w.heap.size w W/\∀i,i<k->t i<=t' i) (λx _=>n-(intOf x).toNat)
 case atStart=>exact⟨0,rfl,Nat.zero_le _,Below.refl _ _,λi hi=>absurd hi (Nat.not_lt_zero _)⟩
 case round=>
  obtain⟨k,rfl,hk,hB,hall⟩:=hrel;by_cases hlt:k<n
  .have hlt':(k:Int)<n:=by omega
   obtain⟨b,rfl,hbs,h1⟩:=hr.resolve_left (by omega);obtain⟨b',rfl,hbs',h2⟩:=hr'.resolve_left (by omega);have c0:=h1.below hB hbs k hlt;have c1:=h2.below hB hbs' k hlt;simp only[Nat.zero_add]at c0 c1;rcases Int.lt_or_le (t' k) (t k)with hle|hle
   .go_wp2;all_goals first|(exfalso;omega)|skip
    go_ret;exact⟨by rw[oq hlt hle];rfl,hB⟩
   .go_wp2;all_goals first|(exfalso;omega)|skip
    go_roundw
    case rel=>exact⟨k+1,by go_num,by omega,hB,λi hi=>by
     by_cases e:i=k
     .subst e;exact hle
     .exact hall i (by omega)⟩
    case measure=>simp[intOf];omega
  .have hlt':¬(k:Int)<n:=by omega
   go_wp2;all_goals first|(exfalso;omega)|skip
   go_ret;exact⟨by rw[qa λi hi=>hall i (by omega)];rfl,hB⟩
theorem o0 (a:Option Addr)(n c:Nat)(t:Nat->Int)(a':Option Addr)(c':Nat)(t':Nat->Int)(w:World)(hn:n<=1048576)(hr:At w a n t)(hr':At w a' n t'):
  Calls Tryz0.prog 47 #[.slice a n c,.slice a' n c'] w λe w'=>e=.returned (.bool (!ip t t' n))/\Below w.heap.size w w':=by
 go_enter Tryz0.func47,Tryz.ntmps47
 go_wp2;go_loopw [5] (λx W=>∃k:Nat,x=.int .i64 k/\k<=n/\Below w.heap.size w W/\∀i,i<k->t i<=t' i) (λx _=>n-(intOf x).toNat)
 case atStart=>exact⟨0,rfl,Nat.zero_le _,Below.refl _ _,λi hi=>absurd hi (Nat.not_lt_zero _)⟩
 case round=>
  obtain⟨k,rfl,hk,hB,hall⟩:=hrel;by_cases hlt:k<n
  .have hlt':(k:Int)<n:=by omega
   obtain⟨b,rfl,hbs,h1⟩:=hr.resolve_left (by omega);obtain⟨b',rfl,hbs',h2⟩:=hr'.resolve_left (by omega);have lb:=Nat.lt_of_lt_of_le hbs hB.size;have lb':=Nat.lt_of_lt_of_le hbs' hB.size;have c0:=h1.below hB hbs k hlt;have c1:=h2.below hB hbs' k hlt;simp only[Nat.zero_add]at c0 c1;have hne:=ax wr;have x0:=λx:af wr=>x.cell c0
   have x1:=λx:af wr=>x.cell c1
   go_wp2;refine ae (by kernel_rfl) (by kernel_rfl) ?_;repeat(go_big_quiet_step (fail))
   refine wpQuiet_nil (ak ?_);intro w2 hb2;rcases Int.lt_or_le (t' k) (t k)with hle|hle
   .go_wp2;all_goals first|(exfalso;omega)|skip
    go_ret;exact⟨by rw[oq hlt hle];rfl,hB.trans (hb2.mono hB.size)⟩
   .go_wp2;all_goals first|(exfalso;omega)|skip
    go_roundw
    case rel=>exact⟨k+1,by go_num,by omega,hB.trans (hb2.mono hB.size),λi hi=>by
     by_cases e:i=k
     .subst e;exact hle
     .exact hall i (by omega)⟩
    case measure=>simp[intOf];omega
  .have hlt':¬(k:Int)<n:=by omega
   go_wp2;all_goals first|(exfalso;omega)|skip
   go_ret;exact⟨by rw[qa λi hi=>hall i (by omega)];rfl,hB⟩
end
end Go.Proofs.YtlmcblcijndipabGreatDoor
