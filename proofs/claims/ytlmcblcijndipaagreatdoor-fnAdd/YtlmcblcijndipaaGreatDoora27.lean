import Derived.Test.YtlmcblcijndipaaGreatDoora26
import Derived.Laws.IdiomCopy
import Derived.Lib.SliceRun
import Derived.ArgAppend
import Derived.Laws.CopyRow
set_option linter.defProp false
set_option linter.unusedVariables false
set_option maxHeartbeats 4000000
set_option maxRecDepth 100000
namespace Go.Proofs.YtlmcblcijndipaaGreatDoor
open RowKit
variable {k n:Nat}{P:Program}{w:World}
section
variable {N B c s:Nat}{T:TypeId}{xs:List Value}
def dy (B:Nat)(T:TypeId):∀(vs:List Value) (o:Nat) (w:World) (cur:Array Value),w.heap[B]?=some (.cells cur T (0,0))->∃PP,(w.setCells B o vs).heap[B]?=some (.cells PP T (0,0))/\PP.size=cur.size
 |[],o,w,cur,h=>⟨cur,h,rfl⟩
 |v::vs,o,w,cur,h=>by
  let⟨c,h1,h2⟩:=dy B T vs (o+1) (w.setCell ⟨B,o,none⟩ v) _<|heap_setCell_same w B o cur T v h;exact⟨c,h1,by simpa using h2⟩
def dY (B:Nat):∀(vs:List Value) (o:Nat) (w:World),(w.setCells B o vs).heap.size=w.heap.size
 |[],_,_=>rfl
 |v::vs,o,w=>by show((w.setCell _ v).setCells B (o+1) vs).heap.size=_;rw[dY B vs];simp
def dP (B:Nat):∀(vs:List Value) (o:Nat) (w:World) (i:Nat),i≠B->(w.setCells B o vs).heap[i]?=w.heap[i]?
 |[],_,_,_,_=>rfl
 |v::vs,o,w,i,h=>(dP B vs (o+1) (w.setCell ⟨B,o,none⟩ v) i h).trans<|acY w _ _ _ oO
def my {cur:Array Value}(hb:N<=B)(hg:w.heap[B]?=some (.cells cur T (0,0)))(ML:cur.size=c*s)(hn:n<=c)(hc:c<=maxLen)(hl:xs.length=n*s)(h:∀j u,xs[j]?=some u->w.cell? ⟨B,j,none⟩=some u):
  w.ownsRow N T s (.slice B n c) n xs:=by
 refine⟨hl,.inr ⟨B,c,cur,rfl,hb,hg,hn,hc,ML,?_⟩⟩;have hle:n*s<=c*s:=Nat.mul_le_mul_right s hn;apply List.ext_getElem?;intro j;by_cases hj:j<n*s
 .obtain⟨u,hu⟩:∃u,xs[j]?=some u:=⟨_,adr aa⟩;have:=h j u hu;simp only[World.cell?,hg]at this;rw[hu,List.getElem?_take,if_pos hj];simpa using this
 .rw[adg cU,adg aa]
def dj (h:w.ownsRow N T s (.slice B n c) n xs):∃cur,w.heap[B]?=some (.cells cur T (0,0))/\n<=c/\c<=maxLen/\cur.size=c*s/\N<=B/\∀j u,xs[j]?=some u->w.cell? ⟨B,j,none⟩=some u:=by
 obtain⟨h1,⟨h2,_⟩|⟨g,cap,cur,h2,h3,h4,h5,h6,h7,h8⟩⟩:=h
 .cases h2
 .cases h2;refine⟨cur,h4,h5,h6,h7,h3,λj u hu=>?_⟩;rw[<-h8,List.getElem?_take]at hu;split at hu
  .simp only[World.cell?,h4];simpa using hu
  .cases hu
def yl (f:Nat->Mv){j:Nat}(hk:k<=n)(hj:j<k*6):(aV f n)[j]?=(aV f k)[j]?:=by
 have h1:=pY f n (j/6) (j%6) aa aa;have h2:=pY f k (j/6) (j%6) aa aa;rw[show j/6*6+j%6=j by omega]at h1 h2;rw[h1,h2]
def nq {b:Nat}{f:Nat->Mv}(h:aI w b 0 n f)(hk:k<=n):aI w b (k*6) (n-k) (λj=>f<|k+j):=λi hi=>by
 have:=h (k+i) aa;rw[show 0+(k+i)*6=k*6+i*6 by omega]at this;exact this
def Nm:∃i,Tz.prog.info? 3=some i/\i.zero=some (.int .i64 0)/\i.size=1/\i.bytes=8:=by
 have h:(Tz.prog.info? 3).map (λi=>(i.zero,i.size,i.bytes))=some (some<|.int .i64 0,1,8):=bD;cases hI:Tz.prog.info? 3 with
 |none=>rw[hI]at h;simp at h
 |some i=>rw[hI]at h;simp only[Option.map_some,Option.some.injEq,Prod.mk.injEq]at h;exact⟨i,rfl,h.1,h.2.1,h.2.2⟩
def p6 (w:World)(t e ty:TypeId)(z:Value)(ht:P.underlying t=some (.slice e))(hv:∀w,(zeroValue e).run P w=.ok z w)(h1:∀v∈z.cells,v.oneCell'=true)(b o n c:Nat)(hn:0<n)
  (hc:∀j,j<(Builtin.zeroCells z.cells n).toList.length->(w.cell? ⟨b,o+j,none⟩).isSome=true)(hf:∀j,j<(Builtin.zeroCells z.cells n).toList.length->w.frozen? ⟨b,o+j,none⟩=false):
  (Builtin.clear_ #[t] ty #[.slice (some ⟨b,o,none⟩) n c]).run P w=.ok (.tuple #[]) (w.setCells b o (Builtin.zeroCells z.cells n).toList):=by
 have xl:∀v∈(Builtin.zeroCells z.cells n).toList,v.oneCell'=true:=λv Ay=>by
  by_cases h0:z.cells.size=0
  .simp[Builtin.zeroCells,h0]at Ay
  .simp only[Builtin.zeroCells,Array.toList_map,List.mem_map]at Ay;obtain⟨i,_,rfl⟩:=Ay;have aB:i%z.cells.size<z.cells.size:=Nat.mod_lt _ aa;refine h1 _ ?_;rw[getElem!_pos z.cells _ aB];exact Array.getElem_mem aB
 have dz:=run_storeCells_cells (P:=P) b o _ 0 w (by simpa using hc) (by simpa using hf) xl;simp only[Nat.add_zero]at dz;obtain⟨m,rfl⟩:∃m,n=m+1:=⟨n-1,aa⟩;simp[Builtin.clear_,run_underlying ht,hv,dz]
def JN (B n c k N:Nat)(f:Nat->Mv)(w:World)(hn:n<=1048576)(hk:k<n)(ho:w.ownsRow N 31 6 (.slice B n c) n (aV f n)):
  Calls Tz.prog 288 #[.slice (some ⟨B,0,none⟩) n c,.int .i64 k,.int .i64<|(k:Int)+1] w λe w'=>e=.returned (.slice (some ⟨B,0,none⟩) (n-1) c)/\w'.ownsRow N 31 6 (.slice (some ⟨B,0,none⟩) (n-1) c) (n-1) (aV (cW f k)<|n-1)/\w'.heap.size=w.heap.size/\∀i,i≠B->w'.heap[i]?=w.heap[i]?:=by
 let⟨cur,hg,O7,At,hcs,Le,hcell⟩:=dj ho;have MR:=bp f n;let⟨i0,hI,gj,eO,gM⟩:=eJ;obtain⟨news,gd⟩:∃news,news=aV (λj=>f<|k+1+j) (n-(k+1)):=⟨_,rfl⟩;have hlen:news.length=(n-(k+1))*6:=by rw[gd,bp];try omega
 have xl:Hid (∀u∈news,u.oneCell'=true):=by rw[gd];exact eM _ _
 have J8:w.drew.heap[B]?=some (.cells cur 31 (0,0)):=hg;have IC:∀j,w.drew.frozen? ⟨B,j,none⟩=false:=λj=>by simp[World.frozen?,J8]
 have xw:∀j,j<c*6->(w.drew.cell? ⟨B,j,none⟩).isSome=true:=λj hj=>by
  have:w.drew.cell? ⟨B,j,none⟩=cur[j]?:=by simp[World.cell?,J8]
  rw[this,adc aa];rfl
 obtain⟨A,hA,GE⟩:∃A:Addr,(if c=k+1 then some (⟨B,0,none⟩:Addr)else some ⟨B,(k+1)*6,none⟩)=some A/\Hid (∀t u,news[t]?=some u->w.drew.cell? (A.add t)=some u):=by
  by_cases h:c=k+1
  .refine⟨B,by simp[h],λt u hu=>?_⟩;have h0:news.length=0:=by rw[hlen];omega
   rw[List.length_eq_zero_iff.1 h0]at hu;simp at hu
  .refine⟨⟨B,(k+1)*6,none⟩,by simp[h],λt u hu=>?_⟩;rw[gd]at hu;exact(by have hr:=dW (nq (dK ho) (show k+1<=n by omega)) t u hu;exact hr)
 obtain⟨W1,wX⟩:∃W1,W1=w.drew.setCells B (0+k*6) news:=⟨_,rfl⟩;obtain⟨mh,mn,yQ⟩:∃mh,W1.heap[B]?=some (.cells mh 31 (0,0))/\mh.size=cur.size:=by rw[wX];exact dy B _ _ _ _ _ hg
 have Ll:k+(n-(k+1))=n-1:=aa;obtain⟨zs,Kg⟩:∃zs,zs=(Builtin.zeroCells (.agg #[.string ByteArray.empty,.bool false,(0:Int),(0:Int),(0:Int),(0:Int)]:Value).cells 1).toList:=⟨_,rfl⟩;have Zu:zs.length=6:=by rw[Kg];simp[Builtin.zeroCells,Value.cells]
 have pE:∀j,W1.frozen? ⟨B,j,none⟩=false:=λj=>by simp[World.frozen?,mn]
 have kq:∀j,j<c*6->(W1.cell? ⟨B,j,none⟩).isSome=true:=λj hj=>by
  have:W1.cell? ⟨B,j,none⟩=mh[j]?:=by simp[World.cell?,mn]
  rw[this,adc aa];rfl
 have MT:(n-1)*6+6<=c*6:=aa;have Ym:∀ty,(Builtin.clear_ #[23] ty #[.slice (some ⟨B,(n-1)*6,none⟩) (n-(n-1))<|c-(n-1)]).run Tz.prog W1=.ok (.tuple #[]) (W1.setCells B ((n-1)*6) zs):=λty=>by
  rw[Kg,show n-(n-1)=1 by omega];exact p6 W1 _ _ ty (.agg #[ByteArray.empty,false,(0:Int),(0:Int),(0:Int),(0:Int)]) (Tz.aR Tryz.underlying23) (λw=>(Tz.tz Tryz.zeroValue31) w) (by simp[Value.cells,Value.oneCell']) B _ 1 _ aa (λj hj=>kq _<|by rw[<-Kg,Zu]at hj;omega) λj hj=>pE _
 obtain⟨W2,uC⟩:∃W2,W2=W1.setCells B ((n-1)*6) zs:=⟨_,rfl⟩;rw[<-uC]at Ym;have ml:W2.ownsRow N 31 6 (.slice B (n-1) c) (n-1) (aV (cW f k)<|n-1)/\W2.heap.size=w.heap.size/\∀i,i≠B->W2.heap[i]?=w.heap[i]?:=by
  obtain⟨vr,jW,mZ⟩:∃vr,W2.heap[B]?=some (.cells vr 31 (0,0))/\vr.size=mh.size:=by rw[uC];exact dy B _ _ _ _ _ mn
  refine⟨my Le jW aa aa At (by rw[bp];try omega) λj u hu=>?_,by rw[uC,wX,dY,dY];rfl,λi hi=>by rw[uC,wX,dP _ _ _ _ _ hi,dP _ _ _ _ _ hi];rfl⟩;have hj:j<(n-1)*6:=by
   have:=(adf.1 hu).1;rw[bp]at this;omega
  rw[<-EM f k n hk,<-gd]at hu;rw[uC,World.cell?_setCells_out B _ _ _ _ (λ_ _=>.inl hj),wX];by_cases aB:j<k*6
  .rw[World.cell?_setCells_out B _ _ _ _ (λ_ _=>.inl (by show j<_;omega))];rw[adh (by rw[bp];omega)]at hu;refine hcell j u ?_;rw[<-hu];have:(aV f n)[j]?=(aV f k)[j]?:=yl f aa aB;exact this
  .rw[adi (by rw[bp];omega),bp]at hu;have Fw:=(adf.1 hu).1;have:=World.cell?_setCells_in B news (0+k*6) w.drew (λi hi=>xw _ aa) (j-k*6) (by simpa using Fw);rw[show 0+k*6+(j-k*6)=j by omega]at this;rw[this];rw[<-hu,adr (by simpa using Fw)];try simp
 have GD:Hid (∀t,t<news.length->(w.drew.cell? ⟨B,0+k*6+t,none⟩).isSome=true/\w.drew.frozen? ⟨B,0+k*6+t,none⟩=false):=λt ht=>⟨xw _ aa,IC _⟩
 have MQ:Hid (news.length=(n-(k+1))*6):=hlen;have Ui:Hid (W1=w.drew.setCells B (0+k*6) news):=wX;clear J8 wX uC hlen gd IC xw hcell hg mn yQ Kg Zu pE kq ho MR hcs;have YJ:(k:Int)<=c:=aa;have uE:(0:Int)<=(k:Int)+1:=aa;have Fx:(k:Int)+1<=n:=aa;have mY:(k:Int)+1<=c:=aa;have Ce:IntKind.i64.wrap ((k:Int)+1)=(k:Int)+1:=hZ;go_enter Tz.func288,Tryz.ntmps288
 go_wp2_with fail
 go_region_law (refine step_append_room rfl (.tmp 22) (.tmp 25) 23 rfl 31 i0 6 (Tz.aR Tryz.underlying23) hI eO B 0 k c (by simp[Act.eval,Act.put]) A (n-(k+1)) (c-(k+1)) news (by simp[Act.eval,Act.put]) MQ.out GE.out xl.out (by omega) GD.out ?_;rw[<-Ui.out])
 go_wp2;go_ret;exact⟨rfl,ml⟩
def L6 (B n c k N:Nat)(f:Nat->Int)(w:World)(hn:n<=1048576)(hk:k<n)(ho:w.ownsRow N 3 1 (.slice B n c) n (dX f n)):
  Calls Tz.prog 289 #[.slice (some ⟨B,0,none⟩) n c,.int .i64 k,.int .i64<|(k:Int)+1] w λe w'=>e=.returned (.slice (some ⟨B,0,none⟩) (n-1) c)/\w'.ownsRow N 3 1 (.slice (some ⟨B,0,none⟩) (n-1) c) (n-1) (dX (cW f k)<|n-1)/\w'.heap.size=w.heap.size/\∀i,i≠B->w'.heap[i]?=w.heap[i]?:=by
 let⟨cur,hg,O7,At,hcs,Le,hcell⟩:=dj ho;have MR:=eH f n;let⟨i0,hI,gj,eO,gM⟩:=Nm;obtain⟨news,gd⟩:∃news,news=dX (λj=>f<|k+1+j) (n-(k+1)):=⟨_,rfl⟩;have hlen:news.length=(n-(k+1))*1:=by rw[gd,eH];try omega
 have xl:Hid (∀u∈news,u.oneCell'=true):=by rw[gd];exact jt _ _
 have J8:w.drew.heap[B]?=some (.cells cur 3 (0,0)):=hg;have IC:∀j,w.drew.frozen? ⟨B,j,none⟩=false:=λj=>by simp[World.frozen?,J8]
 have xw:∀j,j<c*1->(w.drew.cell? ⟨B,j,none⟩).isSome=true:=λj hj=>by
  have:w.drew.cell? ⟨B,j,none⟩=cur[j]?:=by simp[World.cell?,J8]
  rw[this,adc aa];rfl
 obtain⟨A,hA,GE⟩:∃A:Addr,(if c=k+1 then some (⟨B,0,none⟩:Addr)else some ⟨B,(k+1),none⟩)=some A/\Hid (∀t u,news[t]?=some u->w.drew.cell? (A.add t)=some u):=by
  by_cases h:c=k+1
  .refine⟨B,by simp[h],λt u hu=>?_⟩;have h0:news.length=0:=by rw[hlen];omega
   rw[List.length_eq_zero_iff.1 h0]at hu;simp at hu
  .refine⟨⟨B,(k+1),none⟩,by simp[h],λt u hu=>?_⟩;rw[gd]at hu;exact(by have h1:t<n-(k+1):=(by have:=(adf.1 hu).1;rw[eH]at this;exact this);rw[d9 h1]at hu;have:=hcell (k+1+t) _<|d9 aa;rw[Addr.add_lit,<-hu];exact this)
 obtain⟨W1,wX⟩:∃W1,W1=w.drew.setCells B (0+k*1) news:=⟨_,rfl⟩;obtain⟨mh,mn,yQ⟩:∃mh,W1.heap[B]?=some (.cells mh 3 (0,0))/\mh.size=cur.size:=by rw[wX];exact dy B _ _ _ _ _ hg
 have Ll:k+(n-(k+1))=n-1:=aa;obtain⟨zs,Kg⟩:∃zs,zs=(Builtin.zeroCells (.int .i64 0:Value).cells 1).toList:=⟨_,rfl⟩;have Zu:zs.length=1:=by rw[Kg];simp[Builtin.zeroCells,Value.cells]
 have pE:∀j,W1.frozen? ⟨B,j,none⟩=false:=λj=>by simp[World.frozen?,mn]
 have kq:∀j,j<c*1->(W1.cell? ⟨B,j,none⟩).isSome=true:=λj hj=>by
  have:W1.cell? ⟨B,j,none⟩=mh[j]?:=by simp[World.cell?,mn]
  rw[this,adc aa];rfl
 have MT:(n-1)*1+1<=c*1:=aa;have Ym:∀ty,(Builtin.clear_ #[27] ty #[.slice (some ⟨B,n-1,none⟩) (n-(n-1))<|c-(n-1)]).run Tz.prog W1=.ok (.tuple #[]) (W1.setCells B ((n-1)*1) zs):=λty=>by
  rw[Kg,show n-(n-1)=1 by omega];rw[Nat.mul_one];exact p6 W1 _ _ ty (.int .i64 0) (Tz.aR Tryz.underlying27) (λw=>(Tz.tz Tryz.zeroValue3) w) (by simp[Value.cells,Value.oneCell']) B _ 1 _ aa (λj hj=>kq _<|by rw[<-Kg,Zu]at hj;omega) λj hj=>pE _
 obtain⟨W2,uC⟩:∃W2,W2=W1.setCells B ((n-1)*1) zs:=⟨_,rfl⟩;rw[<-uC]at Ym;have ml:W2.ownsRow N 3 1 (.slice B (n-1) c) (n-1) (dX (cW f k)<|n-1)/\W2.heap.size=w.heap.size/\∀i,i≠B->W2.heap[i]?=w.heap[i]?:=by
  obtain⟨vr,jW,mZ⟩:∃vr,W2.heap[B]?=some (.cells vr 3 (0,0))/\vr.size=mh.size:=by rw[uC];exact dy B _ _ _ _ _ mn
  refine⟨my Le jW aa aa At (by rw[eH];try omega) λj u hu=>?_,by rw[uC,wX,dY,dY];rfl,λi hi=>by rw[uC,wX,dP _ _ _ _ _ hi,dP _ _ _ _ _ hi];rfl⟩;have hj:j<(n-1)*1:=by
   have:=(adf.1 hu).1;rw[eH]at this;omega
  rw[<-Az f k n hk,<-gd]at hu;rw[uC,World.cell?_setCells_out B _ _ _ _ (λ_ _=>.inl hj),wX];by_cases aB:j<k*1
  .rw[World.cell?_setCells_out B _ _ _ _ (λ_ _=>.inl (by show j<_;omega))];rw[adh yU]at hu;refine hcell j u ?_;rw[<-hu];have:(dX f n)[j]?=(dX f k)[j]?:=(by rw[d9 aa,d9 aa]);exact this
  .rw[adi yU,eH]at hu;have Fw:=(adf.1 hu).1;have:=World.cell?_setCells_in B news (0+k*1) w.drew (λi hi=>xw _ aa) (j-k*1) (by simpa using Fw);rw[show 0+k*1+(j-k*1)=j by omega]at this;rw[this];rw[<-hu,adr (by simpa using Fw)];try simp
 have GD:Hid (∀t,t<news.length->(w.drew.cell? ⟨B,0+k*1+t,none⟩).isSome=true/\w.drew.frozen? ⟨B,0+k*1+t,none⟩=false):=λt ht=>⟨xw _ aa,IC _⟩
 have MQ:Hid (news.length=(n-(k+1))*1):=hlen;have Ui:Hid (W1=w.drew.setCells B (0+k*1) news):=wX;clear J8 wX uC hlen gd IC xw hcell hg mn yQ Kg Zu pE kq ho MR hcs;have YJ:(k:Int)<=c:=aa;have uE:(0:Int)<=(k:Int)+1:=aa;have Fx:(k:Int)+1<=n:=aa;have mY:(k:Int)+1<=c:=aa;have Ce:IntKind.i64.wrap ((k:Int)+1)=(k:Int)+1:=hZ;go_enter Tz.func289,Tryz.ntmps289
 go_wp2_with fail
 go_region_law (refine step_append_room rfl (.tmp 22) (.tmp 25) 27 rfl 3 i0 1 (Tz.aR Tryz.underlying27) hI eO B 0 k c (by simp[Act.eval,Act.put]) A (n-(k+1)) (c-(k+1)) news (by simp[Act.eval,Act.put]) MQ.out GE.out xl.out (by omega) GD.out ?_;rw[<-Ui.out])
 go_wp2;go_ret;exact⟨rfl,ml⟩
end
def eX (f:Nat->Mv)(n:Nat)(name:ByteArray)(k:Int):Prop:=k=-1/\(∀i,i<n->bX (f i).name name=false)\/∃j:Nat,k=(j:Int)/\j<n/\bX (f j).name name=true/\∀i,i<j->bX (f i).name name=false
def yA (m:Mv)(B:Nat)(name:ByteArray)(w:World)(hB:B<w)(hc:w.cell? B=some (.string name)):
  Calls Tz.prog 281 #[.agg #[m.name,m.aj,m.ap,m.aW,m.late,m.prom],.pointer B] w λe w'=>e=.returned (.bool<|bX m.name name)/\Below w w w':=by
 have BW:(w.alloc<|.cells #[m.name,m.aj,m.ap,m.aW,m.late,m.prom] 31).cell? B=some (.string name):=by
  rw[ac4 _ _ B hB];exact hc
 go_enter Tz.func281,Tryz.ntmps281
 go_wp2;go_ret;exact⟨rfl,(acW _ w).alloc (ac5 _) _⟩
def Kj (b off n cap:Nat)(f:Nat->Mv)(B:Nat)(name:ByteArray)(w:World)(hn:n<=1048576)(bH:b<w)(aq:aI w b off n f)(hB:B<w)(hc:w.cell? B=some (.string name)):
  Calls Tz.prog 280 #[.slice (some ⟨b,off,none⟩) n cap,.func (.func 281) #[] #[.pointer B]] w λe w'=>(∃k:Int,e=.returned (.int .i64 k)/\eX f n name k)/\Below w w w':=by
 go_enter Tz.func280,Tryz.ntmps280
 go_wp2;go_loopw [8] (λx W=>∃k:Nat,x=.int .i64 k/\k<=n/\Below w w W/\∀i,i<k->bX (f i).name name=false) (λx _=>n-(intOf x).toNat)
 case atStart=>exact⟨0,rfl,ada _,acW _ _,λi hi=>absurd hi<|ac9 _⟩
 case round=>
  obtain⟨k,rfl,hk,hb,cE⟩:=hrel;by_cases aB:k<n
  .have dr:(k:Int)<n:=by omega
   have hr:=aq.below hb bH k aB;let⟨c0,c1,c2,c3,c4,c5⟩:=hr;have H1:=λ(w1:World)=>yA (f k) B name w1
   cases he:bX (f k).name name with
   |true=>
    go_wp2_with(go_at_call 281;refine(yA (f k) B name wr (ac6 hB hb.size)<|(hb.cell (p:=⟨B,0,none⟩) hB).trans hc).mono ?_;rintro e w1 ⟨rfl,b1⟩;rw[he])
    all_goals try omega
    go_ret;exact⟨⟨k,rfl,.inr ⟨k,rfl,aB,he,cE⟩⟩,hb.trans<|b1.mono hb.size⟩
   |false=>
    go_wp2_with(go_at_call 281;refine(yA (f k) B name wr (ac6 hB hb.size)<|(hb.cell (p:=⟨B,0,none⟩) hB).trans hc).mono ?_;rintro e w1 ⟨rfl,b1⟩;rw[he])
    all_goals try omega
    go_roundw
    case rel=>exact⟨k+1,by go_num,aa,hb.trans<|b1.mono hb.size,λi hi=>by
     by_cases e:i=k
     .subst e;exact he
     .exact cE i aa⟩
    case measure=>exact cI
  .have dr:¬(k:Int)<n:=by omega
   go_wp2;all_goals try omega
   go_ret;exact⟨⟨-1,rfl,.inl ⟨rfl,λi hi=>cE i aa⟩⟩,hb⟩
def EB (b off n cap:Nat)(f:Nat->Mv)(name:ByteArray)(w:World)(hn:n<=1048576)(bH:b<w)(aq:aI w b off n f):
  Calls Tz.prog 278 #[.slice (some ⟨b,off,none⟩) n cap,name] w λe w'=>(∃k:Int,e=.returned (.int .i64 k)/\eX f n name k)/\Below w w w':=by
 have b0:Below w w (w.alloc<|.cells #[name] 9):=(acW _ w).alloc (ac5 _) _;have hI:=Kj b off n cap f w.heap.size name (w.alloc<|.cells #[name] 9) hn cU (aq.below b0 bH) aF aF;go_enter Tz.func278,Tryz.ntmps278
 go_wp2_with(go_at_call 280;refine hI.mono ?_;rintro e w1 ⟨⟨k,rfl,hk⟩,b1⟩)
 go_ret;exact⟨⟨k,rfl,hk⟩,b0.trans<|b1.mono b0.size⟩
section
variable {t t':Nat->Int}
def nX (t t':Nat->Int)(n:Nat):Bool:=(List.range n).any λi=>decide (t' i<t i)
def rJ (hk:k<n)(h:t' k<t k):nX t t' n=true:=by
 unfold nX;rw[List.any_eq_true];exact⟨k,by simpa using hk,oO⟩
def AC (h:∀i,i<n->t i<=t' i):nX t t' n=false:=by
 unfold nX;rw[List.any_eq_false];intro i hi;simpa using h i (by simpa using hi)
def Pz (w:World)(a:Option Addr)(n:Nat)(t:Nat->Int):Prop:=n=0\/∃b,a=some ⟨b,0,none⟩/\b<w.heap.size/\aA w b 0 n t
def zA (a:Option Addr)(n c:Nat)(t:Nat->Int)(a':Option Addr)(c':Nat)(t':Nat->Int)(w:World)(hn:n<=1048576)(hr:Pz w a n t)(gG:Pz w a' n t'):
  Calls Tz.prog 290 #[.slice a n c,.slice a' n c'] w λe w'=>e=.returned (.bool<|nX t t' n)/\Below w w w':=by
 go_enter Tz.func290,Tryz.ntmps290
 go_wp2;go_loopw [9] (λx W=>∃k:Nat,x=.int .i64 k/\k<=n/\Below w w W/\∀i,i<k->t i<=t' i) (λx _=>n-(intOf x).toNat)
 case atStart=>exact⟨0,rfl,ada _,acW _ _,λi hi=>absurd hi<|ac9 _⟩
 case round=>
  obtain⟨k,rfl,hk,hB,cE⟩:=hrel;by_cases aB:k<n
  .have dr:(k:Int)<n:=by omega
   obtain⟨b,rfl,bH,h1⟩:=hr.resolve_left aa;obtain⟨b',rfl,bI,h2⟩:=gG.resolve_left aa;have c0:=h1.below hB bH k aB;have c1:=h2.below hB bI k aB;simp only[Nat.zero_add]at c0 c1;rcases Int.lt_or_le (t' k) (t k)with hle|hle
   .go_wp2;all_goals try omega
    go_ret;exact⟨by rw[rJ aB hle];rfl,hB⟩
   .go_wp2;all_goals try omega
    go_roundw
    case rel=>exact⟨k+1,by go_num,aa,hB,λi hi=>by
     by_cases e:i=k
     .subst e;exact hle
     .exact cE i aa⟩
    case measure=>exact cI
  .have dr:¬(k:Int)<n:=by omega
   go_wp2;all_goals try omega
   go_ret;exact⟨by rw[AC λi hi=>cE i aa];rfl,hB⟩
def zp (a:Option Addr)(n c:Nat)(t:Nat->Int)(a':Option Addr)(c':Nat)(t':Nat->Int)(w:World)(hn:n<=1048576)(hr:Pz w a n t)(gG:Pz w a' n t'):
  Calls Tz.prog 46 #[.slice a n c,.slice a' n c'] w λe w'=>e=.returned (.bool<|!nX t t' n)/\Below w w w':=by
 go_enter Tz.func46,Tryz.ntmps46
 go_wp2;go_loopw [5] (λx W=>∃k:Nat,x=.int .i64 k/\k<=n/\Below w w W/\∀i,i<k->t i<=t' i) (λx _=>n-(intOf x).toNat)
 case atStart=>exact⟨0,rfl,ada _,acW _ _,λi hi=>absurd hi<|ac9 _⟩
 case round=>
  obtain⟨k,rfl,hk,hB,cE⟩:=hrel;by_cases aB:k<n
  .have dr:(k:Int)<n:=by omega
   obtain⟨b,rfl,bH,h1⟩:=hr.resolve_left aa;obtain⟨b',rfl,bI,h2⟩:=gG.resolve_left aa;have lb:=ac6 bH hB.size;have lb':=ac6 bI hB.size;have c0:=h1.below hB bH k aB;have c1:=h2.below hB bI k aB;simp only[Nat.zero_add]at c0 c1;have hne:=aG wr;have x0:=λx:ai wr=>x.cell c0
   have x1:=λx:ai wr=>x.cell c1
   go_wp2;refine kI ?_;intro w2 cP;rcases Int.lt_or_le (t' k) (t k)with hle|hle
   .go_wp2;all_goals try omega
    go_ret;exact⟨by rw[rJ aB hle];rfl,hB.trans<|cP.mono hB.size⟩
   .go_wp2;all_goals try omega
    go_roundw
    case rel=>exact⟨k+1,by go_num,aa,hB.trans<|cP.mono hB.size,λi hi=>by
     by_cases e:i=k
     .subst e;exact hle
     .exact cE i aa⟩
    case measure=>exact cI
  .have dr:¬(k:Int)<n:=by omega
   go_wp2;all_goals try omega
   go_ret;exact⟨by rw[AC λi hi=>cE i aa];rfl,hB⟩
end
def mC (w:World)(dT sT ty e:TypeId)(i:TypeInfo)(size:Nat)(ht:P.underlying dT=some (.slice e))(hi:P.info? e=some i)(hs:i.size=size)(b off DG PQ:Nat)(ad:Addr)(ol EQ:Nat)(cs:List Value)(hn:cs.length=Nat.min ol DG*size)
  (hc:∀j u,cs[j]?=some u->w.cell? (ad.add j)=some u)(h1:∀u∈cs,u.oneCell'=true)(hd:∀j,j<cs.length->(w.cell? ⟨b,off+j,none⟩).isSome=true)(hf:∀j,j<cs.length->w.frozen? ⟨b,off+j,none⟩=false):
  (Builtin.copy_ #[dT,sT] ty #[.slice (some ⟨b,off,none⟩) DG PQ,.slice (some ad) ol EQ]).run P w=.ok (goInt<|Nat.min ol DG) (w.setCells b off cs):=by
 subst hs;have hl:=run_loadCells_list (P:=P) w ad cs hc;have dz:=run_storeCells_cells (P:=P) b off cs 0 w (by simpa using hd) (by simpa using hf) h1;simp only[Nat.add_zero]at dz;simp[Builtin.copy_,run_underlying ht,Builtin.lenOf,Builtin.firstCells,sizeOf,typeInfo,hi,<-hn,hl,dz]
def qa {ops:Array Oper}{o:Oper}{a:Act}{K:Act->World->Prop}{Q:Exit->Act->World->Prop}{E:Prop}(J8:o.guard=none)(d s:Operand)(dT sT:TypeId)
  (ho:o.op=.call {callee:=.builtin .copy,args:=#[d,s],argTypes:=#[dT,sT]})(e:TypeId)(i:TypeInfo)(size:Nat)(ht:P.underlying dT=some (.slice e))(hi:P.info? e=some i)(hs:i.size=size)
  (b off DG PQ:Nat)(ad:Addr)(ol EQ:Nat)(hd:a.eval d=.slice (some ⟨b,off,none⟩) DG PQ)(Nd:a.eval s=.slice (some ad) ol EQ)(cs:List Value)(hn:cs.length=Nat.min ol DG*size)
  (hc:∀j u,cs[j]?=some u->w.cell? (ad.add j)=some u)(h1:∀u∈cs,u.oneCell'=true)(hdd:∀j,j<cs.length->(w.cell? ⟨b,off+j,none⟩).isSome=true)(hf:∀j,j<cs.length->w.frozen? ⟨b,off+j,none⟩=false)
  (hK:K (a.put o.dst<|goInt<|Nat.min ol DG) (w.setCells b off cs)):
  if Region.wanted o (yielded ops a.tmps)=true then Oper.wp P o a w K Q else E:=by
 have hw:Region.wanted o (yielded ops a.tmps)=true:=by simp[Region.wanted,J8]
 rw[if_pos hw];have d6:=mC (P:=P) w dT sT o.type e i size ht hi hs b off DG PQ ad ol EQ cs hn hc h1 hdd hf;unfold Oper.wp;simp[execOp,ho,resolve,invoke,builtin,hd,Nd,d6,Result.andThen];exact hK
