import Derived.Test.YtlmcblcijndipabGreatDoorAd03
set_option linter.unusedVariables false
namespace Go.Proofs.YtlmcblcijndipabGreatDoor
section
open Go Go.RowKit
def aQ (w:World)(b:Nat):Prop:=∃cs e,w.heap[b]?=some (.cells cs e (0,0))/\∀v∈cs,(∃x,v=.bool x)\/(∃k x,v=.int k x)\/∃s,v=.string s
def gw (v:Value):Prop:=(∃x,v=.bool x)\/(∃k x,v=.int k x)\/∃s,v=.string s
def nv (w:World)(v:Value):Prop:=∀B,v.ownBlock=some B->aQ w B
theorem aQ.same {w w':World}{b:Nat}(h:aQ w b)(e:w'.heap[b]?=w.heap[b]?):aQ w' b:=by obtain⟨cs,t,h1,h2⟩:=h;exact⟨cs,t,e.trans h1,h2⟩
theorem aQ.lt {w:World}{b:Nat}(h:aQ w b):b<w.heap.size:=by obtain⟨cs,t,h1,h2⟩:=h;exact(Gp.1 h1).1
theorem aQ.set {w:World}{b j:Nat}{v:Value}(h:aQ w b)(hv:gw v):aQ (w.setCell ⟨b,j,none⟩ v) b:=by
 obtain⟨cs,t,h1,h2⟩:=h;refine⟨cs.setIfInBounds j v,t,heap_setCell_same _ _ j _ _ v h1,λu hu=>?_⟩;rcases Array.mem_or_eq_of_mem_setIfInBounds hu with h|h
 .exact h2 u h
 .rw[h];exact hv
theorem sE {z:Array Value}{n:Nat}{u:Value}(h:u∈Builtin.zeroCells z n):u∈z:=by
 unfold Builtin.zeroCells at h;obtain⟨i,hi,rfl⟩:=Array.mem_map.1 h;have hz:0<z.size:=by
  rcases GA z.size with h0|h0
  .rw[h0]at hi;simp at hi
  .exact h0
 have hlt:=Nat.mod_lt i hz;rw[getElem!_pos z (i%z.size) hlt];exact Array.getElem_mem hlt
section
variable {P:Program}{w:World}
theorem jR (base:Nat)(t ty e:TypeId)(i:TypeInfo)(z:Value)(size bytes:Nat)(ht:P.underlying t=some (.slice e))(hi:P.info? e=some i)(hz:i.zero=some z)(hsize:i.size=size)(hby:i.bytes=bytes)(hzs:z.cells.size=size)
  (v:Value)(n:Nat)(xs:List Value)(hown:w.ownsRow base e size v n xs)(hpl:nv w v)
  (a:Addr)(m c:Nat)(news:List Value)(hl:news.length=m*size)(hnews:∀j u,news[j]?=some u->w.cell? (a.add j)=some u)(h1:∀u∈news,u.oneCell'=true)(hnp:∀u∈news,gw u)(hzp:∀u∈z.cells,gw u)
  (h63:n+m<=maxLen)(hbytes:(n+m)*bytes<=140737488355328){v':Value}{w':World}(hr:(Builtin.append_ #[t,t] ty #[v,.slice (some a) m c]).run P w=.ok v' w'):nv w' v':=by
 subst hsize hby;have hsmall:n+m<=9223372036854775807:=by simp only[maxLen]at h63;omega
 have fresh:∀(cs:Array Value) (k l:Nat),(∀u∈cs,gw u)->nv (w.drew.alloc (.cells cs e)) (.slice (some ⟨w.heap.size,0,none⟩) k l):=λcs k l h B hB=>by
  simp only[Value.ownBlock,Option.some.injEq]at hB;subst hB;exact⟨cs,e,heap_alloc_new w.drew _,h⟩
 rcases hown.2 with⟨rfl,rfl⟩|⟨g,cap,cur,rfl,hbg,hg,hnc,hcm,hcs,htake⟩
 .by_cases hm:m=0
  .subst hm;have hn:news=[]:=List.eq_nil_of_length_eq_zero (by simpa using hl);subst hn;have hr':(Builtin.append_ #[t,t] ty #[.slice none 0 0,.slice (some a) 0 c]).run P w=.ok (.slice none 0 0) w:=by
    simp[Builtin.append_,run_underlying ht,sizeOf,typeInfo,hi,Builtin.lenOf,Builtin.firstCells,loadCells,loadCellsFrom]
   rw[hr']at hr;simp only[Result.ok.injEq]at hr;obtain⟨rfl,rfl⟩:=hr;exact λB hB=>by cases hB
  .rw[run_append_nil (P:=P) w t ty e i z ht hi hz a m c news hl hnews (by omega) (by omega) (by have hb:=hbytes;simp only[Nat.zero_add]at hb;omega)]at hr;simp only[Result.ok.injEq]at hr;obtain⟨rfl,rfl⟩:=hr;refine fresh _ _ _ λu hu=>?_
   rcases Array.mem_append.1 hu with h|h
   .exact hnp u (by simpa using h)
   .exact hzp u (sE h)
 .obtain⟨cs0,e0,k1,k2⟩:=hpl g rfl;have hcur:∀u∈cur,gw u:=by
   rw[hg]at k1;simp only[Option.some.injEq,Obj.cells.injEq]at k1;obtain⟨rfl,_⟩:=k1;exact k2
  by_cases hroom:n+m<=cap
  .have hfit:n*i.size+news.length<=cur.size:=by rw[hl,hcs,<-Nat.add_mul];exact Nat.mul_le_mul_right _ hroom
   rw[run_append_room (P:=P) w t ty e i ht hi g n cap cur hg a m c news hl hnews h1 hroom hfit]at hr;simp only[Result.ok.injEq]at hr;obtain⟨rfl,rfl⟩:=hr;intro B hB;simp only[Value.ownBlock,Option.some.injEq]at hB;subst hB;refine⟨_,e,setRow_heap w g cur _ e _ hg,λu hu=>?_⟩;have hu:u∈cur.toList.take (n*i.size)++news++cur.toList.drop (n*i.size+news.length):=by simpa using hu
   rcases GO.1 hu with hu|hu
   .rcases GO.1 hu with hu|hu
    .exact hcur u (by simpa using List.mem_of_mem_take hu)
    .exact hnp u hu
   .exact hcur u (by simpa using List.mem_of_mem_drop hu)
  .have holds:∀j u,xs[j]?=some u->w.cell? ((⟨g,0,none⟩:Addr).add j)=some u:=hown.cells (g:=g) rfl;rw[run_append_grow (P:=P) w t ty e i z ht hi hz ⟨g,0,none⟩ n cap xs hown.1 holds a m c news hl hnews (by omega) (by omega) (growslice_fits (by omega) hbytes)]at hr;simp only[Result.ok.injEq]at hr;obtain⟨rfl,rfl⟩:=hr;refine fresh _ _ _ λu hu=>?_
   rcases Array.mem_append.1 hu with h|h
   .rcases Array.mem_append.1 h with h|h
    .have h:u∈xs:=by simpa using h
     rw[<-htake]at h;exact hcur u (by simpa using List.mem_of_mem_take h)
    .exact hnp u (by simpa using h)
   .exact hzp u (sE h)
end
end
section
open Go.RowKit
def aG (f:Nat->Mv)(n:Nat):List Value:=(List.range n).flatMap λj=>(f j).cells.toList
theorem aU (f:Nat->Mv):∀n,(aG f n).length=n*6
 |0=>rfl
 |n+1=>by
  have:=aU f n;unfold aG at this⊢;rw[List.range_succ,List.flatMap_append,List.length_append,this];simp[Nat.add_mul]
theorem eJ (f:Nat->Mv)(n:Nat):aG f (n+1)=aG f n++(f n).cells.toList:=by
 unfold aG;rw[List.range_succ,List.flatMap_append];simp
theorem ka {f g:Nat->Mv}:∀{n:Nat},(∀j,j<n->f j=g j)->aG f n=aG g n
 |0,_=>rfl
 |n+1,h=>by rw[eJ,eJ,ka (λj hj=>h j (by omega)),h n (by omega)]
theorem iS (f:Nat->Mv):∀n i k,i<n->k<6->(aG f n)[i*6+k]?=(f i).cells.toList[k]?
 |0,i,k,hi,_=>absurd hi (Gr _)
 |n+1,i,k,hi,hk=>by
  rw[eJ];by_cases e:i=n
  .subst e;rw[Gz (by rw[aU];omega),aU];congr 1;omega
  .rw[Gy (by rw[aU];omega)];exact iS f n i k (by omega) hk
theorem dg {w:World}{base B n c:Nat}{T:TypeId}{f:Nat->Mv}(h:w.ownsRow base T 6 (.slice (some ⟨B,0,none⟩) n c) n (aG f n)):ak w B 0 n f:=by
 intro i hi;have q:∀k,k<6->w.cell? ⟨B,0+i*6+k,none⟩=(f i).cells.toList[k]?:=λk hk=>by
  rw[Nat.zero_add,h.cellAt (i*6+k) (by omega)];exact iS f n i k hi hk
 exact⟨q 0 (by omega),q 1 (by omega),q 2 (by omega),q 3 (by omega),q 4 (by omega),q 5 (by omega)⟩
theorem yR:(Tz.prog.info? 36).map (λi=>(i.zero,i.size,i.bytes))=some (some (.agg #[.string ByteArray.empty,.bool false,.int .i64 0,.int .i64 0,.int .i64 0,.int .i64 0]),6,56):=by kernel_rfl
theorem dA (m:Mv):∀u∈m.cells.toList,u.oneCell'=true:=λu hu=>by
 simp at hu;rcases hu with rfl|rfl|rfl|rfl|rfl|rfl<;>rfl
theorem xr (m:Mv):∀u∈m.cells.toList,gw u:=λu hu=>by
 simp at hu;rcases hu with rfl|rfl|rfl|rfl|rfl|rfl<;>first|exact .inl ⟨_,rfl⟩|exact .inr (.inl ⟨_,_,rfl⟩)|exact .inr (.inr ⟨_,rfl⟩)
theorem mD:∀u∈(Value.agg #[.string ByteArray.empty,.bool false,.int .i64 0,.int .i64 0,.int .i64 0,.int .i64 0]).cells,gw u:=λu hu=>by
 simp[Value.cells]at hu;rcases hu with rfl|rfl|rfl<;>first|exact .inl ⟨_,rfl⟩|exact .inr (.inl ⟨_,_,rfl⟩)|exact .inr (.inr ⟨_,rfl⟩)
theorem kN (B o j:Nat):(⟨B,o,none⟩:Addr).add j=⟨B,o+j,none⟩:=by unfold Addr.add;split<;>simp_all
theorem cm {w:World}{b off n:Nat}{f:Nat->Mv}(h:ak w b off n f):∀(j:Nat) (u:Value),(aG f n)[j]?=some u->w.cell? ((⟨b,off,none⟩:Addr).add j)=some u:=λj u hu=>by
 have hj:j<n*6:=by rcases Gv j (n*6)with h|h;exact h;rw[Gx (by rw[aU];exact h)]at hu;cases hu
 have e:j=j/6*6+j%6:=by omega
 obtain⟨c0,c1,c2,c3,c4,c5⟩:=h (j/6) (by omega);rw[e,iS f n (j/6) (j%6) (by omega) (by omega)]at hu;rw[kN];have k:j%6=0\/j%6=1\/j%6=2\/j%6=3\/j%6=4\/j%6=5:=by omega
 rcases k with k|k|k|k|k|k<;>rw[k]at hu<;>simp at hu<;>subst hu
 .rw[<-c0];congr 2;omega
 .rw[<-c1];congr 2;omega
 .rw[<-c2];congr 2;omega
 .rw[<-c3];congr 2;omega
 .rw[<-c4];congr 2;omega
 .rw[<-c5];congr 2;omega
theorem sK {f:Nat->Mv}{n:Nat}{u:Value}(h:u∈aG f n):∃i,i<n/\u∈(f i).cells.toList:=by
 unfold aG at h;obtain⟨i,hi,hu⟩:=List.mem_flatMap.1 h;exact⟨i,by simpa using hi,hu⟩
theorem cV (f:Nat->Mv)(n:Nat):∀u∈aG f n,u.oneCell'=true:=λu hu=>by obtain⟨i,_,h⟩:=sK hu;exact dA _ u h
theorem nF (f:Nat->Mv)(n:Nat):∀u∈aG f n,gw u:=λu hu=>by obtain⟨i,_,h⟩:=sK hu;exact xr _ u h
theorem dh:∃i,Tz.prog.info? 36=some i/\i.zero=some (.agg #[.string ByteArray.empty,.bool false,.int .i64 0,.int .i64 0,.int .i64 0,.int .i64 0])/\i.size=6/\i.bytes=56:=by
 have h:=yR;cases hI:Tz.prog.info? 36 with
 |none=>rw[hI]at h;simp at h
 |some i=>rw[hI]at h;simp only[Option.map_some,Option.some.injEq,Prod.mk.injEq]at h;exact⟨i,rfl,h.1,h.2.1,h.2.2⟩
end
section
open Go
def dR (T:Nat->Int)(n:Nat):List Value:=(List.range n).map λj=>.int .i64 (T j)
theorem fE (T:Nat->Int)(n:Nat):(dR T n).length=n:=by simp[dR]
theorem gG {T:Nat->Int}{n j:Nat}(h:j<n):(dR T n)[j]?=some (.int .i64 (T j)):=by simp[dR,h]
theorem jC (T:Nat->Int)(n:Nat):∀u∈dR T n,u.oneCell'=true:=λu hu=>by unfold dR at hu;simp at hu;obtain⟨_,_,rfl⟩:=hu;rfl
theorem BW {P:Program}{md:Region.Mode}{ops:Array Oper}{Q:Exit->Act->World->Prop}{S:World->Prop}{i:Nat}{oi:Oper}{v:Value}{fuel:Nat}{listed:Array Bool}{a:Act}{w:World}(d:Nat)(hi:ops[i]?=some oi)(hd:oi.dst=some d)
  (hs:Region.noSelect ops=true)(hf:Region.free md ops listed i=true)(hr:(Region.ready md ops listed).contains i=true)
  (hQ:∀c a w,Q (.panic c) (a.put (some d) v) w->Q (.panic c) a w)(hy:YieldsIf P ops S oi v a)(hS:S w)
  (h:wpAnyH P md ops Q S fuel (listed.setIfInBounds i true) (a.put (some d) v) w):wpAnyH P md ops Q S (fuel+1) listed a w:=
 wpAnyH_take hi hs hf hr (by rw[hd];exact hQ) hy hS (by rw[hd];exact h)
theorem aJ {P:Program}{md:Region.Mode}{ops:Array Oper}{Q:Exit->Act->World->Prop}{S:World->Prop}{oi:Oper}{fuel:Nat}{listed:Array Bool}{a:Act}{w:World}(i:Nat)(v:Value)(d:Nat)(hi:ops[i]?=some oi)(hy:∀w',S w'->(execOp a.eval oi).run P w'=.ok (.value v) w')(hS:S w)
  (h:wpAnyH P md ops Q S fuel (listed.setIfInBounds i true) (a.put (some d) v) w)(hd:oi.dst=some d:=by rfl)(hs:Region.noSelect ops=true:=by kernel_rfl)(hf:Region.free md ops listed i=true:=by kernel_rfl)(hr:(Region.ready md ops listed).contains i=true:=by kernel_rfl)(hw:Region.wanted oi (yielded ops a.tmps)=true:=by rfl)
  (hQ:∀c a w,Q (.panic c) (a.put (some d) v) w->Q (.panic c) a w:=by first|exact λ_ _ _ h=>h|exact λ_ _ _ h=>nomatch h.1):wpAnyH P md ops Q S (fuel+1) listed a w:=
 BW d hi hd hs hf hr hQ (.inl ⟨hw,hy⟩) hS h
theorem fD {P:Program}{md:Region.Mode}{ops:Array Oper}{Q:Exit->Act->World->Prop}{S:World->Prop}{o:Oper}{fuel:Nat}{listed:Array Bool}{a:Act}{w:World}(i:Nat)(ho:ops[i]?=some o)
  (h:∀K:Act->World->Prop,Go.Shut (∀a w,S w->(S w->wpAnyH P md ops Q S fuel (listed.setIfInBounds i true) a w)->K a w)->if Region.wanted o (yielded ops a.tmps)=true then Oper.wp P o a w K Q else K (a.put o.dst undef) w)(hr:Region.ready md ops listed=[i]:=by kernel_rfl):wpAnyH P md ops Q S (fuel+1) listed a w:=
 wpAnyH_ready hr (by simp) (AllReadyH.cons ho h AllReadyH.nil)
theorem AK {P:Program}{md:Region.Mode}{ops:Array Oper}{Q:Exit->Act->World->Prop}{S:World->Prop}{o o':Oper}{fuel:Nat}{listed:Array Bool}{a:Act}{w:World}(i j:Nat)(ho:ops[i]?=some o)(ho':ops[j]?=some o')
  (h:∀K:Act->World->Prop,Go.Shut (∀a w,S w->(S w->wpAnyH P md ops Q S fuel (listed.setIfInBounds i true) a w)->K a w)->if Region.wanted o (yielded ops a.tmps)=true then Oper.wp P o a w K Q else K (a.put o.dst undef) w)
  (h':∀K:Act->World->Prop,Go.Shut (∀a w,S w->(S w->wpAnyH P md ops Q S fuel (listed.setIfInBounds j true) a w)->K a w)->if Region.wanted o' (yielded ops a.tmps)=true then Oper.wp P o' a w K Q else K (a.put o'.dst undef) w)(hr:Region.ready md ops listed=[i,j]:=by kernel_rfl):wpAnyH P md ops Q S (fuel+1) listed a w:=
 wpAnyH_ready hr (by simp) (AllReadyH.cons ho h (AllReadyH.cons ho' h' AllReadyH.nil))
end
