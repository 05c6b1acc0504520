import Derived.Test.YtlmcblcijndipaaGreatDoorj12
import Derived.Test.YtlmcblcijndipaaGreatDoorj07
namespace Go.Proofs.YtlmcblcijndipaaGreatDoor
section
open RowKit
variable {f:Nat->Mv}{w:World}{n:Nat}
def cG (f:Nat->Mv)(n:Nat):List Value:=(List.range n).flatMap λj=>(f j).cells.toList
theorem dL (f:Nat->Mv):∀n,(cG f n).length=n*6
 |0=>rfl
 |n+1=>by
  have:=dL f n;unfold cG at this⊢;rw[List.range_succ,List.flatMap_append,List.length_append,this];simp[Nat.add_mul]
theorem gb (f:Nat->Mv)(n:Nat):cG f (n+1)=cG f n++(f n).cells.toList:=by
 unfold cG;rw[List.range_succ,List.flatMap_append];simp
theorem nK {g:Nat->Mv}:∀{n:Nat},(∀j,j<n->f j=g j)->cG f n=cG g n
 |0,_=>rfl
 |n+1,h=>by rw[gb,gb,nK (λj hj=>h j ab),h n ab]
theorem wS (f:Nat->Mv):∀n i k,i<n->k<6->(cG f n)[i*6+k]?=(f i).cells.toList[k]?
 |0,i,k,hi,_=>absurd hi (aco _)
 |n+1,i,k,hi,hk=>by
  rw[gb];by_cases e:i=n
  .subst e;rw[acy (by rw[dL];omega),dL];congr 1;omega
  .rw[acx (by rw[dL];omega)];exact wS f n i k ab hk
theorem dM {base B c:Nat}{T:TypeId}(h:w.ownsRow base T 6 (.slice B n c) n (cG f n)):aM w B 0 n f:=by
 intro i hi;have q:∀k,k<6->w.cell? ⟨B,0+i*6+k,none⟩=(f i).cells.toList[k]?:=λk hk=>by
  rw[Nat.zero_add,h.cellAt (i*6+k) ab];exact wS f n i k hi hk
 exact⟨q 0 ab,q 1 ab,q 2 ab,q 3 ab,q 4 ab,q 5 ab⟩
theorem LD:(Tz.prog.info? 31).map (λi=>(i.zero,i.size,i.bytes))=some (some (.agg #[ByteArray.empty,false,.int .i64 0,.int .i64 0,.int .i64 0,.int .i64 0]),6,56):=bR
theorem ji (m:Mv):∀u∈m.cells.toList,u.oneCell'=true:=λu hu=>by
 simp at hu;rcases hu with rfl|rfl|rfl|rfl|rfl|rfl<;>rfl
theorem IX (m:Mv):∀u∈m.cells.toList,lE u:=λu hu=>by
 simp at hu;rcases hu with rfl|rfl|rfl|rfl|rfl|rfl<;>first|exact .inl ⟨_,rfl⟩|exact .inr (.inl ⟨_,_,rfl⟩)|exact .inr (.inr ⟨_,rfl⟩)
theorem ut:∀u∈(Value.agg #[ByteArray.empty,false,.int .i64 0,.int .i64 0,.int .i64 0,.int .i64 0]).cells,lE u:=λu hu=>by
 simp[Value.cells]at hu;rcases hu with rfl|rfl|rfl<;>first|exact .inl ⟨_,rfl⟩|exact .inr (.inl ⟨_,_,rfl⟩)|exact .inr (.inr ⟨_,rfl⟩)
theorem vu (B o j:Nat):(⟨B,o,none⟩:Addr).add j=⟨B,o+j,none⟩:=by unfold Addr.add;split<;>simp_all
theorem eQ {b off:Nat}(h:aM w b off n f):∀(j:Nat) (u:Value),(cG f n)[j]?=some u->w.cell? ((⟨b,off,none⟩:Addr).add j)=some u:=λj u hu=>by
 have hj:j<n*6:=by rcases acu j (n*6)with h|h;exact h;rw[acw (by rw[dL];exact h)]at hu;cases hu
 have e:j=j/6*6+j%6:=ab;obtain⟨c0,c1,c2,c3,c4,c5⟩:=h (j/6) ab;rw[e,wS f n (j/6) (j%6) ab ab]at hu;rw[vu];have k:j%6=0\/j%6=1\/j%6=2\/j%6=3\/j%6=4\/j%6=5:=ab;rcases k with k|k|k|k|k|k<;>rw[k]at hu<;>simp at hu<;>subst hu
 .rw[<-c0];congr 2;omega
 .rw[<-c1];congr 2;omega
 .rw[<-c2];congr 2;omega
 .rw[<-c3];congr 2;omega
 .rw[<-c4];congr 2;omega
 .rw[<-c5];congr 2;omega
theorem De {u:Value}(h:u∈cG f n):∃i,i<n/\u∈(f i).cells.toList:=by
 unfold cG at h;obtain⟨i,hi,hu⟩:=List.mem_flatMap.1 h;exact⟨i,by simpa using hi,hu⟩
theorem fE (f:Nat->Mv)(n:Nat):∀u∈cG f n,u.oneCell'=true:=λu hu=>by obtain⟨i,_,h⟩:=De hu;exact ji _ u h
theorem wT (f:Nat->Mv)(n:Nat):∀u∈cG f n,lE u:=λu hu=>by obtain⟨i,_,h⟩:=De hu;exact IX _ u h
theorem jA:∃i,Tz.prog.info? 31=some i/\i.zero=some (.agg #[ByteArray.empty,false,.int .i64 0,.int .i64 0,.int .i64 0,.int .i64 0])/\i.size=6/\i.bytes=56:=by
 have h:=LD;cases hI:Tz.prog.info? 31 with
 |none=>rw[hI]at h;simp at h
 |some i=>rw[hI]at h;simp only[Option.map_some,Option.some.injEq,Prod.mk.injEq]at h;exact⟨i,rfl,h.1,h.2.1,h.2.2⟩
end
section
def eN (T:Nat->Int)(n:Nat):List Value:=(List.range n).map λj=>.int .i64 (T j)
theorem jb (T:Nat->Int)(n:Nat):(eN T n).length=n:=by simp[eN]
theorem f8 {T:Nat->Int}{n j:Nat}(h:j<n):(eN T n)[j]?=some (.int .i64 (T j)):=by simp[eN,h]
theorem j0 (T:Nat->Int)(n:Nat):∀u∈eN T n,u.oneCell'=true:=λu hu=>by unfold eN at hu;simp at hu;obtain⟨_,_,rfl⟩:=hu;rfl
theorem PQ {P:Program}{md:Region.Mode}{ops:Array Oper}{Q:Exit->Act->World->Prop}{S:World->Prop}{i:Nat}{oi:Oper}{v:Value}{fuel:Nat}{listed:Array Bool}{a:Act}{w:World}(d:Nat)(hi:ops[i]?=some oi)(hd:oi.dst=some d)
  (hs:Region.noSelect ops=true)(hf:Region.free md ops listed i=true)(hr:(Region.ready md ops listed).contains i=true)
  (hQ:∀c a w,Q (.panic c) (a.put (some d) v) w->Q (.panic c) a w)(hy:YieldsIf P ops S oi v a)(hS:S w)
  (h:wpAnyH P md ops Q S fuel (listed.setIfInBounds i true) (a.put (some d) v) w):wpAnyH P md ops Q S (fuel+1) listed a w:=
 wpAnyH_take hi hs hf hr (by rw[hd];exact hQ) hy hS (by rw[hd];exact h)
theorem aS {P:Program}{md:Region.Mode}{ops:Array Oper}{Q:Exit->Act->World->Prop}{S:World->Prop}{oi:Oper}{fuel:Nat}{listed:Array Bool}{a:Act}{w:World}(i:Nat)(v:Value)(d:Nat)(hi:ops[i]?=some oi)(hy:∀w',S w'->(execOp a.eval oi).run P w'=.ok (.value v) w')(hS:S w)
  (h:wpAnyH P md ops Q S fuel (listed.setIfInBounds i true) (a.put (some d) v) w)(hd:oi.dst=some d:=by rfl)(hs:Region.noSelect ops=true:=by kernel_rfl)(hf:Region.free md ops listed i=true:=by kernel_rfl)(hr:(Region.ready md ops listed).contains i=true:=by kernel_rfl)(hw:Region.wanted oi (yielded ops a.tmps)=true:=by rfl)
  (hQ:∀c a w,Q (.panic c) (a.put (some d) v) w->Q (.panic c) a w:=by first|exact λ_ _ _ h=>h|exact λ_ _ _ h=>nomatch h.1):wpAnyH P md ops Q S (fuel+1) listed a w:=
 PQ d hi hd hs hf hr hQ (.inl ⟨hw,hy⟩) hS h
theorem jE {P:Program}{md:Region.Mode}{ops:Array Oper}{Q:Exit->Act->World->Prop}{S:World->Prop}{o:Oper}{fuel:Nat}{listed:Array Bool}{a:Act}{w:World}(i:Nat)(ho:ops[i]?=some o)
  (h:∀K:Act->World->Prop,Go.Shut (∀a w,S w->(S w->wpAnyH P md ops Q S fuel (listed.setIfInBounds i true) a w)->K a w)->if Region.wanted o (yielded ops a.tmps)=true then Oper.wp P o a w K Q else K (a.put o.dst undef) w)(hr:Region.ready md ops listed=[i]:=by kernel_rfl):wpAnyH P md ops Q S (fuel+1) listed a w:=
 wpAnyH_ready hr (by simp) (AllReadyH.cons ho h AllReadyH.nil)
theorem Po {P:Program}{md:Region.Mode}{ops:Array Oper}{Q:Exit->Act->World->Prop}{S:World->Prop}{o o':Oper}{fuel:Nat}{listed:Array Bool}{a:Act}{w:World}(i j:Nat)(ho:ops[i]?=some o)(Lj:ops[j]?=some o')
  (h:∀K:Act->World->Prop,Go.Shut (∀a w,S w->(S w->wpAnyH P md ops Q S fuel (listed.setIfInBounds i true) a w)->K a w)->if Region.wanted o (yielded ops a.tmps)=true then Oper.wp P o a w K Q else K (a.put o.dst undef) w)
  (h':∀K:Act->World->Prop,Go.Shut (∀a w,S w->(S w->wpAnyH P md ops Q S fuel (listed.setIfInBounds j true) a w)->K a w)->if Region.wanted o' (yielded ops a.tmps)=true then Oper.wp P o' a w K Q else K (a.put o'.dst undef) w)(hr:Region.ready md ops listed=[i,j]:=by kernel_rfl):wpAnyH P md ops Q S (fuel+1) listed a w:=
 wpAnyH_ready hr (by simp) (AllReadyH.cons ho h (AllReadyH.cons Lj h' AllReadyH.nil))
theorem DA {p:Prop}(h:p:=by intro w' hSw;obtain⟨s0⟩:=hSw;go_simp):p:=h
theorem DB {p:Prop}(h:p:=by intro w' hSw;obtain⟨s0,s1⟩:=hSw;go_simp):p:=h
theorem PN {p:Prop}(h:p:=by intro w' hSw;obtain⟨s0,s1,s2,s3⟩:=hSw;go_simp):p:=h
theorem Ua {p:Prop}(h:p:=by intro w' hSw;obtain⟨s0,s1,s2,s3,s4,s5⟩:=hSw;go_simp):p:=h
theorem F4 {p:Prop}(h:p:=by intro w' hSw;obtain⟨s0,s1,s2,s3,s4,s5,s6,s7,s8⟩:=hSw;go_simp):p:=h
end
section
open RowKit
def jD {α:Type}(f:Nat->α)(k i:Nat):α:=if i<k then f i else f (i+1)
theorem Me (f:Nat->Mv)(k n:Nat)(hk:k<n):cG f k++cG (λj=>f (k+1+j)) (n-(k+1))=cG (jD f k) (n-1):=by
 have h1:cG f k=cG (jD f k) k:=nK λj hj=>by unfold jD;rw[if_pos hj]
 rw[h1];have h3:∀r,cG (jD f k) k++cG (λj=>f (k+1+j)) r=cG (jD f k) (k+r):=by
  intro r;induction r with
  |zero=>simp[cG]
  |succ r ih=>
   rw[gb (λj=>f (k+1+j)) r,<-List.append_assoc,ih,show k+(r+1)=k+r+1 by omega,gb _ (k+r)];congr 3;unfold jD;rw[if_neg ab];congr 1;omega
 rw[h3,show k+(n-(k+1))=n-1 by omega]
theorem IL (t:Nat->Int)(k n:Nat)(hk:k<n):eN t k++eN (λj=>t (k+1+j)) (n-(k+1))=eN (jD t k) (n-1):=by
 apply List.ext_getElem?;intro j;rw[List.getElem?_append];by_cases h1:j<k
 .rw[if_pos (by rw[jb];exact h1),f8 h1,f8 ab];unfold jD;rw[if_pos h1]
 .rw[if_neg (by rw[jb];exact h1),jb];by_cases h2:j<n-1
  .rw[f8 ab,f8 h2];unfold jD;rw[if_neg h1,show k+1+(j-k)=j+1 by omega]
  .rw[acw BJ,acw BJ]
end
