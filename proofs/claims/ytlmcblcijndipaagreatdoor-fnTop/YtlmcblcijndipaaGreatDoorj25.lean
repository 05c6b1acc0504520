import Derived.Test.YtlmcblcijndipaaGreatDoorj12
import Derived.Test.YtlmcblcijndipaaGreatDoorj07
set_option linter.unusedVariables false
set_option linter.defProp false
namespace Go.Proofs.YtlmcblcijndipaaGreatDoor
open RowKit
variable {a:Act}{ops:Array Oper}{Q:Exit->Act->World->Prop}{fuel n:Nat}{o oi:Oper}{P:Program}{p:Prop}{md:Region.Mode}{w:World}{S:World->Prop}
section
variable {f:Nat->Mv}
def aU (f:Nat->Mv)(n:Nat):List Value:=(List.range n).flatMap λj=>(f j).cells.toList
def bq (f:Nat->Mv):∀n,(aU f n).length=n*6
 |0=>rfl
 |n+1=>by
  have:=bq f n;unfold aU at this⊢;rw[List.range_succ,List.flatMap_append,List.length_append,this];simp[Nat.add_mul]
def gK (f:Nat->Mv)(n:Nat):aU f (n+1)=aU f n++(f n).cells.toList:=by
 unfold aU;rw[List.range_succ,List.flatMap_append];simp
def oJ {g:Nat->Mv}:∀{n:Nat},(∀j,j<n->f j=g j)->aU f n=aU g n
 |0,_=>rfl
 |n+1,h=>by rw[gK,gK,oJ (λj hj=>h j ab),h n ab]
def p8 (f:Nat->Mv):∀n i k,i<n->k<6->(aU f n)[i*6+k]?=(f i).cells.toList[k]?
 |0,i,k,hi,_=>absurd hi (ac7 _)
 |n+1,i,k,hi,hk=>by
  rw[gK];by_cases e:i=n
  .subst e;rw[adg (by rw[bq];omega),bq];congr 1;omega
  .rw[adf (by rw[bq];omega)];exact p8 f n i k ab hk
def dW {base B c:Nat}{T:TypeId}(h:w.ownsRow base T 6 (.slice B n c) n (aU f n)):aJ w B 0 n f:=by
 intro i hi;have q:∀k,k<6->w.cell? ⟨B,0+i*6+k,none⟩=(f i).cells.toList[k]?:=λk hk=>by
  rw[Nat.zero_add,h.cellAt (i*6+k) ab];exact p8 f n i k hi hk
 exact⟨q 0 ab,q 1 ab,q 2 ab,q 3 ab,q 4 ab,q 5 ab⟩
def Oc:(Tz.prog.info? 31).map (λi=>(i.zero,i.size,i.bytes))=some (some<|.agg #[ByteArray.empty,false,(0:Int),(0:Int),(0:Int),(0:Int)],6,56):=bj
def gb (m:Mv):∀u∈m.cells.toList,u.oneCell'=true:=λu hu=>by
 simp at hu;rcases hu with rfl|rfl|rfl|rfl|rfl|rfl<;>rfl
def Lb (m:Mv):∀u∈m.cells.toList,ml u:=λu hu=>by
 simp at hu;rcases hu with rfl|rfl|rfl|rfl|rfl|rfl<;>first|exact .inl ⟨_,rfl⟩|exact .inr (.inl ⟨_,_,rfl⟩)|exact .inr<|.inr ⟨_,rfl⟩
def vn:∀u∈(Value.agg #[ByteArray.empty,false,(0:Int),(0:Int),(0:Int),(0:Int)]).cells,ml u:=λu hu=>by
 simp[Value.cells]at hu;rcases hu with rfl|rfl|rfl<;>first|exact .inl ⟨_,rfl⟩|exact .inr (.inl ⟨_,_,rfl⟩)|exact .inr<|.inr ⟨_,rfl⟩
def pz (B o j:Nat):(⟨B,o,none⟩:Addr).add j=⟨B,o+j,none⟩:=by unfold Addr.add;split<;>simp_all
def dZ {b off:Nat}(h:aJ w b off n f):∀(j:Nat) (u:Value),(aU f n)[j]?=some u->w.cell? ((⟨b,off,none⟩:Addr).add j)=some u:=λj u hu=>by
 have hj:j<n*6:=by rcases adb j (n*6)with h|h;exact h;rw[ade (by rw[bq];exact h)]at hu;cases hu
 have e:j=j/6*6+j%6:=ab;let⟨c0,c1,c2,c3,c4,c5⟩:=h (j/6) ab;rw[e,p8 f n (j/6) (j%6) ab ab]at hu;rw[pz];have k:j%6=0\/j%6=1\/j%6=2\/j%6=3\/j%6=4\/j%6=5:=ab;rcases k with k|k|k|k|k|k<;>rw[k]at hu<;>simp at hu<;>subst hu
 .rw[<-c0];congr 2;omega
 .rw[<-c1];congr 2;omega
 .rw[<-c2];congr 2;omega
 .rw[<-c3];congr 2;omega
 .rw[<-c4];congr 2;omega
 .rw[<-c5];congr 2;omega
def Fk {u:Value}(h:u∈aU f n):∃i,i<n/\u∈(f i).cells.toList:=by
 unfold aU at h;let⟨i,hi,hu⟩:=List.mem_flatMap.1 h;exact⟨i,by simpa using hi,hu⟩
def eR (f:Nat->Mv)(n:Nat):∀u∈aU f n,u.oneCell'=true:=λu hu=>by let⟨i,_,h⟩:=Fk hu;exact gb _ u h
def yC (f:Nat->Mv)(n:Nat):∀u∈aU f n,ml u:=λu hu=>by let⟨i,_,h⟩:=Fk hu;exact Lb _ u h
def eP:∃i,Tz.prog.info? 31=some i/\i.zero=some (.agg #[ByteArray.empty,false,(0:Int),(0:Int),(0:Int),(0:Int)])/\i.size=6/\i.bytes=56:=by
 have h:=Oc;cases hI:Tz.prog.info? 31 with
 |none=>rw[hI]at h;simp at h
 |some i=>rw[hI]at h;simp only[Option.map_some,Option.some.injEq,Prod.mk.injEq]at h;exact⟨i,rfl,h.1,h.2.1,h.2.2⟩
end
def ee (T:Nat->Int)(n:Nat):List Value:=(List.range n).map λj=>.int .i64<|T j
def eN (T:Nat->Int)(n:Nat):(ee T n).length=n:=by simp[ee]
def dY {T:Nat->Int}{j:Nat}(h:j<n):(ee T n)[j]?=some (.int .i64<|T j):=by simp[ee,h]
def jo (T:Nat->Int)(n:Nat):∀u∈ee T n,u.oneCell'=true:=λu hu=>by unfold ee at hu;simp at hu;obtain⟨_,_,rfl⟩:=hu;rfl
def Sz {i:Nat}{v:Value}{listed:Array Bool}(d:Nat)(hi:ops[i]?=some oi)(hd:oi.dst=some d)
  (hs:Region.noSelect ops=true)(hf:Region.free md ops listed i=true)(hr:(Region.ready md ops listed).contains i=true)
  (hQ:∀c a w,Q (.panic c) (a.put (some d) v) w->Q (.panic c) a w)(hy:YieldsIf P ops S oi v a)(hS:S w)
  (h:wpAnyH P md ops Q S fuel (listed.setIfInBounds i true) (a.put (some d) v) w):wpAnyH P md ops Q S (fuel+1) listed a w:=
 wpAnyH_take hi hs hf hr (by rw[hd];exact hQ) hy hS (by rw[hd];exact h)
def aq {listed:Array Bool}(i:Nat)(v:Value)(d:Nat)(hi:ops[i]?=some oi)(hy:∀w',S w'->(execOp a.eval oi).run P w'=.ok (.value v) w')(hS:S w)
  (h:wpAnyH P md ops Q S fuel (listed.setIfInBounds i true) (a.put (some d) v) w)(hd:oi.dst=some d:=by rfl)(hs:Region.noSelect ops=true:=by kernel_rfl)(hf:Region.free md ops listed i=true:=by kernel_rfl)(hr:(Region.ready md ops listed).contains i=true:=by kernel_rfl)(hw:Region.wanted oi (yielded ops a.tmps)=true:=by rfl)
  (hQ:∀c a w,Q (.panic c) (a.put (some d) v) w->Q (.panic c) a w:=by first|exact λ_ _ _ h=>h|exact λ_ _ _ h=>nomatch h.1):wpAnyH P md ops Q S (fuel+1) listed a w:=
 Sz d hi hd hs hf hr hQ (.inl ⟨hw,hy⟩) hS h
def iT {listed:Array Bool}(i:Nat)(ho:ops[i]?=some o)
  (h:∀K:Act->World->Prop,Go.Shut (∀a w,S w->(S w->wpAnyH P md ops Q S fuel (listed.setIfInBounds i true) a w)->K a w)->if Region.wanted o (yielded ops a.tmps)=true then Oper.wp P o a w K Q else K (a.put o.dst undef) w)(hr:Region.ready md ops listed=[i]:=by kernel_rfl):wpAnyH P md ops Q S (fuel+1) listed a w:=
 wpAnyH_ready hr (by simp) (AllReadyH.cons ho h AllReadyH.nil)
def Qb {o':Oper}{listed:Array Bool}(i j:Nat)(ho:ops[i]?=some o)(NN:ops[j]?=some o')
  (h:∀K:Act->World->Prop,Go.Shut (∀a w,S w->(S w->wpAnyH P md ops Q S fuel (listed.setIfInBounds i true) a w)->K a w)->if Region.wanted o (yielded ops a.tmps)=true then Oper.wp P o a w K Q else K (a.put o.dst undef) w)
  (h':∀K:Act->World->Prop,Go.Shut (∀a w,S w->(S w->wpAnyH P md ops Q S fuel (listed.setIfInBounds j true) a w)->K a w)->if Region.wanted o' (yielded ops a.tmps)=true then Oper.wp P o' a w K Q else K (a.put o'.dst undef) w)(hr:Region.ready md ops listed=[i,j]:=by kernel_rfl):wpAnyH P md ops Q S (fuel+1) listed a w:=
 wpAnyH_ready hr (by simp) (AllReadyH.cons ho h<|AllReadyH.cons NN h' AllReadyH.nil)
def Su (h:p:=by intro w' hSw;let⟨s0⟩:=hSw;go_simp):p:=h
def X0 (h:p:=by intro w' hSw;let⟨s0,s1⟩:=hSw;go_simp):p:=h
def Sv (h:p:=by intro w' hSw;let⟨s0,s1,s2,s3⟩:=hSw;go_simp):p:=h
def Bf (h:p:=by intro w' hSw;let⟨s0,s1,s2,s3,s4,s5⟩:=hSw;go_simp):p:=h
def Iv (h:p:=by intro w' hSw;let⟨s0,s1,s2,s3,s4,s5,s6,s7,s8⟩:=hSw;go_simp):p:=h
def cQ {α:Type}(f:Nat->α)(k i:Nat):α:=if i<k then f i else f (i+1)
def Fl (f:Nat->Mv)(k n:Nat)(hk:k<n):aU f k++aU (λj=>f<|k+1+j) (n-(k+1))=aU (cQ f k) (n-1):=by
 have h1:aU f k=aU (cQ f k) k:=oJ λj hj=>by unfold cQ;rw[if_pos hj]
 rw[h1];have h3:∀r,aU (cQ f k) k++aU (λj=>f<|k+1+j) r=aU (cQ f k) (k+r):=by
  intro r;induction r with
  |zero=>simp[aU]
  |succ r ih=>
   rw[gK (λj=>f<|k+1+j) r,<-List.append_assoc,ih,show k+(r+1)=k+r+1 by omega,gK _ (k+r)];congr 3;unfold cQ;rw[if_neg ab];congr 1;omega
 rw[h3,show k+(n-(k+1))=n-1 by omega]
def AF (t:Nat->Int)(k n:Nat)(hk:k<n):ee t k++ee (λj=>t<|k+1+j) (n-(k+1))=ee (cQ t k) (n-1):=by
 apply List.ext_getElem?;intro j;rw[List.getElem?_append];by_cases h1:j<k
 .rw[if_pos (by rw[eN];exact h1),dY h1,dY ab];unfold cQ;rw[if_pos h1]
 .rw[if_neg (by rw[eN];exact h1),eN];by_cases h2:j<n-1
  .rw[dY ab,dY h2];unfold cQ;rw[if_neg h1,show k+1+(j-k)=j+1 by omega]
  .rw[ade zk,ade zk]
