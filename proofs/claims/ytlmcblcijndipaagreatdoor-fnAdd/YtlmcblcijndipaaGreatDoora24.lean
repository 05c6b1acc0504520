import Derived.Test.YtlmcblcijndipaaGreatDoora22
set_option linter.unusedVariables false
set_option linter.defProp false
namespace Go.Proofs.YtlmcblcijndipaaGreatDoor
open RowKit
variable {a:Act}{ops:Array Oper}{Q:Exit->Act->World->Prop}{fuel n:Nat}{o oi:Oper}{P:Program}{p:Prop}{md:Region.Mode}{w:World}{S:World->Prop}
section
variable {f:Nat->Mv}
def aV (f:Nat->Mv)(n:Nat):List Value:=(List.range n).flatMap λj=>(f j).cells.toList
def bp (f:Nat->Mv):∀n,(aV f n).length=n*6
 |0=>rfl
 |n+1=>by
  have:=bp f n;unfold aV at this⊢;rw[List.range_succ,List.flatMap_append,List.length_append,this];simp[Nat.add_mul]
def gt (f:Nat->Mv)(n:Nat):aV f (n+1)=aV f n++(f n).cells.toList:=by
 unfold aV;rw[List.range_succ,List.flatMap_append];simp
def oj {g:Nat->Mv}:∀{n:Nat},(∀j,j<n->f j=g j)->aV f n=aV g n
 |0,_=>rfl
 |n+1,h=>by rw[gt,gt,oj (λj hj=>h j aa),h n aa]
def pY (f:Nat->Mv):∀n i k,i<n->k<6->(aV f n)[i*6+k]?=(f i).cells.toList[k]?
 |0,i,k,hi,_=>absurd hi (ac9 _)
 |n+1,i,k,hi,hk=>by
  rw[gt];by_cases e:i=n
  .subst e;rw[adi (by rw[bp];omega),bp];congr 1;omega
  .rw[adh (by rw[bp];omega)];exact pY f n i k aa hk
def dK {base B c:Nat}{T:TypeId}(h:w.ownsRow base T 6 (.slice B n c) n (aV f n)):aI w B 0 n f:=by
 intro i hi;have q:∀k,k<6->w.cell? ⟨B,0+i*6+k,none⟩=(f i).cells.toList[k]?:=λk hk=>by
  rw[Nat.zero_add,h.cellAt (i*6+k) aa];exact pY f n i k hi hk
 exact⟨q 0 aa,q 1 aa,q 2 aa,q 3 aa,q 4 aa,q 5 aa⟩
def Nl:(Tz.prog.info? 31).map (λi=>(i.zero,i.size,i.bytes))=some (some<|.agg #[ByteArray.empty,false,(0:Int),(0:Int),(0:Int),(0:Int)],6,56):=bD
def fY (m:Mv):∀u∈m.cells.toList,u.oneCell'=true:=λu hu=>by
 simp at hu;rcases hu with rfl|rfl|rfl|rfl|rfl|rfl<;>rfl
def Kv (m:Mv):∀u∈m.cells.toList,mf u:=λu hu=>by
 simp at hu;rcases hu with rfl|rfl|rfl|rfl|rfl|rfl<;>first|exact .inl ⟨_,rfl⟩|exact .inr (.inl ⟨_,_,rfl⟩)|exact .inr<|.inr ⟨_,rfl⟩
def uU:∀u∈(Value.agg #[ByteArray.empty,false,(0:Int),(0:Int),(0:Int),(0:Int)]).cells,mf u:=λu hu=>by
 simp[Value.cells]at hu;rcases hu with rfl|rfl|rfl<;>first|exact .inl ⟨_,rfl⟩|exact .inr (.inl ⟨_,_,rfl⟩)|exact .inr<|.inr ⟨_,rfl⟩
def pu (B o j:Nat):(⟨B,o,none⟩:Addr).add j=⟨B,o+j,none⟩:=by unfold Addr.add;split<;>simp_all
def dW {b off:Nat}(h:aI w b off n f):∀(j:Nat) (u:Value),(aV f n)[j]?=some u->w.cell? ((⟨b,off,none⟩:Addr).add j)=some u:=λj u hu=>by
 have hj:j<n*6:=by rcases ade j (n*6)with h|h;exact h;rw[adg (by rw[bp];exact h)]at hu;cases hu
 have e:j=j/6*6+j%6:=aa;let⟨c0,c1,c2,c3,c4,c5⟩:=h (j/6) aa;rw[e,pY f n (j/6) (j%6) aa aa]at hu;rw[pu];have k:j%6=0\/j%6=1\/j%6=2\/j%6=3\/j%6=4\/j%6=5:=aa;rcases k with k|k|k|k|k|k<;>rw[k]at hu<;>simp at hu<;>subst hu
 .rw[<-c0];congr 2;omega
 .rw[<-c1];congr 2;omega
 .rw[<-c2];congr 2;omega
 .rw[<-c3];congr 2;omega
 .rw[<-c4];congr 2;omega
 .rw[<-c5];congr 2;omega
def EL {u:Value}(h:u∈aV f n):∃i,i<n/\u∈(f i).cells.toList:=by
 unfold aV at h;let⟨i,hi,hu⟩:=List.mem_flatMap.1 h;exact⟨i,by simpa using hi,hu⟩
def eM (f:Nat->Mv)(n:Nat):∀u∈aV f n,u.oneCell'=true:=λu hu=>by let⟨i,_,h⟩:=EL hu;exact fY _ u h
def yk (f:Nat->Mv)(n:Nat):∀u∈aV f n,mf u:=λu hu=>by let⟨i,_,h⟩:=EL hu;exact Kv _ u h
def eJ:∃i,Tz.prog.info? 31=some i/\i.zero=some (.agg #[ByteArray.empty,false,(0:Int),(0:Int),(0:Int),(0:Int)])/\i.size=6/\i.bytes=56:=by
 have h:=Nl;cases hI:Tz.prog.info? 31 with
 |none=>rw[hI]at h;simp at h
 |some i=>rw[hI]at h;simp only[Option.map_some,Option.some.injEq,Prod.mk.injEq]at h;exact⟨i,rfl,h.1,h.2.1,h.2.2⟩
end
def dX (T:Nat->Int)(n:Nat):List Value:=(List.range n).map λj=>.int .i64<|T j
def eH (T:Nat->Int)(n:Nat):(dX T n).length=n:=by simp[dX]
def d9 {T:Nat->Int}{j:Nat}(h:j<n):(dX T n)[j]?=some (.int .i64<|T j):=by simp[dX,h]
def jt (T:Nat->Int)(n:Nat):∀u∈dX T n,u.oneCell'=true:=λu hu=>by unfold dX at hu;simp at hu;obtain⟨_,_,rfl⟩:=hu;rfl
def Ry {i:Nat}{v:Value}{listed:Array Bool}(d:Nat)(hi:ops[i]?=some oi)(hd:oi.dst=some d)
  (hs:Region.noSelect ops=true)(hf:Region.free md ops listed i=true)(hr:(Region.ready md ops listed).contains i=true)
  (hQ:∀c a w,Q (.panic c) (a.put (some d) v) w->Q (.panic c) a w)(hy:YieldsIf P ops S oi v a)(hS:S w)
  (h:wpAnyH P md ops Q S fuel (listed.setIfInBounds i true) (a.put (some d) v) w):wpAnyH P md ops Q S (fuel+1) listed a w:=
 wpAnyH_take hi hs hf hr (by rw[hd];exact hQ) hy hS (by rw[hd];exact h)
def aO {listed:Array Bool}(i:Nat)(v:Value)(d:Nat)(hi:ops[i]?=some oi)(hy:∀w',S w'->(execOp a.eval oi).run P w'=.ok (.value v) w')(hS:S w)
  (h:wpAnyH P md ops Q S fuel (listed.setIfInBounds i true) (a.put (some d) v) w)(hd:oi.dst=some d:=by rfl)(hs:Region.noSelect ops=true:=by kernel_rfl)(hf:Region.free md ops listed i=true:=by kernel_rfl)(hr:(Region.ready md ops listed).contains i=true:=by kernel_rfl)(hw:Region.wanted oi (yielded ops a.tmps)=true:=by rfl)
  (hQ:∀c a w,Q (.panic c) (a.put (some d) v) w->Q (.panic c) a w:=by first|exact λ_ _ _ h=>h|exact λ_ _ _ h=>nomatch h.1):wpAnyH P md ops Q S (fuel+1) listed a w:=
 Ry d hi hd hs hf hr hQ (.inl ⟨hw,hy⟩) hS h
def iX {listed:Array Bool}(i:Nat)(ho:ops[i]?=some o)
  (h:∀K:Act->World->Prop,Go.Shut (∀a w,S w->(S w->wpAnyH P md ops Q S fuel (listed.setIfInBounds i true) a w)->K a w)->if Region.wanted o (yielded ops a.tmps)=true then Oper.wp P o a w K Q else K (a.put o.dst undef) w)(hr:Region.ready md ops listed=[i]:=by kernel_rfl):wpAnyH P md ops Q S (fuel+1) listed a w:=
 wpAnyH_ready hr (by simp) (AllReadyH.cons ho h AllReadyH.nil)
def NW {o':Oper}{listed:Array Bool}(i j:Nat)(ho:ops[i]?=some o)(MV:ops[j]?=some o')
  (h:∀K:Act->World->Prop,Go.Shut (∀a w,S w->(S w->wpAnyH P md ops Q S fuel (listed.setIfInBounds i true) a w)->K a w)->if Region.wanted o (yielded ops a.tmps)=true then Oper.wp P o a w K Q else K (a.put o.dst undef) w)
  (h':∀K:Act->World->Prop,Go.Shut (∀a w,S w->(S w->wpAnyH P md ops Q S fuel (listed.setIfInBounds j true) a w)->K a w)->if Region.wanted o' (yielded ops a.tmps)=true then Oper.wp P o' a w K Q else K (a.put o'.dst undef) w)(hr:Region.ready md ops listed=[i,j]:=by kernel_rfl):wpAnyH P md ops Q S (fuel+1) listed a w:=
 wpAnyH_ready hr (by simp) (AllReadyH.cons ho h<|AllReadyH.cons MV h' AllReadyH.nil)
def Fa (h:p:=by intro w' hSw;let⟨s0⟩:=hSw;go_simp):p:=h
def zI (h:p:=by intro w' hSw;let⟨s0,s1⟩:=hSw;go_simp):p:=h
def Ru (h:p:=by intro w' hSw;let⟨s0,s1,s2,s3⟩:=hSw;go_simp):p:=h
def A7 (h:p:=by intro w' hSw;let⟨s0,s1,s2,s3,s4,s5⟩:=hSw;go_simp):p:=h
def cW {α:Type}(f:Nat->α)(k i:Nat):α:=if i<k then f i else f (i+1)
def EM (f:Nat->Mv)(k n:Nat)(hk:k<n):aV f k++aV (λj=>f<|k+1+j) (n-(k+1))=aV (cW f k) (n-1):=by
 have h1:aV f k=aV (cW f k) k:=oj λj hj=>by unfold cW;rw[if_pos hj]
 rw[h1];have h3:∀r,aV (cW f k) k++aV (λj=>f<|k+1+j) r=aV (cW f k) (k+r):=by
  intro r;induction r with
  |zero=>simp[aV]
  |succ r ih=>
   rw[gt (λj=>f<|k+1+j) r,<-List.append_assoc,ih,show k+(r+1)=k+r+1 by omega,gt _ (k+r)];congr 3;unfold cW;rw[if_neg aa];congr 1;omega
 rw[h3,show k+(n-(k+1))=n-1 by omega]
def Az (t:Nat->Int)(k n:Nat)(hk:k<n):dX t k++dX (λj=>t<|k+1+j) (n-(k+1))=dX (cW t k) (n-1):=by
 apply List.ext_getElem?;intro j;rw[List.getElem?_append];by_cases h1:j<k
 .rw[if_pos (by rw[eH];exact h1),d9 h1,d9 aa];unfold cW;rw[if_pos h1]
 .rw[if_neg (by rw[eH];exact h1),eH];by_cases h2:j<n-1
  .rw[d9 aa,d9 h2];unfold cW;rw[if_neg h1,show k+1+(j-k)=j+1 by omega]
  .rw[adg yU,adg yU]
