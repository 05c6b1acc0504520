import Derived.Test.YtjoalkgmgmmedaaGreatDoorj00
import Derived.Deep.RegionHeld3
import Derived.Laws.CopyOwn
set_option linter.unusedVariables false
set_option linter.defProp false
open Go renaming wpAnyH->ao,yielded->au,World->aB,wpAnyH_ready->aE,TypeId->aF
open Go.AllReadyH renaming cons->ai,nil->av
open Go.Region renaming wanted->aa,ready->ac,noSelect->ax,free->ay
namespace Go.Proofs.YtjoalkgmgmmedaaGreatDoor
open RowKit
variable {a:Act}{ops:Array Oper}{Q:Exit->Act->aB->Prop}{fuel:Nat}{o oi:Oper}{P:Program}{p:Prop}{md:Region.Mode}{w:aB}{S:aB->Prop}
def eG (T:Nat->Int)(n:Nat):List Value:=(List.range n).map λj=>.int .i64<|T j
theorem eZ (T) n:(eG T n).length=n:=by simp[eG]
def dW {T n j}(h:j<n):(eG T n)[j]?=some (.int .i64<|T j):=by simp[eG,h]
def jM (T) n:∀u∈eG T n,u.oneCell':=λu b=>by unfold eG at b;simp at b;obtain⟨_,_,rfl⟩:=b;rfl
def VD {i v e}(d:Nat)(f:ops[i]?=some oi)(t:oi.dst=some d)
  (hs:ax ops)(q:ay md ops e i)(r:(ac md ops e).contains i)
  (u:∀c a w,Q (.panic c) (a.put (some d) v) w->Q (.panic c) a w)(s:YieldsIf P ops S oi v a)(hS:S w)
  (h:ao P md ops Q S fuel (e.setIfInBounds i true) (a.put (some d) v) w):ao P md ops Q S (fuel+1) e a w:=
 wpAnyH_take f hs q r gC s hS gC
def aj {listed} i v (d:Nat)(hi:ops[i]?=some oi)(hy:∀w',S w'->(execOp a.eval oi).run P w'=.ok (.value v) w')(hS:S w)
  (h:ao P md ops Q S fuel (listed.setIfInBounds i true) (a.put (some d) v) w)(hd:oi.dst=some d:=by rfl)(hs:ax ops:=by kernel_rfl)(hf:ay md ops listed i:=by kernel_rfl)(hr:(ac md ops listed).contains i:=by kernel_rfl)(hw:aa oi (au ops a.tmps):=by rfl)
  (hQ:∀c a w,Q (.panic c) (a.put (some d) v) w->Q (.panic c) a w:=by first|exact λ_ _ _ h=>h|exact λ_ _ _ h=>nomatch h.1):ao P md ops Q S (fuel+1) listed a w:=
 VD d hi hd hs hf hr hQ (.inl ⟨hw,hy⟩) hS h
def f8 {listed} i (ho:ops[i]?=some o)
  (h:∀K,Shut (∀a w,S w->(S w->ao P md ops Q S fuel (listed.setIfInBounds i true) a w)->K a w)->if aa o (au ops a.tmps)then Oper.wp P o a w K Q else K (a.put o.dst undef) w)(hr:ac md ops listed=[i]:=by kernel_rfl):ao P md ops Q S (fuel+1) listed a w:=
 aE hr gC (ai ho h av)
def Ls {o' listed}(i j)(ho:ops[i]?=some o)(I0:ops[j]?=some o')
  (h:∀K,Shut (∀a w,S w->(S w->ao P md ops Q S fuel (listed.setIfInBounds i true) a w)->K a w)->if aa o (au ops a.tmps)then Oper.wp P o a w K Q else K (a.put o.dst undef) w)
  (h':∀K,Shut (∀a w,S w->(S w->ao P md ops Q S fuel (listed.setIfInBounds j true) a w)->K a w)->if aa o' (au ops a.tmps)then Oper.wp P o' a w K Q else K (a.put o'.dst undef) w)(hr:ac md ops listed=[i,j]:=by kernel_rfl):ao P md ops Q S (fuel+1) listed a w:=
 aE hr gC (ai ho h<|ai I0 h' av)
def Vz (h:p:=by intro w' hSw;let⟨s0⟩:=hSw;go_simp):p:=h
def sv2 (h:p:=by intro w' hSw;let⟨s0,s1⟩:=hSw;go_simp):p:=h
def VA (h:p:=by intro w' hSw;let⟨s0,s1,s2,s3⟩:=hSw;go_simp):p:=h
def NJ (h:p:=by intro w' hSw;let⟨s0,s1,s2,s3,s4,s5⟩:=hSw;go_simp):p:=h
def J7 (h:p:=by intro w' hSw;let⟨s0,s1,s2,s3,s4,s5,s6,s7,s8⟩:=hSw;go_simp):p:=h
def nu (w f g k e i) size (s:P.underlying f=some (.slice e))(t:P.info? e=some i)(v:i.size=size)(b off c l ad d m cs)(x:cs.length=Nat.min d c*size)
  (n:∀j u,cs[j]?=some u->w.cell? (ad.add j)=some u)(q:∀u∈cs,u.oneCell')(y:∀j,j<cs.length->(w.cell? ⟨b,off+j,none⟩).isSome)(r:∀j,j<cs.length->w.frozen? ⟨b,off+j,none⟩=false):
  (Builtin.copy_ #[f,g] k #[.slice (some ⟨b,off,none⟩) c l,.slice (some ad) d m]).run P w=.ok (goInt<|Nat.min d c) (w.setCells b off cs):=by
 have z:=run_loadCells_list (P:=P) w ad cs n;have A:=run_storeCells_cells (P:=P) b off cs 0 w ab (by simpa using r) q;simp_all [Builtin.copy_,run_underlying,Builtin.lenOf,Builtin.firstCells,sizeOf,typeInfo]
def qS {K E}(J:o.guard=none)(d s g n)
  (ho:o.op=.call {callee:=.builtin .copy,args:=#[d,s],argTypes:=#[g,n]})(e i) size (t:P.underlying g=some (.slice e))(v:P.info? e=some i)(x:i.size=size)
  (b off c q ad f r)(y:a.eval d=.slice (some ⟨b,off,none⟩) c q)(z:a.eval s=.slice (some ad) f r)(cs)(A:cs.length=Nat.min f c*size)
  (B:∀j u,cs[j]?=some u->w.cell? (ad.add j)=some u)(C:∀u∈cs,u.oneCell')(l:∀j,j<cs.length->(w.cell? ⟨b,off+j,none⟩).isSome)(D:∀j,j<cs.length->w.frozen? ⟨b,off+j,none⟩=false)
  (F:K (a.put o.dst<|goInt<|Nat.min f c) (w.setCells b off cs)):
  if aa o (au ops a.tmps)then Oper.wp P o a w K Q else E:=by
 have hw:aa o (au ops a.tmps)=true:=by grind [aa]
 rw[if_pos hw];unfold Oper.wp;simp[execOp,ho,resolve,invoke,builtin,y,z,(nu w g n o.type e i size t v x b off c q ad f r cs A B C l D)];exact F
