import Derived.Test.YthppgbjejomdiaaGreatDoorj00
import Derived.Below
import Derived.Deep.RegionHeld3
import Derived.Deep.RegionLaw
import Derived.Deep.Slices
set_option linter.all false
open Array renaming mem_append->aI
open Go renaming Value->aa,wpAnyH->ac,World->aj,bytes->ao,yielded->av,TypeId->ay,maxLen->aV,wpAnyH_ready->a4
open Go.AllReadyH renaming cons->aL,nil->a1
open Go.Builtin renaming append_->aG,zeroCells->a0,lenOf->a5,firstCells->a6,append->a7
open Go.Region renaming wanted->au,ready->aE,noSelect->a2,free->a3
open Go.Result.ok renaming injEq->az
open Go.Value renaming slice->ax,ownBlock->aP
namespace Go.Proofs.YthppgbjejomdiaaGreatDoor
open RowKit
variable {a:Act}{ops:Array Oper}{Q:Exit->Act->aj->Prop}{b fuel j n:Nat}{o oi:Oper}{P:Program}{p:Prop}{md:Region.Mode}{v:aa}{w w':aj}{S:aj->Prop}
def cE (w:aj)(b:Nat):Prop:=∃c e,w.heap[b]?=some (.cells c e (0,0))/\∀v∈c,(∃x,v=.bool x)\/(∃k x,v=.int k x)\/∃s,v=.string s
def nu (v:aa):Prop:=(∃x,v=.bool x)\/(∃k x,v=.int k x)\/∃s,v=.string s
def wK (w:aj)(v:aa):Prop:=∀B,v.ownBlock=some B->cE w B
def cE.same (h:cE w b)(e:w'.heap[b]?=w.heap[b]?):cE w' b:=by let⟨c,t,d,f⟩:=h;exact⟨c,t,e.trans d,f⟩
def cE.lt (h:cE w b):b<w:=by let⟨d,t,c,f⟩:=h;exact(agy.1 c).1
def cE.set (h:cE w b)(c:nu v):cE (w.setCell ⟨b,j,none⟩ v) b:=by let⟨d,t,f,k⟩:=h;refine⟨d.setIfInBounds j v,t,heap_setCell_same _ _ j _ _ v f,λu i=>?_⟩;rcases Array.mem_or_eq_of_mem_setIfInBounds i with h|h;grind;rw[h];exact c
def Iu {z u}(h:u∈a0 z n):u∈z:=by grind [a0,Nat.eq_zero_or_pos,Nat.mod_lt,Array.getElem_mem]
def sD base (t A e i) z (size ao)(D:P.underlying t=some (.slice e))(J:P.info? e=some i)(hz:i.zero=some z)(LC:i.size=size)(O:i.bytes=ao)(IF:z.cells.size=size) v n (xs)(R:w.ownsRow base e size v n xs)(qf:wK w v) (a m c)(f:List aa)(N:f.length=m*size)(T:∀j u,f[j]?=some u->w.cell? (a.add j)=some u)(h1:∀u∈f,u.oneCell')(U:∀u∈f,nu u)(C:∀u∈z.cells,nu u) (Y:n+m<=aV)(zI:(n+m)*ao<=140737488355328){v'}(s:(aG #[t,t] A #[v,.slice (some a) m c]).run P w=.ok v' w'):wK w' v':=by
 subst LC O;have aZ:n+m<=9223372036854775807:=by simp only[aV]at Y;omega
 have x:∀(cs:Array aa) (k l:Nat),(∀u∈cs,nu u)->wK (w.drew.alloc<|.cells cs e) (.slice w k l):=λcs k l h B y=>by simp only[aP,Option.some.injEq]at y;subst y;exact⟨cs,e,heap_alloc_new w.drew _,h⟩
 rcases R.2 with⟨rfl,rfl⟩|⟨g,cap,r,rfl,XA,Z,UX,zJ,ad,X5⟩;by_cases hm:m=0;subst hm;have hn:f=[]:=List.eq_nil_of_length_eq_zero ab;subst hn;have gm:(aG #[t,t] A #[(),.slice (some a) 0 c]).run P w=.ok () w:=by simp[aG,run_underlying D,sizeOf,typeInfo,J,a5,a6,loadCells,loadCellsFrom]
 rw[gm]at s;simp only[az]at s;obtain⟨rfl,rfl⟩:=s;exact λB y=>by cases y
 rw[run_append_nil (P:=P) w t A e i z D J hz a m c f N T ab ab (by have hb:=zI;simp only[Nat.zero_add]at hb;omega)]at s;simp only[az]at s;obtain⟨rfl,rfl⟩:=s;exact x _ _ _ λu hu=>(aI.1 hu).elim (λh=>U u I3) λh=>C u<|Iu h;let⟨a8,e0,k1,k2⟩:=qf g rfl;have Qj:∀u∈r,nu u:=by rw[Z]at k1;simp at k1;obtain⟨rfl,_⟩:=k1;exact k2
 by_cases xe:n+m<=cap;have jC:n*i.size+f.length<=r.size:=by rw[N,ad,<-Nat.add_mul];exact Nat.mul_le_mul_right _ xe
 rw[run_append_room (P:=P) w t A e i D J g n cap r Z a m c f N T h1 xe jC]at s;simp only[az]at s;obtain⟨rfl,rfl⟩:=s;intro B y;simp only[aP,Option.some.injEq]at y;subst y;refine⟨_,e,setRow_heap w g r _ e _ Z,λu hu=>?_⟩;have hu:u∈r.toList.take (n*i.size)++f++r.toList.drop (n*i.size+f.length):=by simpa using hu
 rcases agX.1 hu with hu|hu;exact(agX.1 hu).elim (λhu=>Qj u<|by simpa using List.mem_of_mem_take hu) λhu=>U u hu;exact Qj u (by simpa using List.mem_of_mem_drop hu);rw[run_append_grow (P:=P) w t A e i z D J hz g n cap xs R.1 (R.cells (g:=g) rfl) a m c f N T ab ab (growslice_fits ab zI)]at s;simp only[az]at s;obtain⟨rfl,rfl⟩:=s;refine x _ _ _ λu hu=>?_;rcases aI.1 hu with h|h;rcases aI.1 h with h|h;have h:u∈xs:=by simpa using h
 rw[<-X5]at h;exact Qj u (by simpa using List.mem_of_mem_take h);exact U u I3;exact C u<|Iu h
section
variable {base size g cap:Nat}{e:ay}{xs:List aa}
def iZ (h:w.ownsRow base e size (ax g n cap) n xs)(l:Below w w w'):w'.ownsRow base e size (ax g n cap) n xs:=by obtain⟨m,f|⟨i,c,d,f,q,k,r⟩⟩:=h;grind;exact⟨m,.inr ⟨i,c,d,f,q,(l.block i (agy.1 k).1).trans k,r⟩⟩
def jU (c:base<=g)(h:w.heap[g]?=some (.cells #[] e (0,0))):w.ownsRow base e 1 (ax g 0 0) 0 []:=
 ⟨rfl,.inr ⟨g,0,#[],rfl,c,h,agw _,agB _,rfl,rfl⟩⟩
def kW (h:w.ownsRow base e size (ax g n cap) n xs):g<w/\n<=cap:=by obtain⟨i,d|⟨k,c,f,d,l,m,q⟩⟩:=h;all_goals grind
def addr_add (B o j):(⟨B,o,none⟩:Addr).add j=⟨B,o+j,none⟩:=by unfold Addr.add;split<;>simp_all
def fC {W:aj}{c:Nat}{T}(h:W.heap[c]?=some (.cells #[v] T (0,0))):∀j u,[v][j]?=some u->W.cell? ((c:Addr).add j)=some u:=λj u d=>by
 match j,d with
 |0,d=>rw[addr_add,cell_of_row _ _ _ _ _ _ h];simpa using d
def mq {f}(h:w.ownsRow base e size v n xs)(k:f<=base):w.ownsRow f e size v n xs:=by obtain⟨i,c|⟨g,cap,d,c,l,m⟩⟩:=h;exact⟨i,.inl c⟩;exact⟨i,.inr ⟨g,cap,d,c,agz k l,m⟩⟩
def dl (h:w.ownsRow base e size v n xs) r (f:v.ownBlock=some r):base<=r:=by obtain⟨i,c|⟨g,cap,d,c,k,l⟩⟩:=h;all_goals grind [aP]
def iz (h:w.ownsRow base e size v (n+1) xs):∃B c,v=ax (some ⟨B,0,none⟩) (n+1) c:=by obtain⟨r,f|⟨g,cap,q,f,s,t⟩⟩:=h;omega;grind
def dM {K E} (hg:o.guard=none)(s x t)(B:o.op=Op.call {callee:=Callee.builtin a7,args:=#[s,x],argTypes:=#[t,t]}) (e i) z (size ao)(C:P.underlying t=some (.slice e))(D:P.info? e=some i)(J:i.zero=some z)(N:i.size=size)(O:i.bytes=ao)(R:z.cells.size=size)(T:0<size) base v n (y)(hs:a.eval s=v)(U:w.ownsRow base e size v n y) (ad m c f)(Y:a.eval x=.slice (some ad) m c)(Z:f.length=m*size)(hc:∀j u,f[j]?=some u->w.cell? (ad.add j)=some u)(A:∀u∈f,u.oneCell') (b1:n+m<=aV)(b2:(n+m)*ao<=140737488355328)(hb:base<=w) (hK:∀r w',w'.ownsRow base e size r (n+m) (y++f)->w.grownBy w' v.ownBlock->K (a.put o.dst r) w'): if au o (av ops a.tmps)then Oper.wp P o a w K Q else E:=by have hw:au o (av ops a.tmps)=true:=ma;rw[if_pos hw];let⟨r,w',fT,r1,r2,_⟩:=run_append_own (P:=P) w base t o.type e i z size ao C D J N O R T v n y U ad m c f Z hc A b1 b2 hb;unfold Oper.wp;simp[execOp,B,resolve,invoke,builtin,hs,Y,fT];exact hK r w' r1 r2
end
def eL (T:Nat->Int)(n:Nat):List Value:=(List.range n).map λj=>.int .i64<|T j
theorem fg (T) n:(eL T n).length=n:=by simp[eL]
def dY {T}(h:j<n):(eL T n)[j]?=some (.int .i64<|T j):=by simp[eL,h]
def jR (T) n:∀u∈eL T n,u.oneCell':=λu c=>by unfold eL at c;simp at c;obtain⟨_,_,rfl⟩:=c;rfl
def Wx {i f}(d:Nat)(q:ops[i]?=some oi)(u:oi.dst=some d)
  (hs:a2 ops)(r:a3 md ops f i)(s:(aE md ops f).contains i)
  (x:∀c a w,Q (.panic c) (a.put (some d) v) w->Q (.panic c) a w)(t:YieldsIf P ops S oi v a)(hS:S w)
  (h:ac P md ops Q S fuel (f.setIfInBounds i true) (a.put (some d) v) w):ac P md ops Q S (fuel+1) f a w:=
 wpAnyH_take q hs r s f7 t hS f7
def ai {listed} i v (d:Nat)(hi:ops[i]?=some oi)(hy:∀w',S w'->(execOp a.eval oi).run P w'=.ok (.value v) w')(hS:S w)
  (h:ac P md ops Q S fuel (listed.setIfInBounds i true) (a.put (some d) v) w)(hd:oi.dst=some d:=by rfl)(hs:a2 ops:=by kernel_rfl)(hf:a3 md ops listed i:=by kernel_rfl)(hr:(aE md ops listed).contains i:=by kernel_rfl)(hw:au oi (av ops a.tmps):=by rfl)
  (hQ:∀c a w,Q (.panic c) (a.put (some d) v) w->Q (.panic c) a w:=by first|exact λ_ _ _ h=>h|exact λ_ _ _ h=>nomatch h.1):ac P md ops Q S (fuel+1) listed a w:=
 Wx d hi hd hs hf hr hQ (.inl ⟨hw,hy⟩) hS h
def fH {listed} i (ho:ops[i]?=some o)
  (h:∀K,Shut (∀a w,S w->(S w->ac P md ops Q S fuel (listed.setIfInBounds i true) a w)->K a w)->if au o (av ops a.tmps)then Oper.wp P o a w K Q else K (a.put o.dst undef) w)(hr:aE md ops listed=[i]:=by kernel_rfl):ac P md ops Q S (fuel+1) listed a w:=
 a4 hr f7 (aL ho h a1)
def L9 {o' listed}(i j)(ho:ops[i]?=some o)(JA:ops[j]?=some o')
  (h:∀K,Shut (∀a w,S w->(S w->ac P md ops Q S fuel (listed.setIfInBounds i true) a w)->K a w)->if au o (av ops a.tmps)then Oper.wp P o a w K Q else K (a.put o.dst undef) w)
  (h':∀K,Shut (∀a w,S w->(S w->ac P md ops Q S fuel (listed.setIfInBounds j true) a w)->K a w)->if au o' (av ops a.tmps)then Oper.wp P o' a w K Q else K (a.put o'.dst undef) w)(hr:aE md ops listed=[i,j]:=by kernel_rfl):ac P md ops Q S (fuel+1) listed a w:=
 a4 hr f7 (aL ho h<|aL JA h' a1)
def Wt (h:p:=by intro w' hSw;let⟨s0⟩:=hSw;go_simp):p:=h
def sv2 (h:p:=by intro w' hSw;let⟨s0,s1⟩:=hSw;go_simp):p:=h
def Wu (h:p:=by intro w' hSw;let⟨s0,s1,s2,s3⟩:=hSw;go_simp):p:=h
def Ot (h:p:=by intro w' hSw;let⟨s0,s1,s2,s3,s4,s5⟩:=hSw;go_simp):p:=h
def KH (h:p:=by intro w' hSw;let⟨s0,s1,s2,s3,s4,s5,s6,s7,s8⟩:=hSw;go_simp):p:=h
