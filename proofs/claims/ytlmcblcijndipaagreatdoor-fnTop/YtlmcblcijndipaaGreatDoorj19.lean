import Derived.Test.YtlmcblcijndipaaGreatDoorj16
import Derived.ArgAppend
import Derived.Laws.CopyRow
import Derived.Laws.CopyOwn
set_option linter.unusedVariables false
set_option maxHeartbeats 1000000
namespace Go.Proofs.YtlmcblcijndipaaGreatDoor
open RowKit
variable {P:Program}
section
variable {t t':Nat->Int}{n:Nat}
def oq (t t':Nat->Int)(n:Nat):Bool:=(List.range n).any λi=>decide (t' i<t i)
theorem rX {k:Nat}(hk:k<n)(h:t' k<t k):oq t t' n=true:=by
 unfold oq;rw[List.any_eq_true];exact⟨k,by simpa using hk,qJ⟩
theorem AI (h:∀i,i<n->t i<=t' i):oq t t' n=false:=by
 unfold oq;rw[List.any_eq_false];intro i hi;simpa using h i (by simpa using hi)
def Qu (w:World)(a:Option Addr)(n:Nat)(t:Nat->Int):Prop:=n=0\/∃b,a=some ⟨b,0,none⟩/\b<w.heap.size/\aA w b 0 n t
theorem zK (a:Option Addr)(n c:Nat)(t:Nat->Int)(a':Option Addr)(c':Nat)(t':Nat->Int)(w:World)(hn:n<=1048576)(hr:Qu w a n t)(fH:Qu w a' n t'):
  Calls Tz.prog 290 #[.slice a n c,.slice a' n c'] w λe w'=>e=.returned (.bool<|oq t t' n)/\Below w w w':=by
 go_enter Tz.func290,Tryz.ntmps290
 go_wp2;go_loopw [9] (λx W=>∃k:Nat,x=.int .i64 k/\k<=n/\Below w w W/\∀i,i<k->t i<=t' i) (λx _=>n-(intOf x).toNat)
 case atStart=>exact⟨0,rfl,ac8 _,acU _ _,λi hi=>absurd hi<|ac7 _⟩
 case round=>
  obtain⟨k,rfl,hk,hB,cD⟩:=hrel;by_cases ay:k<n
  .have dq:(k:Int)<n:=by omega
   obtain⟨b,rfl,bz,h1⟩:=hr.resolve_left ab;obtain⟨b',rfl,bu,h2⟩:=fH.resolve_left ab;have c0:=h1.below hB bz k ay;have c1:=h2.below hB bu k ay;simp only[Nat.zero_add]at c0 c1;rcases Int.lt_or_le (t' k) (t k)with hle|hle
   .go_wp2;all_goals try omega
    go_ret;exact⟨by rw[rX ay hle];rfl,hB⟩
   .go_wp2;all_goals try omega
    go_roundw
    case rel=>exact⟨k+1,by go_num,ab,hB,λi hi=>by
     by_cases e:i=k
     .subst e;exact hle
     .exact cD i ab⟩
    case measure=>exact bZ
  .have dq:¬(k:Int)<n:=by omega
   go_wp2;all_goals try omega
   go_ret;exact⟨by rw[AI λi hi=>cD i ab];rfl,hB⟩
theorem zA (a:Option Addr)(n c:Nat)(t:Nat->Int)(a':Option Addr)(c':Nat)(t':Nat->Int)(w:World)(hn:n<=1048576)(hr:Qu w a n t)(fH:Qu w a' n t'):
  Calls Tz.prog 46 #[.slice a n c,.slice a' n c'] w λe w'=>e=.returned (.bool<|!oq t t' n)/\Below w w w':=by
 go_enter Tz.func46,Tryz.ntmps46
 go_wp2;go_loopw [5] (λx W=>∃k:Nat,x=.int .i64 k/\k<=n/\Below w w W/\∀i,i<k->t i<=t' i) (λx _=>n-(intOf x).toNat)
 case atStart=>exact⟨0,rfl,ac8 _,acU _ _,λi hi=>absurd hi<|ac7 _⟩
 case round=>
  obtain⟨k,rfl,hk,hB,cD⟩:=hrel;by_cases ay:k<n
  .have dq:(k:Int)<n:=by omega
   obtain⟨b,rfl,bz,h1⟩:=hr.resolve_left ab;obtain⟨b',rfl,bu,h2⟩:=fH.resolve_left ab;have lb:=ac4 bz hB.size;have lb':=ac4 bu hB.size;have c0:=h1.below hB bz k ay;have c1:=h2.below hB bu k ay;simp only[Nat.zero_add]at c0 c1;have hne:=aF wr;have x0:=λx:ai wr=>x.cell c0
   have x1:=λx:ai wr=>x.cell c1
   go_wp2;refine jR ?_;intro w2 cj;rcases Int.lt_or_le (t' k) (t k)with hle|hle
   .go_wp2;all_goals try omega
    go_ret;exact⟨by rw[rX ay hle];rfl,hB.trans<|cj.mono hB.size⟩
   .go_wp2;all_goals try omega
    go_roundw
    case rel=>exact⟨k+1,by go_num,ab,hB.trans<|cj.mono hB.size,λi hi=>by
     by_cases e:i=k
     .subst e;exact hle
     .exact cD i ab⟩
    case measure=>exact bZ
  .have dq:¬(k:Int)<n:=by omega
   go_wp2;all_goals try omega
   go_ret;exact⟨by rw[AI λi hi=>cD i ab];rfl,hB⟩
end
theorem mF (w:World)(dT sT ty e:TypeId)(i:TypeInfo)(size:Nat)(ht:P.underlying dT=some (.slice e))(hi:P.info? e=some i)(hs:i.size=size)(b off DY QO:Nat)(ad:Addr)(oK Fp:Nat)(cs:List Value)(hn:cs.length=Nat.min oK DY*size)
  (hc:∀j u,cs[j]?=some u->w.cell? (ad.add j)=some u)(h1:∀u∈cs,u.oneCell'=true)(hd:∀j,j<cs.length->(w.cell? ⟨b,off+j,none⟩).isSome=true)(hf:∀j,j<cs.length->w.frozen? ⟨b,off+j,none⟩=false):
  (Builtin.copy_ #[dT,sT] ty #[.slice (some ⟨b,off,none⟩) DY QO,.slice (some ad) oK Fp]).run P w=.ok (goInt<|Nat.min oK DY) (w.setCells b off cs):=by
 subst hs;have hl:=run_loadCells_list (P:=P) w ad cs hc;have de:=run_storeCells_cells (P:=P) b off cs 0 w (by simpa using hd) (by simpa using hf) h1;simp only[Nat.add_zero]at de;simp[Builtin.copy_,run_underlying ht,Builtin.lenOf,Builtin.firstCells,sizeOf,typeInfo,hi,<-hn,hl,de]
theorem qd {ops:Array Oper}{o:Oper}{a:Act}{w:World}{K:Act->World->Prop}{Q:Exit->Act->World->Prop}{E:Prop}(KG:o.guard=none)(d s:Operand)(dT sT:TypeId)
  (ho:o.op=.call {callee:=.builtin .copy,args:=#[d,s],argTypes:=#[dT,sT]})(e:TypeId)(i:TypeInfo)(size:Nat)(ht:P.underlying dT=some (.slice e))(hi:P.info? e=some i)(hs:i.size=size)
  (b off DY QO:Nat)(ad:Addr)(oK Fp:Nat)(hd:a.eval d=.slice (some ⟨b,off,none⟩) DY QO)(N0:a.eval s=.slice (some ad) oK Fp)(cs:List Value)(hn:cs.length=Nat.min oK DY*size)
  (hc:∀j u,cs[j]?=some u->w.cell? (ad.add j)=some u)(h1:∀u∈cs,u.oneCell'=true)(hdd:∀j,j<cs.length->(w.cell? ⟨b,off+j,none⟩).isSome=true)(hf:∀j,j<cs.length->w.frozen? ⟨b,off+j,none⟩=false)
  (hK:K (a.put o.dst<|goInt<|Nat.min oK DY) (w.setCells b off cs)):
  if Region.wanted o (yielded ops a.tmps)=true then Oper.wp P o a w K Q else E:=by
 have hw:Region.wanted o (yielded ops a.tmps)=true:=by simp[Region.wanted,KG]
 rw[if_pos hw];have eb:=mF (P:=P) w dT sT o.type e i size ht hi hs b off DY QO ad oK Fp cs hn hc h1 hdd hf;unfold Oper.wp;simp[execOp,ho,resolve,invoke,builtin,hd,N0,eb,Result.andThen];exact hK
