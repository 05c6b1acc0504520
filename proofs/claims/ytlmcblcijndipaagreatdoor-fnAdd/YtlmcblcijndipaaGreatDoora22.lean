import Derived.Test.YtlmcblcijndipaaGreatDoora15
import Derived.Laws.AppendOwn
import Derived.Laws.BytesArg
set_option linter.unusedVariables false
set_option linter.defProp false
namespace Go.Proofs.YtlmcblcijndipaaGreatDoor
open RowKit
variable {B b n:Nat}{P:Program}{v:Value}{w w':World}
def cg (w:World)(b:Nat):Prop:=∃cs e,w.heap[b]?=some (.cells cs e (0,0))/\∀v∈cs,(∃x,v=.bool x)\/(∃k x,v=.int k x)\/∃s,v=.string s
def mf (v:Value):Prop:=(∃x,v=.bool x)\/(∃k x,v=.int k x)\/∃s,v=.string s
def uv (w:World)(v:Value):Prop:=∀B,v.ownBlock=some B->cg w B
def cg.same (h:cg w b)(e:w'.heap[b]?=w.heap[b]?):cg w' b:=by let⟨cs,t,h1,h2⟩:=h;exact⟨cs,t,e.trans h1,h2⟩
def cg.lt (h:cg w b):b<w:=by let⟨cs,t,h1,h2⟩:=h;exact(ac7.1 h1).1
def cg.set {j:Nat}(h:cg w b)(hv:mf v):cg (w.setCell ⟨b,j,none⟩ v) b:=by
 let⟨cs,t,h1,h2⟩:=h;refine⟨cs.setIfInBounds j v,t,heap_setCell_same _ _ j _ _ v h1,λu hu=>?_⟩;rcases Array.mem_or_eq_of_mem_setIfInBounds hu with h|h
 .exact h2 u h
 .rw[h];exact hv
def Fp {z:Array Value}{u:Value}(h:u∈Builtin.zeroCells z n):u∈z:=by
 unfold Builtin.zeroCells at h;obtain⟨i,hi,rfl⟩:=Array.mem_map.1 h;have hz:0<z.size:=by
  rcases adj z.size with h0|h0
  .rw[h0]at hi;simp at hi
  .exact h0
 have aB:=Nat.mod_lt i hz;rw[getElem!_pos z (i%z.size) aB];exact Array.getElem_mem aB
def qR (base:Nat)(t ty e:TypeId)(i:TypeInfo)(z:Value)(size bytes:Nat)(ht:P.underlying t=some (.slice e))(hi:P.info? e=some i)(hz:i.zero=some z)(IP:i.size=size)(W_:i.bytes=bytes)(Kg:z.cells.size=size)
  (v:Value)(n:Nat)(xs:List Value)(bc:w.ownsRow base e size v n xs)(oW:uv w v)
  (a:Addr)(m c:Nat)(news:List Value)(hl:news.length=m*size)(gd:∀j u,news[j]?=some u->w.cell? (a.add j)=some u)(h1:∀u∈news,u.oneCell'=true)(Su:∀u∈news,mf u)(hzp:∀u∈z.cells,mf u)
  (J_:n+m<=maxLen)(xd:(n+m)*bytes<=140737488355328){v':Value}(hr:(Builtin.append_ #[t,t] ty #[v,.slice (some a) m c]).run P w=.ok v' w'):uv w' v':=by
 subst IP W_;have abe:n+m<=9223372036854775807:=by simp only[maxLen]at J_;omega
 have fresh:∀(cs:Array Value) (k l:Nat),(∀u∈cs,mf u)->uv (w.drew.alloc<|.cells cs e) (.slice w.heap.size k l):=λcs k l h B hB=>by
  simp only[Value.ownBlock,Option.some.injEq]at hB;subst hB;exact⟨cs,e,heap_alloc_new w.drew _,h⟩
 rcases bc.2 with⟨rfl,rfl⟩|⟨g,cap,cur,rfl,Ww,hg,O7,At,hcs,Zl⟩
 .by_cases hm:m=0
  .subst hm;have hn:news=[]:=List.eq_nil_of_length_eq_zero (by simpa using hl);subst hn;have gG:(Builtin.append_ #[t,t] ty #[(),.slice (some a) 0 c]).run P w=.ok () w:=by
    simp[Builtin.append_,run_underlying ht,sizeOf,typeInfo,hi,Builtin.lenOf,Builtin.firstCells,loadCells,loadCellsFrom]
   rw[gG]at hr;simp only[Result.ok.injEq]at hr;obtain⟨rfl,rfl⟩:=hr;exact λB hB=>by cases hB
  .rw[run_append_nil (P:=P) w t ty e i z ht hi hz a m c news hl gd aa aa (by have hb:=xd;simp only[Nat.zero_add]at hb;omega)]at hr;simp only[Result.ok.injEq]at hr;obtain⟨rfl,rfl⟩:=hr;refine fresh _ _ _ λu hu=>?_
   rcases Array.mem_append.1 hu with h|h
   .exact Su u oO
   .exact hzp u (Fp h)
 .let⟨cs0,e0,k1,k2⟩:=oW g rfl;have ML:∀u∈cur,mf u:=by
   rw[hg]at k1;simp only[Option.some.injEq,Obj.cells.injEq]at k1;obtain⟨rfl,_⟩:=k1;exact k2
  by_cases uG:n+m<=cap
  .have gE:n*i.size+news.length<=cur.size:=by rw[hl,hcs,<-Nat.add_mul];exact Nat.mul_le_mul_right _ uG
   rw[run_append_room (P:=P) w t ty e i ht hi g n cap cur hg a m c news hl gd h1 uG gE]at hr;simp only[Result.ok.injEq]at hr;obtain⟨rfl,rfl⟩:=hr;intro B hB;simp only[Value.ownBlock,Option.some.injEq]at hB;subst hB;refine⟨_,e,setRow_heap w g cur _ e _ hg,λu hu=>?_⟩;have hu:u∈cur.toList.take (n*i.size)++news++cur.toList.drop (n*i.size+news.length):=by simpa using hu
   rcases adx.1 hu with hu|hu
   .rcases adx.1 hu with hu|hu
    .exact ML u (by simpa using List.mem_of_mem_take hu)
    .exact Su u hu
   .exact ML u (by simpa using List.mem_of_mem_drop hu)
  .have holds:∀j u,xs[j]?=some u->w.cell? ((g:Addr).add j)=some u:=bc.cells (g:=g) rfl;rw[run_append_grow (P:=P) w t ty e i z ht hi hz g n cap xs bc.1 holds a m c news hl gd aa aa (growslice_fits aa xd)]at hr;simp only[Result.ok.injEq]at hr;obtain⟨rfl,rfl⟩:=hr;refine fresh _ _ _ λu hu=>?_
   rcases Array.mem_append.1 hu with h|h
   .rcases Array.mem_append.1 h with h|h
    .have h:u∈xs:=by simpa using h
     rw[<-Zl]at h;exact ML u<|by simpa using List.mem_of_mem_take h
    .exact Su u oO
   .exact hzp u (Fp h)
section
variable {a:World}
structure fH (B:Nat)(w w':World):Prop where
 size:w.heap.size<=w'
 block:∀k,k<w.heap.size->k≠B->w'.heap[k]?=w.heap[k]?
def fH.refl (B:Nat)(w:World):fH B w w:=⟨ac5 _,λ_ _ _=>rfl⟩
def fH.trans {b c:World}(h:fH B a b)(k:fH B b c):fH B a c:=
 ⟨ac8 h.size k.size,λi hi hB=>(k.block i (ac6 hi h.size) hB).trans<|h.block i hi hB⟩
def fH.of (h:Below w w w'):fH B w w':=⟨h.size,λk hk _=>h.block k hk⟩
def fH.setCell (h:fH B a w)(o:Nat)(v:Value):fH B a (w.setCell ⟨B,o,none⟩ v):=
 ⟨by simpa using h.size,λk hk hB=>(acY w _ v k<|by simpa using hB).trans<|h.block k hk hB⟩
def aC.but {g:Nat->Int}(h:aC w b n g)(hb:fH B w w')(hB:b≠B):aC w' b n g:=by
 have aB:=h.lt;let⟨⟨cs,h1,h2⟩,h3⟩:=h;have pa:=(hb.block b aB hB).trans h1;refine⟨⟨cs,pa,h2⟩,λi hi=>?_⟩;rw[cell_of_row _ _ _ _ _ _ pa,<-cell_of_row w _ _ _ _ _ h1];exact h3 i hi
end
section
variable {base size g cap:Nat}{e:TypeId}{xs:List Value}
def t9 (h:w.ownsRow base e size (.slice g n cap) n xs)(hb:Below w w w'):w'.ownsRow base e size (.slice g n cap) n xs:=by
 obtain⟨h1,h2|⟨g',cap',cur,h2,h3,h4,h5⟩⟩:=h
 .exact absurd h2.1 aF
 .exact⟨h1,.inr ⟨g',cap',cur,h2,h3,(hb.block g' (ac7.1 h4).1).trans h4,h5⟩⟩
def nl (hg:base<=g)(h:w.heap[g]?=some (.cells #[] e (0,0))):w.ownsRow base e 1 (.slice g 0 0) 0 []:=
 ⟨rfl,.inr ⟨g,0,#[],rfl,hg,h,ac5 _,ada _,rfl,rfl⟩⟩
def xV (h:w.ownsRow base e size (.slice g n cap) n xs):g<w/\n<=cap:=by
 obtain⟨h1,h2|⟨g',cap',cur,h2,h3,h4,h5⟩⟩:=h
 .exact absurd h2.1 aF
 .simp at h2;obtain⟨rfl,rfl⟩:=h2;exact⟨(ac7.1 h4).1,h5.1⟩
def pv (B o j:Nat):(⟨B,o,none⟩:Addr).add j=⟨B,o+j,none⟩:=by unfold Addr.add;split<;>simp_all
def jD {W:World}{blk:Nat}{T:TypeId}(h:W.heap[blk]?=some (.cells #[v] T (0,0))):∀(j:Nat) (u:Value),[v][j]?=some u->W.cell? ((blk:Addr).add j)=some u:=λj u hu=>by
 match j,hu with
 |0,hu=>rw[pv,cell_of_row _ _ _ _ _ _ h];simpa using hu
def sZ {Ab:Nat}(h:w.ownsRow base e size v n xs)(hb:Ab<=base):w.ownsRow Ab e size v n xs:=by
 obtain⟨h1,h2|⟨g,cap,cur,h2,h3,h4⟩⟩:=h
 .exact⟨h1,.inl h2⟩
 .exact⟨h1,.inr ⟨g,cap,cur,h2,ac8 hb h3,h4⟩⟩
def im (h:w.ownsRow base e size v n xs)(r:Nat)(hr:v.ownBlock=some r):base<=r:=by
 obtain⟨h1,h2|⟨g,cap,cur,h2,h3,h4⟩⟩:=h
 .rw[h2.1]at hr;cases hr
 .rw[h2]at hr;simp[Value.ownBlock]at hr;omega
def pW (h:w.ownsRow base e size v (n+1) xs):∃B c,v=.slice (some ⟨B,0,none⟩) (n+1) c:=by
 obtain⟨h1,h2|⟨g,cap,cur,h2,h3,h4⟩⟩:=h
 .omega
 .exact⟨g,cap,h2⟩
def eh {ops:Array Oper}{o:Oper}{a:Act}{K:Act->World->Prop}{Q:Exit->Act->World->Prop}{E:Prop}
  (hg:o.guard=none)(s x:Operand)(t:TypeId)(bz:o.op=Op.call {callee:=Callee.builtin Builtin.append,args:=#[s,x],argTypes:=#[t,t]})
  (e:TypeId)(i:TypeInfo)(z:Value)(size bytes:Nat)(h1:P.underlying t=some (.slice e))(h2:P.info? e=some i)(h3:i.zero=some z)(h4:i.size=size)(h5:i.bytes=bytes)(h6:z.cells.size=size)(h7:0<size)
  (base:Nat)(v:Value)(n:Nat)(Es:List Value)(hs:a.eval s=v)(bc:w.ownsRow base e size v n Es)
  (ad:Addr)(m c:Nat)(news:List Value)(hx:a.eval x=.slice (some ad) m c)(hn:news.length=m*size)(hc:∀j u,news[j]?=some u->w.cell? (ad.add j)=some u)(h1c:∀u∈news,u.oneCell'=true)
  (b1:n+m<=maxLen)(b2:(n+m)*bytes<=140737488355328)(hb:base<=w)
  (hK:∀v' w',w'.ownsRow base e size v' (n+m) (Es++news)->w.grownBy w' v.ownBlock->K (a.put o.dst v') w'):
  if Region.wanted o (yielded ops a.tmps)=true then Oper.wp P o a w K Q else E:=by
 have hw:Region.wanted o (yielded ops a.tmps)=true:=kV;rw[if_pos hw];let⟨v',w',d6,r1,r2,_⟩:=run_append_own (P:=P) w base t o.type e i z size bytes h1 h2 h3 h4 h5 h6 h7 v n Es bc ad m c news hn hc h1c b1 b2 hb;unfold Oper.wp;simp[execOp,bz,resolve,invoke,builtin,hs,hx,d6,Result.andThen];exact hK v' w' r1 r2
end
def XC:Nat->Int->ByteArray->ByteArray
 |0,_,out=>out
 |n+1,k,out=>if 0<k then XC n (k/10) (strOfNums [48+k%10]++out)else out
def ZF (k:Int):ByteArray:=if k<=0 then⟨#[109,48]⟩else⟨#[109]⟩++XC k.toNat k ⟨#[]⟩
