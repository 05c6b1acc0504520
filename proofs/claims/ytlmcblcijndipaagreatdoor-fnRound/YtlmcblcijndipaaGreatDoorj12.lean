import Derived.Test.YtlmcblcijndipaaGreatDoorj00
import Derived.Below
import Derived.Laws.AppendOwn
import Derived.Deep.RegionHeld3
import Derived.Deep.RegionLaw
import Derived.Deep.Slices
namespace Go.Proofs.YtlmcblcijndipaaGreatDoor
section
open RowKit
def bX (w:World)(b:Nat):Prop:=∃cs e,w.heap[b]?=some (.cells cs e (0,0))/\∀v∈cs,(∃x,v=.bool x)\/(∃k x,v=.int k x)\/∃s,v=.string s
def lE (v:Value):Prop:=(∃x,v=.bool x)\/(∃k x,v=.int k x)\/∃s,v=.string s
def tV (w:World)(v:Value):Prop:=∀B,v.ownBlock=some B->bX w B
theorem bX.same {w w':World}{b:Nat}(h:bX w b)(e:w'.heap[b]?=w.heap[b]?):bX w' b:=by obtain⟨cs,t,h1,h2⟩:=h;exact⟨cs,t,e.trans h1,h2⟩
theorem bX.lt {w:World}{b:Nat}(h:bX w b):b<w:=by obtain⟨cs,t,h1,h2⟩:=h;exact(acm.1 h1).1
theorem bX.set {w:World}{b j:Nat}{v:Value}(h:bX w b)(hv:lE v):bX (w.setCell ⟨b,j,none⟩ v) b:=by
 obtain⟨cs,t,h1,h2⟩:=h;refine⟨cs.setIfInBounds j v,t,heap_setCell_same _ _ j _ _ v h1,λu hu=>?_⟩;rcases Array.mem_or_eq_of_mem_setIfInBounds hu with h|h
 .exact h2 u h
 .rw[h];exact hv
theorem DM {z:Array Value}{n:Nat}{u:Value}(h:u∈Builtin.zeroCells z n):u∈z:=by
 unfold Builtin.zeroCells at h;obtain⟨i,hi,rfl⟩:=Array.mem_map.1 h;have hz:0<z.size:=by
  rcases acz z.size with h0|h0
  .rw[h0]at hi;simp at hi
  .exact h0
 have aI:=Nat.mod_lt i hz;rw[getElem!_pos z (i%z.size) aI];exact Array.getElem_mem aI
section
variable {P:Program}{w:World}
theorem qt (base:Nat)(t ty e:TypeId)(i:TypeInfo)(z:Value)(size bytes:Nat)(ht:P.underlying t=some (.slice e))(hi:P.info? e=some i)(hz:i.zero=some z)(GQ:i.size=size)(Y8:i.bytes=bytes)(hzs:z.cells.size=size)
  (v:Value)(n:Nat)(xs:List Value)(aU:w.ownsRow base e size v n xs)(qT:tV w v)
  (a:Addr)(m c:Nat)(news:List Value)(hl:news.length=m*size)(oU:∀j u,news[j]?=some u->w.cell? (a.add j)=some u)(h1:∀u∈news,u.oneCell'=true)(Qz:∀u∈news,lE u)(Zt:∀u∈z.cells,lE u)
  (YP:n+m<=maxLen)(vY:(n+m)*bytes<=140737488355328){v':Value}{w':World}(hr:(Builtin.append_ #[t,t] ty #[v,.slice (some a) m c]).run P w=.ok v' w'):tV w' v':=by
 subst GQ Y8;have aaz:n+m<=9223372036854775807:=by simp only[maxLen]at YP;omega
 have fresh:∀(cs:Array Value) (k l:Nat),(∀u∈cs,lE u)->tV (w.drew.alloc (.cells cs e)) (.slice w.heap.size k l):=λcs k l h B hB=>by
  simp only[Value.ownBlock,Option.some.injEq]at hB;subst hB;exact⟨cs,e,heap_alloc_new w.drew _,h⟩
 rcases aU.2 with⟨rfl,rfl⟩|⟨g,cap,cur,rfl,UD,hg,hnc,Wh,hcs,Xt⟩
 .by_cases hm:m=0
  .subst hm;have hn:news=[]:=List.eq_nil_of_length_eq_zero (by simpa using hl);subst hn;have eM:(Builtin.append_ #[t,t] ty #[(),.slice (some a) 0 c]).run P w=.ok () w:=by
    simp[Builtin.append_,run_underlying ht,sizeOf,typeInfo,hi,Builtin.lenOf,Builtin.firstCells,loadCells,loadCellsFrom]
   rw[eM]at hr;simp only[Result.ok.injEq]at hr;obtain⟨rfl,rfl⟩:=hr;exact λB hB=>by cases hB
  .rw[run_append_nil (P:=P) w t ty e i z ht hi hz a m c news hl oU ab ab (by have hb:=vY;simp only[Nat.zero_add]at hb;omega)]at hr;simp only[Result.ok.injEq]at hr;obtain⟨rfl,rfl⟩:=hr;refine fresh _ _ _ λu hu=>?_
   rcases Array.mem_append.1 hu with h|h
   .exact Qz u qg
   .exact Zt u (DM h)
 .obtain⟨g_,e0,k1,k2⟩:=qT g rfl;have SO:∀u∈cur,lE u:=by
   rw[hg]at k1;simp only[Option.some.injEq,Obj.cells.injEq]at k1;obtain⟨rfl,_⟩:=k1;exact k2
  by_cases QJ:n+m<=cap
  .have jQ:n*i.size+news.length<=cur.size:=by rw[hl,hcs,<-Nat.add_mul];exact Nat.mul_le_mul_right _ QJ
   rw[run_append_room (P:=P) w t ty e i ht hi g n cap cur hg a m c news hl oU h1 QJ jQ]at hr;simp only[Result.ok.injEq]at hr;obtain⟨rfl,rfl⟩:=hr;intro B hB;simp only[Value.ownBlock,Option.some.injEq]at hB;subst hB;refine⟨_,e,setRow_heap w g cur _ e _ hg,λu hu=>?_⟩;have hu:u∈cur.toList.take (n*i.size)++news++cur.toList.drop (n*i.size+news.length):=by simpa using hu
   rcases acN.1 hu with hu|hu
   .rcases acN.1 hu with hu|hu
    .exact SO u (by simpa using List.mem_of_mem_take hu)
    .exact Qz u hu
   .exact SO u (by simpa using List.mem_of_mem_drop hu)
  .have holds:∀j u,xs[j]?=some u->w.cell? ((g:Addr).add j)=some u:=aU.cells (g:=g) rfl;rw[run_append_grow (P:=P) w t ty e i z ht hi hz g n cap xs aU.1 holds a m c news hl oU ab ab (growslice_fits ab vY)]at hr;simp only[Result.ok.injEq]at hr;obtain⟨rfl,rfl⟩:=hr;refine fresh _ _ _ λu hu=>?_
   rcases Array.mem_append.1 hu with h|h
   .rcases Array.mem_append.1 h with h|h
    .have h:u∈xs:=by simpa using h
     rw[<-Xt]at h;exact SO u (by simpa using List.mem_of_mem_take h)
    .exact Qz u qg
   .exact Zt u (DM h)
end
end
section
open RowKit
variable {w:World}{base size g n cap:Nat}{e:TypeId}{xs:List Value}{v:Value}
theorem tD {w':World}(h:w.ownsRow base e size (.slice g n cap) n xs)(hb:Below w w w'):w'.ownsRow base e size (.slice g n cap) n xs:=by
 obtain⟨h1,h2|⟨g',cap',cur,h2,h3,h4,h5⟩⟩:=h
 .exact absurd h2.1 aH
 .exact⟨h1,.inr ⟨g',cap',cur,h2,h3,(hb.block g' (acm.1 h4).1).trans h4,h5⟩⟩
theorem mF (hg:base<=g)(h:w.heap[g]?=some (.cells #[] e (0,0))):w.ownsRow base e 1 (.slice g 0 0) 0 []:=
 ⟨rfl,.inr ⟨g,0,#[],rfl,hg,h,ack _,acp _,rfl,rfl⟩⟩
theorem wJ (h:w.ownsRow base e size (.slice g n cap) n xs):g<w/\n<=cap:=by
 obtain⟨h1,h2|⟨g',cap',cur,h2,h3,h4,h5⟩⟩:=h
 .exact absurd h2.1 aH
 .simp at h2;obtain⟨rfl,rfl⟩:=h2;exact⟨(acm.1 h4).1,h5.1⟩
theorem oG (B o j:Nat):(⟨B,o,none⟩:Addr).add j=⟨B,o+j,none⟩:=by unfold Addr.add;split<;>simp_all
theorem gj {W:World}{blk:Nat}{T:TypeId}(h:W.heap[blk]?=some (.cells #[v] T (0,0))):∀(j:Nat) (u:Value),[v][j]?=some u->W.cell? ((blk:Addr).add j)=some u:=λj u hu=>by
 match j,hu with
 |0,hu=>rw[oG,cell_of_row _ _ _ _ _ _ h];simpa using hu
theorem kR {tX:Nat}(h:w.ownsRow base e size v n xs)(hb:tX<=base):w.ownsRow tX e size v n xs:=by
 obtain⟨h1,h2|⟨g,cap,cur,h2,h3,h4⟩⟩:=h
 .exact⟨h1,.inl h2⟩
 .exact⟨h1,.inr ⟨g,cap,cur,h2,acn hb h3,h4⟩⟩
theorem gP (h:w.ownsRow base e size v n xs)(r:Nat)(hr:v.ownBlock=some r):base<=r:=by
 obtain⟨h1,h2|⟨g,cap,cur,h2,h3,h4⟩⟩:=h
 .rw[h2.1]at hr;cases hr
 .rw[h2]at hr;simp[Value.ownBlock]at hr;omega
theorem kS (h:w.ownsRow base e size v (n+1) xs):∃B c,v=.slice (some ⟨B,0,none⟩) (n+1) c:=by
 obtain⟨h1,h2|⟨g,cap,cur,h2,h3,h4⟩⟩:=h
 .omega
 .exact⟨g,cap,h2⟩
theorem dy {P:Program}{ops:Array Oper}{o:Oper}{a:Act}{w:World}{K:Act->World->Prop}{Q:Exit->Act->World->Prop}{E:Prop}
  (hg:o.guard=none)(s x:Operand)(t:TypeId)(bf:o.op=Op.call {callee:=Callee.builtin Builtin.append,args:=#[s,x],argTypes:=#[t,t]})
  (e:TypeId)(i:TypeInfo)(z:Value)(size bytes:Nat)(h1:P.underlying t=some (.slice e))(h2:P.info? e=some i)(h3:i.zero=some z)(h4:i.size=size)(h5:i.bytes=bytes)(h6:z.cells.size=size)(h7:0<size)
  (base:Nat)(v:Value)(n:Nat)(CQ:List Value)(hs:a.eval s=v)(aU:w.ownsRow base e size v n CQ)
  (ad:Addr)(m c:Nat)(news:List Value)(hx:a.eval x=.slice (some ad) m c)(hn:news.length=m*size)(hc:∀j u,news[j]?=some u->w.cell? (ad.add j)=some u)(v_:∀u∈news,u.oneCell'=true)
  (b1:n+m<=maxLen)(b2:(n+m)*bytes<=140737488355328)(hb:base<=w)
  (hK:∀v' w',w'.ownsRow base e size v' (n+m) (CQ++news)->w.grownBy w' v.ownBlock->K (a.put o.dst v') w'):
  if Region.wanted o (yielded ops a.tmps)=true then Oper.wp P o a w K Q else E:=by
 have hw:Region.wanted o (yielded ops a.tmps)=true:=kD;rw[if_pos hw];obtain⟨v',w',dW,r1,r2,_⟩:=run_append_own (P:=P) w base t o.type e i z size bytes h1 h2 h3 h4 h5 h6 h7 v n CQ aU ad m c news hn hc v_ b1 b2 hb;unfold Oper.wp;simp[execOp,bf,resolve,invoke,builtin,hs,hx,dW,Result.andThen];exact hK v' w' r1 r2
end
